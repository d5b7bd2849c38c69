import Derived.Test.YtcjlidciniiofaaKit
import Derived.Handy
set_option linter.unusedVariables false
namespace Go.Proofs.Ytcjlidciniiofaa
open Go.RowKit
theorem keep_alloc {a w : World} (h : Below a.heap.size a w) (o : Obj) : Below a.heap.size a (w.alloc o) := h.alloc h.size o
theorem keep_step {a b w : World} {B : Nat} (k : Below B b w) (h : Below a.heap.size a b) (e : B = b.heap.size) : Below a.heap.size a w := h.trans (k.mono (by rw [e]; exact h.size))
theorem keep_drew {a w : World} (h : Below a.heap.size a w) : Below a.heap.size a w.drew := h.drew
theorem keep_drewN {a w : World} (h : Below a.heap.size a w) (n : Nat) : Below a.heap.size a (w.drewN n) := below_drewN h n
def In64 (n : Int) : Prop := -9223372036854775808 ≤ n ∧ n ≤ 9223372036854775807
end Go.Proofs.Ytcjlidciniiofaa
