import Derived.Test.YtokpimghaladjaaV23g1
import Derived.Test.YtokpimghaladjaaV23g2
import Derived.Test.YtokpimghaladjaaV23g3
import Derived.Test.YtokpimghaladjaaFrL
set_option linter.unusedSimpArgs false
set_option linter.unusedVariables false
namespace Go.Proofs.Ytokpimghaladjaa
open Go Go.RowKit
theorem law_set (n:Int)(ns:List Int)(x y:Int):KnownR Try.prog [] 7 [.val (.int .i64 n),.list (rowA gI ns) ns.length,.val (.int .i64 x),.val (.int .i64 y)] (.bool true) []:=by
 cases h:(xd_ x != xd_ y) with
 | true=>exact law_set1 n ns x y h
 | false =>
  cases h2:(xk_ n ns x != xk_ n ns y) with
  | true=>exact law_set2 n ns x y h h2
  | false=>exact law_set3 n ns x y h h2
def In64 (n:Int):Prop := -9223372036854775808≤n∧n≤9223372036854775807
theorem modeSet_true (n:Int)(A:Option Addr)(len cap:Nat)(ns:List Int)(x y:Int)(w:World)(_:In64 n)(hl:ns.length=len)(hi:ListIn w (rowA gI ns) len A cap)(hw:∀ m ∈ ns,rowW gI m)(_:In64 x)(_:In64 y):
  Calls Try.prog 7 #[.int .i64 n,.slice A len cap,.int .i64 x,.int .i64 y] w fun e w'=>e = .returned (.bool true)∧Below w.heap.size w w':=by
 subst hl
 exact knownR_law (law_set n ns x y) (LaidL.nil w) (.cons (.val rfl) (.cons (.list hi) (.cons (.val rfl) (.cons (.val rfl) .nil))))
end Go.Proofs.Ytokpimghaladjaa
