import Derived.Test.YtbhmgchkgbenmaaOgI
set_option linter.unnecessarySimpa false
set_option linter.unusedSimpArgs false
set_option linter.unusedVariables false
namespace Go.Proofs.Ytbhmgchkgbenmaa
open Go Go.RowKit
theorem smF_p0 (xs ys : List Mv) (smA_z0 : Int)  (hx : xs.length ≤ 20000) (hy : xs.length = ys.length) (smA_k0 : ((↑xs.length : Int) != (↑ys.length : Int)) = false) (smA_l : ∀ B : Bd, B.L = [] → LoopOk Try.prog B (smA_hd xs ys).ro (smA_hd xs ys).a (smA_hd xs ys).s (smA_X 1) (smA_E 1 xs ys smA_z0 )) : KnownR Try.prog [] 18 [.list (rowA gM xs) xs.length, .list (rowA gM ys) ys.length] (.bool (true)) [] :=
 knownR_eq (v := Value.bool true) (bs := []) (open_resD mix (GOk.add GOk.none smA_l) (T := (GTab.add GTab.none 5 (smA_hd xs ys).ro (smA_hd xs ys).a (smA_hd xs ys).s (smA_X 1) (smA_E 1 xs ys smA_z0 ) (by kernel_rfl))) (fuel := 3000) (es := []) (ans := [(0, .b 0), (1, .loop (smA_X 1) (smA_E 1 xs ys smA_z0 )), ]) (log := [LoopRes Try.prog ([] : Vars).length (GTab.add GTab.none 5 (smA_hd xs ys).ro (smA_hd xs ys).a (smA_hd xs ys).s (smA_X 1) (smA_E 1 xs ys smA_z0 ) (by kernel_rfl)) (smA_hd xs ys).ro (smA_hd xs ys).a (smA_hd xs ys).s (smA_X 1) (smA_E 1 xs ys smA_z0 ), ((↑xs.length : Int) != (↑ys.length : Int)) = false]) (by kernel_rfl) ⟨loop_known, smA_k0, trivial⟩ (by kernel_rfl)) (by first | rfl | simp) (by first | rfl | simp [rowA_nil])
set_option maxHeartbeats 8000000 in
theorem smF (xs ys : List Mv) (smA_z0 : Int)  (hx : xs.length ≤ 20000) (hy : xs.length = ys.length) (smA_k0 : ((↑xs.length : Int) != (↑ys.length : Int)) = false) (smA_l : ∀ B : Bd, B.L = [] → LoopOk Try.prog B (smA_hd xs ys).ro (smA_hd xs ys).a (smA_hd xs ys).s (smA_X 1) (smA_E 1 xs ys smA_z0 )) : KnownR Try.prog [] 18 [.list (rowA gM xs) xs.length, .list (rowA gM ys) ys.length] (.bool (true)) [] := by
 exact smF_p0 xs ys smA_z0 hx hy smA_k0 smA_l
end Go.Proofs.Ytbhmgchkgbenmaa
