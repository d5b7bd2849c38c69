import Derived.Test.YtbhmgchkgbenmaaOgI
set_option linter.unnecessarySimpa false
set_option linter.unusedSimpArgs false
set_option linter.unusedVariables false
namespace Go.Proofs.Ytbhmgchkgbenmaa
open Go Go.RowKit
noncomputable def spC_c0 (xs : List Mv) (spA_z0 : List Int) (spA_z1 : Int)  : List Int := (spA_z0.reverse)
theorem spC_p0 (xs : List Mv) (spA_z0 : List Int) (spA_z1 : Int)  (hx : xs.length ≤ 10000) (hc : cAll xs = 0) (spA_k1 : (cAll xs != (0 : Int)) = false) (spA_l : ∀ B : Bd, B.L = [] → LoopOk Try.prog B (spA_hd xs).ro (spA_hd xs).a (spA_hd xs).s (spA_X 0) (spA_E 0 xs spA_z0 spA_z1 )) : KnownR Try.prog [] 25 [.list (rowA gM xs) xs.length] (.tuple #[(.complex .f64 0 ((spA_z0.reverse)).length), (.int .i64 ((0 : Int)))]) [(rowA gI ((spA_z0.reverse)), 3)] :=
 knownR_eq (v := Value.tuple { toList := [Value.complex FloatKind.f64 (nat_lit 0) spA_z0.length, Value.int IntKind.i64 (0 : Int)] }) (bs := [(rowA gI spA_z0.reverse, nat_lit 3)]) (open_resD mix (GOk.add tabP_ok spA_l) (T := (GTab.add tabP 7 (spA_hd xs).ro (spA_hd xs).a (spA_hd xs).s (spA_X 0) (spA_E 0 xs spA_z0 spA_z1 ) (by kernel_rfl))) (fuel := 3000) (es := [3]) (ans := [(0, .outs (Value.int IntKind.i64 (cAll xs)) ([])), (1, .b 0), (2, .loop (spA_X 0) (spA_E 0 xs spA_z0 spA_z1 )), ]) (log := [LoopRes Try.prog ([] : Vars).length (GTab.add tabP 7 (spA_hd xs).ro (spA_hd xs).a (spA_hd xs).s (spA_X 0) (spA_E 0 xs spA_z0 spA_z1 ) (by kernel_rfl)) (spA_hd xs).ro (spA_hd xs).a (spA_hd xs).s (spA_X 0) (spA_E 0 xs spA_z0 spA_z1 ), (cAll xs != (0 : Int)) = false, (GTab.lookD (tabP) ((43 : Nat)) ([D.list (rowA gM xs) xs.length])) = some (Value.int IntKind.i64 (cAll xs), [])]) (by kernel_rfl) ⟨loop_known, spA_k1, (caD_at (xs) (xs.length) (by first | rfl | assumption | omega | (simp; done) | (simp_all; done) | (simp_all; omega))), trivial⟩ (by kernel_rfl)) (by first | rfl | simp) (by first | rfl | simp [rowA_nil])
set_option maxHeartbeats 8000000 in
theorem spC (xs : List Mv) (spA_z0 : List Int) (spA_z1 : Int)  (hx : xs.length ≤ 10000) (hc : cAll xs = 0) (spA_k1 : (cAll xs != (0 : Int)) = false) (spA_l : ∀ B : Bd, B.L = [] → LoopOk Try.prog B (spA_hd xs).ro (spA_hd xs).a (spA_hd xs).s (spA_X 0) (spA_E 0 xs spA_z0 spA_z1 )) : KnownR Try.prog [] 25 [.list (rowA gM xs) xs.length] (.tuple #[(.complex .f64 0 ((spC_c0 xs spA_z0 spA_z1)).length), (.int .i64 ((0 : Int)))]) [(rowA gI ((spC_c0 xs spA_z0 spA_z1)), 3)] := by
 have e0 : spC_c0 xs spA_z0 spA_z1 = (spA_z0.reverse) := rfl; rw [e0]; exact spC_p0 xs spA_z0 spA_z1 hx hc spA_k1 spA_l
end Go.Proofs.Ytbhmgchkgbenmaa
