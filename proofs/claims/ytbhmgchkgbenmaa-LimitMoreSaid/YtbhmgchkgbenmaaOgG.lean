import Derived.Test.YtbhmgchkgbenmaaOgE
import Derived.Test.YtbhmgchkgbenmaaOgF
set_option linter.unnecessarySimpa false
set_option linter.unusedSimpArgs false
set_option linter.unusedVariables false
namespace Go.Proofs.Ytbhmgchkgbenmaa
open Go Go.RowKit
noncomputable def caE_c0 (xs : List Mv) (caA_z0 : Int)  : Int := (pChk_c0 (el xs caA_z0).fst (el xs caA_z0).snd.fst (el xs caA_z0).snd.snd.fst (el xs caA_z0).snd.snd.snd.fst (el xs caA_z0).snd.snd.snd.snd)
theorem caE_p0 (xs : List Mv) (caA_z0 : Int)  (hx : xs.length ≤ 10000) (caA_k0 : (decide ((↑xs.length : Int) > (10000 : Int))) = false) (caA_l : ∀ B : Bd, B.L = [] → LoopOk Try.prog B (caA_hd xs).ro (caA_hd xs).a (caA_hd xs).s (caA_X 0) (caA_E 0 xs caA_z0 )) : KnownR Try.prog [] 43 [.list (rowA gM xs) xs.length] (.int .i64 (pChk_c0 (el xs caA_z0).fst (el xs caA_z0).snd.fst (el xs caA_z0).snd.snd.fst (el xs caA_z0).snd.snd.snd.fst (el xs caA_z0).snd.snd.snd.snd)) [] :=
 knownR_eq (v := Value.int IntKind.i64 (pChk_c0 (el xs caA_z0).fst (el xs caA_z0).snd.fst (el xs caA_z0).snd.snd.fst (el xs caA_z0).snd.snd.snd.fst (el xs caA_z0).snd.snd.snd.snd)) (bs := []) (open_resD mix (GOk.add tabK_ok caA_l) (T := (GTab.add tabK 5 (caA_hd xs).ro (caA_hd xs).a (caA_hd xs).s (caA_X 0) (caA_E 0 xs caA_z0 ) (by kernel_rfl))) (fuel := 3000) (es := []) (ans := [(0, .b 0), (1, .loop (caA_X 0) (caA_E 0 xs caA_z0 )), ]) (log := [LoopRes Try.prog ([] : Vars).length (GTab.add tabK 5 (caA_hd xs).ro (caA_hd xs).a (caA_hd xs).s (caA_X 0) (caA_E 0 xs caA_z0 ) (by kernel_rfl)) (caA_hd xs).ro (caA_hd xs).a (caA_hd xs).s (caA_X 0) (caA_E 0 xs caA_z0 ), (decide ((↑xs.length : Int) > (10000 : Int))) = false]) (by kernel_rfl) ⟨loop_known, caA_k0, trivial⟩ (by kernel_rfl)) (by first | rfl | simp) (by first | rfl | simp [rowA_nil])
set_option maxHeartbeats 8000000 in
theorem caE (xs : List Mv) (caA_z0 : Int)  (hx : xs.length ≤ 10000) (caA_k0 : (decide ((↑xs.length : Int) > (10000 : Int))) = false) (caA_l : ∀ B : Bd, B.L = [] → LoopOk Try.prog B (caA_hd xs).ro (caA_hd xs).a (caA_hd xs).s (caA_X 0) (caA_E 0 xs caA_z0 )) : KnownR Try.prog [] 43 [.list (rowA gM xs) xs.length] (.int .i64 (caE_c0 xs caA_z0)) [] := by
 have e0 : caE_c0 xs caA_z0 = (pChk_c0 (el xs caA_z0).fst (el xs caA_z0).snd.fst (el xs caA_z0).snd.snd.fst (el xs caA_z0).snd.snd.snd.fst (el xs caA_z0).snd.snd.snd.snd) := rfl; rw [e0]; exact caE_p0 xs caA_z0 hx caA_k0 caA_l
theorem caF_p0 (xs : List Mv) (caA_z0 : Int)  (hx : xs.length ≤ 10000) (caA_k0 : (decide ((↑xs.length : Int) > (10000 : Int))) = false) (caA_l : ∀ B : Bd, B.L = [] → LoopOk Try.prog B (caA_hd xs).ro (caA_hd xs).a (caA_hd xs).s (caA_X 1) (caA_E 1 xs caA_z0 )) : KnownR Try.prog [] 43 [.list (rowA gM xs) xs.length] (.int .i64 ((0 : Int))) [] :=
 knownR_eq (v := Value.int IntKind.i64 (0 : Int)) (bs := []) (open_resD mix (GOk.add tabK_ok caA_l) (T := (GTab.add tabK 5 (caA_hd xs).ro (caA_hd xs).a (caA_hd xs).s (caA_X 1) (caA_E 1 xs caA_z0 ) (by kernel_rfl))) (fuel := 3000) (es := []) (ans := [(0, .b 0), (1, .loop (caA_X 1) (caA_E 1 xs caA_z0 )), ]) (log := [LoopRes Try.prog ([] : Vars).length (GTab.add tabK 5 (caA_hd xs).ro (caA_hd xs).a (caA_hd xs).s (caA_X 1) (caA_E 1 xs caA_z0 ) (by kernel_rfl)) (caA_hd xs).ro (caA_hd xs).a (caA_hd xs).s (caA_X 1) (caA_E 1 xs caA_z0 ), (decide ((↑xs.length : Int) > (10000 : Int))) = false]) (by kernel_rfl) ⟨loop_known, caA_k0, trivial⟩ (by kernel_rfl)) (by first | rfl | simp) (by first | rfl | simp [rowA_nil])
set_option maxHeartbeats 8000000 in
theorem caF (xs : List Mv) (caA_z0 : Int)  (hx : xs.length ≤ 10000) (caA_k0 : (decide ((↑xs.length : Int) > (10000 : Int))) = false) (caA_l : ∀ B : Bd, B.L = [] → LoopOk Try.prog B (caA_hd xs).ro (caA_hd xs).a (caA_hd xs).s (caA_X 1) (caA_E 1 xs caA_z0 )) : KnownR Try.prog [] 43 [.list (rowA gM xs) xs.length] (.int .i64 ((0 : Int))) [] := by
 exact caF_p0 xs caA_z0 hx caA_k0 caA_l
theorem caL_p0 (xs : List Mv) (hx : 10000 < xs.length) (hq0 : (decide ((↑xs.length : Int) > (10000 : Int))) = true) : KnownR Try.prog [] 43 [.list (rowA gM xs) xs.length] (.int .i64 ((4 : Int))) [] :=
 knownR_eq (v := Value.int IntKind.i64 (4 : Int)) (bs := []) (open_resD mix tabK_ok (T := tabK) (fuel := 3000) (es := []) (ans := [(0, .b 1)]) (log := [(decide ((↑xs.length : Int) > (10000 : Int))) = true]) (by kernel_rfl) ⟨hq0, trivial⟩ (by kernel_rfl)) (by first | rfl | simp) (by first | rfl | simp [rowA_nil])
set_option maxHeartbeats 8000000 in
theorem caL (xs : List Mv) (hx : 10000 < xs.length) : KnownR Try.prog [] 43 [.list (rowA gM xs) xs.length] (.int .i64 ((4 : Int))) [] := by
 have hq0 : (decide ((↑xs.length : Int) > (10000 : Int))) = true := by
  rcases Bool.eq_false_or_eq_true (decide ((↑xs.length : Int) > (10000 : Int))) with h | h
  ·exact h
  ·exfalso; (first | (simp_all only [Bool.and_eq_true, Bool.not_eq_true', Bool.false_eq_true, Bool.true_eq_false, reduceCtorEq]; done) | (simp_all; done) | (simp only [sx, sy, eq_self, ne_eq, IntKind.wrap_i64, wrapU64, Int.reduceLT] at * <;> first | contradiction | omega))
 exact caL_p0 xs hx hq0
end Go.Proofs.Ytbhmgchkgbenmaa
