/- Layer 13: DriveArrives' loop comes to its end. -/
import Derived.Test.YtkmooakeilkdiaaOgK1
import Derived.Test.YtkmooakeilkdiaaOgK2
namespace Go.Proofs.Ytkmooakeilkdiaa
open Go Go.RowKit
set_option linter.unusedVariables false
set_option linter.unusedSimpArgs false
theorem arA_go {a b n : Int} : ∀ (m : Nat) {p v q l : Int}, DOk p (mP b) v q l (mS n) (mK n) → Btw (mP a) (mP b) p → nN p (mP b) v q l (mS n) (mK n) = m → arA_f a b n (m + 1) (nN p (mP b) v q l (mS n) (mK n)) p v q l = some (0, (0, mP b, 0, 0, 0)) := by
  intro m
  induction m with
  | zero =>
    intro p v q l h hb hn
    obtain ⟨rfl, rfl, rfl, rfl⟩ := at_rest h hn
    rw [arA_fs, rest_n, okD_is.2 h]
    simp
  | succ m ih =>
    intro p v q l h hb hn
    have hq : q ≠ 0 := by rintro rfl; rw [rest_n] at hn; omega
    obtain ⟨t1, t2⟩ := tick_ok h hq
    obtain ⟨f1, f2, f3, f4, f5, f6, f7, f8⟩ := looks h hq hb
    have k := ih t1 (btw_next h hb) (by omega)
    rw [arA_fs, okD_is.2 h, okD_is.2 t1, okD_is.2 (wide t1), f1, f2, f3, f4, f5, f6, f7, f8, show decide (nN p (mP b) v q l (mS n) (mK n) > 0) = true from decide_eq_true (by omega)]
    simp only [Bool.or_true, Bool.and_true, cond_true]
    cases (!decide (q = 2)) <;> cases (tQ p (mP b) v q l (mS n) (mK n) == 2) <;> exact k
theorem arB_go {a b n : Int} : ∀ (m : Nat) {p v q l : Int}, DOk p (mP b) v q l (mS n) (mK n) → Btw (mP a) (mP b) p → nN p (mP b) v q l (mS n) (mK n) = m → arB_f a b n (m + 1) (nN p (mP b) v q l (mS n) (mK n)) p v q l = some (0, (0, mP b, 0, 0, 0)) := by
  intro m
  induction m with
  | zero =>
    intro p v q l h hb hn
    obtain ⟨rfl, rfl, rfl, rfl⟩ := at_rest h hn
    rw [arB_fs, rest_n, okD_is.2 h]
    simp
  | succ m ih =>
    intro p v q l h hb hn
    have hq : q ≠ 0 := by rintro rfl; rw [rest_n] at hn; omega
    obtain ⟨t1, t2⟩ := tick_ok h hq
    obtain ⟨f1, f2, f3, f4, f5, f6, f7, f8⟩ := looks h hq hb
    have k := ih t1 (btw_next h hb) (by omega)
    rw [arB_fs, okD_is.2 h, okD_is.2 t1, okD_is.2 (wide t1), f1, f2, f3, f4, f5, f6, f7, f8, show decide (nN p (mP b) v q l (mS n) (mK n) > 0) = true from decide_eq_true (by omega)]
    simp only [Bool.or_true, Bool.and_true, cond_true]
    cases (!decide (q = 2)) <;> cases (tQ p (mP b) v q l (mS n) (mK n) == 2) <;> exact k
end Go.Proofs.Ytkmooakeilkdiaa
