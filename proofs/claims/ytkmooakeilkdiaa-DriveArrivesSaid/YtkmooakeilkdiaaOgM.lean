/- Layer 13: DriveArrives, the law. -/
import Derived.Test.YtkmooakeilkdiaaOgLa
import Derived.Test.YtkmooakeilkdiaaOgLb
import Derived.Test.YtkmooakeilkdiaaOgLe
namespace Go.Proofs.Ytkmooakeilkdiaa
open Go Go.RowKit
set_option linter.unusedVariables false
set_option linter.unusedSimpArgs false
set_option linter.unnecessarySimpa false
theorem mP_in (a : Int) : 0 ≤ mP a ∧ mP a ≤ 399 := by unfold mP; omega
theorem mS_in (n : Int) : 1 ≤ mS n ∧ mS n ≤ 20 := by unfold mS; omega
theorem mK_in (n : Int) : 0 ≤ mK n ∧ mK n ≤ 5 := by unfold mK; omega
theorem w_up : IntKind.i64.wrap ((0 : Int) + 1) = 1 := by decide
theorem w_dn : IntKind.i64.wrap ((0 : Int) - 1) = -1 := by decide
theorem rest_ok {p s k : Int} (hp : 0 ≤ p ∧ p ≤ 399) (hs : 1 ≤ s ∧ s ≤ 20) (hk : 0 ≤ k ∧ k ≤ 5) : DOk p p 0 0 0 s k := ⟨hp.1, by omega, hp.1, by omega, by omega, by omega, hs.1, hs.2, hk.1, hk.2, by omega, by omega, .inl ⟨rfl, rfl, rfl, rfl⟩⟩
theorem lawArrives (a b n : Int) : Known Try.prog [] 5 [.int .i64 a, .int .i64 b, .int .i64 n] (.bool true) := by
  have pa := mP_in a
  have pb := mP_in b
  have ps := mS_in n
  have pk := mK_in n
  have r0 : DOk (mP a) (mP a) 0 0 0 (mS n) (mK n) := rest_ok pa ps pk
  have h4 : okD (mP a) (mP a) 0 0 0 20 5 = true := okD_is.2 (wide r0)
  have hb : 0 ≤ mP a ∧ mP a ≤ 399 ∧ 0 ≤ mP b ∧ mP b ≤ 399 ∧ 1 ≤ mS n ∧ mS n ≤ 20 := ⟨pa.1, pa.2, pb.1, pb.2, ps.1, ps.2⟩
  have k2 : decide (mP a ≥ (0 : Int)) = true := decide_eq_true (by omega)
  have k5 : (!decide (mP a ≤ (63000 : Int))) = false := by rw [decide_eq_true (by omega)]; rfl
  have k8 : decide (mP b ≥ (0 : Int)) = true := decide_eq_true (by omega)
  have k11 : (!decide (mP b ≤ (63000 : Int))) = false := by rw [decide_eq_true (by omega)]; rfl
  have k13 : decide (mK n ≥ (0 : Int)) = true := decide_eq_true (by omega)
  have k18 : (!decide (mK n ≤ (5 : Int))) = false := by rw [decide_eq_true (by omega)]; rfl
  by_cases h1 : mP a = mP b
  · have h6 : okD (mP a) (mP b) 0 0 0 (mS n) (mK n) = true := by rw [← h1]; exact okD_is.2 r0
    have k := drE a b n h1 pk hb rest_n rest_n h4 (okD_is.2 r0) h6
    rw [show drE_c0 a b n = true by unfold drE_c0; simp [h1]] at k
    exact k
  · have k20 : (mP b == mP a) = false := by
      rw [bq]; exact decide_eq_false (fun e => h1 e.symm)
    by_cases h2 : mK n = 0
    · obtain ⟨s1, s2, s3, s4⟩ := start (q := 2) (l := mK n) pa pb ps pk h1 (.inr ⟨rfl, h2, h2⟩)
      obtain ⟨t1, t2⟩ := tick_ok s1 (by omega)
      obtain ⟨f1, f2, f3, f4, f5, f6, f7, f8⟩ := looks s1 (by omega) s4
      rw [w_up] at f6
      rw [w_dn] at f7
      have h7 := okD_is.2 (wide t1)
      have go := arB_go (a := a) (b := b) (n := n) (nN (mP a) (mP b) 0 2 (mK n) (mS n) (mK n)).toNat s1 s4 (by omega)
      have k := drB a b n 0 (mP b) 0 0 0 h1 h2 hb ⟨by omega, s3⟩ f1 f2 f3 f5 f6 f7 f8 h4 (okD_is.2 s1) (okD_is.2 t1) h7 k2 k5 h4 k8 k11 k13 k18 k20 (by rw [bq]; exact decide_eq_true h2) (okD_is.2 s1) (decide_eq_false (by omega)) (decide_eq_false (by omega))
        (arB_ok a b n h1 h2 hb ⟨by omega, s3⟩ f1 f2 f3 f5 f6 f7 f8 h4 (okD_is.2 s1) (okD_is.2 t1) h7 _ 0 (0, mP b, 0, 0, 0) go)
      rw [show drB_c0 a b n 0 (mP b) 0 0 0 = true by unfold drB_c0; simp] at k
      exact k
    · have h2' : 0 < mK n ∧ mK n ≤ 5 := by omega
      obtain ⟨s1, s2, s3, s4⟩ := start (q := 1) (l := mK n) pa pb ps pk h1 (.inl ⟨rfl, h2'.1, rfl⟩)
      obtain ⟨t1, t2⟩ := tick_ok s1 (by omega)
      obtain ⟨f1, f2, f3, f4, f5, f6, f7, f8⟩ := looks s1 (by omega) s4
      rw [w_up] at f6
      rw [w_dn] at f7
      rw [show decide ((1 : Int) = 2) = false from rfl, Bool.false_or] at f4
      have h7 := okD_is.2 (wide t1)
      have go := arA_go (a := a) (b := b) (n := n) (nN (mP a) (mP b) 0 1 (mK n) (mS n) (mK n)).toNat s1 s4 (by omega)
      have k := drA a b n 0 (mP b) 0 0 0 h1 h2' hb ⟨by omega, s3⟩ f1 f2 f3 f4 f5 f6 f7 f8 h4 (okD_is.2 s1) (okD_is.2 t1) h7 k2 k5 h4 k8 k11 k13 k18 k20 (by rw [bq]; exact decide_eq_false h2) (okD_is.2 s1) (decide_eq_false (by omega)) (decide_eq_false (by omega))
        (arA_ok a b n h1 h2' hb ⟨by omega, s3⟩ f1 f2 f3 f4 f5 f6 f7 f8 h4 (okD_is.2 s1) (okD_is.2 t1) h7 _ 0 (0, mP b, 0, 0, 0) go)
      rw [show drA_c0 a b n 0 (mP b) 0 0 0 = true by unfold drA_c0; simp] at k
      exact k
def In64 (n : Int) : Prop := -9223372036854775808 ≤ n ∧ n ≤ 9223372036854775807
theorem driveArrives_true (a b n : Int) (w : World) (_ : In64 a) (_ : In64 b) (_ : In64 n) : Calls Try.prog 5 #[.int .i64 a, .int .i64 b, .int .i64 n] w fun e w' => e = .returned (.bool true) ∧ Below w.heap.size w w' :=
  (lawArrives a b n).2.2 w (LaidL.nil w)
end Go.Proofs.Ytkmooakeilkdiaa
