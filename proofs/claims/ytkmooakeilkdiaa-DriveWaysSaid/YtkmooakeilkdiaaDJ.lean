/- Layer 13: DriveWays, out of its contract. -/
import Derived.Test.YtkmooakeilkdiaaOgY
namespace Go.Proofs.Ytkmooakeilkdiaa
open Go Go.RowKit
set_option linter.unusedVariables false
def In64 (n : Int) : Prop := -9223372036854775808 ≤ n ∧ n ≤ 9223372036854775807
theorem goes_ok (a b n : Int) : DOk (frO a) (frO b) 0 (gQ (frO a) (frO b) (brO n)) (gL (frO a) (frO b) (brO n)) (spO n) (brO n) := by
  have h1 := fr_b a
  have h2 := fr_b b
  have h3 := sp_b n
  have h4 := br_b n
  unfold gQ gL
  refine ⟨by omega, by omega, by omega, by omega, by omega, by omega, by omega, by omega, by omega, by omega, by split <;> omega, by split <;> omega, ?_⟩
  by_cases c : frO b = frO a
  · rw [if_pos c, if_pos c]; exact .inl ⟨rfl, c.symm, rfl, rfl⟩
  · rw [if_neg c, if_neg c]
    by_cases d : brO n = 0
    · rw [if_pos d]; exact .inr (.inr (.inl ⟨rfl, fun e => c e.symm, d, .inl rfl⟩))
    · rw [if_neg d]; exact .inr (.inl ⟨rfl, fun e => c e.symm, rfl, by omega⟩)
/-- the drive that begins -/
noncomputable def x0 (a b n : Int) : X4 := (frO a, 0, gQ (frO a) (frO b) (brO n), gL (frO a) (frO b) (brO n))
theorem x0_ok (a b n : Int) : okX (frO b) (spO n) (brO n) (x0 a b n) := goes_ok a b n
theorem nG_of {n : Int} (h : 0 ≤ n ∧ n ≤ 200000) : nG n = true := by unfold nG; exact decide_eq_true h
theorem x0_mo (a b n : Int) : moX (frO b) (spO n) (brO n) (x0 a b n) = rD (spO n) (tD (frO a) (frO b)) ∧ nX (frO b) (spO n) (brO n) (x0 a b n) ≤ 1000 := by
  have h1 := fr_b a
  have h2 := fr_b b
  have h3 := sp_b n
  have h4 := br_b n
  have z : rT 0 = 0 := by decide
  have d : 0 ≤ tD (frO a) (frO b) ∧ tD (frO a) (frO b) ≤ 399 := by unfold tD; omega
  have r := rD_bound (L := spO n) (n := tD (frO a) (frO b)) h3.1 d.1
  unfold moX nX nN x0 gQ gL
  by_cases c : frO b = frO a
  · have t : tD (frO a) (frO b) = 0 := by unfold tD; omega
    rw [t] at r ⊢
    simp [c]
    omega
  · by_cases e : brO n = 0
    · simp [c, e, z]; omega
    · simp [c, e, z]; omega
theorem tkO_nn {a b s k : Int} (hs : 1 ≤ s) (hk : 0 ≤ k) : 0 ≤ tkO a b s k := by
  have d : 0 ≤ tD a b := by unfold tD; omega
  have r := rD_bound (L := s) (n := tD a b) hs d
  unfold tkO
  split <;> omega
theorem tkO_le {a b c s k : Int} (hs : 1 ≤ s) (hk : 0 ≤ k) (hb : a ≠ c) (h : tD a b ≤ tD a c) : tkO a b s k ≤ tkO a c s k := by
  have d : 0 ≤ tD a b := by unfold tD; omega
  have r := rD_bound (L := s) (n := tD a b) hs d
  have m := rD_mono (L := s) (a := tD a b) (b := tD a c) hs d h
  unfold tkO
  rw [if_neg hb]
  split <;> omega
attribute [local irreducible] dN mN
theorem ways_law (a b n : Int) : Known Try.prog [] 6 [.int .i64 a, .int .i64 b, .int .i64 n] (.bool true) := by
  have h1 := fr_b a
  have h2 := fr_b b
  have h3 := sp_b n
  have h4 := br_b n
  have hx := x0_ok a b n
  obtain ⟨mo, nx⟩ := x0_mo a b n
  obtain ⟨f1, f2⟩ := mN_mo (g := frO b) (s := spO n) (k := brO n) 1000 hx (by omega)
  have fin := dN_ok (g := frO b) (s := spO n) (k := brO n) 1000 hx
  have wu : IntKind.i64.wrap (frO b + 1) = frO b + 1 := w8 (by omega)
  have wd : IntKind.i64.wrap (frO b - 1) = frO b - 1 := w8 (by omega)
  have d : 0 ≤ tD (frO a) (frO b) ∧ tD (frO a) (frO b) ≤ 399 := by unfold tD; omega
  have hw : IntKind.i64.wrap ((if frO b > frO a then frO b else frO a) - if frO b < frO a then frO b else frO a) = tD (frO a) (frO b) := dist2 (p := frO a) (g := frO b) (by omega) (by omega)
  have rb := rD_bound (L := spO n) (n := tD (frO a) (frO b)) h3.1 d.1
  have rest : (dN (frO b) (spO n) (brO n) 1000 (x0 a b n)).1 = frO b ∧ (dN (frO b) (spO n) (brO n) 1000 (x0 a b n)).2.1 = 0 ∧ (dN (frO b) (spO n) (brO n) 1000 (x0 a b n)).2.2.2 = 0 := by
    obtain ⟨_, _, _, _, _, _, _, _, _, _, _, _, z | z | z | z⟩ := fin
    · exact ⟨z.2.1, z.2.2.1, z.2.2.2⟩
    · exact absurd (f2.symm.trans z.1) (by decide)
    · exact absurd (f2.symm.trans z.1) (by decide)
    · exact absurd (f2.symm.trans z.1) (by decide)
  have r1 : rP (frO b) (spO n) (brO n) 1000 (frO a) 0 (gQ (frO a) (frO b) (brO n)) (gL (frO a) (frO b) (brO n)) = frO b := by unfold rP; exact rest.1
  have r2 : rV (frO b) (spO n) (brO n) 1000 (frO a) 0 (gQ (frO a) (frO b) (brO n)) (gL (frO a) (frO b) (brO n)) = 0 := by unfold rV; exact rest.2.1
  have r3 : rQ (frO b) (spO n) (brO n) 1000 (frO a) 0 (gQ (frO a) (frO b) (brO n)) (gL (frO a) (frO b) (brO n)) = 0 := by unfold rQ; exact f2
  have r4 : rL (frO b) (spO n) (brO n) 1000 (frO a) 0 (gQ (frO a) (frO b) (brO n)) (gL (frO a) (frO b) (brO n)) = 0 := by unfold rL; exact rest.2.2
  have r5 : rM (frO b) (spO n) (brO n) 1000 (frO a) 0 (gQ (frO a) (frO b) (brO n)) (gL (frO a) (frO b) (brO n)) = rD (spO n) (tD (frO a) (frO b)) := by unfold rM; exact f1.trans mo
  have k := wys a b n (by unfold tkG; exact decide_eq_true (by omega)) (by unfold tkG; exact decide_eq_true (by omega)) (by unfold tkG; rw [wu]; exact decide_eq_true (by omega)) (by unfold tkG; rw [wd]; exact decide_eq_true (by split <;> omega)) (by unfold trG; rw [hw]; exact decide_eq_true (by omega)) (by unfold atG; exact decide_eq_true (by omega)) (by unfold goG; exact decide_eq_true (by omega)) ((Bool.and_eq_true _ _).mpr ⟨sG_iff.2 hx, rfl⟩)
    (by
      have : tkO (frO a) (frO b) (spO n) (brO n) = tkO (frO b) (frO a) (spO n) (brO n) := by
        unfold tkO
        rw [tD_sym (frO a) (frO b)]
        by_cases c : frO a = frO b
        · rw [if_pos c, if_pos c.symm]
        · rw [if_neg c, if_neg (fun e => c e.symm)]
      rw [this]; simp)
    (by rw [r5, hw]; unfold trO; simp)
    (by rw [r1, r2, r3, r4]; simp)
  have e : wys_c0 a b n = true := by
    unfold wys_c0
    rw [hw, wu, wd, w8 (v := 2 * brO n) (by omega), w8 (v := trO (tD (frO a) (frO b)) (spO n) + 2 * brO n) (by unfold trO; omega)]
    by_cases c : frO a = frO b
    · have t : tD (frO a) (frO b) = 0 := by unfold tD; omega
      rw [t]
      show (tkO (frO a) (frO b) (spO n) (brO n) == 0) = true
      unfold tkO
      rw [if_pos c]; rfl
    · have t : (tD (frO a) (frO b) == 0) = false := by
        have : tD (frO a) (frO b) ≠ 0 := by unfold tD; omega
        simpa using this
      rw [t, cond_false]
      have eq : (tkO (frO a) (frO b) (spO n) (brO n) == trO (tD (frO a) (frO b)) (spO n) + 2 * brO n) = true := by
        unfold tkO trO; rw [if_neg c]; exact beq_self_eq_true _
      rw [eq]
      by_cases g : frO b > frO a
      · have u1 := tkO_le (a := frO a) (b := frO b) (c := frO b + 1) (s := spO n) (k := brO n) h3.1 h4.1 (by omega) (by unfold tD; omega)
        have u2 := tkO_le (a := frO a) (b := (if frO b - 1 > 0 then frO b - 1 else 0)) (c := frO b) (s := spO n) (k := brO n) h3.1 h4.1 c (by unfold tD; omega)
        rw [decide_eq_true g, cond_true, decide_eq_false (by omega), cond_false, decide_eq_false (by omega), cond_false, decide_eq_false (by omega), cond_false]
      · have u3 := tkO_le (a := frO a) (b := frO b + 1) (c := frO b) (s := spO n) (k := brO n) h3.1 h4.1 c (by unfold tD; omega)
        rw [decide_eq_false g, cond_false, decide_eq_true (by omega), cond_true, decide_eq_false (by omega), cond_false]
  rw [e] at k
  exact k
theorem driveWays_true (a b n : Int) (w : World) (_ : In64 a) (_ : In64 b) (_ : In64 n) :
    Calls Try.prog 6 #[.int .i64 a, .int .i64 b, .int .i64 n] w fun e w' => e = .returned (.bool true) ∧ Below w.heap.size w w' :=
  (ways_law a b n).2.2 w (LaidL.nil w)
end Go.Proofs.Ytkmooakeilkdiaa
