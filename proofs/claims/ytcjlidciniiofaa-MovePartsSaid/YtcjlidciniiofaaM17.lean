import Derived.Test.YtcjlidciniiofaaOgM
set_option linter.unusedSimpArgs false
set_option linter.unusedVariables false
namespace Go.Proofs.Ytcjlidciniiofaa
open Go Go.RowKit
noncomputable def ttV (gs : List Int) (s k : Int) : Int := rD s (htV gs) + 2 * k
noncomputable def okT (gs : List Int) (s k : Int) : Bool := by classical exact decide (gs.length ≤ 70 ∧ ckE gs = 0 ∧ (1 ≤ s ∧ s ≤ 20) ∧ 0 ≤ k ∧ k ≤ 5)
theorem okT_is {gs : List Int} {s k : Int} : okT gs s k = true ↔ (gs.length ≤ 70 ∧ ckE gs = 0 ∧ (1 ≤ s ∧ s ≤ 20) ∧ 0 ≤ k ∧ k ≤ 5) := by unfold okT; simp
theorem tk_is {gs : List Int} {s k : Int} (h : okT gs s k = true) : KnownR Try.prog [] 8 [.list (rowA gI gs) gs.length, .val (.int .i64 s), .val (.int .i64 k)] (.tuple #[.int .i64 (ttV gs s k), .int .i64 0]) [] := by
 obtain ⟨h1, h2, h3, h4⟩ := okT_is.1 h
 have hr := ht_range gs
 have r := mvT gs s k h1 h2 hr h3 h4
 have b := rD_bound (L := s) (n := htV gs) h3.1 hr.1
 have e : mvT_c0 gs s k = ttV gs s k := by unfold mvT_c0 ttV; rw [w8 (v := 2 * k) (by omega), w8 (by omega)]
 rw [e] at r
 exact r
noncomputable def okA (p : Int) : Bool := decide (0 ≤ p ∧ p ≤ 63000)
theorem okA_is {p : Int} : okA p = true ↔ (0 ≤ p ∧ p ≤ 63000) := by unfold okA; simp
theorem at_is {p : Int} (h : okA p = true) : Known Try.prog [] 12 [.int .i64 p] (.agg #[.int .i64 p, .int .i64 p, .int .i64 0, .int .i64 0, .int .i64 0]) := atL p (okA_is.1 h)
noncomputable def okB (p g t s k : Int) : Bool := by classical exact decide ((0 ≤ p ∧ p ≤ 63000) ∧ (0 ≤ g ∧ g ≤ 63000) ∧ (1 ≤ s ∧ s ≤ 20) ∧ (0 ≤ k ∧ k ≤ 5) ∧ t ≤ 200000 ∧ rD s (tD p g) + 2 * k ≤ t)
theorem okB_is {p g t s k : Int} : okB p g t s k = true ↔ ((0 ≤ p ∧ p ≤ 63000) ∧ (0 ≤ g ∧ g ≤ 63000) ∧ (1 ≤ s ∧ s ≤ 20) ∧ (0 ≤ k ∧ k ≤ 5) ∧ t ≤ 200000 ∧ rD s (tD p g) + 2 * k ≤ t) := by unfold okB; simp
theorem bg_is {p g t s k : Int} (h : okB p g t s k = true) : Known Try.prog [] 11 [.agg #[.int .i64 p, .int .i64 p, .int .i64 0, .int .i64 0, .int .i64 0], .int .i64 g, .int .i64 t, .int .i64 s, .int .i64 k] (.tuple #[.agg #[.int .i64 p, .int .i64 g, .int .i64 0, .int .i64 (gqV p g k), .int .i64 (glV p g k), .int .i64 t, .int .i64 0], .int .i64 0]) := by
 obtain ⟨h1, h2, h3, h4, h5, h6⟩ := okB_is.1 h
 obtain ⟨k1, k2, k3⟩ := go_ok h1 h2 h3 h4
 have n0 := (nN_bounds k1).1
 have w0 : DOk p p 0 0 0 20 5 := ⟨h1.1, h1.2, h1.1, h1.2, by omega, by omega, by omega, by omega, by omega, by omega, by omega, by omega, .inl ⟨rfl, rfl, rfl, rfl⟩⟩
 exact bgL p g t s k (okD_is.2 w0) (okD_is.2 k1) ⟨h1.1, h1.2, h2.1, h2.2⟩ h3 h4 ⟨by omega, h5⟩ ⟨n0, by omega⟩
theorem bg_ok {p g t s k : Int} (h : okB p g t s k = true) : okP p g 0 (gqV p g k) (glV p g k) t 0 s k = true := by
 obtain ⟨h1, h2, h3, h4, h5, h6⟩ := okB_is.1 h
 obtain ⟨k1, k2, k3⟩ := go_ok h1 h2 h3 h4
 have n0 := (nN_bounds k1).1
 exact okP_is.2 ⟨k1, by omega, by omega, h5, by omega⟩
end Go.Proofs.Ytcjlidciniiofaa
