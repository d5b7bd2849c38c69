/- Layer 33: WordMakes: Parse as a contract. -/
import Derived.Test.YtfpabkpmcmfbhaaUM33
namespace Go.Proofs.Ytfpabkpmcmfbhaa
open Go Go.RowKit
set_option linter.unusedVariables false
set_option linter.unusedSimpArgs false
/-- the word of a text, its length, the error -/
noncomputable def psR (s : ByteArray) : Int × Int × Int := if 1 ≤ s.size ∧ s.size ≤ 8 then (match psF s s.size 0 0 with | some v => (v, (s.size : Int), 0) | none => (0, 0, 3)) else (0, 0, 3)
theorem parse_is (s : ByteArray) : Known Try.prog [] 20 [.string s] (.tuple #[.int .i64 (psR s).1, .int .i64 (psR s).2.1, .int .i64 (psR s).2.2]) := by
  by_cases hs : 1 ≤ s.size ∧ s.size ≤ 8
  · obtain ⟨k, z, y, h1, h2⟩ := ppA_go (s := s) hs.2 s.size 0 0 (by omega) (by omega) (by simp)
    have hl := ppA_ok s hs _ _ _ h1
    dsimp only at hl
    unfold psR
    rw [if_pos hs]
    cases hm : psF s s.size 0 0 with
    | none =>
      rw [hm] at h2
      obtain ⟨rfl, rfl⟩ : k = 0 ∧ z = 0 := h2
      exact pp0 s _ y hs (decide_eq_true (by omega)) (notT (by omega)) hl
    | some v =>
      rw [hm] at h2
      obtain ⟨rfl, rfl⟩ : k = 1 ∧ z = v := h2
      exact pp1 s _ y hs (decide_eq_true (by omega)) (notT (by omega)) hl
  · unfold psR
    rw [if_neg hs]
    exact ppE s hs
theorem rarse_is (s : ByteArray) : Known Try.prog [] 21 [.string s] (.tuple #[.int .i64 (psR s).1, .int .i64 (psR s).2.1, .int .i64 (psR s).2.2]) := by
  by_cases hs : 1 ≤ s.size ∧ s.size ≤ 8
  · obtain ⟨k, z, y, h1, h2⟩ := rpA_go (s := s) hs.2 s.size 0 0 (by omega) (by omega) (by simp)
    have hl := rpA_ok s hs _ _ _ h1
    dsimp only at hl
    unfold psR
    rw [if_pos hs]
    cases hm : psF s s.size 0 0 with
    | none =>
      rw [hm] at h2
      obtain rfl : k = 0 := h2
      exact rp0 s _ y hs (decide_eq_false (by omega)) (decide_eq_false (by omega)) hl
    | some v =>
      rw [hm] at h2
      obtain ⟨rfl, rfl⟩ : k = 1 ∧ z = v := h2
      exact rp1 s _ y hs (decide_eq_false (by omega)) (decide_eq_false (by omega)) hl
  · unfold psR
    rw [if_neg hs]
    exact rpE s hs
end Go.Proofs.Ytfpabkpmcmfbhaa
