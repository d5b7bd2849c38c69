/- Layer 33: a slot in two parts. -/
import Derived.Test.YtfpabkpmcmfbhaaZD
namespace Go.Proofs.Ytfpabkpmcmfbhaa
open Go Go.RowKit
set_option linter.unusedVariables false
theorem step_len (x : En) (s : List Int × List Bool) : (stepE x s).1.length = s.1.length ∧ (stepE x s).2.length = s.2.length := by
  unfold stepE
  split
  · split
    · exact ⟨List.length_set, rfl⟩
    · split
      · exact ⟨rfl, List.length_set⟩
      · exact ⟨rfl, rfl⟩
  · exact ⟨rfl, rfl⟩
/-- all entries, from some loads and faults on -/
def runE (es : List En) (s : List Int × List Bool) : List Int × List Bool := es.foldl (fun s x => stepE x s) s
theorem run_len : ∀ (es : List En) (s : List Int × List Bool), (runE es s).1.length = s.1.length ∧ (runE es s).2.length = s.2.length
  | [], s => ⟨rfl, rfl⟩
  | x :: r, s => by
    have h := run_len r (stepE x s)
    have h2 := step_len x s
    exact ⟨h.1.trans h2.1, h.2.trans h2.2⟩
theorem en_cons {n : Int} {x : En} {r : List En} {p : Int} (h : enS n (x :: r) p = 0) : 0 ≤ x.1 ∧ x.1 ≤ 1099511627776 ∧ p ≤ x.1 ∧ enX x n = 0 ∧ enS n r x.1 = 0 := by
  unfold enS at h
  split at h
  · cases h
  · split at h
    · cases h
    · split at h
      · rename_i h3
        exact ⟨by omega, by omega, by omega, h3, h⟩
      · rename_i h3; exact absurd h h3
theorem en_mk {n : Int} {x : En} {r : List En} {p : Int} (h1 : 0 ≤ x.1) (h2 : x.1 ≤ 1099511627776) (h3 : p ≤ x.1) (h4 : enX x n = 0) (h5 : enS n r x.1 = 0) : enS n (x :: r) p = 0 := by
  unfold enS
  rw [if_neg (by omega), if_neg (by omega), if_pos h4]
  exact h5
theorem en_mono {n : Int} {l : List En} {p q : Int} (h : enS n l p = 0) (hq : q ≤ p) : enS n l q = 0 := by
  cases l with
  | nil => rfl
  | cons x r =>
    obtain ⟨h1, h2, h3, h4, h5⟩ := en_cons h
    exact en_mk h1 h2 (by omega) h4 h5
theorem ld_iff {l : List Int} : ldB l = true ↔ ∀ x ∈ l, 0 ≤ x ∧ x ≤ 10000 := by
  unfold ldB
  rw [List.all_eq_true]
  constructor
  · intro h x hx; exact of_decide_eq_true (h x hx)
  · intro h x hx; exact decide_eq_true (h x hx)
theorem ch_in {m : Int} {ld : List Int} {es : List En} (h : chX m ld es = 0) : 0 ≤ m ∧ m ≤ 10000 ∧ 1 ≤ (ld.length : Int) ∧ (ld.length : Int) ≤ 8 ∧ (∀ x ∈ ld, 0 ≤ x ∧ x ≤ 10000) ∧ (es.length : Int) ≤ 2000 ∧ enS (ld.length : Int) es 0 = 0 := by
  unfold chX at h
  split at h
  · rename_i hE
    split at h
    · rename_i hl
      split at h
      · rename_i he
        exact ⟨hE.1, hE.2.1, hE.2.2.1, hE.2.2.2, ld_iff.1 hl, he, h⟩
      · cases h
    · cases h
  · cases h
theorem ch_mk {m : Int} {ld : List Int} {es : List En} (h1 : 0 ≤ m) (h2 : m ≤ 10000) (h3 : 1 ≤ (ld.length : Int)) (h4 : (ld.length : Int) ≤ 8) (h5 : ∀ x ∈ ld, 0 ≤ x ∧ x ≤ 10000) (h6 : (es.length : Int) ≤ 2000) (h7 : enS (ld.length : Int) es 0 = 0) : chX m ld es = 0 := by
  unfold chX
  rw [if_pos ⟨h1, h2, h3, h4⟩, if_pos (ld_iff.2 h5), if_pos h6]
  exact h7
theorem wo_len8 (m : Int) (ld : List Int) (es : List En) : (woL m ld es).length ≤ 8 := by
  unfold woL
  split
  · rename_i hc
    obtain ⟨l1, l2, l3, ho⟩ := ch_ok hc
    obtain ⟨_, _, hLn, _⟩ := rfA_go (ld := ld) (es := es) (m := m) (by omega) (by omega) ho es.length 0 ld (List.replicate ld.length false) (by omega) rfl (by simp)
    rw [List.drop_zero] at hLn
    have hLn : (endE ld es).1.length = ld.length := hLn
    omega
  · exact Nat.zero_le _
end Go.Proofs.Ytfpabkpmcmfbhaa
