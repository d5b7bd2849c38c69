/- Layer 33: Of of the given program, light, copies. -/
import Derived.Test.YtfpabkpmcmfbhaaOgI
import Derived.Test.YtfpabkpmcmfbhaaOgH
namespace Go.Proofs.Ytfpabkpmcmfbhaa
open Go Go.RowKit
set_option linter.unusedVariables false
theorem rrof_is (m : Int) (ld : List Int) (es : List En) : KnownR Try.prog [] 13 [.val (.int .i64 m), .list (rowA gI ld) ld.length, .list (rowA gE es) es.length] (.tuple #[.int .i64 (woN m ld es), .complex .f64 0 (woL m ld es).length, .int .i64 (chX m ld es)]) [(rowA gI (woL m ld es), 3)] := by
  by_cases hc : chX m ld es = 0
  · have r := ro0 m ld es hc
    rw [hc]
    exact r
  · have r := roE m ld es hc
    have e0 : woN m ld es = 0 := by unfold woN; rw [if_neg hc]
    have e1 : woL m ld es = [] := by unfold woL; rw [if_neg hc]
    rw [e0, e1]
    exact r
/-- no entry has much data -/
def smB (l : List En) : Bool := l.all fun x => decide (x.2.2.2.1.size ≤ 100)
/-- light lists -/
def ltB (ld : List Int) (es : List En) : Bool := decide (ld.length ≤ 12 ∧ (es.length ≤ 60 ∨ (2000 < es.length ∧ es.length ≤ 2010))) && smB es
theorem lt_len {ld : List Int} {es : List En} (h : ltB ld es = true) : ld.length ≤ 12 ∧ es.length ≤ 2010 := by
  unfold ltB at h
  rw [Bool.and_eq_true, decide_eq_true_iff] at h
  omega
theorem ltA_go {ld : List Int} {es : List En} (hl : es.length ≤ 2010) : ∀ (k i : Nat), i + k = es.length → ∃ z, ltA_f ld es (k + 1) (i : Int) = some (bif smB (es.drop i) then 1 else 0, z) := by
  intro k
  induction k with
  | zero =>
    intro i h
    rw [ltA_fs, bif_dT (by omega), bif_dF (by omega), List.drop_of_length_le (by omega)]
    exact ⟨_, rfl⟩
  | succ k ih =>
    intro i h
    rw [ltA_fs, bif_dT (by omega), bif_dT (by omega), el_drop (l := es) (i := i) (by omega), w8n (n := (i : Int) + 1) (by omega) (by omega)]
    obtain ⟨z, hz⟩ := ih (i + 1) (by omega)
    rw [show ((i + 1 : Nat) : Int) = (i : Int) + 1 by omega] at hz
    unfold smB at *
    rw [List.all_cons]
    generalize el es (i : Int) = e at *
    by_cases h1 : (e.2.2.2.1.size : Int) > 100
    · rw [bif_dT h1, decide_eq_false (show ¬ e.2.2.2.1.size ≤ 100 by omega), Bool.false_and]
      exact ⟨_, rfl⟩
    · rw [bif_dF h1, decide_eq_true (show e.2.2.2.1.size ≤ 100 by omega), Bool.true_and]
      exact ⟨z, hz⟩
theorem luA_go {ld : List Int} {es : List En} (hl : es.length ≤ 2010) : ∀ (k i : Nat), i + k = es.length → ∃ z, luA_f ld es (k + 1) (i : Int) = some (bif smB (es.drop i) then 1 else 0, z) := by
  intro k
  induction k with
  | zero =>
    intro i h
    rw [luA_fs, bif_dT (by omega), bif_dF (by omega), List.drop_of_length_le (by omega)]
    exact ⟨_, rfl⟩
  | succ k ih =>
    intro i h
    rw [luA_fs, bif_dT (by omega), bif_dT (by omega), el_drop (l := es) (i := i) (by omega), w8n (n := (i : Int) + 1) (by omega) (by omega)]
    obtain ⟨z, hz⟩ := ih (i + 1) (by omega)
    rw [show ((i + 1 : Nat) : Int) = (i : Int) + 1 by omega] at hz
    unfold smB at *
    rw [List.all_cons]
    generalize el es (i : Int) = e at *
    by_cases h1 : (e.2.2.2.1.size : Int) > 100
    · rw [bif_dT h1, decide_eq_false (show ¬ e.2.2.2.1.size ≤ 100 by omega), Bool.false_and]
      exact ⟨_, rfl⟩
    · rw [bif_dF h1, decide_eq_true (show e.2.2.2.1.size ≤ 100 by omega), Bool.true_and]
      exact ⟨z, hz⟩
theorem light_is (ld : List Int) (es : List En) : KnownR Try.prog [] 8 [.list (rowA gI ld) ld.length, .list (rowA gE es) es.length] (.bool (ltB ld es)) [] := by
  by_cases hE : ld.length ≤ 12 ∧ (es.length ≤ 60 ∨ (2000 < es.length ∧ es.length ≤ 2010))
  · have eB : ltB ld es = smB es := by unfold ltB; rw [decide_eq_true hE, Bool.true_and]
    rw [eB]
    have h0 : ((ld.length : Int) ≤ 12) := by omega
    by_cases hs : es.length ≤ 60
    · have h2 : (es.length : Int) ≤ 60 := by omega
      obtain ⟨z, hz⟩ := ltA_go (ld := ld) (es := es) (by omega) es.length 0 (by omega)
      rw [List.drop_zero] at hz
      have ho := ltA_ok ld es h0 h2 _ _ _ hz
      cases e : smB es with
      | true =>
        rw [e, cond_true] at ho
        exact lt1 ld es _ h0 h2 (decide_eq_false (by omega)) (decide_eq_false (by omega)) (decide_eq_false (by omega)) ho
      | false =>
        rw [e, cond_false] at ho
        exact lt0 ld es _ h0 h2 (decide_eq_false (by omega)) (decide_eq_false (by omega)) (decide_eq_false (by omega)) ho
    · have h2 : 2000 < (es.length : Int) ∧ (es.length : Int) ≤ 2010 := by omega
      obtain ⟨z, hz⟩ := luA_go (ld := ld) (es := es) (by omega) es.length 0 (by omega)
      rw [List.drop_zero] at hz
      have ho := luA_ok ld es h0 h2 _ _ _ hz
      cases e : smB es with
      | true =>
        rw [e, cond_true] at ho
        exact lu1 ld es _ h0 h2 (decide_eq_false (by omega)) (decide_eq_true (by omega)) (decide_eq_false (by omega)) (decide_eq_false (by omega)) ho
      | false =>
        rw [e, cond_false] at ho
        exact lu0 ld es _ h0 h2 (decide_eq_false (by omega)) (decide_eq_true (by omega)) (decide_eq_false (by omega)) (decide_eq_false (by omega)) ho
  · have eB : ltB ld es = false := by unfold ltB; rw [decide_eq_false hE, Bool.false_and]
    rw [eB]
    exact ltE ld es (by omega)
theorem wo_len (m : Int) (ld : List Int) (es : List En) : (woL m ld es).length ≤ 8 := by
  unfold woL
  split
  · rename_i hc
    obtain ⟨l1, l2, l3, ho⟩ := ch_ok hc
    obtain ⟨_, _, hLn, _⟩ := rfA_go (ld := ld) (es := es) (m := m) (by omega) (by omega) ho es.length 0 ld (List.replicate ld.length false) (by omega) rfl (by simp)
    rw [List.drop_zero] at hLn
    have hLn : (endE ld es).1.length = ld.length := hLn
    omega
  · exact Nat.zero_le _
end Go.Proofs.Ytfpabkpmcmfbhaa
