/- Layer 33: the entries of one car, and those that are no obstructions. -/
import Derived.Test.YtfpabkpmcmfbhaaZM
namespace Go.Proofs.Ytfpabkpmcmfbhaa
open Go Go.RowKit
set_option linter.unusedVariables false
theorem en_filter {n : Int} (q : En → Bool) : ∀ (l : List En) (p : Int), enS n l p = 0 → enS n (l.filter q) p = 0
  | [], p, _ => rfl
  | x :: r, p, h => by
    obtain ⟨h1, h2, h3, h4, h5⟩ := en_cons h
    rw [List.filter_cons]
    split
    · exact en_mk h1 h2 h3 h4 (en_filter q r x.1 h5)
    · exact en_mono (en_filter q r x.1 h5) h3
theorem ch_filter {m : Int} {ld : List Int} {es : List En} (q : En → Bool) (h : chX m ld es = 0) : chX m ld (es.filter q) = 0 := by
  obtain ⟨h1, h2, h3, h4, h5, h6, h7⟩ := ch_in h
  have : (es.filter q).length ≤ es.length := List.length_filter_le _ _
  exact ch_mk h1 h2 h3 h4 h5 (by omega) (en_filter q es 0 h7)
/-- no obstruction -/
def movB (x : En) : Bool := x.2.2.2.2.2.1 != 2
/-- an entry of a car -/
def ownB (c : Int) (x : En) : Bool := x.2.2.2.2.1 == c
/-- a fault of a car -/
def fltB (c : Int) (x : En) : Bool := x.2.2.2.2.1 == c && decide (x.2.2.2.2.2.1 ≥ 3)
theorem run_mov : ∀ (es : List En) (s : List Int × List Bool), runE (es.filter movB) s = runE es s
  | [], s => rfl
  | x :: r, s => by
    rw [List.filter_cons]
    cases e : movB x with
    | true => rw [if_pos rfl]; exact run_mov r (stepE x s)
    | false =>
      rw [if_neg (by simp)]
      have e2 : x.2.2.2.2.2.1 = 2 := by unfold movB at e; simpa using e
      have e3 : stepE x s = s := by
        unfold stepE
        split
        · rw [if_neg (by omega), if_neg (by omega)]
        · rfl
      show runE (r.filter movB) s = runE r (stepE x s)
      rw [e3]
      exact run_mov r s
theorem mov_eq {m : Int} {ld : List Int} {es : List En} (h : chX m ld es = 0) : woN m ld (es.filter movB) = woN m ld es ∧ woL m ld (es.filter movB) = woL m ld es := by
  have h2 := ch_filter movB h
  have e : endE ld (es.filter movB) = endE ld es := run_mov es (ld, List.replicate ld.length false)
  unfold woN woL
  rw [if_pos h, if_pos h2, if_pos h, if_pos h2, e]
  exact ⟨rfl, rfl⟩
theorem el_set {α : Type} [Inhabited α] {l : List α} {i j : Nat} {v : α} (h : j < l.length) : el (l.set i v) (j : Int) = if i = j then v else el l (j : Int) := by
  unfold el
  rw [List.getD_eq_getElem?_getD, List.getD_eq_getElem?_getD, Int.toNat_natCast, List.getElem?_set]
  split
  · rename_i e; subst e; rw [if_pos h]; rfl
  · rfl
/-- one car's load and fault -/
def AtJ (j : Nat) (s t : List Int × List Bool) : Prop := el s.1 (j : Int) = el t.1 (j : Int) ∧ el s.2 (j : Int) = el t.2 (j : Int)
theorem step_other {x : En} {s : List Int × List Bool} {j : Nat} (h1 : j < s.1.length) (h2 : j < s.2.length) (hx : 1 ≤ x.2.2.2.2.1) (hc : x.2.2.2.2.1 ≠ (j : Int) + 1) : AtJ j (stepE x s) s := by
  unfold stepE
  split
  · split
    · exact ⟨by rw [el_set h1, if_neg (by omega)], rfl⟩
    · split
      · exact ⟨rfl, by rw [el_set h2, if_neg (by omega)]⟩
      · exact ⟨rfl, rfl⟩
  · exact ⟨rfl, rfl⟩
theorem step_same {x : En} {s t : List Int × List Bool} {j : Nat} (h1 : j < s.1.length) (h2 : j < s.2.length) (h3 : j < t.1.length) (h4 : j < t.2.length) (h : AtJ j s t) : AtJ j (stepE x s) (stepE x t) := by
  unfold stepE
  split
  · split
    · exact ⟨by rw [el_set h1, el_set h3, h.1], h.2⟩
    · split
      · exact ⟨h.1, by rw [el_set h2, el_set h4, h.2]⟩
      · exact h
  · exact h
theorem run_own {n : Int} {j : Nat} : ∀ (es : List En) (p : Int) (s t : List Int × List Bool), enS n es p = 0 → (∀ x ∈ es, 1 ≤ x.2.2.2.2.1) → j < s.1.length → j < s.2.length → j < t.1.length → j < t.2.length → AtJ j s t → AtJ j (runE es s) (runE (es.filter (ownB ((j : Int) + 1))) t)
  | [], p, s, t, _, _, _, _, _, _, h => h
  | x :: r, p, s, t, he, hx, h1, h2, h3, h4, h => by
    obtain ⟨_, _, _, _, h5⟩ := en_cons he
    have ls := step_len x s
    have lt := step_len x t
    have hr : ∀ y ∈ r, 1 ≤ y.2.2.2.2.1 := fun y hy => hx y (List.mem_cons_of_mem _ hy)
    rw [List.filter_cons]
    cases e : ownB ((j : Int) + 1) x with
    | true =>
      rw [if_pos rfl]
      exact run_own r x.1 (stepE x s) (stepE x t) h5 hr (by omega) (by omega) (by omega) (by omega) (step_same h1 h2 h3 h4 h)
    | false =>
      rw [if_neg (by simp)]
      have e2 : x.2.2.2.2.1 ≠ (j : Int) + 1 := by unfold ownB at e; simpa using e
      have q := step_other (s := s) h1 h2 (hx x List.mem_cons_self) e2
      exact run_own r x.1 (stepE x s) t h5 hr (by omega) (by omega) h3 h4 ⟨q.1.trans h.1, q.2.trans h.2⟩
/-- a car's bit -/
theorem wd_bit : ∀ (F : List Bool) (j : Nat), j < F.length → wdN F &&& 2 ^ j = if el F (j : Int) = true then 2 ^ j else 0
  | [], j, h => by simp at h
  | b :: r, 0, _ => by
    rw [elw_zero]
    unfold wdN
    rw [Nat.pow_zero, Nat.and_one_is_mod]
    cases b <;> simp <;> omega
  | b :: r, j + 1, h => by
    rw [elw_succ]
    have ih := wd_bit r j (by simpa using h)
    unfold wdN
    apply Nat.eq_of_testBit_eq
    intro i
    have ih2 := congrArg (fun z => z.testBit (i - 1)) ih
    rw [Nat.testBit_and]
    cases i with
    | zero =>
      have p : (2 : Nat) ^ (j + 1) = 2 * 2 ^ j := by rw [Nat.pow_succ]; omega
      have z : (2 ^ (j + 1) : Nat).testBit 0 = false := by rw [Nat.testBit_zero, p]; simp
      rw [z, Bool.and_false]
      split
      · exact z.symm
      · simp
    | succ i =>
      simp only [Nat.add_sub_cancel] at ih2
      rw [Nat.testBit_and] at ih2
      rw [Nat.testBit_succ, Nat.testBit_succ]
      have e2 : ((bif b then 1 else 0) + 2 * wdN r) / 2 = wdN r := by cases b <;> simp <;> omega
      have e3 : (2 : Nat) ^ (j + 1) / 2 = 2 ^ j := by rw [Nat.pow_succ]; omega
      rw [e2, e3, ih2]
      split
      · rw [Nat.testBit_succ, e3]
      · simp
theorem step_flt {x : En} {s : List Int × List Bool} {j : Nat} (h2 : j < s.2.length) (hk : x.2.1 = 2) (hx : 1 ≤ x.2.2.2.2.1) : el (stepE x s).2 (j : Int) = (el s.2 (j : Int) || fltB ((j : Int) + 1) x) := by
  unfold stepE fltB
  rw [if_pos hk]
  split
  · rename_i e
    rw [decide_eq_false (show ¬ x.2.2.2.2.2.1 ≥ 3 by omega), Bool.and_false, Bool.or_false]
  · split
    · rename_i e
      rw [el_set h2, decide_eq_true (show x.2.2.2.2.2.1 ≥ 3 from e), Bool.and_true]
      by_cases hc : x.2.2.2.2.1 = (j : Int) + 1
      · rw [if_pos (by omega), hc]; simp
      · rw [if_neg (by omega), show (x.2.2.2.2.1 == (j : Int) + 1) = false by simp [hc], Bool.or_false]
    · rename_i e
      rw [decide_eq_false (show ¬ x.2.2.2.2.2.1 ≥ 3 by omega), Bool.and_false, Bool.or_false]
theorem run_flt {j : Nat} : ∀ (es : List En) (s : List Int × List Bool), (∀ x ∈ es, x.2.1 = 2 ∧ 1 ≤ x.2.2.2.2.1) → j < s.2.length → el (runE es s).2 (j : Int) = (el s.2 (j : Int) || es.any (fltB ((j : Int) + 1)))
  | [], s, _, _ => by rw [List.any_nil, Bool.or_false]; rfl
  | x :: r, s, hx, h => by
    have hs := step_len x s
    have h1 := hx x List.mem_cons_self
    have e := run_flt (j := j) r (stepE x s) (fun y hy => hx y (List.mem_cons_of_mem _ hy)) (by omega)
    rw [step_flt h h1.1 h1.2] at e
    rw [List.any_cons, ← Bool.or_assoc]
    exact e
end Go.Proofs.Ytfpabkpmcmfbhaa
