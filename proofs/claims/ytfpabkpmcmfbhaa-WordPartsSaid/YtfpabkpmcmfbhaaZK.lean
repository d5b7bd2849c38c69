/- Layer 33: a slot in two parts. -/
import Derived.Test.YtfpabkpmcmfbhaaZD
namespace Go.Proofs.Ytfpabkpmcmfbhaa
open Go Go.RowKit
set_option linter.unusedVariables false
/-- out in one of both -/
def orL : List Bool → List Bool → List Bool
  | a :: A, b :: B => (a || b) :: orL A B
  | _, _ => []
theorem or_len : ∀ (A B : List Bool), A.length = B.length → (orL A B).length = A.length
  | [], [], _ => rfl
  | a :: A, b :: B, h => by unfold orL; rw [List.length_cons, List.length_cons, or_len A B (by simpa using h)]
  | [], b :: B, h => by simp at h
  | a :: A, [], h => by simp at h
theorem wd_or : ∀ (A B : List Bool), A.length = B.length → wdN (orL A B) = wdN A ||| wdN B
  | [], [], _ => rfl
  | [], b :: B, h => by simp at h
  | a :: A, [], h => by simp at h
  | a :: A, b :: B, h => by
    unfold orL wdN
    rw [wd_or A B (by simpa using h)]
    apply Nat.eq_of_testBit_eq
    intro i
    rw [Nat.testBit_or]
    cases i with
    | zero => cases a <;> cases b <;> simp [Nat.testBit_zero] <;> omega
    | succ i =>
      rw [Nat.testBit_succ, Nat.testBit_succ, Nat.testBit_succ]
      have e1 : ((bif a || b then 1 else 0) + 2 * (wdN A ||| wdN B)) / 2 = wdN A ||| wdN B := by cases a <;> cases b <;> simp <;> omega
      have e2 : ((bif a then 1 else 0) + 2 * wdN A) / 2 = wdN A := by cases a <;> simp <;> omega
      have e3 : ((bif b then 1 else 0) + 2 * wdN B) / 2 = wdN B := by cases b <;> simp <;> omega
      rw [e1, e2, e3, Nat.testBit_or]
theorem or_set : ∀ (A B : List Bool) (j : Nat), A.length = B.length → orL A (B.set j true) = (orL A B).set j true
  | [], [], j, _ => rfl
  | [], b :: B, j, h => by simp at h
  | a :: A, [], j, h => by simp at h
  | a :: A, b :: B, 0, h => by
    rw [List.set_cons_zero]
    unfold orL
    rw [List.set_cons_zero, Bool.or_true]
  | a :: A, b :: B, j + 1, h => by
    rw [List.set_cons_succ]
    unfold orL
    rw [List.set_cons_succ, or_set A B j (by simpa using h)]
theorem or_none : ∀ (A : List Bool), orL A (List.replicate A.length false) = A
  | [] => rfl
  | a :: A => by
    rw [List.length_cons, List.replicate_succ]
    unfold orL
    rw [or_none A, Bool.or_false]
theorem tg_or (m : Int) : ∀ (A B : List Bool) (L : List Int), A.length = B.length → A.length = L.length → tgF m (orL A B) L = orL A (tgF m B L)
  | [], [], L, _, _ => by unfold tgF orL; rfl
  | [], b :: B, L, h, _ => by simp at h
  | a :: A, [], L, h, _ => by simp at h
  | a :: A, b :: B, [], _, h => by simp at h
  | a :: A, b :: B, x :: L, h, h2 => by
    show ((a || b) || decide (x > m)) :: tgF m (orL A B) L = (a || (b || decide (x > m))) :: orL A (tgF m B L)
    rw [tg_or m A B L (by simpa using h) (by simpa using h2), Bool.or_assoc]
theorem tg_hi (m : Int) : ∀ (F : List Bool) (L : List Int), F.length = L.length → (∀ x ∈ L, x ≤ m) → tgF m F L = F
  | [], L, h, _ => by unfold tgF; rfl
  | f :: F, [], h, _ => by simp at h
  | f :: F, x :: L, h, hx => by
    unfold tgF
    rw [tg_hi m F L (by simpa using h) (fun y hy => hx y (List.mem_cons_of_mem _ hy))]
    have := hx x List.mem_cons_self
    rw [decide_eq_false (show ¬ x > m by omega), Bool.or_false]
theorem step_len (x : En) (s : List Int × List Bool) : (stepE x s).1.length = s.1.length ∧ (stepE x s).2.length = s.2.length := by
  unfold stepE
  split
  · split
    · exact ⟨List.length_set, rfl⟩
    · split
      · exact ⟨rfl, List.length_set⟩
      · exact ⟨rfl, rfl⟩
  · exact ⟨rfl, rfl⟩
theorem step_or (x : En) (L : List Int) (A B : List Bool) (h : A.length = B.length) : stepE x (L, orL A B) = ((stepE x (L, B)).1, orL A (stepE x (L, B)).2) := by
  unfold stepE
  split
  · split
    · rfl
    · split
      · rw [or_set A B _ h]
      · rfl
  · rfl
/-- all entries, from some loads and faults on -/
def runE (es : List En) (s : List Int × List Bool) : List Int × List Bool := es.foldl (fun s x => stepE x s) s
theorem run_len : ∀ (es : List En) (s : List Int × List Bool), (runE es s).1.length = s.1.length ∧ (runE es s).2.length = s.2.length
  | [], s => ⟨rfl, rfl⟩
  | x :: r, s => by
    have h := run_len r (stepE x s)
    have h2 := step_len x s
    exact ⟨h.1.trans h2.1, h.2.trans h2.2⟩
theorem run_or : ∀ (es : List En) (L : List Int) (A B : List Bool), A.length = B.length → runE es (L, orL A B) = ((runE es (L, B)).1, orL A (runE es (L, B)).2)
  | [], L, A, B, _ => rfl
  | x :: r, L, A, B, h => by
    show runE r (stepE x (L, orL A B)) = ((runE r (stepE x (L, B))).1, orL A (runE r (stepE x (L, B))).2)
    rw [step_or x L A B h]
    have h2 := step_len x (L, B)
    exact run_or r (stepE x (L, B)).1 A (stepE x (L, B)).2 (h.trans h2.2.symm)
theorem run_app (a b : List En) (s : List Int × List Bool) : runE (a ++ b) s = runE b (runE a s) := List.foldl_append
theorem enX_val {x : En} {n : Int} (h : enX x n = 0) (h2 : x.2.1 = 2) (h3 : x.2.2.2.2.2.1 = 1) : 0 ≤ x.2.2.2.2.2.2 ∧ x.2.2.2.2.2.2 ≤ 10000 := by
  unfold enX pe_c0 at h
  have b1 : (x.2.1 != 1) = true := by simp [h2]
  have b2 : (x.2.1 != 2) = false := by simp [h2]
  have b3 : (x.2.2.2.2.2.1 == 1) = true := by simp [h3]
  rw [b1, b2, cond_true, cond_false, b3, cond_true] at h
  by_cases c1 : x.2.2.2.2.1 ≥ 1
  · by_cases c2 : x.2.2.2.2.1 ≤ n
    · simp only [decide_eq_true c1, decide_eq_true c2, cond_true, cond_false, Bool.not_true] at h
      by_cases c4 : x.2.2.2.2.2.2 ≥ 0
      · by_cases c5 : x.2.2.2.2.2.2 ≤ 10000
        · exact ⟨c4, c5⟩
        · simp only [decide_eq_true c4, decide_eq_false c5, cond_true, Bool.not_false] at h
          cases h
      · simp only [decide_eq_false c4, cond_false] at h
        cases h
    · simp only [decide_eq_true c1, decide_eq_false c2, cond_true, Bool.not_false] at h
      cases h
  · simp only [decide_eq_false c1, cond_false] at h
    cases h
theorem en_cons {n : Int} {x : En} {r : List En} {p : Int} (h : enS n (x :: r) p = 0) : 0 ≤ x.1 ∧ x.1 ≤ 1099511627776 ∧ p ≤ x.1 ∧ enX x n = 0 ∧ enS n r x.1 = 0 := by
  unfold enS at h
  split at h
  · cases h
  · split at h
    · cases h
    · split at h
      · rename_i h3
        exact ⟨by omega, by omega, by omega, h3, h⟩
      · rename_i h3; exact absurd h h3
theorem en_mk {n : Int} {x : En} {r : List En} {p : Int} (h1 : 0 ≤ x.1) (h2 : x.1 ≤ 1099511627776) (h3 : p ≤ x.1) (h4 : enX x n = 0) (h5 : enS n r x.1 = 0) : enS n (x :: r) p = 0 := by
  unfold enS
  rw [if_neg (by omega), if_neg (by omega), if_pos h4]
  exact h5
theorem en_mono {n : Int} {l : List En} {p q : Int} (h : enS n l p = 0) (hq : q ≤ p) : enS n l q = 0 := by
  cases l with
  | nil => rfl
  | cons x r =>
    obtain ⟨h1, h2, h3, h4, h5⟩ := en_cons h
    exact en_mk h1 h2 (by omega) h4 h5
theorem en_take {n : Int} : ∀ (l : List En) (k : Nat) (p : Int), enS n l p = 0 → enS n (l.take k) p = 0
  | [], k, p, _ => by rw [List.take_nil]; rfl
  | x :: r, 0, p, _ => by rw [List.take_zero]; rfl
  | x :: r, k + 1, p, h => by
    obtain ⟨h1, h2, h3, h4, h5⟩ := en_cons h
    rw [List.take_succ_cons]
    exact en_mk h1 h2 h3 h4 (en_take r k x.1 h5)
theorem en_drop {n : Int} : ∀ (l : List En) (k : Nat) (p : Int), enS n l p = 0 → 0 ≤ p → enS n (l.drop k) 0 = 0
  | [], k, p, _, _ => by rw [List.drop_nil]; rfl
  | x :: r, 0, p, h, hp => by rw [List.drop_zero]; exact en_mono h hp
  | x :: r, k + 1, p, h, _ => by
    obtain ⟨h1, h2, h3, h4, h5⟩ := en_cons h
    rw [List.drop_succ_cons]
    exact en_drop r k x.1 h5 h1
theorem set_ld {l : List Int} {j : Nat} {v : Int} (h : ∀ x ∈ l, 0 ≤ x ∧ x ≤ 10000) (hv : 0 ≤ v ∧ v ≤ 10000) : ∀ x ∈ l.set j v, 0 ≤ x ∧ x ≤ 10000 := by
  intro x hx
  rcases List.mem_or_eq_of_mem_set hx with h1 | h1
  · exact h x h1
  · rw [h1]; exact hv
theorem run_ld {n : Int} : ∀ (es : List En) (p : Int) (s : List Int × List Bool), enS n es p = 0 → (∀ x ∈ s.1, 0 ≤ x ∧ x ≤ 10000) → ∀ x ∈ (runE es s).1, 0 ≤ x ∧ x ≤ 10000
  | [], p, s, _, h => h
  | x :: r, p, s, he, h => by
    obtain ⟨h1, h2, h3, h4, h5⟩ := en_cons he
    refine run_ld r x.1 (stepE x s) h5 ?_
    unfold stepE
    split
    · rename_i a1
      split
      · rename_i a2; exact set_ld h (enX_val h4 a1 a2)
      · split
        · exact h
        · exact h
    · exact h
theorem ld_iff {l : List Int} : ldB l = true ↔ ∀ x ∈ l, 0 ≤ x ∧ x ≤ 10000 := by
  unfold ldB
  rw [List.all_eq_true]
  constructor
  · intro h x hx; exact of_decide_eq_true (h x hx)
  · intro h x hx; exact decide_eq_true (h x hx)
theorem ch_in {m : Int} {ld : List Int} {es : List En} (h : chX m ld es = 0) : 0 ≤ m ∧ m ≤ 10000 ∧ 1 ≤ (ld.length : Int) ∧ (ld.length : Int) ≤ 8 ∧ (∀ x ∈ ld, 0 ≤ x ∧ x ≤ 10000) ∧ (es.length : Int) ≤ 2000 ∧ enS (ld.length : Int) es 0 = 0 := by
  unfold chX at h
  split at h
  · rename_i hE
    split at h
    · rename_i hl
      split at h
      · rename_i he
        exact ⟨hE.1, hE.2.1, hE.2.2.1, hE.2.2.2, ld_iff.1 hl, he, h⟩
      · cases h
    · cases h
  · cases h
theorem ch_mk {m : Int} {ld : List Int} {es : List En} (h1 : 0 ≤ m) (h2 : m ≤ 10000) (h3 : 1 ≤ (ld.length : Int)) (h4 : (ld.length : Int) ≤ 8) (h5 : ∀ x ∈ ld, 0 ≤ x ∧ x ≤ 10000) (h6 : (es.length : Int) ≤ 2000) (h7 : enS (ld.length : Int) es 0 = 0) : chX m ld es = 0 := by
  unfold chX
  rw [if_pos ⟨h1, h2, h3, h4⟩, if_pos (ld_iff.2 h5), if_pos h6]
  exact h7
theorem two_parts {m : Int} {ld : List Int} {es : List En} (k : Nat) (hc : chX m ld es = 0) :
    chX 10000 ld (es.take k) = 0 ∧ chX m (woL 10000 ld (es.take k)) (es.drop k) = 0 ∧ woL m ld es = woL m (woL 10000 ld (es.take k)) (es.drop k) ∧
      ∃ a b : Nat, a < 2 ^ ld.length ∧ b < 2 ^ ld.length ∧ woN 10000 ld (es.take k) = (a : Int) ∧ woN m (woL 10000 ld (es.take k)) (es.drop k) = (b : Int) ∧ woN m ld es = ((a ||| b : Nat) : Int) := by
  obtain ⟨h1, h2, h3, h4, h5, h6, h7⟩ := ch_in hc
  have lt : (es.take k).length ≤ es.length := by rw [List.length_take]; omega
  have lr : (es.drop k).length ≤ es.length := by rw [List.length_drop]; omega
  have c1 : chX 10000 ld (es.take k) = 0 := ch_mk (by omega) (by omega) h3 h4 h5 (by omega) (en_take es k 0 h7)
  have y : woL 10000 ld (es.take k) = (endE ld (es.take k)).1 := by unfold woL; rw [if_pos c1]
  have r1 : endE ld (es.take k) = runE (es.take k) (ld, List.replicate ld.length false) := rfl
  have n1 := run_len (es.take k) (ld, List.replicate ld.length false)
  have b1 := run_ld (es.take k) 0 (ld, List.replicate ld.length false) (en_take es k 0 h7) h5
  rw [← r1] at n1 b1
  have n1a : (endE ld (es.take k)).1.length = ld.length := n1.1
  have n1b : (endE ld (es.take k)).2.length = ld.length := by rw [n1.2]; simp
  have e7 := en_drop es k 0 h7 (by omega)
  have c2 : chX m (endE ld (es.take k)).1 (es.drop k) = 0 := ch_mk h1 h2 (by omega) (by omega) b1 (by omega) (by rw [n1a]; exact e7)
  have hz : woL m (endE ld (es.take k)).1 (es.drop k) = (endE (endE ld (es.take k)).1 (es.drop k)).1 := by unfold woL; rw [if_pos c2]
  have hx : woL m ld es = (endE ld es).1 := by unfold woL; rw [if_pos hc]
  have na : woN 10000 ld (es.take k) = (wdN (tgF 10000 (endE ld (es.take k)).2 (endE ld (es.take k)).1) : Int) := by unfold woN; rw [if_pos c1]
  have nb : woN m (endE ld (es.take k)).1 (es.drop k) = (wdN (tgF m (endE (endE ld (es.take k)).1 (es.drop k)).2 (endE (endE ld (es.take k)).1 (es.drop k)).1) : Int) := by unfold woN; rw [if_pos c2]
  have nn : woN m ld es = (wdN (tgF m (endE ld es).2 (endE ld es).1) : Int) := by unfold woN; rw [if_pos hc]
  rw [tg_hi 10000 _ _ (n1b.trans n1a.symm) (fun x hx => (b1 x hx).2)] at na
  have r2 : endE (endE ld (es.take k)).1 (es.drop k) = runE (es.drop k) ((endE ld (es.take k)).1, List.replicate (endE ld (es.take k)).1.length false) := rfl
  have n2 := run_len (es.drop k) ((endE ld (es.take k)).1, List.replicate (endE ld (es.take k)).1.length false)
  rw [← r2] at n2
  have n2a : (endE (endE ld (es.take k)).1 (es.drop k)).1.length = ld.length := n2.1.trans n1a
  have n2b : (endE (endE ld (es.take k)).1 (es.drop k)).2.length = ld.length := by rw [n2.2]; simp [n1a]
  have hE : endE ld es = ((endE (endE ld (es.take k)).1 (es.drop k)).1, orL (endE ld (es.take k)).2 (endE (endE ld (es.take k)).1 (es.drop k)).2) := by
    have e0 : endE ld es = runE (es.drop k) (endE ld (es.take k)) := by
      show runE es (ld, List.replicate ld.length false) = runE (es.drop k) (runE (es.take k) (ld, List.replicate ld.length false))
      rw [← run_app, List.take_append_drop]
    have e1 := run_or (es.drop k) (endE ld (es.take k)).1 (endE ld (es.take k)).2 (List.replicate (endE ld (es.take k)).1.length false) (by simp [n1a, n1b])
    rw [n1a, ← n1b, or_none, n1b, ← n1a, ← r2] at e1
    rw [e0]
    exact e1
  rw [y]
  refine ⟨c1, c2, by rw [hx, hz, hE], _, _, ?_, ?_, na, nb, ?_⟩
  · rw [← n1b]; exact wd_lt _
  · have := wd_lt (tgF m (endE (endE ld (es.take k)).1 (es.drop k)).2 (endE (endE ld (es.take k)).1 (es.drop k)).1)
    rw [tg_len m _ _ (n2b.trans n2a.symm), n2b] at this
    exact this
  · rw [nn, hE, tg_or m _ _ _ (n1b.trans n2b.symm) (n1b.trans n2a.symm), wd_or _ _ (by rw [tg_len m _ _ (n2b.trans n2a.symm)]; exact n1b.trans n2b.symm)]
theorem wo_len8 (m : Int) (ld : List Int) (es : List En) : (woL m ld es).length ≤ 8 := by
  unfold woL
  split
  · rename_i hc
    obtain ⟨l1, l2, l3, ho⟩ := ch_ok hc
    obtain ⟨_, _, hLn, _⟩ := rfA_go (ld := ld) (es := es) (m := m) (by omega) (by omega) ho es.length 0 ld (List.replicate ld.length false) (by omega) rfl (by simp)
    rw [List.drop_zero] at hLn
    have hLn : (endE ld es).1.length = ld.length := hLn
    omega
  · exact Nat.zero_le _
end Go.Proofs.Ytfpabkpmcmfbhaa
