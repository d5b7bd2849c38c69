/- A region that draws its order: the order does not matter where no operation meets another one. -/
import Derived.Test.YtpaojoahbmlolaaEvN
namespace Go.Proofs.Ytpaojoahbmlolaa
open Go Go.RowKit
set_option linter.unusedSectionVars false
set_option linter.unusedVariables false
set_option linter.unusedSimpArgs false
set_option linter.unnecessarySimpa false
section
variable {P : Program} [NoCx P] {B : Bd}

def zeroM (s : St) : St := { s with hs := { s.hs with rd := 0, wr := 0 } }

theorem runMarks_append {call : CallV} {ops : Array Oper} : ∀ (l1 l2 : List Nat) (s : St) (m : List (Nat × Nat)),
    runMarks P call ops (l1 ++ l2) s m = match runMarks P call ops l1 s m with
      | some (s', m') => runMarks P call ops l2 s' m'
      | none => none
  | [], l2, s, m => rfl
  | i :: l1, l2, s, m => by
    simp only [List.cons_append, runMarks]
    cases okJ ops i s.tmps with
    | false => rfl
    | true =>
    simp only
    cases stepV P call ops i { s with hs := { s.hs with rd := 0, wr := 0 } } with
    | none => rfl
    | some s' => exact runMarks_append l1 l2 s' _

/-- the states of the run, one after another -/
structure Chain (P : Program) (call : CallV) (ops : Array Oper) (n : Nat) (S : Nat → St) (m : List (Nat × Nat)) : Prop where
  step : ∀ k, k < n → stepV P call ops k (zeroM (S k)) = some (S (k + 1))
  okj : ∀ k, k < n → okJ ops k (S k).tmps = true
  len : m.length = n
  mark : ∀ k, k < n → m[k]? = some ((S (k + 1)).hs.rd, (S (k + 1)).hs.wr)

theorem chain_of {call : CallV} {ops : Array Oper} : ∀ (n : Nat) (s s' : St) (m : List (Nat × Nat)), runMarks P call ops (List.range n) s [] = some (s', m) → ∃ S : Nat → St, S 0 = s ∧ S n = s' ∧ Chain P call ops n S m
  | 0, s, s', m, h => by
    simp only [List.range_zero, runMarks] at h
    injection h with h; injection h with h1 h2
    subst h1; subst h2
    exact ⟨fun _ => s, rfl, rfl, fun k hk => absurd hk (Nat.not_lt_zero k), fun k hk => absurd hk (Nat.not_lt_zero k), rfl, fun k hk => absurd hk (Nat.not_lt_zero k)⟩
  | n + 1, s, s', m, h => by
    rw [List.range_succ, runMarks_append] at h
    cases hr : runMarks P call ops (List.range n) s [] with
    | none => rw [hr] at h; cases h
    | some p =>
      obtain ⟨s1, m1⟩ := p
      rw [hr] at h
      obtain ⟨S, h0, hn, hc⟩ := chain_of n s s1 m1 hr
      simp only [runMarks] at h
      cases hoj : okJ ops n s1.tmps with
      | false => rw [hoj] at h; cases h
      | true =>
      rw [hoj] at h
      simp only at h
      cases hst : stepV P call ops n { s1 with hs := { s1.hs with rd := 0, wr := 0 } } with
      | none => rw [hst] at h; cases h
      | some s2 =>
        rw [hst] at h
        injection h with h; injection h with h1 h2
        subst h1; subst h2
        refine ⟨fun k => if k ≤ n then S k else s2, by simp [h0], (by show (if n + 1 ≤ n then S (n + 1) else s2) = s2; rw [if_neg (by omega)]), fun k hk => ?_, fun k hk => ?_, by simp [hc.len], fun k hk => ?_⟩
        · by_cases hkn : k < n
          · simp only [if_pos (Nat.le_of_lt hkn), if_pos (show k + 1 ≤ n from hkn)]
            exact hc.step k hkn
          · obtain rfl : k = n := by omega
            simp only [Nat.le_refl, if_true, if_neg (show ¬ k + 1 ≤ k by omega)]
            rw [hn]
            exact hst
        · by_cases hkn : k < n
          · simp only [if_pos (Nat.le_of_lt hkn)]
            exact hc.okj k hkn
          · obtain rfl : k = n := by omega
            simp only [Nat.le_refl, if_true]
            rw [hn]
            exact hoj
        · by_cases hkn : k < n
          · simp only [if_pos (show k + 1 ≤ n from hkn)]
            rw [List.getElem?_append_left (by rw [hc.len]; exact hkn)]
            exact hc.mark k hkn
          · obtain rfl : k = n := by omega
            simp only [if_neg (show ¬ k + 1 ≤ k by omega)]
            rw [List.getElem?_append_right (by rw [hc.len]; exact Nat.le_refl _), hc.len]
            simp

/-- what comes before, by the edges -/
theorem ancs_spec {ops : Array Oper} : ∀ (n : Nat) (anc : List Nat), ancs ops n 0 = some anc → anc.length = n ∧ ∀ j, j < n → ∃ o, ops[j]? = some o ∧
    ∀ i, (anc.getD j 0).testBit i = true → ∃ e ∈ o.after, Region.binds .any e = true ∧ e.on < j ∧ (e.on = i ∨ (anc.getD e.on 0).testBit i = true)
  | 0, anc, h => by
    simp only [ancs] at h
    injection h with h; subst h
    exact ⟨rfl, fun j hj => absurd hj (Nat.not_lt_zero j)⟩
  | n + 1, anc, h => by
    simp only [ancs] at h
    cases hl : ancs ops n 0 with
    | none => rw [hl] at h; cases h
    | some l =>
      rw [hl] at h
      obtain ⟨h1, h2⟩ := ancs_spec n l hl
      cases ho : ops[n]? with
      | none => rw [ho] at h; cases h
      | some o =>
        rw [ho] at h
        simp only at h
        split at h
        · rename_i hall
          injection h with h
          subst h
          have hleft : ∀ j, j < n → (l ++ [o.after.toList.foldl (ancStep l) 0]).getD j 0 = l.getD j 0 := fun j hj => by
            simp [List.getD_eq_getElem?_getD, List.getElem?_append_left (show j < l.length by omega)]
          refine ⟨by simp [h1], fun j hj => ?_⟩
          by_cases hjn : j < n
          · obtain ⟨o', ho', hs⟩ := h2 j hjn
            refine ⟨o', ho', fun i hi => ?_⟩
            rw [hleft j hjn] at hi
            obtain ⟨e, he, hb, hlt, hor⟩ := hs i hi
            refine ⟨e, he, hb, hlt, ?_⟩
            rw [hleft e.on (by omega)]
            exact hor
          · obtain rfl : j = n := by omega
            refine ⟨o, ho, fun i hi => ?_⟩
            rw [List.getD_eq_getElem?_getD, List.getElem?_append_right (by omega), h1] at hi
            simp only [Nat.sub_self, List.getElem?_cons_zero, Option.getD_some] at hi
            have key : ∀ (es : List Edge) (s0 : Nat), (es.foldl (ancStep l) s0).testBit i = true → s0.testBit i = true ∨ ∃ e ∈ es, Region.binds .any e = true ∧ (e.on = i ∨ (l.getD e.on 0).testBit i = true) := by
              intro es
              induction es with
              | nil => intro s0 h; exact .inl h
              | cons e es ih =>
                intro s0 h
                simp only [List.foldl_cons] at h
                rcases ih _ h with h3 | ⟨e', he', h4⟩
                · unfold ancStep at h3
                  split at h3
                  · rename_i hb
                    have h3 : (s0 ||| (bitOf e.on ||| l.getD e.on 0)).testBit i = true := h3
                    rw [Nat.testBit_or, Nat.testBit_or, bitOf_test] at h3
                    simp only [Bool.or_eq_true, decide_eq_true_eq] at h3
                    rcases h3 with h3 | h3 | h3
                    · exact .inl h3
                    · exact .inr ⟨e, by simp, hb, .inl h3⟩
                    · exact .inr ⟨e, by simp, hb, .inr h3⟩
                  · exact .inl h3
                · exact .inr ⟨e', by simp [he'], h4⟩
            rcases key _ _ hi with h3 | ⟨e, he, hb, hor⟩
            · simp at h3
            · have hlt : e.on < j := by
                have := List.all_eq_true.1 hall e he
                rw [hb] at this
                simp only [Bool.not_true, Bool.false_or] at this
                exact blt_iff.1 this
              refine ⟨e, Array.mem_toList_iff.1 he, hb, hlt, ?_⟩
              rw [hleft e.on hlt]
              exact hor
        · cases h

/-- listed operations have what they wait for -/
def Closed (ops : Array Oper) (M : Array Bool) : Prop := ∀ j o, ops[j]? = some o → M.getD j false = true → ∀ e ∈ o.after, Region.binds .any e = true → M.getD e.on false = true
theorem anc_in {ops : Array Oper} {anc : List Nat} {n : Nat} (ha : ancs ops n 0 = some anc) {M : Array Bool} (hM : Closed ops M) : ∀ (j : Nat), j < n → (∀ o, ops[j]? = some o → ∀ e ∈ o.after, Region.binds .any e = true → M.getD e.on false = true) →
    ∀ i, (anc.getD j 0).testBit i = true → M.getD i false = true := by
  intro j
  induction j using Nat.strongRecOn with
  | _ j ih =>
    intro hj hw i hi
    obtain ⟨_, hs⟩ := ancs_spec n anc ha
    obtain ⟨o, ho, h⟩ := hs j hj
    obtain ⟨e, he, hb, hlt, hor⟩ := h i hi
    have hme := hw o ho e he hb
    rcases hor with rfl | hor
    · exact hme
    · exact ih e.on hlt (by omega) (fun o' ho' e' he' hb' => hM e.on o' ho' hme e' he' hb') i hor

section
variable {call : CallV} {ops : Array Oper} {S : Nat → St} {m : List (Nat × Nat)} {H0 : Nat → Option VO}

def foldH (ops : Array Oper) (S : Nat → St) (H0 : Nat → Option VO) (M : Array Bool) : Nat → Nat → Option VO
  | 0, id => H0 id
  | k + 1, id => if M.getD k false = true ∧ (S (k + 1)).hs.wr.testBit id = true then (S (k + 1)).hs.heap.get id else foldH ops S H0 M k id
def dstOf (ops : Array Oper) (k : Nat) : Option Tmp := (ops[k]?).bind (·.dst)
def foldT (ops : Array Oper) (S : Nat → St) (M : Array Bool) : Nat → Nat → Option Value
  | 0, t => (S 0).tmps.get t
  | k + 1, t => if M.getD k false = true ∧ dstOf ops k = some t then (S (k + 1)).tmps.get t else foldT ops S M k t

theorem step_facts (hc : CallSound P B call) {n : Nat} (hch : Chain P call ops n S m) {k : Nat} (hk : k < n) : VStep (zeroM (S k)).hs (S (k + 1)).hs ∧ (∀ t, dstOf ops k ≠ some t → (S (k + 1)).tmps.get t = (S k).tmps.get t) ∧ (∀ t, ((S (k + 1)).tmps.get t).isNone = ((S k).tmps.get t).isNone) := by
  have h := hch.step k hk
  unfold stepV at h
  split at h
  · cases h
  · rename_i o ho
    have put : ∀ (v : Value), (∀ t, dstOf ops k ≠ some t → (putT (S k).tmps o.dst v).get t = (S k).tmps.get t) ∧ (∀ t, ((putT (S k).tmps o.dst v).get t).isNone = ((S k).tmps.get t).isNone) := fun v => by
      unfold dstOf
      rw [ho]
      simp only [Option.bind_some]
      cases o.dst with
      | none => exact ⟨fun _ _ => rfl, fun _ => rfl⟩
      | some d => exact ⟨fun t ht => by
          have : ¬ t = d := fun e => ht (by rw [e])
          show ((S k).tmps.set d v).get t = _
          rw [TV.get_set, if_neg this], fun t => by
          show (((S k).tmps.set d v).get t).isNone = _
          rw [TV.get_set]
          by_cases e : t = d
          · subst e; rw [if_pos rfl]; cases (S k).tmps.get t <;> rfl
          · rw [if_neg e]⟩
    split at h
    · split at h
      · rename_i v hs1 hop
        injection h with h
        rw [← h]
        exact ⟨oper_step hc hop, put v⟩
      · cases h
    · injection h with h
      rw [← h]
      exact ⟨.refl _, put undef⟩

theorem foldH_text (hc : CallSound P B call) {n : Nat} (hch : Chain P call ops n S m) {M : Array Bool} {i id : Nat} (h0 : H0 id = (S 0).hs.heap.get id) (hw : ∀ j, j < n → (S (j + 1)).hs.wr.testBit id = true → (M.getD j false = true ↔ j < i)) :
    ∀ k, k ≤ n → foldH ops S H0 M k id = (S (min k i)).hs.heap.get id
  | 0, _ => by simpa [foldH] using h0
  | k + 1, hk => by
    have ih := foldH_text hc hch h0 hw k (by omega)
    obtain ⟨hv, _, _⟩ := step_facts hc hch (k := k) (by omega)
    unfold foldH
    by_cases hwk : (S (k + 1)).hs.wr.testBit id = true
    · by_cases hki : k < i
      · rw [if_pos ⟨(hw k (by omega) hwk).2 hki, hwk⟩, show min (k + 1) i = k + 1 by omega]
      · rw [if_neg (fun h => hki ((hw k (by omega) hwk).1 h.1)), ih, show min (k + 1) i = min k i by omega]
    · rw [if_neg (fun h => hwk h.2), ih]
      by_cases hki : k < i
      · rw [show min (k + 1) i = k + 1 by omega, show min k i = k by omega]
        exact (hv.keep id (by simpa using hwk)).symm
      · rw [show min (k + 1) i = min k i by omega]
theorem foldT_text (hc : CallSound P B call) {n : Nat} (hch : Chain P call ops n S m) {M : Array Bool} {i t : Nat} (hw : ∀ j, j < n → dstOf ops j = some t → (M.getD j false = true ↔ j < i)) :
    ∀ k, k ≤ n → foldT ops S M k t = (S (min k i)).tmps.get t
  | 0, _ => by simp [foldT]
  | k + 1, hk => by
    have ih := foldT_text hc hch hw k (by omega)
    obtain ⟨_, hv, _⟩ := step_facts hc hch (k := k) (by omega)
    unfold foldT
    by_cases hwk : dstOf ops k = some t
    · by_cases hki : k < i
      · rw [if_pos ⟨(hw k (by omega) hwk).2 hki, hwk⟩, show min (k + 1) i = k + 1 by omega]
      · rw [if_neg (fun h => hki ((hw k (by omega) hwk).1 h.1)), ih, show min (k + 1) i = min k i by omega]
    · rw [if_neg (fun h => hwk h.2), ih]
      by_cases hki : k < i
      · rw [show min (k + 1) i = k + 1 by omega, show min k i = k by omega]
        exact (hv t hwk).symm
      · rw [show min (k + 1) i = min k i by omega]

theorem getD_set {M : Array Bool} {i k : Nat} (hi : i < M.size) : (M.setIfInBounds i true).getD k false = (if k = i then true else M.getD k false) := by
  by_cases e : k = i
  · subst e; simp [hi]
  · rw [if_neg e]
    simp only [Array.getD_eq_getD_getElem?, Array.getElem?_setIfInBounds_ne (Ne.symm e)]

theorem foldH_set {n : Nat} {M : Array Bool} {i id : Nat} (hi : i < M.size) (hin : i < n) (hun : M.getD i false = false) (hlast : (S (i + 1)).hs.wr.testBit id = true → ∀ j, j < n → i < j → (S (j + 1)).hs.wr.testBit id = true → M.getD j false = false) :
    foldH ops S H0 (M.setIfInBounds i true) n id = if (S (i + 1)).hs.wr.testBit id = true then (S (i + 1)).hs.heap.get id else foldH ops S H0 M n id := by
  by_cases hw : (S (i + 1)).hs.wr.testBit id = true
  · rw [if_pos hw]
    have : ∀ k, k ≤ n → i < k → foldH ops S H0 (M.setIfInBounds i true) k id = (S (i + 1)).hs.heap.get id := by
      intro k
      induction k with
      | zero => intro _ h; exact absurd h (Nat.not_lt_zero i)
      | succ k ih =>
        intro hk hik
        unfold foldH
        by_cases e : k = i
        · subst e; rw [if_pos ⟨by rw [getD_set hi]; simp, hw⟩]
        · rw [if_neg, ih (by omega) (by omega)]
          rintro ⟨h1, h2⟩
          rw [getD_set hi, if_neg e, hlast hw k (by omega) (by omega) h2] at h1
          cases h1
    exact this n (Nat.le_refl _) hin
  · rw [if_neg hw]
    have : ∀ k, foldH ops S H0 (M.setIfInBounds i true) k id = foldH ops S H0 M k id := by
      intro k
      induction k with
      | zero => rfl
      | succ k ih =>
        unfold foldH
        rw [ih]
        by_cases e : k = i
        · subst e; rw [if_neg (fun h => hw h.2), if_neg (fun h => hw h.2)]
        · rw [getD_set hi, if_neg e]
    exact this n
theorem foldT_set {n : Nat} {M : Array Bool} {i t : Nat} (hi : i < M.size) (hin : i < n) (hun : M.getD i false = false) (hlast : dstOf ops i = some t → ∀ j, j < n → i < j → dstOf ops j = some t → M.getD j false = false) :
    foldT ops S (M.setIfInBounds i true) n t = if dstOf ops i = some t then (S (i + 1)).tmps.get t else foldT ops S M n t := by
  by_cases hw : dstOf ops i = some t
  · rw [if_pos hw]
    have : ∀ k, k ≤ n → i < k → foldT ops S (M.setIfInBounds i true) k t = (S (i + 1)).tmps.get t := by
      intro k
      induction k with
      | zero => intro _ h; exact absurd h (Nat.not_lt_zero i)
      | succ k ih =>
        intro hk hik
        unfold foldT
        by_cases e : k = i
        · subst e; rw [if_pos ⟨by rw [getD_set hi]; simp, hw⟩]
        · rw [if_neg, ih (by omega) (by omega)]
          rintro ⟨h1, h2⟩
          rw [getD_set hi, if_neg e, hlast hw k (by omega) (by omega) h2] at h1
          cases h1
    exact this n (Nat.le_refl _) hin
  · rw [if_neg hw]
    have : ∀ k, foldT ops S (M.setIfInBounds i true) k t = foldT ops S M k t := by
      intro k
      induction k with
      | zero => rfl
      | succ k ih =>
        unfold foldT
        rw [ih]
        by_cases e : k = i
        · subst e; rw [if_neg (fun h => hw h.2), if_neg (fun h => hw h.2)]
        · rw [getD_set hi, if_neg e]
    exact this n
end
end
end Go.Proofs.Ytpaojoahbmlolaa
