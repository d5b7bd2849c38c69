/- Memory numbered anew goes with the real one as before. -/
import Derived.Test.YtpaojoahbmlolaaEvZ1
namespace Go.Proofs.Ytpaojoahbmlolaa
open Go Go.RowKit
set_option linter.unusedSectionVars false
set_option linter.unusedVariables false
set_option linter.unusedSimpArgs false
set_option linter.unnecessarySimpa false
section
variable {P : Program} [NoCx P] {B : Bd}

theorem ble_iff {a b : Nat} (h : Nat.ble a b = true) : a ≤ b := Nat.le_of_ble_eq_true h
theorem Tr.get_nd (o : Option VO) (l r : Tr) (k : Nat) : (Tr.nd o l r).get k = (Tr.node o l r).get k := by
  cases o with
  | some v => rfl
  | none => cases l with
    | node a b c => rfl
    | nil => cases r with
      | node a b c => rfl
      | nil =>
        show Tr.nil.get k = _
        rw [Tr.get_node]
        simp [Tr.get_nil]
theorem Tr.get_del : ∀ (t : Tr) (k j : Nat), (t.del k).get j = if j = k then none else t.get j
  | .nil, k, j => by rw [show Tr.del .nil k = .nil from by cases k <;> rfl, Tr.get_nil]; split <;> rfl
  | .node o l r, k, j => by
    unfold Tr.del
    by_cases h0 : k = 0
    · subst h0
      rw [show Nat.beq 0 0 = true from rfl]
      simp only
      rw [Tr.get_nd, Tr.get_node, Tr.get_node]
      by_cases hj : j = 0 <;> simp [hj]
    · rw [show Nat.beq k 0 = false from by cases hb : Nat.beq k 0 with
        | false => rfl
        | true => exact absurd (Nat.eq_of_beq_eq_true hb) h0]
      simp only
      by_cases h2 : k % 2 = 1
      · rw [show Nat.beq (Nat.mod k 2) 1 = true from by show Nat.beq (k % 2) 1 = true; rw [h2]; rfl]
        simp only
        rw [Tr.get_nd, Tr.get_node, Tr.get_node]
        by_cases hj : j = 0
        · rw [if_pos hj, if_pos hj, if_neg (by omega)]
        · rw [if_neg hj, if_neg hj]
          by_cases hj2 : j % 2 = 1
          · rw [if_pos hj2, if_pos hj2, Tr.get_del l]
            have hd : Nat.div (Nat.sub k 1) 2 = (k - 1) / 2 := rfl
            rw [hd]
            by_cases e : j = k
            · rw [if_pos (by rw [e]), if_pos e]
            · rw [if_neg (by omega), if_neg e]
          · rw [if_neg hj2, if_neg hj2, if_neg (by omega)]
      · rw [show Nat.beq (Nat.mod k 2) 1 = false from by
          have : k % 2 = 0 := by omega
          show Nat.beq (k % 2) 1 = false; rw [this]; rfl]
        simp only
        rw [Tr.get_nd, Tr.get_node, Tr.get_node]
        by_cases hj : j = 0
        · rw [if_pos hj, if_pos hj, if_neg (by omega)]
        · rw [if_neg hj, if_neg hj]
          by_cases hj2 : j % 2 = 1
          · rw [if_pos hj2, if_pos hj2, if_neg (by omega)]
          · rw [if_neg hj2, if_neg hj2, Tr.get_del r]
            have hd : Nat.div (Nat.sub k 1) 2 = (k - 1) / 2 := rfl
            rw [hd]
            by_cases e : j = k
            · rw [if_pos (by rw [e]), if_pos e]
            · rw [if_neg (by omega), if_neg e]
theorem Tr.get_dels : ∀ (k b : Nat) (t : Tr) (j : Nat), (Tr.dels k b t).get j = if b ≤ j ∧ j < b + k then none else t.get j
  | 0, b, t, j => by rw [if_neg (by omega)]; rfl
  | k + 1, b, t, j => by
    unfold Tr.dels
    rw [Tr.get_dels k, Tr.get_del]
    have : Nat.add b 1 = b + 1 := rfl
    rw [this]
    by_cases h1 : j = b
    · subst h1
      rw [if_neg (by omega), if_pos rfl, if_pos (by omega)]
    · by_cases h2 : b + 1 ≤ j ∧ j < b + 1 + k
      · rw [if_pos h2, if_pos (by omega)]
      · rw [if_neg h2, if_neg h1, if_neg (by omega)]
theorem setAll_get {f : Nat → Option VO} : ∀ (l : List Nat) (t t' : Tr), setAll f l t = some t' → (∀ j, j ∈ l → f j ≠ none) ∧ ∀ j, t'.get j = if j ∈ l then f j else t.get j
  | [], t, t', h => by
    simp only [setAll] at h; injection h with h; subst h
    exact ⟨fun j h => by simp at h, fun j => by simp⟩
  | i :: l, t, t', h => by
    simp only [setAll] at h
    split at h
    · rename_i v hv
      split at h
      · rename_i t1 h1
        obtain ⟨g1, g2⟩ := setAll_get l t1 t' h
        refine ⟨fun j hj => ?_, fun j => ?_⟩
        · rcases List.mem_cons.1 hj with rfl | hj
          · rw [hv]; simp
          · exact g1 j hj
        · rw [g2, Tr.get_set _ _ _ _ _ h1]
          by_cases e1 : j ∈ l
          · rw [if_pos e1, if_pos (by simp [e1])]
          · rw [if_neg e1]
            by_cases e2 : j = i
            · subst e2; rw [if_pos rfl, if_pos (by simp), hv]
            · rw [if_neg e2, if_neg (by simp [e1, e2])]
      · cases h
    · cases h
theorem lookB_mem : ∀ {l : List (Nat × Nat)} {b b' : Nat}, lookB l b = some b' → (b, b') ∈ l
  | [], b, b', h => by cases h
  | (o, x) :: l, b, b', h => by
    simp only [lookB] at h
    split at h
    · rename_i e
      injection h with h; subst h
      rw [Nat.eq_of_beq_eq_true e]; simp
    · exact List.mem_cons_of_mem _ (lookB_mem h)
theorem backB_mem : ∀ {l : List (Nat × Nat)} {b b' : Nat}, backB l b = some b' → (b', b) ∈ l
  | [], b, b', h => by cases h
  | (o, x) :: l, b, b', h => by
    simp only [backB] at h
    split at h
    · rename_i e
      injection h with h; subst h
      rw [Nat.eq_of_beq_eq_true e]; simp
    · exact List.mem_cons_of_mem _ (backB_mem h)
theorem backB_ex : ∀ {l : List (Nat × Nat)} {o b : Nat}, (o, b) ∈ l → ∃ o', backB l b = some o'
  | [], o, b, h => by simp at h
  | (o1, x) :: l, o, b, h => by
    simp only [backB]
    cases e : Nat.beq x b with
    | true => exact ⟨_, rfl⟩
    | false =>
      rcases List.mem_cons.1 h with h | h
      · injection h with h1 h2; subst h2; rw [Nat.beq_refl] at e; cases e
      · exact backB_ex h
/-- no number twice -/
def OneB (l : List (Nat × Nat)) : Prop := ∀ p q, p ∈ l → q ∈ l → (p.1 = q.1 ∨ p.2 = q.2) → p = q
theorem back_look {l : List (Nat × Nat)} (h : OneB l) {b b' : Nat} (e : lookB l b = some b') : backB l b' = some b := by
  have m := lookB_mem e
  obtain ⟨o, ho⟩ := backB_ex m
  have := h _ _ m (backB_mem ho) (.inr rfl)
  injection this with h1 _
  rw [ho, h1]

theorem lor_tb (a b i : Nat) : (Nat.lor a b).testBit i = (a.testBit i || b.testBit i) := Nat.testBit_or a b i
theorem mod_bits {x n : Nat} (i : Nat) : (Nat.mod x (bitOf n)).testBit i = (decide (i < n) && x.testBit i) := by
  show (x % (1 <<< n)).testBit i = _
  rw [Nat.one_shiftLeft, Nat.testBit_mod_two_pow]
theorem win_bits {n m : Nat} (h : n ≤ m) (i : Nat) : (winM n m).testBit i = (decide (n ≤ i) && decide (i < m)) := by
  show ((1 <<< m) - (1 <<< n)).testBit i = _
  rw [Nat.one_shiftLeft, Nat.one_shiftLeft]
  have e : 2 ^ m - 2 ^ n = 2 ^ n * (2 ^ (m - n) - 1) := by
    rw [Nat.mul_sub, ← Nat.pow_add, Nat.mul_one, show n + (m - n) = m by omega]
  rw [e, Nat.testBit_two_pow_mul, Nat.testBit_two_pow_sub_one]
  by_cases h1 : n ≤ i
  · by_cases h2 : i < m
    · simp [h1, h2]; omega
    · simp [h1, h2]; omega
  · simp [h1]
theorem lor_win {x n m : Nat} (h : n ≤ m) (i : Nat) : (Nat.lor (Nat.mod x (bitOf n)) (winM n m)).testBit i = ((decide (i < n) && x.testBit i) || (decide (n ≤ i) && decide (i < m))) := by
  show (Nat.mod x (bitOf n) ||| winM n m).testBit i = _
  rw [Nat.testBit_or, mod_bits, win_bits h]
theorem lt_bits {x m : Nat} (h : x < bitOf m) {i : Nat} (hi : m ≤ i) : x.testBit i = false := by
  have : bitOf m = 2 ^ m := by show 1 <<< m = _; rw [Nat.one_shiftLeft]
  rw [this] at h
  exact Nat.testBit_lt_two_pow (Nat.lt_of_lt_of_le h (Nat.pow_le_pow_right (by omega) hi))

structure CanonS (n m : Nat) (ρ : List (Nat × Nat)) (js : List Nat) (nx xr xw : Nat) (s1 s2 : St) : Prop where
  nnx : n ≤ nx
  nxm : nx ≤ m
  low : s1.hs.next ≤ m
  one : OneB ρ
  olds : ∀ p, p ∈ ρ → n ≤ p.1 ∧ p.1 < s1.hs.next ∧ n ≤ p.2 ∧ p.2 < nx
  rdm : ∀ i, m ≤ i → s1.hs.rd.testBit i = false
  wrm : ∀ i, m ≤ i → s1.hs.wr.testBit i = false
  tmps : renT (renV n ρ 20) (s1.tmps.upds (js.map fun k => (k, junk))) = some s2.tmps
  defs : renDs n ρ s1.defs = some s2.defs
  next : s2.hs.next = nx
  rd : ∀ i, s2.hs.rd.testBit i = ((decide (i < n) && (s1.hs.rd.testBit i || (xr.testBit i || xw.testBit i))) || (decide (n ≤ i) && decide (i < m)))
  wr : ∀ i, s2.hs.wr.testBit i = ((decide (i < n) && (s1.hs.wr.testBit i || xw.testBit i)) || (decide (n ≤ i) && decide (i < m)))
  out : ∀ i, i < n → s1.hs.wr.testBit i = true → (∃ v u, s1.hs.heap.get i = some v ∧ renO n ρ v = some u ∧ s2.hs.heap.get i = some u) ∨ (s1.hs.heap.get i = none ∧ s2.hs.heap.get i = none)
  same : ∀ i, i < n → s1.hs.wr.testBit i = false → s2.hs.heap.get i = s1.hs.heap.get i
  win : ∀ i o, backB ρ i = some o → ∃ v u, s1.hs.heap.get o = some v ∧ renO n ρ v = some u ∧ s2.hs.heap.get i = some u
  gone : ∀ i, n ≤ i → backB ρ i = none → i < s1.hs.next → s2.hs.heap.get i = none
  past : ∀ i, n ≤ i → backB ρ i = none → s1.hs.next ≤ i → s2.hs.heap.get i = s1.hs.heap.get i

theorem canon_spec {n m : Nat} {ρ : List (Nat × Nat)} {js : List Nat} {nx xr xw : Nat} {s1 s2 : St} (h : canonS n m ρ js nx xr xw s1 = some s2) (hok : canonOk n m ρ nx s1 = true) : CanonS n m ρ js nx xr xw s1 s2 := by
  unfold canonOk at hok
  simp only [Bool.and_eq_true] at hok
  obtain ⟨⟨⟨⟨⟨⟨h1, h2⟩, h3⟩, h4⟩, h5⟩, h6⟩, h7⟩ := hok
  have h1 := ble_iff h1
  have h2 := ble_iff h2
  have h3 := ble_iff h3
  have h6 := blt_iff.1 h6
  have h7 := blt_iff.1 h7
  have holds : ∀ p, p ∈ ρ → n ≤ p.1 ∧ p.1 < s1.hs.next ∧ n ≤ p.2 ∧ p.2 < nx := fun p hp => by
    have := List.all_eq_true.1 h4 p hp
    simp only [Bool.and_eq_true] at this
    exact ⟨ble_iff this.1.1.1, blt_iff.1 this.1.1.2, ble_iff this.1.2, blt_iff.1 this.2⟩
  have hone : OneB ρ := by
    intro p q hp hq he
    obtain ⟨i, hi, rfl⟩ := List.getElem_of_mem hp
    obtain ⟨j, hj, rfl⟩ := List.getElem_of_mem hq
    have key : ∀ a b (ha : a < ρ.length) (hb : b < ρ.length), b < a → ¬ (ρ[a].1 = ρ[b].1) ∧ ¬ (ρ[a].2 = ρ[b].2) := fun a b ha hb hab => by
      have := List.all_eq_true.1 h5 a (by simpa using ha)
      have := List.all_eq_true.1 this b (by simpa using hab)
      simp only [Bool.and_eq_true, List.getD_eq_getElem?_getD, List.getElem?_eq_getElem ha, List.getElem?_eq_getElem hb, Option.getD_some, Bool.not_eq_true'] at this
      exact ⟨fun e => by rw [e, Nat.beq_refl] at this; exact absurd this.1 (by simp), fun e => by rw [e, Nat.beq_refl] at this; exact absurd this.2 (by simp)⟩
    rcases Nat.lt_trichotomy i j with e | e | e
    · have := key j i hj hi e
      rcases he with he | he
      · exact absurd he.symm this.1
      · exact absurd he.symm this.2
    · subst e; rfl
    · have := key i j hi hj e
      rcases he with he | he
      · exact absurd he this.1
      · exact absurd he this.2
  unfold canonS at h
  split at h
  · rename_i t ds ht hds
    split at h
    · rename_i t1 hs1
      split at h
      · rename_i t2 hs2
        simp only [force_eq] at h
        injection h with h
        subst h
        obtain ⟨a1, a2⟩ := setAll_get _ _ _ hs1
        obtain ⟨b1, b2⟩ := setAll_get _ _ _ hs2
        have mem2 : ∀ i, i ∈ ρ.map (·.2) ↔ ∃ o, backB ρ i = some o := fun i => by
          constructor
          · intro hi
            obtain ⟨p, hp, rfl⟩ := List.mem_map.1 hi
            exact backB_ex (o := p.1) hp
          · rintro ⟨o, ho⟩
            exact List.mem_map.2 ⟨_, backB_mem ho, rfl⟩
        have mem1 : ∀ i, i ∈ (List.range n).filter (fun j => Nat.testBit s1.hs.wr j && (s1.hs.heap.get j).isSome) ↔ i < n ∧ (s1.hs.wr.testBit i = true ∧ s1.hs.heap.get i ≠ none) := fun i => by
          simp only [List.mem_filter, List.mem_range, Bool.and_eq_true]
          cases s1.hs.heap.get i <;> simp
        have hsub : Nat.sub s1.hs.next n = s1.hs.next - n := rfl
        have low2 : ∀ i, i < n → ¬ i ∈ ρ.map (·.2) := fun i hi hm => by
          obtain ⟨p, hp, rfl⟩ := List.mem_map.1 hm
          have := (holds p hp).2.2.1
          omega
        refine ⟨h1, h2, h3, hone, holds, fun i hi => lt_bits h6 hi, fun i hi => lt_bits h7 hi, ht, hds, rfl, (fun i => by show (Nat.lor (Nat.mod (Nat.lor s1.hs.rd (Nat.lor xr xw)) (bitOf n)) (winM n m)).testBit i = _; rw [lor_win (by omega), lor_tb, lor_tb]), (fun i => by show (Nat.lor (Nat.mod (Nat.lor s1.hs.wr xw) (bitOf n)) (winM n m)).testBit i = _; rw [lor_win (by omega), lor_tb]), fun i hi hw => ?_, fun i hi hw => ?_, fun i o ho => ?_, fun i hi hb hlt => ?_, fun i hi hb hlt => ?_⟩
        · cases hg : s1.hs.heap.get i with
          | none =>
            refine .inr ⟨rfl, ?_⟩
            show t2.get i = _
            rw [b2, if_neg (low2 i hi), a2, if_neg (fun h => ((mem1 i).1 h).2.2 hg), Tr.get_dels, if_neg (by omega)]
            exact hg
          | some v =>
            have hin := (mem1 i).2 ⟨hi, hw, by rw [hg]; simp⟩
            have e1 := a1 i hin
            (try simp only at e1)
            rw [hg] at e1
            (try simp only at e1)
            cases hr : renO n ρ v with
            | none => exact absurd hr e1
            | some u =>
              refine .inl ⟨v, u, rfl, hr, ?_⟩
              show t2.get i = _
              rw [b2, if_neg (low2 i hi), a2, if_pos hin, hg]
              exact hr
        · show t2.get i = _
          rw [b2, if_neg (low2 i hi), a2, if_neg (fun h => by have := ((mem1 i).1 h).2.1; rw [hw] at this; cases this), Tr.get_dels, if_neg (by omega)]
        · have hm := (mem2 i).2 ⟨o, ho⟩
          have e1 := b1 i hm
          (try simp only [ho] at e1)
          cases hg : s1.hs.heap.get o with
          | none => rw [hg] at e1; exact absurd rfl e1
          | some v =>
            rw [hg] at e1
            (try simp only at e1)
            cases hr : renO n ρ v with
            | none => exact absurd hr e1
            | some u =>
              refine ⟨v, u, rfl, hr, ?_⟩
              show t2.get i = _
              rw [b2, if_pos hm]
              simp only [ho, hg, hr]
        · show t2.get i = _
          rw [b2, if_neg (fun h => by obtain ⟨o, ho⟩ := (mem2 i).1 h; rw [hb] at ho; cases ho), a2, if_neg (fun h => by have := ((mem1 i).1 h).1; omega), Tr.get_dels, if_pos (by rw [hsub]; omega)]
        · show t2.get i = _
          rw [b2, if_neg (fun h => by obtain ⟨o, ho⟩ := (mem2 i).1 h; rw [hb] at ho; cases ho), a2, if_neg (fun h => by have := ((mem1 i).1 h).1; omega), Tr.get_dels, if_neg (by rw [hsub]; omega)]
      · cases h
    · cases h
  · cases h

/-- a step, numbered anew -/
theorem canon_step {n m : Nat} {ρ : List (Nat × Nat)} {js : List Nat} {nx xr xw : Nat} {s0 s1 s2 : St} (hc : CanonS n m ρ js nx xr xw s1 s2) (hn : n = s0.hs.next) (hr0 : s0.hs.rd < bitOf n) (hw0 : s0.hs.wr < bitOf n) (h : VStep s0.hs s1.hs) : VStep s0.hs s2.hs := by
  refine ⟨by rw [hc.next, ← hn]; exact hc.nnx, fun i e => ?_, fun i e => ?_, fun i e => ?_, fun i e f => ?_, fun e i hi => ?_⟩
  · rw [hc.rd]
    have : i < n := Nat.lt_of_not_le fun hle => by rw [lt_bits hr0 hle] at e; cases e
    simp [this, h.rd i e]
  · rw [hc.wr]
    have : i < n := Nat.lt_of_not_le fun hle => by rw [lt_bits hw0 hle] at e; cases e
    simp [this, h.wr i e]
  · rw [hc.wr] at e
    simp only [Bool.or_eq_false_iff, Bool.and_eq_false_iff, decide_eq_false_iff_not] at e
    have hwin := e.2
    by_cases hi : i < n
    · have hw : s1.hs.wr.testBit i = false := by
        rcases e.1 with e1 | e1
        · exact absurd hi e1
        · exact e1.1
      rw [hc.same i hi hw]; exact h.keep i hw
    · have him : m ≤ i := by omega
      have hb : backB ρ i = none := by
        cases hb : backB ρ i with
        | none => rfl
        | some o => have := (hc.olds _ (backB_mem hb)).2.2.2; have := hc.nxm; omega
      rw [hc.past i (by omega) hb (Nat.le_trans hc.low him)]
      exact h.keep i (hc.wrm i him)
  · rw [hc.wr]
    have := hc.nxm
    rw [hc.next] at f
    simp [show n ≤ i by omega, show i < m by omega]
  · rw [hc.next] at hi
    have hb : backB ρ i = none := by
      cases hb : backB ρ i with
      | none => rfl
      | some o => have := (hc.olds _ (backB_mem hb)).2.2.2; omega
    have hnx := hc.nnx
    by_cases hlt : i < s1.hs.next
    · exact hc.gone i (by omega) hb hlt
    · rw [hc.past i (by omega) hb (by omega)]
      exact h.fresh e i (by omega)

/-- what is so at the loop's head, whatever round -/
structure Base (P : Program) (B : Bd) (n m : Nat) (σ0 : Ren) (H : Nat → Option VO) : Prop where
  dom : ∀ i, σ0 i = none ↔ H i = none
  win : ∀ i, n ≤ i → i < m → H i = none
  objs : ∀ i b κ v, σ0 i = some (b, κ) → H i = some v → v.alive = true → ∃ o, XRel P σ0 κ v o
  g : B.g ≤ n
theorem canon_match {n m : Nat} {ρ : List (Nat × Nat)} {js : List Nat} {nx xr xw : Nat} {s1 s2 : St} (hc : CanonS n m ρ js nx xr xw s1 s2) {σ0 σ1 : Ren} {H : Nat → Option VO} (hb : Base P B n m σ0 H) (hle : Ren.le σ0 σ1) {w : World} {a : Act}
    (hm : Match P B σ1 (upd H s1.hs) w) (hf : ∀ i, s1.hs.next ≤ i → s1.hs.heap.get i = none) (hmade : ∀ i, n ≤ i → i < s1.hs.next → s1.hs.wr.testBit i = true) (hx : ∀ i, i < n → s1.hs.wr.testBit i = false → xw.testBit i = true → H i = s1.hs.heap.get i) (ht : TR σ1 s1.tmps a.tmps) (hd : DL σ1 s1.defs a.defers) :
    ∃ σ2, Ren.le σ0 σ2 ∧ Match P B σ2 (upd H s2.hs) w ∧ TR σ2 s2.tmps a.tmps ∧ DL σ2 s2.defs a.defers := by
  obtain ⟨σ2, hσ⟩ : ∃ σ2 : Ren, σ2 = fun i => if n ≤ i ∧ i < m then (backB ρ i).bind σ1 else σ1 i := ⟨_, rfl⟩
  have hout : ∀ i, ¬ (n ≤ i ∧ i < m) → σ2 i = σ1 i := fun i h => by rw [hσ]; simp only [if_neg h]
  have hwin : ∀ i, n ≤ i → i < m → σ2 i = (backB ρ i).bind σ1 := fun i h1 h2 => by rw [hσ]; simp only [if_pos (And.intro h1 h2)]
  have h0 : ∀ i, n ≤ i → i < m → σ0 i = none := fun i h1 h2 => (hb.dom i).2 (hb.win i h1 h2)
  have hren : Renum n ρ σ1 σ2 := by
    intro b b' p e1 e2
    unfold renB at e1
    split at e1
    · rename_i hlt
      injection e1 with e1; subst e1
      rw [hout b (by have := blt_iff.1 hlt; omega)]; exact e2
    · have hmem := lookB_mem e1
      obtain ⟨o1, o2, o3, o4⟩ := hc.olds _ hmem
      have := hc.nxm
      rw [hwin b' o3 (by simp only at o4; omega), back_look hc.one e1]
      exact e2
  have hag : ∀ b p, σ0 b = some p → σ2 b = σ1 b := fun b p e => hout b fun h => by rw [h0 b h.1 h.2] at e; cases e
  -- what stands at a number, and where it stood
  have wrw : ∀ i, n ≤ i → i < m → s2.hs.wr.testBit i = true := fun i h1 h2 => by rw [hc.wr]; simp [h1, h2]
  have wro : ∀ i, ¬ (n ≤ i ∧ i < m) → s1.hs.wr.testBit i = true → i < n ∧ s2.hs.wr.testBit i = true := fun i h hw => by
    have hi : i < n := by
      rcases Nat.lt_or_ge i n with h2 | h2
      · exact h2
      · have : m ≤ i := by omega
        rw [hc.wrm i this] at hw; cases hw
    refine ⟨hi, ?_⟩
    rw [hc.wr]; simp [hi, hw]
  have wrn : ∀ i, ¬ (n ≤ i ∧ i < m) → s1.hs.wr.testBit i = false → upd H s2.hs i = H i := fun i h hw => by
    cases hw2 : s2.hs.wr.testBit i with
    | false => exact upd_else hw2
    | true =>
      rw [hc.wr, hw] at hw2
      have hi : i < n := by
        rcases Nat.lt_or_ge i n with h2 | h2
        · exact h2
        · have h3 : ¬ i < n := by omega
          have h4 : ¬ i < m := by omega
          simp [h3, h4] at hw2
      have h3 : ¬ n ≤ i := by omega
      have hxw : xw.testBit i = true := by simpa [hi, h3] using hw2
      rw [upd_at (by rw [hc.wr]; simp [hi, hxw]), hc.same i hi hw]
      exact (hx i hi hw hxw).symm
  have at_ : ∀ i u, upd H s2.hs i = some u → ∃ j v, upd H s1.hs j = some v ∧ σ2 i = σ1 j ∧ v.alive = u.alive ∧ (∀ κ b o, σ1 j = some (b, κ) → u.alive = true → XRel P σ1 κ v o → XRel P σ2 κ u o) ∧ ((¬ (n ≤ i ∧ i < m) ∧ j = i) ∨ ((n ≤ i ∧ i < m) ∧ backB ρ i = some j)) ∧ (∀ c e, u = .glob c e → v = u ∧ ¬ (n ≤ i ∧ i < m)) ∧ v.still = u.still ∧ (∀ κ b, NRel σ1 w b κ v → NRel σ2 w b κ u) := by
    intro i u hu
    by_cases hi : n ≤ i ∧ i < m
    · rw [upd_at (wrw i hi.1 hi.2)] at hu
      cases hbk : backB ρ i with
      | none =>
        exfalso
        by_cases hlt : i < s1.hs.next
        · rw [hc.gone i hi.1 hbk hlt] at hu; cases hu
        · rw [hc.past i hi.1 hbk (by omega), hf i (by omega)] at hu; cases hu
      | some o =>
        obtain ⟨v, u', e1, e2, e3⟩ := hc.win i o hbk
        rw [e3] at hu
        injection hu with hu; subst hu
        obtain ⟨o1, o2, o3, o4⟩ := hc.olds _ (backB_mem hbk)
        have hs1 : upd H s1.hs o = some v := by
          cases hw : s1.hs.wr.testBit o with
          | true => rw [upd_at hw]; exact e1
          | false =>
            exfalso
            rw [hmade o o1 o2] at hw; cases hw
        obtain ⟨z1, z3, z2⟩ := renO_alive e2
        refine ⟨o, v, hs1, by rw [hwin i hi.1 hi.2, hbk]; rfl, z1, fun κ b o' _ _ hx => renO_rel hren e2 hx, .inr ⟨hi, rfl⟩, fun c e h => absurd h (z2 c e), z3, fun κ b hn => renO_non hren e2 hn⟩
    · cases hw1 : s1.hs.wr.testBit i with
      | false =>
        rw [wrn i hi hw1] at hu
        refine ⟨i, u, by rw [upd_else hw1]; exact hu, hout i hi, rfl, fun κ b o hσ1 ha hx => ?_, .inl ⟨hi, rfl⟩, fun c e _ => ⟨rfl, hi⟩, rfl, fun κ b hn => non_dom hn⟩
        cases hs0 : σ0 i with
        | none => rw [(hb.dom i).1 hs0] at hu; cases hu
        | some p =>
          obtain ⟨o0, ho⟩ := hb.objs i p.1 p.2 u hs0 hu ha
          exact xrel_dom hag ho hx
      | true =>
        obtain ⟨hin, hw⟩ := wro i hi hw1
        rw [upd_at hw] at hu
        rcases hc.out i hin hw1 with ⟨v, u', e1, e2, e3⟩ | ⟨_, e3⟩
        case inr => rw [e3] at hu; cases hu
        rw [e3] at hu
        injection hu with hu; subst hu
        obtain ⟨z1, z3, z2⟩ := renO_alive e2
        exact ⟨i, v, by rw [upd_at hw1]; exact e1, hout i hi, z1, fun κ b o' _ _ hx => renO_rel hren e2 hx, .inl ⟨hi, rfl⟩, fun c e h => absurd h (z2 c e), z3, fun κ b hn => renO_non hren e2 hn⟩
  have none_ : ∀ i, upd H s2.hs i = none → σ2 i = none := by
    intro i hu
    by_cases hi : n ≤ i ∧ i < m
    · rw [upd_at (wrw i hi.1 hi.2)] at hu
      rw [hwin i hi.1 hi.2]
      cases hbk : backB ρ i with
      | none => rfl
      | some o =>
        obtain ⟨v, u', e1, e2, e3⟩ := hc.win i o hbk
        rw [e3] at hu; cases hu
    · rw [hout i hi]
      refine (hm.dom i).2 ?_
      cases hw : s1.hs.wr.testBit i with
      | false => rw [upd_else hw]; rw [wrn i hi hw] at hu; exact hu
      | true =>
        obtain ⟨hin, hw2⟩ := wro i hi hw
        rw [upd_at hw2] at hu
        rcases hc.out i hin hw with ⟨v, u', e1, e2, e3⟩ | ⟨e1, _⟩
        · rw [e3] at hu; cases hu
        · rw [upd_at hw]; exact e1
  refine ⟨σ2, fun i b e => by rw [hag i b e]; exact hle i b e, ⟨fun i => ⟨fun e => ?_, none_ i⟩, fun i b κ v e1 e2 e3 => ?_, fun i b κ v e1 e2 e3 => ?_, fun i j b κ κ' v v' e1 e2 e3 e4 e5 e6 => ?_, fun g hg => ?_, fun i c e e1 => ?_, fun i b κ v e1 e2 => ?_, fun i j b κ κ' v v' e1 e2 e3 e4 e5 e6 => ?_⟩, fun k => ?_, renDs_rel hren hc.defs hd⟩
  · cases hu : upd H s2.hs i with
    | none => rfl
    | some u =>
      exfalso
      obtain ⟨j, v, h1, h2, _⟩ := at_ i u hu
      rw [h2] at e
      have := (hm.dom j).1 e
      rw [h1] at this; cases this
  · obtain ⟨j, u, h1, h2, h3, _⟩ := at_ i v e2
    rw [h2] at e1
    exact hm.old j b κ u e1 h1 (by rw [h3]; exact e3)
  · obtain ⟨j, u, h1, h2, h3, h4, _⟩ := at_ i v e2
    rw [h2] at e1
    obtain ⟨o', g1, g2⟩ := hm.objX j b κ u e1 h1 (by rw [h3]; exact e3)
    exact ⟨o', g1, h4 κ b o' e1 e3 g2⟩
  · obtain ⟨x, u, h1, h2, h3, _, h5, _⟩ := at_ i v e3
    obtain ⟨y, u', k1, k2, k3, _, k5, _⟩ := at_ j v' e4
    rw [h2] at e1
    rw [k2] at e2
    have hxy := hm.injX x y b κ κ' u u' e1 e2 h1 k1 (by rw [h3]; exact e5) (by rw [k3]; exact e6)
    subst hxy
    rcases h5 with ⟨p1, p2⟩ | ⟨p1, p2⟩
    · rcases k5 with ⟨q1, q2⟩ | ⟨q1, q2⟩
      · omega
      · obtain ⟨o1, o2, _, _⟩ := hc.olds _ (backB_mem q2)
        have := hc.low
        simp only at o1 o2
        omega
    · rcases k5 with ⟨q1, q2⟩ | ⟨q1, q2⟩
      · obtain ⟨o1, o2, _, _⟩ := hc.olds _ (backB_mem p2)
        have := hc.low
        simp only at o1 o2
        omega
      · have := hc.one _ _ (backB_mem p2) (backB_mem q2) (.inl rfl)
        injection this
  · rw [hout g (by have := hb.g; omega)]
    exact hm.low g hg
  · obtain ⟨j, v, h1, h2, _, _, h5, h6, _, _⟩ := at_ i _ e1
    obtain ⟨h7, h8⟩ := h6 c e rfl
    subst h7
    rcases h5 with ⟨_, h5⟩ | ⟨h5, _⟩
    · subst h5; exact hm.glob j c e h1
    · exact absurd h5 h8
  · obtain ⟨j, u, h1, h2, _, _, _, _, _, h9⟩ := at_ i v e2
    rw [h2] at e1
    exact h9 κ b (hm.non j b κ u e1 h1)
  · obtain ⟨x, u, h1, h2, _, _, _, _, h8, _⟩ := at_ i v e3
    obtain ⟨y, u', k1, k2, k3, _, _, _, _, _⟩ := at_ j v' e4
    rw [h2] at e1
    rw [k2] at e2
    exact hm.sep x y b κ κ' u u' e1 e2 h1 k1 (by rw [h8]; exact e5) (by rw [k3]; exact e6)
  · exact renT_rel (renV_rel hren 20) (renV_junk 20) hc.tmps k _ (upds_junk js _ ht k)
end
end Go.Proofs.Ytpaojoahbmlolaa
