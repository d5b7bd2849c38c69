/- A region that draws its order: the law. -/
import Derived.Test.YtpaojoahbmlolaaEvO
namespace Go.Proofs.Ytpaojoahbmlolaa
open Go Go.RowKit
set_option linter.unusedSectionVars false
set_option linter.unusedVariables false
set_option linter.unusedSimpArgs false
set_option linter.unnecessarySimpa false
section
variable {P : Program} [NoCx P] {B : Bd} {call : CallV} {ops : Array Oper} {S : Nat → St} {m : List (Nat × Nat)} {H0 : Nat → Option VO}

structure DInv (P : Program) (B : Bd) (ops : Array Oper) (S : Nat → St) (H0 : Nat → Option VO) (w0 : World) (D : List Deferred) (M : Array Bool) (σ : Ren) (a : Act) (w : World) : Prop where
  size : M.size = ops.size
  closed : Closed ops M
  mat : Match P B σ (foldH ops S H0 M ops.size) w
  tm : ∀ t, SR σ (foldT ops S M ops.size t) (a.tmps[t]?)
  tsize : ∀ t, (a.tmps[t]?).isNone = ((S 0).tmps.get t).isNone
  defers : a.defers = D
  below : Below B.b w0 w
  hB : Ok B w

theorem busy_mem : ∀ (l : List (Nat × Nat)) (k i r w : Nat), l[i]? = some (r, w) → Nat.lor r w ≠ 0 → (k + i, r, w) ∈ busy k l
  | [], k, i, r, w, h, _ => by simp at h
  | (r0, w0) :: l, k, 0, r, w, h, hn => by
    simp only [List.getElem?_cons_zero, Option.some.injEq, Prod.mk.injEq] at h
    obtain ⟨rfl, rfl⟩ := h
    have : Nat.beq (Nat.lor r0 w0) 0 = false := by
      cases hb : Nat.beq (Nat.lor r0 w0) 0 with
      | false => rfl
      | true => exact absurd (Nat.eq_of_beq_eq_true hb) hn
    unfold busy
    rw [this]
    simp
  | (r0, w0) :: l, k, i + 1, r, w, h, hn => by
    have := busy_mem l (k + 1) i r w (by simpa using h) hn
    have e : k + 1 + i = k + (i + 1) := by omega
    rw [e] at this
    unfold busy
    have hadd : Nat.add k 1 = k + 1 := rfl
    split
    · exact this
    · exact List.mem_cons_of_mem _ this
theorem dyn_spec {anc : List Nat} : ∀ (l : List (Nat × Nat)) (k : Nat), dynOk anc (busy k l) = true → ∀ i j r w r' w', i < j → l[i]? = some (r, w) → l[j]? = some (r', w') → Nat.lor r w ≠ 0 → Nat.lor r' w' ≠ 0 →
    (anc.getD (k + j) 0).testBit (k + i) = true ∨ (Nat.land w (Nat.lor r' w') = 0 ∧ Nat.land w' r = 0)
  | [], k, h, i, j, r, w, r', w', hij, hi, hj, _, _ => by simp at hi
  | (r0, w0) :: l, k, h, 0, j + 1, r, w, r', w', hij, hi, hj, h1, h2 => by
    simp only [List.getElem?_cons_zero, Option.some.injEq, Prod.mk.injEq] at hi
    obtain ⟨rfl, rfl⟩ := hi
    have : Nat.beq (Nat.lor r0 w0) 0 = false := by
      cases hb : Nat.beq (Nat.lor r0 w0) 0 with
      | false => rfl
      | true => exact absurd (Nat.eq_of_beq_eq_true hb) h1
    unfold busy at h
    rw [this] at h
    simp only [dynOk, Bool.and_eq_true] at h
    have hm := busy_mem l (k + 1) j r' w' (by simpa using hj) h2
    have := List.all_eq_true.1 h.1 _ hm
    simp only [Bool.or_eq_true, Bool.and_eq_true] at this
    have e : k + 1 + j = k + (j + 1) := by omega
    rw [e] at this
    rcases this with h3 | ⟨h3, h4⟩
    · exact .inl h3
    · exact .inr ⟨Nat.eq_of_beq_eq_true h3, Nat.eq_of_beq_eq_true h4⟩
  | (r0, w0) :: l, k, h, i + 1, j + 1, r, w, r', w', hij, hi, hj, h1, h2 => by
    have h' : dynOk anc (busy (k + 1) l) = true := by
      unfold busy at h
      split at h
      · exact h
      · simp only [dynOk, Bool.and_eq_true] at h; exact h.2
    have := dyn_spec l (k + 1) h' i j r w r' w' (by omega) (by simpa using hi) (by simpa using hj) h1 h2
    have e1 : k + 1 + i = k + (i + 1) := by omega
    have e2 : k + 1 + j = k + (j + 1) := by omega
    rwa [e1, e2] at this
  | (r0, w0) :: l, k, h, i, 0, r, w, r', w', hij, hi, hj, _, _ => by omega

/-- two operations that don't wait for each other don't meet -/
theorem meet_spec {anc : List Nat} {n : Nat} (hch : Chain P call ops n S m) (hn : n = ops.size) (hst : statOk ops anc = true) (h : dynOk anc (busy 0 m) = true) {i j : Nat} (hij : i < j) (hj : j < ops.size) :
    (anc.getD j 0).testBit i = true ∨
      ((∀ x y, ops[i]? = some x → ops[j]? = some y → x.apart ops y = true) ∧
       (∀ id, (S (i + 1)).hs.wr.testBit id = true → (S (j + 1)).hs.rd.testBit id = false ∧ (S (j + 1)).hs.wr.testBit id = false) ∧
       (∀ id, (S (j + 1)).hs.wr.testBit id = true → (S (i + 1)).hs.rd.testBit id = false)) := by
  unfold statOk at hst
  have h1 := List.all_eq_true.1 (List.all_eq_true.1 hst j (List.mem_range.2 hj)) i (List.mem_range.2 hij)
  simp only [Bool.or_eq_true] at h1
  rcases h1 with h1 | h1
  · exact .inl h1
  · have mi := hch.mark i (by omega)
    have mj := hch.mark j (by omega)
    have zero : ∀ {r w : Nat}, Nat.lor r w = 0 → ∀ id, r.testBit id = false ∧ w.testBit id = false := fun {r w} e id => by
      have e : r ||| w = 0 := e
      have := congrArg (fun k => Nat.testBit k id) e
      simpa only [Nat.testBit_or, Nat.zero_testBit, Bool.or_eq_false_iff] using this
    have key : (anc.getD j 0).testBit i = true ∨ ((∀ id, (S (i + 1)).hs.wr.testBit id = true → (S (j + 1)).hs.rd.testBit id = false ∧ (S (j + 1)).hs.wr.testBit id = false) ∧
       (∀ id, (S (j + 1)).hs.wr.testBit id = true → (S (i + 1)).hs.rd.testBit id = false)) := by
      by_cases zi : Nat.lor (S (i + 1)).hs.rd (S (i + 1)).hs.wr = 0
      · have := zero zi
        exact .inr ⟨(fun id hid => by rw [(this id).2] at hid; cases hid), fun id _ => (this id).1⟩
      · by_cases zj : Nat.lor (S (j + 1)).hs.rd (S (j + 1)).hs.wr = 0
        · have := zero zj
          exact .inr ⟨fun id _ => this id, (fun id hid => by rw [(this id).2] at hid; cases hid)⟩
        · have := dyn_spec m 0 h i j _ _ _ _ hij mi mj zi zj
          rw [Nat.zero_add, Nat.zero_add] at this
          rcases this with h3 | ⟨h3, h4⟩
          · exact .inl h3
          · have e1 : (S (i + 1)).hs.wr &&& ((S (j + 1)).hs.rd ||| (S (j + 1)).hs.wr) = 0 := h3
            have e2 : (S (j + 1)).hs.wr &&& (S (i + 1)).hs.rd = 0 := h4
            refine .inr ⟨fun id hid => ?_, fun id hid => ?_⟩
            · have := congrArg (fun k => Nat.testBit k id) e1
              simp only [Nat.testBit_and, Nat.testBit_or, hid, Bool.true_and, Nat.zero_testBit, Bool.or_eq_false_iff] at this
              exact this
            · have := congrArg (fun k => Nat.testBit k id) e2
              simpa only [Nat.testBit_and, hid, Bool.true_and, Nat.zero_testBit] using this
    rcases key with h3 | h3
    · exact .inl h3
    · exact .inr ⟨fun x y hx hy => by rw [hx, hy] at h1; exact h1, h3⟩

/-- how many are still to come -/
def cnt (M : Array Bool) : Nat := M.toList.countP (fun b => !b)
theorem cnt_set {M : Array Bool} {i : Nat} (hi : i < M.size) (h : M.getD i false = false) : cnt (M.setIfInBounds i true) + 1 = cnt M := by
  unfold cnt
  rw [Array.toList_setIfInBounds]
  have hl : i < M.toList.length := by simpa using hi
  have hv : M.toList[i] = false := by simpa [hi] using h
  have : ∀ (l : List Bool) (k : Nat) (hk : k < l.length), l[k] = false → (l.set k true).countP (fun b => !b) + 1 = l.countP (fun b => !b) := by
    intro l
    induction l with
    | nil => intro k hk; simp at hk
    | cons a l ih =>
      intro k hk he
      cases k with
      | zero =>
        simp only [List.getElem_cons_zero] at he
        subst he
        simp [List.countP_cons]
      | succ k =>
        simp only [List.getElem_cons_succ] at he
        have := ih k (by simpa using hk) he
        simp only [List.set_cons_succ, List.countP_cons]
        omega
  exact this _ _ hl hv
theorem cnt_zero {M : Array Bool} (h : cnt M = 0) : ∀ j, j < M.size → M.getD j false = true := by
  intro j hj
  unfold cnt at h
  rw [List.countP_eq_zero] at h
  have := h M[j] (by simp)
  simp at this
  simp [hj, this]

theorem ready_mem {M : Array Bool} {i : Nat} (h : i ∈ Region.ready .any ops M) : i < ops.size ∧ M.getD i true = false ∧ ∃ o, ops[i]? = some o ∧ ∀ e ∈ o.after, Region.binds .any e = true → M.getD e.on false = true := by
  unfold Region.ready at h
  obtain ⟨h1, h2⟩ := List.mem_filter.1 h
  have h1 := List.mem_range.1 h1
  simp only [Bool.and_eq_true, Bool.not_eq_true'] at h2
  refine ⟨h1, h2.1, ?_⟩
  cases ho : ops[i]? with
  | none => rw [ho] at h2; simp at h2
  | some o =>
    rw [ho] at h2
    refine ⟨o, rfl, fun e he hb => ?_⟩
    have h3 := h2.2
    simp only [Option.map_some, Option.getD_some] at h3
    have h4 := Array.all_eq_true'.1 h3 e he
    rw [hb] at h4
    simpa using h4
theorem ready_of {M : Array Bool} {i : Nat} {o : Oper} (h1 : i < ops.size) (h2 : M.getD i true = false) (ho : ops[i]? = some o) (h3 : ∀ e ∈ o.after, Region.binds .any e = true → M.getD e.on false = true) : i ∈ Region.ready .any ops M := by
  unfold Region.ready
  refine List.mem_filter.2 ⟨List.mem_range.2 h1, ?_⟩
  simp only [Bool.and_eq_true, Bool.not_eq_true']
  refine ⟨h2, ?_⟩
  rw [ho]
  simp only [Option.map_some, Option.getD_some]
  refine Array.all_eq_true'.2 fun e he => ?_
  cases hb : Region.binds .any e with
  | false => rfl
  | true => simp [h3 e he hb]

theorem getD_both {M : Array Bool} {i : Nat} (h : i < M.size) (d e : Bool) : M.getD i d = M.getD i e := by simp [h]

/-- where nothing is ready, all is done -/
theorem all_done {anc : List Nat} (ha : ancs ops ops.size 0 = some anc) (hord : ∀ j o, ops[j]? = some o → ∀ e ∈ o.after, Region.binds .any e = true → e.on < j) {M : Array Bool} (hs : M.size = ops.size) (h : Region.ready .any ops M = []) : ∀ j, j < ops.size → M.getD j false = true := by
  intro j
  induction j using Nat.strongRecOn with
  | _ j ih =>
    intro hj
    cases hm : M.getD j false with
    | true => rfl
    | false =>
      exfalso
      have ho : ops[j]? = some ops[j] := by simp [hj]
      have := ready_of (ops := ops) (M := M) hj (by rw [getD_both (by omega) true false]; exact hm) ho fun e he hb => by
        have hlt := hord j _ ho e he hb
        exact ih e.on hlt (by omega)
      rw [h] at this
      cases this

theorem wf_chain (hc : CallSound P B call) {n : Nat} (hch : Chain P call ops n S m) (h0 : ∀ i, (S 0).hs.next ≤ i → (S 0).hs.heap.get i = none) : ∀ k, k ≤ n → (S 0).hs.next ≤ (S k).hs.next ∧ ∀ i, (S k).hs.next ≤ i → (S k).hs.heap.get i = none
  | 0, _ => ⟨Nat.le_refl _, h0⟩
  | k + 1, hk => by
    obtain ⟨ih1, ih2⟩ := wf_chain hc hch h0 k (by omega)
    obtain ⟨hv, _, _⟩ := step_facts hc hch (k := k) (by omega)
    exact ⟨Nat.le_trans ih1 hv.next, hv.fresh ih2⟩
theorem next_mono (hc : CallSound P B call) {n : Nat} (hch : Chain P call ops n S m) (i : Nat) : ∀ k, i ≤ k → k ≤ n → (S i).hs.next ≤ (S k).hs.next := by
  intro k hik
  induction k with
  | zero => intro _; obtain rfl : i = 0 := (by omega); exact Nat.le_refl _
  | succ k ih =>
    intro hk
    by_cases e : i = k + 1
    · subst e; exact Nat.le_refl _
    · obtain ⟨hv, _, _⟩ := step_facts hc hch (k := k) (by omega)
      exact Nat.le_trans (ih (by omega) (by omega)) hv.next
theorem tsize_chain (hc : CallSound P B call) {n : Nat} (hch : Chain P call ops n S m) (t : Nat) : ∀ k, k ≤ n → ((S k).tmps.get t).isNone = ((S 0).tmps.get t).isNone
  | 0, _ => rfl
  | k + 1, hk => by
    obtain ⟨_, _, h⟩ := step_facts hc hch (k := k) (by omega)
    exact (h t).trans (tsize_chain hc hch t k (by omega))

theorem draw_core (hc : CallSound P B call) {anc : List Nat} (hch : Chain P call ops ops.size S m) (hanc : ancs ops ops.size 0 = some anc) (hstat : statOk ops anc = true) (hmeet : dynOk anc (busy 0 m) = true) (hord : ∀ j o, ops[j]? = some o → ∀ e ∈ o.after, Region.binds .any e = true → e.on < j)
    (hwf : ∀ i, (S 0).hs.next ≤ i → (S 0).hs.heap.get i = none)
    (hrd : ∀ k, k < ops.size → ∀ id, (S (k + 1)).hs.rd.testBit id = true → H0 id = (S 0).hs.heap.get id) (hnew : ∀ id, (S 0).hs.next ≤ id → id < (S ops.size).hs.next → H0 id = none)
    {w0 : World} {D : List Deferred} {Q : Exit → Act → World → Prop} {σ0 : Ren}
    (hk : ∀ M σ a w, Ren.le σ0 σ → DInv P B ops S H0 w0 D M σ a w → (∀ j, j < ops.size → M.getD j false = true) → Q .normal a w) :
    ∀ (ro : Option Nat) (f : Nat) (M : Array Bool) (σ : Ren) (a : Act) (w : World), Ren.le σ0 σ → DInv P B ops S H0 w0 D M σ a w → cnt M ≤ f → wpAnyIn (fz ro) 0 P .any ops Q f M a w := by
  intro ro f
  induction f with
  | zero =>
    intro M σ a w hle inv hcn
    have hall := cnt_zero (M := M) (by omega)
    rw [inv.size] at hall
    refine ⟨?_, hk M σ a w hle inv hall⟩
    apply List.eq_nil_iff_forall_not_mem.2
    intro i hi
    obtain ⟨h1, h2, _⟩ := ready_mem hi
    rw [getD_both (by rw [inv.size]; exact h1) true false, hall i h1] at h2
    cases h2
  | succ f ih =>
    intro M σ a w hle inv hcn
    refine ⟨fun h0 => hk M σ a w hle inv (all_done hanc hord inv.size h0), fun i hi => ?_⟩
    obtain ⟨hin, hun, o, ho, hw⟩ := ready_mem hi
    have hiM : i < M.size := by rw [inv.size]; exact hin
    rw [getD_both hiM true false] at hun
    have hancI : ∀ j, (anc.getD i 0).testBit j = true → M.getD j false = true := anc_in hanc inv.closed i hin (fun o' ho' => by rw [ho] at ho'; injection ho' with ho'; subst ho'; exact hw)
    have hancJ : ∀ j, j < ops.size → M.getD j false = true → (anc.getD j 0).testBit i = false := fun j hj hm => by
      cases hb : (anc.getD j 0).testBit i with
      | false => rfl
      | true =>
        have := anc_in hanc inv.closed j hj (fun o' ho' e he hbb => inv.closed j o' ho' hm e he hbb) i hb
        rw [hun] at this; cases this
    -- who writes what the operation reads or writes
    have wr_rd : ∀ id, (S (i + 1)).hs.rd.testBit id = true ∨ (S (i + 1)).hs.wr.testBit id = true → ∀ j, j < ops.size → (S (j + 1)).hs.wr.testBit id = true → (M.getD j false = true ↔ j < i) := by
      intro id hid j hj hwj
      rcases Nat.lt_trichotomy j i with h | h | h
      · refine ⟨fun _ => h, fun _ => ?_⟩
        rcases meet_spec hch rfl hstat hmeet h hin with h1 | ⟨_, h2, _⟩
        · exact hancI j h1
        · have := h2 id hwj
          rcases hid with hid | hid <;> simp_all
      · subst h
        rw [hun]; simp
      · refine ⟨fun hm => ?_, fun h2 => by omega⟩
        rcases meet_spec hch rfl hstat hmeet h hj with h1 | ⟨_, h2, h3⟩
        · rw [hancJ j hj hm] at h1; cases h1
        · rcases hid with hid | hid
          · have := h3 id hwj; rw [hid] at this; cases this
          · have := (h2 id hid).2; rw [hwj] at this; cases this
    have tm_rd : ∀ t, t ∈ o.looksAt ops ∨ o.dst = some t → ∀ j, j < ops.size → dstOf ops j = some t → (M.getD j false = true ↔ j < i) := by
      intro t ht j hj hd
      have hoj : ops[j]? = some ops[j] := by simp [hj]
      have hdj : ops[j].dst = some t := by unfold dstOf at hd; rw [hoj] at hd; exact hd
      rcases Nat.lt_trichotomy j i with h | h | h
      · refine ⟨fun _ => h, fun _ => ?_⟩
        rcases meet_spec hch rfl hstat hmeet h hin with h1 | ⟨h1, _, _⟩
        · exact hancI j h1
        · obtain ⟨q1, q2, q3⟩ := Oper.apart_spec (h1 _ _ hoj ho)
          rcases ht with ht | ht
          · exact absurd ht (q1 t hdj)
          · exact absurd ht (q2 t hdj)
      · subst h
        rw [hun]; simp
      · refine ⟨fun hm => ?_, fun h2 => by omega⟩
        rcases meet_spec hch rfl hstat hmeet h hj with h1 | ⟨h1, _, _⟩
        · rw [hancJ j hj hm] at h1; cases h1
        · obtain ⟨q1, q2, q3⟩ := Oper.apart_spec (h1 _ _ ho hoj)
          rcases ht with ht | ht
          · exact absurd ht (q3 t hdj)
          · exact absurd hdj (q2 t ht)
    obtain ⟨hv, hvt, hvs⟩ := step_facts hc hch (k := i) hin
    have hfT : ∀ t, t ∈ o.looksAt ops → foldT ops S M ops.size t = (S i).tmps.get t := fun t ht => by
      have := foldT_text hc hch (M := M) (i := i) (t := t) (tm_rd t (.inl ht)) ops.size (Nat.le_refl _)
      rwa [show min ops.size i = i by omega] at this
    have hdo : dstOf ops i = o.dst := by unfold dstOf; rw [ho]; rfl
    have hMd : ∀ id, (S (i + 1)).hs.wr.testBit id = true → ∀ j, j < ops.size → i < j → (S (j + 1)).hs.wr.testBit id = true → M.getD j false = false := fun id hid j hj hij hwj => by
      cases hb : M.getD j false with
      | false => rfl
      | true => have := (wr_rd id (.inr hid) j hj hwj).1 hb; omega
    have hMt : ∀ t, dstOf ops i = some t → ∀ j, j < ops.size → i < j → dstOf ops j = some t → M.getD j false = false := fun t ht j hj hij hd => by
      cases hb : M.getD j false with
      | false => rfl
      | true => have := (tm_rd t (.inr (by rw [← hdo]; exact ht)) j hj hd).1 hb; omega
    have hclosed' : Closed ops (M.setIfInBounds i true) := by
      intro j oj hoj hj e he hb
      rw [getD_set hiM] at hj ⊢
      split
      · rfl
      · by_cases hji : j = i
        · subst hji; rw [ho] at hoj; injection hoj with hoj; subst hoj; exact hw e he hb
        · rw [if_neg hji] at hj; exact inv.closed j oj hoj hj e he hb
    have hcn' : cnt (M.setIfInBounds i true) ≤ f := by have := cnt_set hiM hun; omega
    have hslot : ∀ d, (∃ j b, o.guard = some (j, b) ∧ (ops[j]?).bind (·.dst) = some d) → SR σ ((S i).tmps.get d) (a.tmps[d]?) := by
      rintro d ⟨j, b, hg, hd⟩
      have := inv.tm d
      rwa [hfT d (by unfold Oper.looksAt; rw [hg]; simp [hd])] at this
    obtain ⟨hj1, hj2⟩ := okJ_at (hch.okj i hin) ho
    have hwant : Region.wanted o (yieldedT ops (S i).tmps) = Region.wanted o (yielded ops a.tmps) := wanted_eq (σ := σ) (fun j b hg d hd => hslot d ⟨j, b, hg, hd⟩) hj1
    have hst := hch.step i hin
    unfold stepV at hst
    rw [ho] at hst
    simp only at hst
    unfold wpOpIn
    rw [ho]
    simp only
    -- the slots behind the operation
    have slots : ∀ (σ1 : Ren) (v v' : Value) (a1 : Act), Ren.le σ σ1 → VRel σ1 v v' → (S (i + 1)).tmps = putT (S i).tmps o.dst v → a1.tmps = (a.put o.dst v').tmps → ∀ t, SR σ1 (foldT ops S (M.setIfInBounds i true) ops.size t) (a1.tmps[t]?) := by
      intro σ1 v v' a1 hle1 hvv hS ha1 t
      rw [foldT_set hiM hin hun (hMt t), ha1]
      by_cases hd : dstOf ops i = some t
      · rw [if_pos hd, hS]
        rw [hdo] at hd
        rw [hd]
        have z1 := (tsize_chain hc hch t i (by omega)).trans (inv.tsize t).symm
        show SR σ1 (((S i).tmps.set t v).get t) ((a.tmps.setIfInBounds t v')[t]?)
        rw [TV.get_set, if_pos rfl, Array.getElem?_setIfInBounds, if_pos rfl]
        cases hg : (S i).tmps.get t with
        | none =>
          rw [hg] at z1
          have : ¬ t < a.tmps.size := by simpa using z1
          rw [if_neg this]; trivial
        | some x =>
          rw [hg] at z1
          have : t < a.tmps.size := by simpa using z1
          rw [if_pos this]; exact Or.inr hvv
      · rw [if_neg hd]
        have : (a.put o.dst v').tmps[t]? = a.tmps[t]? := by
          rw [hdo] at hd
          cases hod : o.dst with
          | none => rfl
          | some d =>
            have : d ≠ t := fun e => hd (by rw [hod, e])
            simp [Act.put, Array.getElem?_setIfInBounds_ne this]
        rw [this]
        exact (inv.tm t).mono hle1
    have psize : ∀ v' t, ((a.put o.dst v').tmps[t]?).isNone = ((S 0).tmps.get t).isNone := fun v' t => by
      rw [← inv.tsize t]
      cases o.dst with
      | none => rfl
      | some d =>
        show ((a.tmps.setIfInBounds d v')[t]?).isNone = _
        rw [Array.getElem?_setIfInBounds]
        by_cases e : d = t
        · subst e
          rw [if_pos rfl]
          by_cases h : d < a.tmps.size <;> simp [h]
        · rw [if_neg e]
    by_cases hwa : Region.wanted o (yielded ops a.tmps) = true
    · rw [if_pos hwa]
      have : Region.wanted o (yieldedT ops (zeroM (S i)).tmps) = true := by show Region.wanted o (yieldedT ops (S i).tmps) = true; rw [hwant]; exact hwa
      rw [this] at hst
      simp only at hst
      split at hst
      · rename_i v hs1 hop
        injection hst with hst
        have hS1 : (S (i + 1)).hs = hs1 := by rw [← hst]
        have hS2 : (S (i + 1)).tmps = putT (S i).tmps o.dst v := by rw [← hst]; rfl
        have hwfi := (wf_chain hc hch hwf i (by omega)).2
        have hagree : Agree (zeroM (S i)).hs hs1 (foldH ops S H0 M ops.size) := by
          refine ⟨fun id hid => ?_, fun id h1 h2 => ?_⟩
          · rw [← hS1] at hid
            have := foldH_text hc hch (H0 := H0) (M := M) (i := i) (id := id) (hrd i hin id hid) (wr_rd id (.inl hid)) ops.size (Nat.le_refl _)
            rwa [show min ops.size i = i by omega] at this
          · rw [← hS1] at h2
            have h1 : (S i).hs.next ≤ id := h1
            have hmade := hv.made id h1 h2
            have hlow := (wf_chain hc hch hwf i (by omega)).1
            have hhigh := next_mono hc hch (i + 1) ops.size (by omega) (Nat.le_refl _)
            have hb : H0 id = (S 0).hs.heap.get id := by rw [hnew id (by omega) (by omega), hwf id (by omega)]
            have := foldH_text hc hch (H0 := H0) (M := M) (i := i) (id := id) hb (wr_rd id (.inr hmade)) ops.size (Nat.le_refl _)
            rw [show min ops.size i = i by omega] at this
            rw [this]; exact hwfi id h1
        refine oper_sound hc hop (fun t ht => ?_) inv.mat ⟨fun id hid => by simp [zeroM] at hid, hwfi⟩ hagree inv.hB (fun σ1 v' w1 g1 g2 g3 g4 => ?_) ro
        · have hla : t ∈ o.looksAt ops := by
            unfold Oper.looksAt
            exact List.mem_append_left _ (List.mem_filterMap.2 ⟨.tmp t, by simpa using ht, rfl⟩)
          have := inv.tm t
          rw [hfT t hla] at this
          exact SR.at this (hj2 (by rw [hwant]; exact hwa) t ht)
        · refine ih _ σ1 _ w1 (Ren.le_trans hle g1) ⟨by simpa using inv.size, hclosed', ?_, slots σ1 v v' _ g1 g2 hS2 rfl, psize v', (put_defers _ _ _).trans inv.defers, inv.below.trans g4, inv.hB.step g4⟩ hcn'
          have : foldH ops S H0 (M.setIfInBounds i true) ops.size = upd (foldH ops S H0 M ops.size) hs1 := by
            funext id
            rw [foldH_set hiM hin hun (hMd id), hS1]
            cases hb : hs1.wr.testBit id with
            | true => rw [if_pos rfl, upd_at hb]
            | false => rw [if_neg (by simp), upd_else hb]
          rw [this]
          exact g3
      · cases hst
    · rw [if_neg hwa]
      have : Region.wanted o (yieldedT ops (zeroM (S i)).tmps) = false := by show Region.wanted o (yieldedT ops (S i).tmps) = false; rw [hwant]; simpa using hwa
      rw [this] at hst
      simp only at hst
      injection hst with hst
      have hS1 : (S (i + 1)).hs = (zeroM (S i)).hs := by rw [← hst]
      have hS2 : (S (i + 1)).tmps = putT (S i).tmps o.dst undef := by rw [← hst]; rfl
      refine ⟨fun f _ => fz_fn ro f, ih _ σ _ w hle ⟨by simpa using inv.size, hclosed', ?_, slots σ undef undef _ (Ren.le_refl _) undef_rel hS2 rfl, psize undef, (put_defers _ _ _).trans inv.defers, inv.below, inv.hB⟩ hcn'⟩
      have : foldH ops S H0 (M.setIfInBounds i true) ops.size = foldH ops S H0 M ops.size := by
        funext id
        rw [foldH_set hiM hin hun (hMd id), hS1]
        simp [zeroM]
      rw [this]
      exact inv.mat
end
end Go.Proofs.Ytpaojoahbmlolaa
