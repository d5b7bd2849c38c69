/- Closed calls that are known by a run. -/
import Derived.Test.YtpaojoahbmlolaaEvR1
namespace Go.Proofs.Ytpaojoahbmlolaa
open Go Go.RowKit
set_option linter.unusedSectionVars false
set_option linter.unusedVariables false
set_option linter.unusedSimpArgs false
set_option linter.unnecessarySimpa false
section
variable {P : Program} [NoCx P] {B : Bd}
theorem eqV_eq : ∀ (n : Nat) (a b : Value), eqV n a b = true → a = b
  | 0, a, b, h => by cases h
  | n + 1, a, b, h => by
    unfold eqV at h
    split at h
    · simp only [Bool.and_eq_true] at h
      rw [sameKind_eq h.1, eqI_eq h.2]
    · split at h
      · rfl
      · rfl
      · cases h
    · rename_i x y
      have := eqB_eq h
      have e : x.data = y.data := Array.toList_inj.1 this
      obtain ⟨x⟩ := x
      obtain ⟨y⟩ := y
      rw [show x = y from e]
    · rw [Array.toList_inj.1 (eqL_eq (eqV_eq n) h)]
    · rw [Array.toList_inj.1 (eqL_eq (eqV_eq n) h)]
    · cases h

/-- the calls of a table are so -/
def Known (P : Program) (L : Vars) (f : FuncId) (args : List Value) (v : Value) : Prop := args.all (flatV 20) = true ∧ flatV 20 v = true ∧ ∀ w, LaidL L w → Calls P f args.toArray w fun e w' => e = .returned v ∧ Below w.heap.size w w'
def TabOk (P : Program) (L : Vars) (T : Tab) : Prop := ∀ f args v, T f args = some v → Known P L f args v
theorem TabOk.none {L : Vars} : TabOk P L .none := fun f args v h => by cases h
theorem TabOk.put {L : Vars} {T : Tab} {f : FuncId} {args : List Value} {v : Value} (h : Known P L f args v) (k : TabOk P L T) : TabOk P L (.put f args v T) := by
  intro g xs u hm
  unfold Tab.put at hm
  split at hm
  · rename_i hc
    simp only [Bool.and_eq_true] at hc
    injection hm with hm
    subst hm
    rw [← Nat.eq_of_beq_eq_true hc.1, ← eqL_eq (eqV_eq 20) hc.2]
    exact h
  · exact k g xs u hm
theorem TabOk.fn {L : Vars} {T : Tab} {f : FuncId} {q : List Value → Option Value} (h : ∀ args v, q args = some v → Known P L f args v) (k : TabOk P L T) : TabOk P L (.fn f q T) := by
  intro g xs u hm
  unfold Tab.fn at hm
  split at hm
  · rename_i hc
    rw [← Nat.eq_of_beq_eq_true hc]
    exact h _ _ hm
  · exact k g xs u hm
theorem Match.below {σ : Ren} {H : Nat → Option VO} {w w' : World} (h : Match P B σ H w) (k : Below w.heap.size w w') : Match P B σ H w' := by
  refine ⟨h.dom, h.old, fun i b κ v e1 e2 e3 => ?_, h.injX, h.low, fun i c e e1 => ?_, fun i b κ v e1 e2 => (h.non i b κ v e1 e2).world fun hst => k.block b ((h.non i b κ v e1 e2).lt hst), h.sep⟩
  · obtain ⟨o', h1, h2⟩ := h.objX i b κ v e1 e2 e3
    exact ⟨o', by rw [k.block b (h.ltA e1 e2 e3)]; exact h1, h2⟩
  · obtain ⟨g1, g2, g3⟩ := h.glob i c e e1
    obtain ⟨e', fz, g2⟩ := g2
    exact ⟨g1, ⟨e', fz, by rw [k.block i (Array.getElem?_eq_some_iff.1 g2).1]; exact g2⟩, g3⟩
theorem tab_sound {T : Tab} (hT : TabOk P B.L T) {call : CallV} (hc : CallSound P B call) : CallSound P B (callT T call) := by
  refine ⟨hc.g, ?_, hc.rnd⟩
  intro f args s s' v h
  unfold callT callF at h
  simp only at h
  split at h
  · rename_i u hl
    injection h with h; injection h with h1 h2; subst h1; subst h2
    refine ⟨.refl _, fun σ args' H w ha hm hs _ hB => ?_⟩
    obtain ⟨g1, g2, g3⟩ := hT _ _ _ hl
    have : args' = args := by
      apply Array.ext ha.1.symm
      intro i h1 h2
      exact flat_eq 20 _ _ (List.all_eq_true.1 g1 args[i] (by simp)) (ha.2 i _ _ (by simp [h2]) (by simp [h1]))
    subst this
    have g4 := g3 w hB.laid
    rw [Array.toArray_toList] at g4
    refine g4.mono ?_
    rintro e w' ⟨rfl, hb⟩
    exact ⟨σ, u, rfl, Ren.le_refl _, flat_rel 20 u g2, by rw [hs.upd]; exact hm.below hb, hb.mono hB.size⟩
  · exact hc.fn _ _ _ _ _ h

/-! the start -/
theorem layV_spec : ∀ (l : Vars) (k : Nat) (t t' : Tr), layV l k t = some t' → ∀ j, t'.get j = if k ≤ j ∧ j < k + l.length then (l[j - k]?).map varV else t.get j
  | [], k, t, t', h, j => by
    simp only [layV] at h
    injection h with h; subst h
    rw [if_neg (by simp)]
  | x :: l, k, t, t', h, j => by
    simp only [layV] at h
    split at h
    · rename_i t1 h1
      have hadd : Nat.add k 1 = k + 1 := rfl
      rw [hadd] at h
      have ih := layV_spec l (k + 1) t1 t' h j
      have hs := Tr.get_set _ _ _ _ _ h1 j
      rw [ih, hs]
      simp only [List.length_cons]
      by_cases e1 : j = k
      · subst e1
        rw [if_neg (by omega), if_pos rfl, if_pos (by omega)]
        simp
      · by_cases e2 : k + 1 ≤ j ∧ j < k + 1 + l.length
        · rw [if_pos e2, if_pos (by omega), show j - k = (j - (k + 1)) + 1 by omega]
          simp
        · rw [if_neg e2, if_neg e1, if_neg (by omega)]
    · cases h
def ren0 (L : Vars) : Ren := fun i => if i < L.length then some (i, 0) else none
theorem start_spec {L : Vars} {hs : HS} (h : startH L = some hs) : hs.next = L.length ∧ hs.rd = 0 ∧ hs.wr = 0 ∧ ∀ j, hs.heap.get j = if j < L.length then (L[j]?).map varV else none := by
  unfold startH at h
  split at h
  · rename_i t ht
    rw [force_eq] at h
    injection h with h; subst h
    refine ⟨rfl, rfl, rfl, fun j => ?_⟩
    have := layV_spec L 0 .nil t ht j
    simp only [Nat.zero_le, true_and, Nat.zero_add, Nat.sub_zero, Tr.get_nil] at this
    exact this
  · cases h
theorem start_match {L : Vars} {hs : HS} (h : startH L = some hs) (hf : flatL L = true) {w : World} (hl : LaidL L w) : Match P ⟨w.heap.size, L, hl.1⟩ (ren0 L) (fun i => hs.heap.get i) w := by
  obtain ⟨h1, h2, h3, h4⟩ := start_spec h
  have dead : ∀ i v, hs.heap.get i = some v → v.alive = false ∧ i < L.length := fun i v e => by
    rw [h4] at e
    split at e
    · rename_i hi
      refine ⟨?_, hi⟩
      cases hx : L[i]? with
      | none => rw [hx] at e; cases e
      | some x =>
        rw [hx] at e
        injection e with e; subst e
        unfold varV
        split <;> rfl
    · cases e
  refine ⟨fun i => ?_, fun i b κ v _ e2 e3 => ?_, fun i b κ v _ e2 e3 => ?_, fun i j b κ κ' v v' _ _ e2 _ e3 _ => ?_, fun g hg => ?_, fun i c e e1 => ?_, fun i b κ v _ e2 => ?_, fun i j b κ κ' v v' _ _ _ e4 _ e6 => ?_⟩
  · show ren0 L i = none ↔ hs.heap.get i = none
    rw [h4]
    unfold ren0
    by_cases hi : i < L.length
    · rw [if_pos hi, if_pos hi]
      simp [hi]
    · rw [if_neg hi, if_neg hi]; simp
  · rw [(dead i v e2).1] at e3; cases e3
  · rw [(dead i v e2).1] at e3; cases e3
  · rw [(dead i v e2).1] at e3; cases e3
  · show ren0 L g = _
    unfold ren0
    rw [if_pos (show g < L.length from hg)]
  · have hi := (dead i _ e1).2
    rw [h4, if_pos hi] at e1
    cases hx : L[i]? with
    | none => rw [hx] at e1; cases e1
    | some x =>
      rw [hx] at e1
      injection e1 with e1
      unfold varV at e1
      split at e1
      · rename_i c' e'
        injection e1 with e1 e2; subst e1; subst e2
        refine ⟨hi, hl.2 i _ _ hx, fun j v hv => ?_⟩
        have := List.all_eq_true.1 hf _ (List.mem_of_getElem? hx)
        exact List.all_eq_true.1 this v (by simpa using Array.mem_of_getElem? hv)
      · cases e1
  · have hi := (dead i v e2).2
    rw [h4, if_pos hi] at e2
    cases hx : L[i]? with
    | none => rw [hx] at e2; cases e2
    | some x =>
      rw [hx] at e2
      injection e2 with e2; subst e2
      unfold varV
      split <;> trivial
  · rw [(dead j v' e4).1] at e6; cases e6
theorem start_sim {L : Vars} {hs : HS} (h : startH L = some hs) : Sim hs (fun i => hs.heap.get i) := by
  obtain ⟨h1, h2, h3, h4⟩ := start_spec h
  exact ⟨fun i _ => rfl, fun i hi => by rw [h4, if_neg (by omega)]⟩

/-- THE LAW: a call that the run says, with flat arguments and a flat result. -/
theorem run_res (hmix : P.follows .mixedOrders = true) {L : Vars} {T : Tab} (hT : TabOk P L T) {fuel : Nat} {f : FuncId} {args : List Value} {v : Value} (h : resV P L T fuel f args v = true) :
    Known P L f args v := by
  unfold resV at h
  split at h
  · rename_i hs hst0
    split at h
    · rename_i r s' hr
      simp only [Bool.and_eq_true] at h
      obtain ⟨h1, ⟨h2, h3⟩, h4⟩ := h
      have := eqV_eq 20 _ _ h1
      subst this
      refine ⟨h2, h3, fun w hl => ?_⟩
      have hB : Ok ⟨w.heap.size, L, hl.1⟩ w := ⟨Nat.le_refl _, hl⟩
      obtain ⟨hst, hk⟩ := call_sound (B := ⟨w.heap.size, L, hl.1⟩) (ev_both (B := ⟨w.heap.size, L, hl.1⟩) hmix (W := ⟨callT T, noLoops⟩) (fun call hc => tab_sound hT hc) LoopsOk.none fuel).1 f args.toArray hs s' _ hr
      have ha : AR (ren0 L) args.toArray args.toArray := ⟨rfl, fun i v v' x y => by
        rw [x] at y; injection y with y; subst y
        exact flat_rel 20 _ (List.all_eq_true.1 h2 _ (by simpa using Array.mem_of_getElem? x))⟩
      refine (hk (ren0 L) args.toArray _ w ha (start_match hst0 h4 hl) (start_sim hst0) ⟨fun i _ => rfl, fun i e _ => (start_sim hst0).new i e⟩ hB).mono ?_
      rintro e w' ⟨σ', v', rfl, _, hv, _, hb⟩
      exact ⟨by rw [flat_eq 20 _ _ h3 hv], hb⟩
    · cases h
  · cases h
end
end Go.Proofs.Ytpaojoahbmlolaa
