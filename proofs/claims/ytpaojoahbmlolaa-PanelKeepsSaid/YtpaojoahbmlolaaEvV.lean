/- The run with open numbers is the run, as the answers say. -/
import Derived.Test.YtpaojoahbmlolaaEvU
namespace Go.Proofs.Ytpaojoahbmlolaa
open Go
set_option linter.unusedSectionVars false
set_option linter.unusedVariables false
set_option linter.unusedSimpArgs false
set_option linter.unnecessarySimpa false
section
variable {P : Program} [NoCx P] {α : Type}

theorem allP_suffix {l m : List Prop} (h : l <:+ m) (k : allP m) : allP l := by
  obtain ⟨t, rfl⟩ := h
  induction t with
  | nil => exact k
  | cons p t ih => exact ih k.2
theorem TV.set_self : ∀ (t : TV) (k : Nat) (v : Value), t.get k = some v → t.set k v = t
  | .nil, _, _, h => by cases h
  | .node o l r, k, v, h => by
    unfold TV.get at h
    unfold TV.set
    cases h0 : Nat.beq k 0 with
    | true => rw [h0] at h; simp only at h ⊢; subst h; rfl
    | false =>
      rw [h0] at h
      simp only at h ⊢
      cases h1 : Nat.beq (Nat.mod k 2) 1 with
      | true => rw [h1] at h; simp only at h ⊢; rw [TV.set_self l _ _ h]
      | false => rw [h1] at h; simp only at h ⊢; rw [TV.set_self r _ _ h]
theorem setC_self {t : TV} {c : Operand} {b : Bool} (h : evalV t c = .bool b) : setC t c b = t := by
  cases c with
  | tmp d =>
    have h1 : t.at d = .bool b := h
    unfold TV.at at h1
    cases hg : t.get d with
    | none => rw [hg] at h1; cases h1
    | some v => rw [hg] at h1; simp only at h1; subst h1; exact TV.set_self t d _ hg
  | _ => rfl
theorem settle_self {s : St} {d : Tmp} {b : Bool} (h : s.tmps.get d = some (.bool b)) : settle s d b = s := by
  unfold settle; rw [TV.set_self _ _ _ h]

theorem ask_of {q : Qs} {b : Bool} {k : Bool → Qs → Option α} {r : α} (h : ask q b k = some r) :
    ∃ b' q', k b' q' = some r ∧ q.log <:+ q'.log ∧ (allP q'.log → b = b') := by
  unfold ask at h
  split at h
  · rw [force_eq] at h
    cases b with
    | true => exact ⟨true, _, h, List.suffix_refl _, fun _ => rfl⟩
    | false => exact ⟨false, _, h, List.suffix_refl _, fun _ => rfl⟩
  · split at h
    · split at h
      · rw [force_eq] at h
        exact ⟨false, _, h, List.suffix_cons _ _, fun k => k.1⟩
      · rw [force_eq] at h
        exact ⟨true, _, h, List.suffix_cons _ _, fun k => k.1⟩
      · cases h
    · rw [force_eq] at h
      cases b with
      | true => exact ⟨true, _, h, List.suffix_refl _, fun _ => rfl⟩
      | false => exact ⟨false, _, h, List.suffix_refl _, fun _ => rfl⟩
theorem askI_of {q : Qs} {z : Int} {k : Int → Qs → Option α} {r : α} (h : askI q z k = some r) :
    ∃ z' q', k z' q' = some r ∧ q.log <:+ q'.log ∧ (allP q'.log → z = z') := by
  unfold askI at h
  split at h
  · rw [force_eq] at h
    exact ⟨_, _, h, List.suffix_refl _, fun _ => rfl⟩
  · split at h
    · split at h
      · rw [force_eq] at h
        exact ⟨_, _, h, List.suffix_cons _ _, fun k => k.1⟩
      · cases h
    · rw [force_eq] at h
      exact ⟨_, _, h, List.suffix_refl _, fun _ => rfl⟩
theorem askL_of {st : Stop → Option α} (hst : ∀ x, st x = none) {q : Qs} {x : Option (List Value)} {k : List Value → Qs → Option α} {r : α} (h : askL st q x k = some r) :
    ∃ l q', k l q' = some r ∧ q.log <:+ q'.log ∧ (allP q'.log → x = some l) := by
  unfold askL at h
  split at h
  · rw [force_eq] at h
    cases x with
    | none => cases h
    | some l => exact ⟨l, _, h, List.suffix_refl _, fun _ => rfl⟩
  · split at h
    · split at h
      · rw [force_eq] at h
        exact ⟨_, _, h, List.suffix_cons _ _, fun k => k.1⟩
      · rw [hst] at h; cases h
      · cases h
    · rw [force_eq] at h
      cases x with
      | none => cases h
      | some l => exact ⟨l, _, h, List.suffix_refl _, fun _ => rfl⟩
theorem askA_of {st : Stop → Option α} (hst : ∀ x, st x = none) {q : Qs} {c : Array Value} {k : Array Value → Qs → Option α} {r : α} (h : askA st q c k = some r) :
    ∃ d q', k d q' = some r ∧ q.log <:+ q'.log ∧ (allP q'.log → c = d) := by
  unfold askA at h
  simp only [hidB_eq] at h
  split at h
  · rw [force_eq] at h
    exact ⟨_, _, h, List.suffix_refl _, fun _ => rfl⟩
  · split at h
    · split at h
      · rw [force_eq] at h
        exact ⟨_, _, h, List.suffix_cons _ _, fun k => k.1⟩
      · rw [hst] at h; cases h
      · cases h
    · rw [force_eq] at h
      exact ⟨_, _, h, List.suffix_refl _, fun _ => rfl⟩
theorem askF_of {st : Stop → Option α} (hst : ∀ x, st x = none) {q : Qs} {b : Bool} {k : Qs → Option α} {r : α} (h : askF st q b k = some r) :
    ∃ q', k q' = some r ∧ q.log <:+ q'.log ∧ (allP q'.log → b = true) := by
  unfold askF at h
  simp only [hidB_eq] at h
  split at h
  · rw [force_eq] at h
    cases b with
    | false => cases h
    | true => exact ⟨_, h, List.suffix_refl _, fun _ => rfl⟩
  · split at h
    · split at h
      · rw [force_eq] at h
        exact ⟨_, h, List.suffix_cons _ _, fun k => k.1⟩
      · rw [hst] at h; cases h
      · cases h
    · rw [force_eq] at h
      cases b with
      | false => cases h
      | true => exact ⟨_, h, List.suffix_refl _, fun _ => rfl⟩
theorem askD_of {st : Stop → Option α} (hst : ∀ x, st x = none) {q : Qs} {f : FuncId} {ds : List D} {x : Option (Value × Outs)} {k : Value → Outs → Qs → Option α} {r : α} (h : askD st q f ds x k = some r) :
    ∃ v bs q', k v bs q' = some r ∧ q.log <:+ q'.log ∧ (allP q'.log → x = some (v, bs)) := by
  unfold askD at h
  simp only [hidB_eq] at h
  split at h
  · rw [force_eq] at h
    cases x with
    | none => dsimp only at h; rw [hst] at h; cases h
    | some p => exact ⟨_, _, _, h, List.suffix_refl _, fun _ => rfl⟩
  · split at h
    · split at h
      · rw [force_eq] at h
        exact ⟨_, _, _, h, List.suffix_cons _ _, fun k => k.1⟩
      · rw [hst] at h; cases h
    · rw [force_eq] at h
      cases x with
      | none => dsimp only at h; rw [hst] at h; cases h
      | some p => exact ⟨_, _, _, h, List.suffix_refl _, fun _ => rfl⟩
theorem Evt.all {p : Nat → Prop} (h : ∀ f, p f) : Evt p := ⟨0, fun f _ => h f⟩
theorem Evt.mono {p q : Nat → Prop} (h : Evt p) (k : ∀ f, p f → q f) : Evt q := by
  obtain ⟨F, h⟩ := h
  exact ⟨F, fun f hf => k f (h f hf)⟩
theorem Evt.and {p q : Nat → Prop} (h : Evt p) (k : Evt q) : Evt fun f => p f ∧ q f := by
  obtain ⟨F, h⟩ := h
  obtain ⟨G, k⟩ := k
  exact ⟨max F G, fun f hf => ⟨h f (by omega), k f (by omega)⟩⟩
theorem Evt.mono2 {p q r : Nat → Prop} (h : Evt p) (k : Evt q) (m : ∀ f, p f → q f → r f) : Evt r := (h.and k).mono fun f x => m f x.1 x.2
theorem Evt.succ {p q : Nat → Prop} (h : Evt p) (k : ∀ f, p f → q (f + 1)) : Evt q := by
  obtain ⟨F, h⟩ := h
  exact ⟨F + 1, fun f hf => by
    obtain ⟨g, rfl⟩ : ∃ g, f = g + 1 := ⟨f - 1, by omega⟩
    exact k g (h g (by omega))⟩

/-! equal values -/
def Pur (P : Program) {β : Type} (m : Sem β) (v : β) : Prop := ∀ s, runV P m s = some (v, s)
theorem Pur.pure {β : Type} (v : β) : Pur P (Pure.pure v : Sem β) v := fun s => rfl
theorem Pur.bind {β γ : Type} {m : Sem β} {v : β} {f : β → Sem γ} {u : γ} (h : Pur P m v) (k : Pur P (f v) u) : Pur P (m >>= f) u := fun s => by
  show runV P (m.bind f) s = _
  rw [runV_bind_some, h s]; exact k s
theorem Pur.program : Pur P program P := fun s => rfl
theorem pur_underlying {t : TypeId} {d : TypeDesc} (h : P.underlying t = some d) : Pur P (underlying t) d := by
  unfold underlying
  refine Pur.program.bind ?_
  simp only [h]
  exact .pure _
theorem pur_typeInfo {t : TypeId} {i : TypeInfo} (h : P.info? t = some i) : Pur P (typeInfo t) i := by
  unfold typeInfo
  refine Pur.program.bind ?_
  simp only [h]
  exact .pure _
theorem pur_sizeOf {t : TypeId} {i : TypeInfo} (h : P.info? t = some i) : Pur P (sizeOf t) i.size := by
  unfold sizeOf
  exact (pur_typeInfo h).bind (.pure _)
def aggD : TypeDesc → Bool
  | .struct _ | .array _ _ => true
  | _ => false
theorem pur_isAgg {t : TypeId} {d : TypeDesc} (h : P.underlying t = some d) : Pur P (isAgg t) (aggD d) := by
  unfold isAgg
  refine (pur_underlying h).bind ?_
  cases d <;> exact .pure _
theorem pur_part {t : TypeId} {cs : Array Value} {off : Nat} {v : Value} (h : partS P t cs off = some v) : Pur P (part t cs off) v := by
  unfold partS at h
  unfold part
  cases hu : P.underlying t with
  | none => rw [hu] at h; cases h
  | some d =>
    rw [hu] at h
    refine (pur_isAgg hu).bind ?_
    cases hi : P.info? t with
    | none =>
      exfalso
      unfold Program.underlying at hu
      rw [hi] at hu
      cases hu
    | some i =>
      rw [hi] at h
      have hn : ∀ (d : TypeDesc), aggD d = false → cs[off]? = some v → Pur P (if aggD d = true then (do pure (Value.agg (cs.extract off (off + (← sizeOf t))))) else match cs[off]? with | some v => pure v | none => stuck "part: no such cell" : Sem Value) v := fun d hd hv => by
        rw [if_neg (by rw [hd]; decide), hv]; exact .pure _
      have hy : ∀ (d : TypeDesc), aggD d = true → v = .agg (cs.extract off (off + i.size)) → Pur P (if aggD d = true then (do pure (Value.agg (cs.extract off (off + (← sizeOf t))))) else match cs[off]? with | some v => pure v | none => stuck "part: no such cell" : Sem Value) v := fun d hd hv => by
        rw [if_pos hd, hv]; exact (pur_sizeOf hi).bind (.pure _)
      cases d
      case struct => injection h with h; exact hy _ rfl h.symm
      case array => injection h with h; exact hy _ rfl h.symm
      all_goals exact hn _ rfl h

theorem pur_eqFs {d : Nat} (eq : TypeId → Value → Value → Option Bool) (heq : ∀ t x y b, eq t x y = some b → Pur P (Op.equalIn d t x y) b) (xs ys : Array Value) :
    ∀ (l : List Field) (b : Bool), eqFs P eq xs ys l = some b →
      Pur P (forIn l ((none, ()) : Option Bool × Unit) fun f r => do
        if f.name ≠ "_" then
          if !(← Op.equalIn d f.type (← part f.type xs f.offset) (← part f.type ys f.offset)) then pure (.done (some false, ()))
          else pure (.yield (none, ()))
        else pure (.yield (none, ())) : Sem (Option Bool × Unit)) (if b then none else some false, ())
  | [], b, h => by
    injection h with h; subst h
    exact .pure _
  | f :: l, b, h => by
    unfold eqFs at h
    split at h
    · cases h
    · rename_i hne
      split at h
      · rename_i x y hx hy
        split at h
        · rename_i e he
          rw [List.forIn_cons]
          refine Pur.bind (v := if e then .yield (none, ()) else .done (some false, ())) ?_ ?_
          · rw [if_pos (by simpa using hne)]
            refine (pur_part hx).bind ((pur_part hy).bind ((heq _ _ _ _ he).bind ?_))
            cases e <;> exact .pure _
          · have hend : eqFs P eq xs ys l = some b ∧ e = true ∨ e = false ∧ b = false ∨ l = [] ∧ b = e := by
              split at h
              · injection h with h; exact .inr (.inr ⟨rfl, h.symm⟩)
              · split at h
                · rename_i r hr
                  injection h with h
                  cases e with
                  | true => exact .inl ⟨by rw [hr]; simpa using h, rfl⟩
                  | false => exact .inr (.inl ⟨rfl, by simpa using h.symm⟩)
                · cases h
            rcases hend with ⟨h1, rfl⟩ | ⟨rfl, rfl⟩ | ⟨rfl, rfl⟩
            · exact pur_eqFs eq heq xs ys l b h1
            · exact .pure _
            · cases b <;> exact .pure _
        · cases h
      · cases h
theorem pur_equal : ∀ (d : Nat) (t : TypeId) (x y : Value) (b : Bool), eqS P d t x y = some b → Pur P (Op.equalIn d t x y) b
  | 0, _, _, _, _, h => by cases h
  | d + 1, t, x, y, b, h => by
    unfold eqS at h
    unfold Op.equalIn
    cases hu : P.underlying t with
    | none => rw [hu] at h; cases h
    | some u =>
      refine (pur_underlying hu).bind ?_
      rw [hu] at h
      split at h
      · injection h with h; subst h; rename_i e; injection e with e; subst e; exact .pure _
      · split at h
        · rename_i e _ hk
          injection h with h; subst h
          injection e with e; subst e
          have := sameKind_eq hk
          subst this
          dsimp only
          rw [if_pos rfl]
          exact .pure _
        · cases h
      · injection h with h; subst h; rename_i e; injection e with e; subst e; exact .pure _
      · split at h
        · cases h
        · rename_i e _ hst
          injection e with e; subst e
          dsimp only
          refine Pur.program.bind ?_
          rw [if_neg (by rw [hst]; decide)]
          simp only [← Array.forIn_toList]
          refine Pur.bind (pur_eqFs (d := d) (eqS P d) (fun t x y b h => pur_equal d t x y b h) _ _ _ b h) ?_
          cases b <;> exact .pure _
      · cases h
end
end Go.Proofs.Ytpaojoahbmlolaa
