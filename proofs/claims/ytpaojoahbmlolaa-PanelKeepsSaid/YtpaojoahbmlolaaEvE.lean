/- The operations, run and real: memory and values. -/
import Derived.Test.YtpaojoahbmlolaaEvD
namespace Go.Proofs.Ytpaojoahbmlolaa
open Go Go.RowKit
set_option linter.unusedVariables false
set_option linter.unusedSimpArgs false
set_option linter.unnecessarySimpa false
section
variable {P : Program} {σ : Ren} {α β : Type} {R : Ren → α → β → Prop}

theorem alloc_rel {e : TypeId} (h : flatZ P e = true) : SemRel P VR σ (Instr.alloc e true (.tuple #[])) (Instr.alloc e true (.tuple #[])) := by
  unfold Instr.alloc
  refine (zeroValue_rel h).bnd fun s z z' hs hz => ?_
  exact (newVar_rel hz).bnd fun _ a a' _ ha => .ret ha.ptr
theorem box_rel {e : TypeId} {v v' : Value} (h : VRel σ v v') : SemRel P VR σ (Instr.box e v) (Instr.box e v') := (newVar_rel h).bnd fun _ a a' _ ha => .ret ha.ptr

/-- parts of a value that is put together -/
def PL (s : Ren) : List (Nat × Value) → List (Nat × Value) → Prop
  | [], [] => True
  | a :: l, b :: m => a.1 = b.1 ∧ VRel s a.2 b.2 ∧ PL s l m
  | _, _ => False
theorem PL.mono {s t : Ren} (h : Ren.le s t) : ∀ {l m : List (Nat × Value)}, PL s l m → PL t l m
  | [], [], _ => trivial
  | a :: l, b :: m, k => ⟨k.1, k.2.1.mono h, PL.mono h k.2.2⟩
  | [], _ :: _, k => k.elim
  | _ :: _, [], k => k.elim
theorem fold_set {s : Ren} (off : Nat) : ∀ (c c' : List (Value × Nat)) (a a' : Array Value), AR s a a' → c.map (·.2) = c'.map (·.2) → LR s (c.map (·.1)) (c'.map (·.1)) →
    AR s (c.foldl (fun cs x => cs.setIfInBounds (off + x.2) x.1) a) (c'.foldl (fun cs x => cs.setIfInBounds (off + x.2) x.1) a')
  | [], [], a, a', h, _, _ => h
  | x :: c, y :: c', a, a', h, h1, h2 => by
    simp only [List.map_cons, List.cons.injEq] at h1
    simp only [List.foldl_cons]
    refine fold_set off c c' _ _ ?_ h1.2 h2.2
    rw [← h1.1]
    exact h.set _ h2.1
  | [], _ :: _, _, _, _, k, _ => by simp at k
  | _ :: _, [], _, _, _, k, _ => by simp at k
/-- both have a result, or neither -/
def OA (s : Ren) : Option (Array Value) → Option (Array Value) → Prop
  | some x, some y => AR s x y
  | none, none => True
  | _, _ => False
theorem fill_rel {s : Ren} (place : Nat → Option (Nat × Nat)) : ∀ {l l' : List (Nat × Value)} {c c' : Array Value}, AR s c c' → PL s l l' → OA s (Instr.fill place c l) (Instr.fill place c' l')
  | [], [], c, c', h, _ => h
  | (i, v) :: l, (j, v') :: l', c, c', h, k => by
    obtain ⟨k1, k2, k3⟩ := k
    simp only at k1 k2
    subst k1
    have hc := AR.cells k2
    simp only [Instr.fill]
    cases place i with
    | none => trivial
    | some p =>
      obtain ⟨off, size⟩ := p
      simp only
      rw [← hc.1, ← h.1]
      by_cases hb : (decide (v.cells.size ≠ size) || decide (off + v.cells.size > c.size)) = true
      · rw [if_pos hb, if_pos hb]; trivial
      · rw [if_neg hb, if_neg hb]
        refine fill_rel place ?_ k3
        rw [← Array.foldl_toList, ← Array.foldl_toList]
        refine fold_set off _ _ _ _ h ?_ ?_
        · simp [List.zipIdx_map_snd, hc.1, hc.list.length, Array.toList_zipIdx]
        · simpa [List.zipIdx_map_fst, Array.toList_zipIdx] using hc.list
  | [], _ :: _, _, _, _, k => k.elim
  | _ :: _, [], _, _, _, k => k.elim

theorem pl_map (ps : List (Nat × Operand)) {ρ ρ' : Operand → Value} (h : ∀ p ∈ ps, VRel σ (ρ p.2) (ρ' p.2)) : PL σ (ps.map fun x => (x.1, ρ x.2)) (ps.map fun x => (x.1, ρ' x.2)) := by
  induction ps with
  | nil => trivial
  | cons p ps ih => exact ⟨rfl, h p (by simp), ih fun q hq => h q (by simp [hq])⟩

theorem mapM_same {γ : Type} (f : Field → Sem γ) (hf : ∀ (s : Ren) x, SemRel P ER s (f x) (f x)) : ∀ (l : List Field) (s : Ren), SemRel P ER s (l.mapM f) (l.mapM f)
  | [], s => by rw [List.mapM_nil]; exact .ret rfl
  | x :: l, s => by
    rw [List.mapM_cons]
    refine (hf s x).bnd fun t a b _ e => ?_
    obtain rfl : a = b := e
    refine (mapM_same f hf l t).bnd fun u c d _ e2 => ?_
    obtain rfl : c = d := e2
    exact .ret rfl
theorem mapMA_same {γ : Type} (f : Field → Sem γ) (hf : ∀ (s : Ren) x, SemRel P ER s (f x) (f x)) (l : Array Field) (s : Ren) : SemRel P ER s (l.mapM f) (l.mapM f) := by
  rw [Array.mapM_eq_mapM_toList]
  refine (mapM_same f hf l.toList s).bnd (R := ER) fun t a b _ e => ?_
  obtain rfl : a = b := e
  exact .ret rfl

theorem build_rel {t : TypeId} {ps ps' : Array (Nat × Value)} (hz : flatZ P t = true) (h : PL σ ps.toList ps'.toList) : SemRel P VR σ (Instr.build t ps) (Instr.build t ps') := by
  unfold Instr.build
  refine (zeroValue_rel hz).bnd fun s z z' hs hz => ?_
  refine underlying_any.bnd fun s2 d d' hs2 e => ?_
  obtain ⟨rfl, _⟩ := e
  have hp := PL.mono (Ren.le_trans hs hs2) h
  have hzc := AR.cells (hz.mono hs2)
  split
  · refine (mapMA_same _ (fun s x => sizeOf_any.bnd fun _ a b _ e => .ret (by rw [e.1])) _ _).bnd fun s3 a b hs3 e => ?_
    obtain rfl : a = b := e
    have := fill_rel (s := s3) (a[·]?) (hzc.mono hs3) (hp.mono hs3)
    generalize Instr.fill (a[·]?) z.cells ps.toList = x at *
    generalize Instr.fill (a[·]?) z'.cells ps'.toList = y at *
    cases x with
    | none => exact .dead dead_stuck
    | some x => cases y with
      | none => exact this.elim
      | some y => exact .ret (VRel.agg this.1 this.2)
  · refine sizeOf_any.bnd fun s3 a b hs3 e => ?_
    obtain ⟨rfl, _⟩ := e
    have := fill_rel (s := s3) (fun i => some (i * a, a)) (hzc.mono hs3) (hp.mono hs3)
    generalize Instr.fill (fun i => some (i * a, a)) z.cells ps.toList = x at *
    generalize Instr.fill (fun i => some (i * a, a)) z'.cells ps'.toList = y at *
    cases x with
    | none => exact .dead dead_stuck
    | some x => cases y with
      | none => exact this.elim
      | some y => exact .ret (VRel.agg this.1 this.2)
  · exact .dead dead_stuck

theorem AR.range {s : Ren} {z z' : Array Value} (h : AR s z z') (n : Nat) : AR s ((Array.range n).map (z[· % z.size]!)) ((Array.range n).map (z'[· % z'.size]!)) := by
  refine ⟨by simp, fun i v v' x y => ?_⟩
  rcases Array.getElem?_eq_some_iff.1 x with ⟨hi, x⟩
  rcases Array.getElem?_eq_some_iff.1 y with ⟨hj, y⟩
  rw [Array.getElem_map, Array.getElem_range] at x y
  rw [← h.1] at y
  by_cases hp : 0 < z.size
  · have hlt : i % z.size < z.size := Nat.mod_lt _ hp
    have hlt' : i % z.size < z'.size := by rw [← h.1]; exact hlt
    rw [getElem!_pos z _ hlt] at x
    rw [getElem!_pos z' _ hlt'] at y
    subst x; subst y
    exact h.2 (i % z.size) _ _ (by simp [hlt]) (by simp [hlt'])
  · have h1 : ¬ i % z.size < z.size := by omega
    have h2 : ¬ i % z.size < z'.size := by rw [← h.1]; exact h1
    rw [getElem!_neg z _ h1] at x
    rw [getElem!_neg z' _ h2] at y
    subst x; subst y
    exact .bool _

theorem makeInterface_rel {t : TypeId} {v v' : Value} (h : VRel σ v v') : SemRel P VR σ (Instr.makeInterface t v) (Instr.makeInterface t v') := by
  unfold Instr.makeInterface
  refine underlying_any.bnd fun s d d' hs e => ?_
  obtain ⟨rfl, _⟩ := e
  split
  · exact .dead dead_stuck
  · exact .ret (VRel.iface t (h.mono hs))
theorem makeFunc_rel {fn : Fn} {a a' b b' : Array Value} (hy : (match fn with | .yield _ => false | _ => true) = true) (h : AR σ a a') (k : AR σ b b') : SemRel P VR σ (Instr.makeFunc fn a b) (Instr.makeFunc fn a' b') :=
  .ret (VRel.func fn hy h.1 h.2 k.1 k.2)
theorem loadAt_rel {t : TypeId} {v v' : Value} (h : VRel σ v v') : SemRel P VR σ (Instr.loadAt t v) (Instr.loadAt t v') := (sureAddr_rel h).bnd fun _ a a' _ ha => loadVar_rel ha
theorem storeAt_rel {t : TypeId} {v v' x x' : Value} (h : VRel σ v v') (hx : VRel σ x x') : SemRel P ER σ (Instr.storeAt t v x) (Instr.storeAt t v' x') := (sureAddr_rel h).bnd fun _ a a' hs ha => storeVar_rel ha (hx.mono hs)
theorem extract_rel {v v' : Value} {i : Nat} (h : VRel σ v v') : SemRel P VR σ (Instr.extract v i) (Instr.extract v' i) := by
  cases h
  case tuple a a' h1 h2 =>
    have h : AR σ a a' := ⟨h1, h2⟩
    show SemRel P VR σ (match a[i]? with | some v => pure v | none => stuck _) (match a'[i]? with | some v => pure v | none => stuck _)
    cases hx : a[i]? with
    | none => simp only; exact .dead dead_stuck
    | some v =>
      obtain ⟨v', e1, e2⟩ := h.get hx
      rw [e1]; exact .ret e2
  all_goals exact .dead dead_stuck
theorem field_rel {t : TypeId} {v v' : Value} {i : Nat} (h : VRel σ v v') : SemRel P VR σ (Instr.field t v i) (Instr.field t v' i) := by
  unfold Instr.field
  refine underlying_any.bnd fun s d d' hs e => ?_
  obtain ⟨rfl, _⟩ := e
  split
  · split
    · exact (asAgg_rel (h.mono hs)).bnd fun _ c c' _ hc => part_rel hc
    · exact .dead dead_stuck
  · exact .dead dead_stuck
theorem byteOf_dead {a : Addr} (h : a.spot = none) : ∀ x, runV P (byteOf a) x = none := by
  intro x
  unfold byteOf
  rw [h]
  exact dead_program (dead_bind _ (dead_bind _ fun x => rfl)) x
theorem partAt_dead {a : Addr} {m n : Nat} : ∀ x, runV P (partAt a m n) x = none := by
  unfold partAt
  exact dead_after fun b => dead_bind _ (byteOf_dead rfl)
theorem fieldPlace_rel {a a' : Addr} {f : Field} (h : PR σ a a') : SemRel P PR σ (fieldPlace a f) (fieldPlace a' f) := by
  unfold fieldPlace
  refine sizeOf_any.bnd fun s m n hs e => ?_
  obtain ⟨rfl, _⟩ := e
  split
  · exact .dead partAt_dead
  · exact .ret ((h.mono hs).add _)
theorem fieldAt_rel {t : TypeId} {v v' : Value} {i : Nat} (h : VRel σ v v') : SemRel P VR σ (Instr.fieldAt t v i) (Instr.fieldAt t v' i) := by
  unfold Instr.fieldAt
  refine underlying_any.bnd fun s d d' hs e => ?_
  obtain ⟨rfl, _⟩ := e
  split
  · split
    · exact (sureAddr_rel (h.mono hs)).bnd fun _ c c' _ hc => (fieldPlace_rel hc).bnd fun _ q q' _ hq => .ret hq.ptr
    · exact .dead dead_stuck
  · exact .dead dead_stuck
end
end Go.Proofs.Ytpaojoahbmlolaa
