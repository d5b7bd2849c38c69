/- The small operations, run and real. -/
import Derived.Test.YtpaojoahbmlolaaEvC
import Derived.Laws.Sem
namespace Go.Proofs.Ytpaojoahbmlolaa
open Go Go.RowKit
set_option linter.unusedVariables false
set_option linter.unusedSimpArgs false
set_option linter.unnecessarySimpa false

abbrev VR : Ren → Value → Value → Prop := fun s a b => VRel s a b
abbrev ER {α : Type} : Ren → α → α → Prop := fun _ a b => a = b
def PR (s : Ren) (a a' : Addr) : Prop := ∃ κ, s a.block = some (a'.block, κ) ∧ a.off = a'.off ∧ a.spot = a'.spot
theorem PR.mono {s t : Ren} (h : Ren.le s t) {a a' : Addr} (k : PR s a a') : PR t a a' := let ⟨κ, x, y⟩ := k; ⟨κ, h _ _ x, y⟩
theorem PR.add {s : Ren} {a a' : Addr} (k : PR s a a') (n : Nat) : PR s (a.add n) (a'.add n) := by
  obtain ⟨κ, x, y, z⟩ := k
  unfold Addr.add
  split
  · exact ⟨κ, x, y, z⟩
  · exact ⟨κ, x, by simp [y], rfl⟩

/-- a program without complex numbers -/
class NoCx (P : Program) : Prop where
  h : ∀ t k, P.underlying t ≠ some (.complex k)
section
variable {P : Program} {σ : Ren} {α β : Type} {R : Ren → α → β → Prop}

theorem SemRel.ret {a : α} {b : β} (h : R σ a b) : SemRel P R σ (Pure.pure a : Sem α) (Pure.pure b : Sem β) := SemRel.pure h
theorem SemRel.bnd {γ δ : Type} {S : Ren → γ → δ → Prop} {m : Sem γ} {m' : Sem δ} {f : γ → Sem α} {f' : δ → Sem β}
    (h : SemRel P S σ m m') (hf : ∀ t a b, Ren.le σ t → S t a b → SemRel P R t (f a) (f' b)) : SemRel P R σ (m >>= f) (m' >>= f') := h.bind hf

theorem dead_bind {γ : Type} {m : Sem γ} (f : γ → Sem α) (h : ∀ x, runV P m x = none) : ∀ x, runV P (m >>= f) x = none := fun x => runV_bind f m x (h x)
theorem dead_stuck {w : String} : ∀ x, runV P (stuck w : Sem α) x = none := fun _ => rfl
theorem dead_unsupported {u : Unsupported} : ∀ x, runV P (unsupported u : Sem α) x = none := fun _ => rfl
theorem dead_goPanic {v : Value} : ∀ x, runV P (goPanic v : Sem α) x = none := fun _ => rfl
theorem dead_program {f : Program → Sem α} (h : ∀ x, runV P (f P) x = none) : ∀ x, runV P (program >>= f) x = none := fun x => h x

theorem runV_bind_some {γ : Type} (f : α → Sem γ) : ∀ (m : Sem α) (x : HS), runV P (m.bind f) x = (runV P m x).bind fun p => runV P (f p.1) p.2
  | .pure a, x => rfl
  | .load m a k, x => by
    simp only [Sem.bind, runV]
    repeat' split
    all_goals first | rfl | exact runV_bind_some f _ _
  | .store m a v k, x => by
    simp only [Sem.bind, runV]
    repeat' split
    all_goals first | rfl | exact runV_bind_some f _ _
  | .new o k, x => by
    simp only [Sem.bind, runV]
    repeat' split
    all_goals first | rfl | exact runV_bind_some f _ _
  | .getObj r k, x => by
    simp only [Sem.bind, runV]
    repeat' split
    all_goals first | rfl | exact runV_bind_some f _ _
  | .setObj r o k, x => by
    simp only [Sem.bind, runV]
    repeat' split
    all_goals first | rfl | exact runV_bind_some f _ _
  | .choose q k, x => by
    simp only [Sem.bind, runV]
    repeat' split
    all_goals first | rfl | exact runV_bind_some f _ _
  | .program k, x => by
    simp only [Sem.bind, runV]
    exact runV_bind_some f _ _
  | .mark m k, x => by
    simp only [Sem.bind, runV]
    repeat' split
    all_goals first | rfl | exact runV_bind_some f _ _
  | .shape .., x => rfl
  | .freeze .., x => rfl
  | .frozen .., x => rfl
  | .sys .., x => rfl
  | .halt .., x => rfl

theorem dead_after {γ : Type} {m : Sem γ} {f : γ → Sem α} (h : ∀ g x, runV P (f g) x = none) : ∀ x, runV P (m >>= f) x = none := fun x => by
  show runV P (m.bind f) x = none
  rw [runV_bind_some]
  cases runV P m x with
  | none => rfl
  | some p => exact h _ _

theorem dead_runtimePanic {e : RuntimeError} : ∀ x, runV P (runtimePanic e : Sem α) x = none := by
  intro x
  unfold runtimePanic
  refine dead_program (fun x => ?_) x
  cases e <;> simp only
  all_goals first | exact dead_goPanic x | exact dead_after (fun _ => dead_goPanic) x | (refine dead_after (fun _ => ?_) x; exact dead_after (fun _ => dead_goPanic)) 
theorem dead_boundsPanic {k : IntKind} {x y : Int} {c : BoundsCode} : ∀ s, runV P (boundsPanic k x y c : Sem α) s = none := by
  intro s
  unfold boundsPanic
  simp only
  split <;> exact dead_after (fun _ => dead_runtimePanic) s

theorem underlying_rel {t : TypeId} {d : TypeDesc} (h : P.underlying t = some d) : SemRel P (fun _ a b => a = d ∧ b = d) σ (underlying t) (underlying t) := by
  refine .program ?_
  simp only [bind, Sem.bind, h]
  exact .pure ⟨rfl, rfl⟩
theorem underlying_any {t : TypeId} : SemRel P (fun _ a b => a = b ∧ P.underlying t = some b) σ (underlying t) (underlying t) := by
  cases h : P.underlying t with
  | none =>
    refine .dead fun x => ?_
    show runV P (match P.underlying t with | some d => pure d | none => stuck "no such type") x = none
    rw [h]; rfl
  | some d => exact (underlying_rel h).mono fun _ a b _ e => ⟨e.1.trans e.2.symm, by rw [e.2]⟩
theorem typeInfo_any {t : TypeId} : SemRel P (fun _ a b => a = b ∧ P.info? t = some b) σ (typeInfo t) (typeInfo t) := by
  refine .program ?_
  cases h : P.info? t with
  | none => simp only [bind, Sem.bind, h]; exact .dead dead_stuck
  | some d => simp only [bind, Sem.bind, h]; exact .pure ⟨rfl, rfl⟩
theorem sizeOf_any {t : TypeId} : SemRel P (fun _ a b => a = b ∧ ∃ i, P.info? t = some i ∧ b = i.size) σ (sizeOf t) (sizeOf t) :=
  typeInfo_any.bnd fun t a b _ h => .ret ⟨by rw [h.1], b, h.2, rfl⟩
theorem isAgg_any {t : TypeId} : SemRel P ER σ (isAgg t) (isAgg t) := by
  refine underlying_any.bnd fun s a b _ h => ?_
  obtain ⟨rfl, _⟩ := h
  split <;> exact .ret rfl

theorem zeroValue_rel {t : TypeId} (h : flatZ P t = true) : SemRel P VR σ (zeroValue t) (zeroValue t) := by
  refine typeInfo_any.bnd fun s a b _ e => ?_
  obtain ⟨rfl, hi⟩ := e
  unfold flatZ at h
  rw [hi] at h
  cases hz : a.zero with
  | none => simp only [hz]; exact .dead dead_unsupported
  | some z => simp only [hz] at h ⊢; exact .ret (flat_rel 50 z h)

theorem AR.empty : AR σ #[] #[] := ⟨rfl, fun i v v' h => by simp at h⟩
theorem AR.push {a a' : Array Value} (h : AR σ a a') {v v' : Value} (hv : VRel σ v v') : AR σ (a.push v) (a'.push v') := by
  refine ⟨by simp [h.1], fun i x x' hx hx' => ?_⟩
  rw [Array.getElem?_push] at hx hx'
  by_cases e : i = a.size
  · rw [if_pos e] at hx; rw [if_pos (e.trans h.1)] at hx'
    injection hx with hx; injection hx' with hx'; subst hx; subst hx'; exact hv
  · rw [if_neg e] at hx; rw [if_neg (by rw [← h.1]; exact e)] at hx'
    exact h.2 i x x' hx hx'
theorem AR.single {v v' : Value} (hv : VRel σ v v') : AR σ #[v] #[v'] := AR.push (a := #[]) (a' := #[]) AR.empty hv
theorem AR.cells {v v' : Value} (hv : VRel σ v v') : AR σ v.cells v'.cells := by
  cases hv
  case agg h1 h2 => exact ⟨h1, h2⟩
  all_goals exact AR.single (by constructor <;> assumption)
theorem AR.extract {a a' : Array Value} (h : AR σ a a') (i j : Nat) : AR σ (a.extract i j) (a'.extract i j) := by
  refine ⟨by simp [h.1], fun k x x' hx hx' => ?_⟩
  simp only [Array.getElem?_extract] at hx hx'
  split at hx
  · split at hx'
    · exact h.2 _ _ _ hx hx'
    · cases hx'
  · cases hx
theorem AR.append {a a' b b' : Array Value} (h : AR σ a a') (k : AR σ b b') : AR σ (a ++ b) (a' ++ b') := by
  refine ⟨by simp [h.1, k.1], fun i x x' hx hx' => ?_⟩
  rw [Array.getElem?_append] at hx hx'
  by_cases e : i < a.size
  · rw [if_pos e] at hx; rw [if_pos (by rw [← h.1]; exact e)] at hx'; exact h.2 _ _ _ hx hx'
  · rw [if_neg e] at hx; rw [if_neg (by rw [← h.1]; exact e), ← h.1] at hx'; exact k.2 _ _ _ hx hx'
theorem AR.none {a a' : Array Value} (h : AR σ a a') {i : Nat} (e : a[i]? = none) : a'[i]? = none := by
  simp only [Array.getElem?_eq_none_iff] at e ⊢; rw [← h.1]; exact e

theorem asIntOf_rel {v v' : Value} (h : VRel σ v v') : SemRel P ER σ (asIntOf v) (asIntOf v') := by
  cases h <;> first | exact .ret rfl | exact .dead dead_stuck | exact .dead dead_unsupported
theorem asInt_rel {v v' : Value} (h : VRel σ v v') : SemRel P ER σ (asInt v) (asInt v') :=
  (asIntOf_rel h).bnd fun _ a b _ e => .ret (by rw [show a = b from e])
theorem asBool_rel {v v' : Value} (h : VRel σ v v') : SemRel P ER σ (asBool v) (asBool v') := by
  cases h <;> first | exact .ret rfl | exact .dead dead_stuck
theorem asString_rel {v v' : Value} (h : VRel σ v v') : SemRel P ER σ (asString v) (asString v') := by
  cases h <;> first | exact .ret rfl | exact .dead dead_stuck
theorem asAgg_rel {v v' : Value} (h : VRel σ v v') : SemRel P AR σ (asAgg v) (asAgg v') := by
  cases h
  case agg h1 h2 => exact .ret ⟨h1, h2⟩
  all_goals exact .dead dead_stuck
theorem sureAddr_rel {v v' : Value} (h : VRel σ v v') : SemRel P PR σ (Instr.sureAddr v) (Instr.sureAddr v') := by
  cases h
  case ptr h => exact .ret ⟨_, h, rfl, rfl⟩
  all_goals exact .dead dead_stuck
theorem asAddr_rel {v v' : Value} (h : VRel σ v v') : SemRel P PR σ (asAddr v) (asAddr v') := by
  cases h
  case ptr h => exact .ret ⟨_, h, rfl, rfl⟩
  all_goals first | exact .dead dead_stuck | exact .dead (dead_runtimePanic (e := .nilDeref))

theorem load_rel {a a' : Addr} (h : PR σ a a') : SemRel P VR σ (load a) (load a') := by
  obtain ⟨κ, h1, h2, h3⟩ := h
  obtain ⟨b, o, p⟩ := a
  obtain ⟨b', o', p'⟩ := a'
  simp only at h1 h2 h3
  subst h2; subst h3
  exact .load h1 fun v v' hv => .pure hv
theorem store_rel {a a' : Addr} (h : PR σ a a') {v v' : Value} (hv : VRel σ v v') : SemRel P ER σ (store a v) (store a' v') := by
  obtain ⟨κ, h1, h2, h3⟩ := h
  obtain ⟨b, o, p⟩ := a
  obtain ⟨b', o', p'⟩ := a'
  simp only at h1 h2 h3
  subst h2; subst h3
  exact .store h1 hv (.pure rfl)
theorem loadCellsFrom_rel : ∀ (n : Nat) {σ : Ren} {a a' : Addr} (i : Nat) {acc acc' : Array Value}, PR σ a a' → AR σ acc acc' → SemRel P AR σ (loadCellsFrom a i n acc) (loadCellsFrom a' i n acc')
  | 0, σ, a, a', i, acc, acc', h, hc => .ret hc
  | n + 1, σ, a, a', i, acc, acc', h, hc => (load_rel (h.add i)).bnd fun t v v' ht hv => loadCellsFrom_rel n _ (h.mono ht) ((hc.mono ht).push hv)
theorem loadCells_rel (n : Nat) {a a' : Addr} (h : PR σ a a') : SemRel P AR σ (loadCells a n) (loadCells a' n) := loadCellsFrom_rel n 0 h AR.empty
/-- lists, value by value -/
def LR (s : Ren) : List Value → List Value → Prop
  | [], [] => True
  | a :: l, b :: m => VRel s a b ∧ LR s l m
  | _, _ => False
theorem LR.mono {s t : Ren} (h : Ren.le s t) : ∀ {l m : List Value}, LR s l m → LR t l m
  | [], [], _ => trivial
  | a :: l, b :: m, k => ⟨k.1.mono h, LR.mono h k.2⟩
  | [], _ :: _, k => k.elim
  | _ :: _, [], k => k.elim
theorem LR.of : ∀ (l m : List Value), l.length = m.length → (∀ (i : Nat) (v v' : Value), l[i]? = some v → m[i]? = some v' → VRel σ v v') → LR σ l m
  | [], [], _, _ => trivial
  | a :: l, b :: m, h1, h2 => ⟨h2 0 a b rfl rfl, LR.of l m (by simpa using h1) fun i v v' x y => h2 (i + 1) v v' (by simpa using x) (by simpa using y)⟩
  | [], b :: m, h1, _ => by simp at h1
  | a :: l, [], h1, _ => by simp at h1
theorem AR.list {a a' : Array Value} (h : AR σ a a') : LR σ a.toList a'.toList := LR.of _ _ (by simpa using h.1) fun i v v' x y => h.2 i v v' (by simpa using x) (by simpa using y)
theorem LR.length : ∀ {l m : List Value}, LR σ l m → l.length = m.length
  | [], [], _ => rfl
  | a :: l, b :: m, k => by simp [LR.length k.2]
  | [], _ :: _, k => k.elim
  | _ :: _, [], k => k.elim
theorem LR.at : ∀ {l m : List Value}, LR σ l m → ∀ (i : Nat) (v v' : Value), l[i]? = some v → m[i]? = some v' → VRel σ v v'
  | [], [], _, i, v, v', x, _ => by simp at x
  | a :: l, b :: m, k, 0, v, v', x, y => by
    simp at x y; subst x; subst y; exact k.1
  | a :: l, b :: m, k, i + 1, v, v', x, y => LR.at k.2 i v v' (by simpa using x) (by simpa using y)
  | [], _ :: _, k, _, _, _, _, _ => k.elim
  | _ :: _, [], k, _, _, _, _, _ => k.elim
theorem LR.array {l m : List Value} (h : LR σ l m) : AR σ l.toArray m.toArray := ⟨by simpa using h.length, fun i v v' x y => h.at i v v' (by simpa using x) (by simpa using y)⟩
theorem storeCells_rel : ∀ {l l' : List Value} {σ : Ren} {a a' : Addr} (i : Nat), PR σ a a' → LR σ l l' → SemRel P ER σ (storeCells a l i) (storeCells a' l' i)
  | [], [], σ, a, a', i, h, hl => .ret rfl
  | v :: l, v' :: l', σ, a, a', i, h, hl => (store_rel (h.add i) hl.1).bnd fun t _ _ ht _ => storeCells_rel (i + 1) (h.mono ht) (hl.2.mono ht)
  | [], _ :: _, _, _, _, _, _, k => k.elim
  | _ :: _, [], _, _, _, _, _, k => k.elim
theorem loadVar_rel {t : TypeId} {a a' : Addr} (h : PR σ a a') : SemRel P VR σ (loadVar t a) (loadVar t a') := by
  refine isAgg_any.bnd fun s x y hs e => ?_
  obtain rfl : x = y := e
  cases x
  · exact load_rel (h.mono hs)
  · refine sizeOf_any.bnd fun s2 m n hs2 e2 => ?_
    obtain ⟨rfl, _⟩ := e2
    exact (loadCells_rel _ ((h.mono hs).mono hs2)).bnd fun s3 c c' _ hc => .ret (VRel.agg hc.1 hc.2)
theorem storeVar_rel {t : TypeId} {a a' : Addr} {v v' : Value} (h : PR σ a a') (hv : VRel σ v v') : SemRel P ER σ (storeVar t a v) (storeVar t a' v') := by
  refine sizeOf_any.bnd fun s m n hs e => ?_
  obtain ⟨rfl, _⟩ := e
  have hc := AR.cells (hv.mono hs)
  rw [← hc.1]
  split
  · exact .dead (dead_bind _ dead_stuck)
  · exact storeCells_rel 0 (h.mono hs) hc.list
theorem newRow_rel {e : TypeId} {c c' : Array Value} (h : AR σ c c') : SemRel P PR σ (newRow e c) (newRow e c') :=
  .new (.cells e (0, 0) h) fun i b hi => .pure ⟨0, by simp [Ren.ext], rfl, rfl⟩
theorem newVar_rel {t : TypeId} {v v' : Value} (h : VRel σ v v') : SemRel P PR σ (newVar t v) (newVar t v') := newRow_rel (AR.cells h)
theorem PR.ptr {a a' : Addr} (h : PR σ a a') : VRel σ (.pointer (some a)) (.pointer (some a')) := by
  obtain ⟨κ, h1, h2, h3⟩ := h
  obtain ⟨b, o, p⟩ := a
  obtain ⟨b', o', p'⟩ := a'
  simp only at h1 h2 h3
  subst h2; subst h3
  exact .ptr h1
theorem part_rel {t : TypeId} {c c' : Array Value} {o : Nat} (h : AR σ c c') : SemRel P VR σ (part t c o) (part t c' o) := by
  refine isAgg_any.bnd fun s x y hs e => ?_
  obtain rfl : x = y := e
  cases x
  · simp only [Bool.false_eq_true, if_false]
    cases hx : c[o]? with
    | none => simp only; exact .dead dead_stuck
    | some v =>
      obtain ⟨v', h1, h2⟩ := (h.mono hs).get hx
      rw [h1]; exact .ret h2
  · refine sizeOf_any.bnd fun s2 m n hs2 e2 => ?_
    obtain ⟨rfl, _⟩ := e2
    have := ((h.mono hs).mono hs2).extract o (o + m)
    exact .ret (VRel.agg this.1 this.2)
end
end Go.Proofs.Ytpaojoahbmlolaa
