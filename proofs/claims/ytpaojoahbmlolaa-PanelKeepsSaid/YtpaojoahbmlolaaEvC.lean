/- Two operations that go together: what the run does, the real one does. -/
import Derived.Test.YtpaojoahbmlolaaEvB
namespace Go.Proofs.Ytpaojoahbmlolaa
open Go Go.RowKit
set_option linter.unusedVariables false
set_option linter.unusedSimpArgs false
set_option linter.unnecessarySimpa false

inductive SemRel (P : Program) {α β : Type} (R : Ren → α → β → Prop) : Ren → Sem α → Sem β → Prop
  | pure {s : Ren} {a : α} {b : β} (h : R s a b) : SemRel P R s (.pure a) (.pure b)
  | load {s : Ren} {b b' κ o : Nat} {p : Option Nat} {m m' : Mode} {k : Value → Sem α} {k' : Value → Sem β} (h : s b = some (b', κ)) (hk : ∀ v v', VRel s v v' → SemRel P R s (k v) (k' v')) :
      SemRel P R s (.load m ⟨b, o, p⟩ k) (.load m' ⟨b', o, p⟩ k')
  | store {s : Ren} {b b' κ o : Nat} {p : Option Nat} {m m' : Mode} {v v' : Value} {k : Sem α} {k' : Sem β} (h : s b = some (b', κ)) (hv : VRel s v v') (hk : SemRel P R s k k') :
      SemRel P R s (.store m ⟨b, o, p⟩ v k) (.store m' ⟨b', o, p⟩ v' k')
  | new {s : Ren} {o o' : Obj} {k : Nat → Sem α} {k' : Nat → Sem β} (ho : ORel P s 0 true o o') (hk : ∀ i b, s i = none → SemRel P R (s.ext i (b, 0)) (k i) (k' b)) : SemRel P R s (.new o k) (.new o' k')
  | getObj {s : Ren} {r r' κ : Nat} {k : Obj → Sem α} {k' : Obj → Sem β} (h : s r = some (r', κ)) (hk : ∀ o o', ORel P s κ true o o' → Obj.isCells o = false → SemRel P R s (k o) (k' o')) :
      SemRel P R s (.getObj r k) (.getObj r' k')
  | setObj {s : Ren} {r r' κ : Nat} {o o' : Obj} {k : Sem α} {k' : Sem β} (h : s r = some (r', κ)) (ho : ∀ κ, ORel P s κ true o o') (hk : SemRel P R s k k') : SemRel P R s (.setObj r o k) (.setObj r' o' k')
  | forced {s : Ren} {q : Question} {k : Nat → Sem α} {k' : Nat → Sem β} (h : q.forced = true) (hk : SemRel P R s (k 0) (k' 0)) : SemRel P R s (.choose q k) (.choose q k')
  | program {s : Ren} {k : Program → Sem α} {k' : Program → Sem β} (hk : SemRel P R s (k P) (k' P)) : SemRel P R s (.program k) (.program k')
  | mark {s : Ren} {m m' : Mark} {k : Sem α} {k' : Sem β} (hk : SemRel P R s k k') : SemRel P R s (.mark m k) (.mark m' k')
  | dead {s : Ren} {t : Sem α} {u : Sem β} (h : ∀ x, runV P t x = none) : SemRel P R s t u

theorem runV_bind {P : Program} {α γ : Type} (f : α → Sem γ) : ∀ (m : Sem α) (x : HS), runV P m x = none → runV P (m.bind f) x = none
  | .pure a, x, h => by simp [runV] at h
  | .load m a k, x, h => by
    simp only [Sem.bind, runV] at h ⊢
    repeat' split
    all_goals first | rfl | skip
    all_goals
      simp_all
      exact runV_bind f _ _ h
  | .store m a v k, x, h => by
    simp only [Sem.bind, runV] at h ⊢
    repeat' split
    all_goals first | rfl | skip
    simp_all
    exact runV_bind f _ _ h
  | .new o k, x, h => by
    simp only [Sem.bind, runV] at h ⊢
    repeat' split
    all_goals first | rfl | skip
    simp_all
    exact runV_bind f _ _ h
  | .getObj r k, x, h => by
    simp only [Sem.bind, runV] at h ⊢
    repeat' split
    all_goals first | rfl | skip
    all_goals
      simp_all
      exact runV_bind f _ _ h
  | .setObj r o k, x, h => by
    simp only [Sem.bind, runV] at h ⊢
    repeat' split
    all_goals first | rfl | skip
    all_goals
      simp_all
      exact runV_bind f _ _ h
  | .choose q k, x, h => by
    simp only [Sem.bind, runV] at h ⊢
    repeat' split
    all_goals first | rfl | skip
    simp_all
    exact runV_bind f _ _ h
  | .program k, x, h => by
    simp only [Sem.bind, runV] at h ⊢
    exact runV_bind f _ _ h
  | .mark m k, x, h => by
    simp only [Sem.bind, runV] at h ⊢
    repeat' split
    all_goals first | rfl | skip
    simp_all
    exact runV_bind f _ _ h
  | .shape .., x, h => rfl
  | .freeze .., x, h => rfl
  | .frozen .., x, h => rfl
  | .sys .., x, h => rfl
  | .halt .., x, h => rfl

theorem SemRel.bind {P : Program} {α β γ δ : Type} {R : Ren → α → β → Prop} {S : Ren → γ → δ → Prop} {s : Ren} {m : Sem α} {m' : Sem β} {f : α → Sem γ} {f' : β → Sem δ}
    (h : SemRel P R s m m') (hf : ∀ t a b, Ren.le s t → R t a b → SemRel P S t (f a) (f' b)) : SemRel P S s (m.bind f) (m'.bind f') := by
  induction h with
  | pure h => exact hf _ _ _ (Ren.le_refl _) h
  | load h hk ih => exact .load h fun v v' hv => ih v v' hv hf
  | store h hv hk ih => exact .store h hv (ih hf)
  | new ho hk ih => exact .new ho fun i b hi => ih i b hi fun t x y ht => hf t x y (Ren.le_trans (Ren.le_ext _ hi) ht)
  | getObj h hk ih => exact .getObj h fun o o' ho hc => ih o o' ho hc hf
  | setObj h ho hk ih => exact .setObj h ho (ih hf)
  | forced h hk ih => exact .forced h (ih hf)
  | program hk ih => exact .program (ih hf)
  | mark hk ih => exact .mark (ih hf)
  | dead h => exact .dead fun x => runV_bind f _ x (h x)

theorem SemRel.mono {P : Program} {α β : Type} {R S : Ren → α → β → Prop} {s : Ren} {m : Sem α} {m' : Sem β} (h : SemRel P R s m m') (hf : ∀ t a b, Ren.le s t → R t a b → S t a b) : SemRel P S s m m' := by
  have := h.bind (f := Sem.pure) (f' := Sem.pure) (S := S) fun t a b ht hr => .pure (hf t a b ht hr)
  have e : ∀ {γ : Type} (x : Sem γ), x.bind Sem.pure = x := by
    intro γ x
    induction x with
    | pure a => rfl
    | load m a k ih => exact congrArg _ (funext ih)
    | store m a v k ih => exact congrArg _ ih
    | new o k ih => exact congrArg _ (funext ih)
    | shape r k ih => exact congrArg _ (funext ih)
    | freeze a n k ih => exact congrArg _ ih
    | frozen a k ih => exact congrArg _ (funext ih)
    | getObj r k ih => exact congrArg _ (funext ih)
    | setObj r o k ih => exact congrArg _ ih
    | choose q k ih => exact congrArg _ (funext ih)
    | sys c k ih => exact congrArg _ (funext ih)
    | program k ih => exact congrArg _ (funext ih)
    | mark m k ih => exact congrArg _ ih
    | halt h => rfl
  rwa [e, e] at this

/-- what is written by the run, and else what was there -/
def upd (H : Nat → Option VO) (s : HS) : Nat → Option VO := fun i => match s.wr.testBit i with | true => s.heap.get i | false => H i
structure Sim (s : HS) (H : Nat → Option VO) : Prop where
  wr : ∀ i, s.wr.testBit i = true → H i = s.heap.get i
  new : ∀ i, s.next ≤ i → s.heap.get i = none
/-- where the run reads, the memory is the run's; where it makes blocks, nothing is -/
structure Agree (s s' : HS) (H : Nat → Option VO) : Prop where
  rd : ∀ i, s'.rd.testBit i = true → H i = s.heap.get i
  new : ∀ i, s.next ≤ i → i < s'.next → H i = none

theorem upd_at {H : Nat → Option VO} {s : HS} {i : Nat} (h : s.wr.testBit i = true) : upd H s i = s.heap.get i := by simp [upd, h]
theorem upd_else {H : Nat → Option VO} {s : HS} {i : Nat} (h : s.wr.testBit i = false) : upd H s i = H i := by simp [upd, h]
theorem upd_upd {H : Nat → Option VO} {s s' : HS} (h : VStep s s') : upd (upd H s) s' = upd H s' := by
  funext i
  cases hw : s'.wr.testBit i with
  | true => rw [upd_at hw, upd_at hw]
  | false =>
    rw [upd_else hw, upd_else hw]
    apply upd_else
    cases hb : s.wr.testBit i with
    | false => rfl
    | true => rw [h.wr i hb] at hw; cases hw
theorem Sim.step {H : Nat → Option VO} {s s' : HS} (h : Sim s H) (k : VStep s s') : Sim s' (upd H s') := ⟨fun i e => upd_at e, k.fresh h.new⟩
theorem Sim.upd {H : Nat → Option VO} {s : HS} (h : Sim s H) : upd H s = H := by
  funext i
  cases hw : s.wr.testBit i with
  | true => rw [upd_at hw, h.wr i hw]
  | false => rw [upd_else hw]
theorem Agree.first {H : Nat → Option VO} {a b c : HS} (h : Agree a c H) (k : VStep b c) : Agree a b H := ⟨fun i e => h.rd i (k.rd i e), fun i e f => h.new i e (Nat.lt_of_lt_of_le f k.next)⟩
theorem Agree.last {H : Nat → Option VO} {a b c : HS} (h : Agree a c H) (hs : Sim a H) (j : VStep a b) (k : VStep b c) : Agree b c (upd H b) := by
  refine ⟨fun i e => ?_, fun i e f => ?_⟩
  · cases hw : b.wr.testBit i with
    | true => exact upd_at hw
    | false => rw [upd_else hw, h.rd i e, j.keep i hw]
  · cases hw : b.wr.testBit i with
    | true => rw [upd_at hw]; exact j.fresh hs.new i e
    | false => rw [upd_else hw]; exact h.new i (Nat.le_trans j.next e) f

theorem Match.grow {P : Program} {B : Bd} {s : Ren} {H : Nat → Option VO} {w : World} (h : Match P B s H w) {w' : World} (e : w'.heap = w.heap) : Match P B s H w' :=
  ⟨h.dom, h.old, fun i b κ v x y z => by rw [e]; exact h.objX i b κ v x y z, h.injX, h.low, fun i c t x => by rw [e]; exact h.glob i c t x, fun i b κ v x y => (h.non i b κ v x y).world fun _ => by rw [e], h.sep⟩

theorem Match.read {P : Program} {B : Bd} {s : Ren} {H : Nat → Option VO} {w : World} (h : Match P B s H w) {i b κ : Nat} {c : Array Value} {e : TypeId} {fz : Nat × Nat} {ex : Bool}
    (hs : s i = some (b, κ)) (hH : H i = some (.live (.cells c e fz) ex)) {o : Nat} {v : Value} (hv : c[o]? = some v) : ∃ v', w.cell? ⟨b, o, none⟩ = some v' ∧ w.frozen? ⟨b, o, none⟩ = (decide (fz.1 ≤ o) && decide (o < fz.2)) ∧ VRel s v v' := by
  obtain ⟨o', ho, hr⟩ := h.obj i b κ _ ex hs hH
  cases hr with
  | cells e fz hc =>
    obtain ⟨v', h1, h2⟩ := hc.get hv
    exact ⟨v', by simp [World.cell?, ho, h1], by simp [World.frozen?, ho], h2⟩
  | row e fz info hi hl hc hk hm =>
    have hlt : o < c.size := (Array.getElem?_eq_some_iff.1 hv).1
    rename_i c'
    have h1 : c'[o]? = some c'[o] := by simp [show o < c'.size by omega]
    exact ⟨c'[o], by simp [World.cell?, ho, h1], by simp [World.frozen?, ho], hc o v _ hv h1⟩
  | srow e info hi hl hc hk hm =>
    have hlt : o < c.size := (Array.getElem?_eq_some_iff.1 hv).1
    rename_i c'
    have h1 : c'[o]? = some c'[o] := by simp [show o < c'.size by omega]
    have h2 : ¬ (c'.size ≤ o) := by omega
    refine ⟨c'[o], by simp [World.cell?, ho, h1], ?_, hc o v _ hv h1⟩
    simp only [World.frozen?, ho]
    rw [Bool.eq_iff_iff]
    simp [h2]

theorem frozenV_eq (fz : Nat × Nat) (o : Nat) : frozenV fz o = (decide (fz.1 ≤ o) && decide (o < fz.2)) := by
  have e1 : ∀ x y, Nat.ble x y = decide (x ≤ y) := fun x y => by rw [Bool.eq_iff_iff]; simp
  unfold frozenV
  rw [e1, show Nat.blt o fz.2 = decide (o < fz.2) from e1 (o + 1) fz.2]
theorem heap_set {w : World} {b o : Nat} {c : Array Value} {e : TypeId} {fz : Nat × Nat} (h : w.heap[b]? = some (.cells c e fz)) (v : Value) :
    (w.setCell ⟨b, o, none⟩ v).heap[b]? = some (.cells (c.setIfInBounds o v) e fz) := by
  simp [World.setCell, Array.getElem?_modify, h]

theorem AR.set {s : Ren} {a a' : Array Value} (h : AR s a a') (o : Nat) {v v' : Value} (hv : VRel s v v') : AR s (a.setIfInBounds o v) (a'.setIfInBounds o v') := by
  refine ⟨by simp [h.1], fun i x x' hx hx' => ?_⟩
  rw [Array.getElem?_setIfInBounds] at hx hx'
  by_cases e : o = i
  · subst e
    simp only [if_true] at hx hx'
    split at hx
    · split at hx'
      · injection hx with hx; injection hx' with hx'; subst hx; subst hx'; exact hv
      · cases hx'
    · cases hx
  · rw [if_neg e] at hx hx'
    exact h.2 i x x' hx hx'

/-- a block of the run takes another content, and its real one too -/
theorem Match.putX {P : Program} {B : Bd} {s : Ren} {H H' : Nat → Option VO} {w w' : World} (h : Match P B s H w) {i b κ : Nat} {v v0 : VO} {o' : Obj}
    (hs : s i = some (b, κ)) (h0 : H i = some v0) (a0 : v0.alive = true) (h1 : H' i = some v) (a1 : v.alive = true) (h2 : ∀ j, j ≠ i → H' j = H j) (hw : w'.heap[b]? = some o') (hr : XRel P s κ v o')
    (hz : w'.heap.size = w.heap.size) (hk : ∀ k, k ≠ b → w'.heap[k]? = w.heap[k]?) : Match P B s H' w' := by
  have f : ∀ x y, H' x = some y → y.alive = true → ∃ z, H x = some z ∧ z.alive = true := fun x y ex ea => by
    by_cases e : x = i
    · subst e; exact ⟨_, h0, a0⟩
    · rw [h2 x e] at ex; exact ⟨_, ex, ea⟩
  refine ⟨fun j => ?_, fun j c κ2 p e1 e2 e3 => ?_, fun j c κ2 p e1 e2 e3 => ?_, fun j l c κ1 κ2 p q e1 e2 e3 e4 e5 e6 => ?_, h.low, fun j c e e1 => ?_, fun j c κ2 p e1 e2 => ?_, fun j l c κ1 κ2 p q e1 e2 e3 e4 e5 e6 => ?_⟩
  · by_cases e : j = i
    · subst e; rw [hs, h1]; simp
    · rw [h2 j e]; exact h.dom j
  · obtain ⟨z, f1, f2⟩ := f _ _ e2 e3
    exact h.old j c κ2 z e1 f1 f2
  · by_cases e : j = i
    · subst e
      rw [hs] at e1; injection e1 with e1; injection e1 with ea eb; subst ea; subst eb
      rw [h1] at e2; injection e2 with e2; subst e2
      exact ⟨o', hw, hr⟩
    · rw [h2 j e] at e2
      obtain ⟨q, hq, hqr⟩ := h.objX j c κ2 p e1 e2 e3
      refine ⟨q, ?_, hqr⟩
      rw [hk c, hq]
      rintro rfl
      exact e (h.injX j i _ _ _ _ _ e1 hs e2 h0 e3 a0)
  · obtain ⟨_, f1, g1⟩ := f _ _ e3 e5
    obtain ⟨_, f2, g2⟩ := f _ _ e4 e6
    exact h.injX j l c κ1 κ2 _ _ e1 e2 f1 f2 g1 g2
  · have e : j ≠ i := by
      rintro rfl
      rw [h1] at e1; injection e1 with e1; subst e1; cases a1
    rw [h2 j e] at e1
    obtain ⟨g1, g2, g3⟩ := h.glob j c _ e1
    refine ⟨g1, ?_, g3⟩
    have := h.old i b κ v0 hs h0 a0
    have := B.low
    rw [hk j (by unfold Bd.g at g1; omega)]; exact g2
  · by_cases e : j = i
    · subst e
      rw [h1] at e2; injection e2 with e2; subst e2
      exact .of_alive a1
    · rw [h2 j e] at e2
      refine (h.non j c κ2 p e1 e2).world fun hst => hk c ?_
      rintro rfl
      exact h.sep j i _ _ _ _ _ e1 hs e2 h0 hst a0
  · have ej : j ≠ i := by
      rintro rfl
      rw [h1] at e3; injection e3 with e3; subst e3
      exact VO.still_alive e5 a1
    rw [h2 j ej] at e3
    obtain ⟨_, f2, g2⟩ := f _ _ e4 e6
    exact h.sep j l c κ1 κ2 _ _ e1 e2 e3 f2 e5 g2
theorem Match.put {P : Program} {B : Bd} {s : Ren} {H H' : Nat → Option VO} {w w' : World} (h : Match P B s H w) {i b κ : Nat} {o : Obj} {ex : Bool} {o' : Obj} {o0 : Obj} {ex0 : Bool}
    (hs : s i = some (b, κ)) (h0 : H i = some (.live o0 ex0)) (h1 : H' i = some (.live o ex)) (h2 : ∀ j, j ≠ i → H' j = H j) (hw : w'.heap[b]? = some o') (hr : ORel P s κ ex o o')
    (hz : w'.heap.size = w.heap.size) (hk : ∀ k, k ≠ b → w'.heap[k]? = w.heap[k]?) : Match P B s H' w' := h.putX hs h0 rfl h1 rfl h2 hw (.live hr) hz hk

theorem Match.newX {P : Program} {B : Bd} {s : Ren} {H H' : Nat → Option VO} {w w' : World} (h : Match P B s H w) {i κ : Nat} {v : VO} {o' : Obj}
    (h0 : H i = none) (h1 : H' i = some v) (a1 : v.alive = true) (h2 : ∀ j, j ≠ i → H' j = H j) (hw : w'.heap = w.heap.push o') (hB : B.b ≤ w.heap.size) (hr : XRel P s κ v o') : Match P B (s.ext i (w.heap.size, κ)) H' w' := by
  have hsi : s i = none := (h.dom i).2 h0
  have hle := Ren.le_ext (w.heap.size, κ) hsi
  have hat : ∀ j, j ≠ i → Ren.ext s i (w.heap.size, κ) j = s j := fun j e => by simp [Ren.ext, e]
  have hii : Ren.ext s i (w.heap.size, κ) i = some (w.heap.size, κ) := by simp [Ren.ext]
  refine ⟨fun j => ?_, fun j c κ2 p e1 e2 e3 => ?_, fun j c κ2 p e1 e2 e3 => ?_, fun j l c κ1 κ2 p q e1 e2 e3 e4 e5 e6 => ?_, fun g hg => ?_, fun j c e e1 => ?_, fun j c κ2 p e1 e2 => ?_, fun j l c κ1 κ2 p q e1 e2 e3 e4 e5 e6 => ?_⟩
  · by_cases e : j = i
    · subst e; rw [hii, h1]; simp
    · rw [hat j e, h2 j e]; exact h.dom j
  · by_cases ej : j = i
    · subst ej
      rw [hii] at e1; injection e1 with e1; injection e1 with ea eb; subst ea; exact hB
    · rw [hat j ej] at e1
      rw [h2 j ej] at e2
      exact h.old j c κ2 p e1 e2 e3
  · by_cases ej : j = i
    · subst ej
      rw [hii] at e1; injection e1 with e1; injection e1 with ea eb; subst ea; subst eb
      rw [h1] at e2; injection e2 with e2; subst e2
      exact ⟨o', by rw [hw]; simp, hr.mono hle⟩
    · rw [hat j ej] at e1
      rw [h2 j ej] at e2
      obtain ⟨q, hq, hqr⟩ := h.objX j c κ2 p e1 e2 e3
      have hlt := (Array.getElem?_eq_some_iff.1 hq).1
      exact ⟨q, by rw [hw, Array.getElem?_push_lt hlt]; rw [← hq]; simp [hlt], hqr.mono hle⟩
  · by_cases ej : j = i
    · by_cases el : l = i
      · rw [ej, el]
      · exfalso
        subst ej
        rw [hii] at e1; injection e1 with e1; injection e1 with ea eb; subst ea
        rw [hat l el] at e2
        rw [h2 l el] at e4
        have := h.ltA e2 e4 e6
        omega
    · by_cases el : l = i
      · exfalso
        subst el
        rw [hii] at e2; injection e2 with e2; injection e2 with ea eb; subst ea
        rw [hat j ej] at e1
        rw [h2 j ej] at e3
        have := h.ltA e1 e3 e5
        omega
      · rw [hat j ej] at e1
        rw [hat l el] at e2
        rw [h2 j ej] at e3
        rw [h2 l el] at e4
        exact h.injX j l c κ1 κ2 _ _ e1 e2 e3 e4 e5 e6
  · have e : g ≠ i := by
      rintro rfl
      have := h.low g hg
      rw [hsi] at this; cases this
    rw [hat g e]; exact h.low g hg
  · have e' : j ≠ i := by
      rintro rfl
      rw [h1] at e1; injection e1 with e1; subst e1; cases a1
    rw [h2 j e'] at e1
    obtain ⟨g1, g2, g3⟩ := h.glob j c e e1
    refine ⟨g1, ?_, g3⟩
    obtain ⟨e', fz, g2⟩ := g2
    have hlt := (Array.getElem?_eq_some_iff.1 g2).1
    refine ⟨e', fz, ?_⟩
    rw [hw, Array.getElem?_push_lt hlt]; rw [← g2]; simp [hlt]
  · by_cases ej : j = i
    · subst ej
      rw [h1] at e2; injection e2 with e2; subst e2
      exact .of_alive a1
    · rw [hat j ej] at e1
      rw [h2 j ej] at e2
      refine ((h.non j c κ2 p e1 e2).world fun hst => ?_).mono hle
      have hlt := (h.non j c κ2 p e1 e2).lt hst
      rw [hw, Array.getElem?_push]
      rw [if_neg (by omega)]
  · have ej : j ≠ i := by
      rintro rfl
      rw [h1] at e3; injection e3 with e3; subst e3
      exact VO.still_alive e5 a1
    rw [hat j ej] at e1
    rw [h2 j ej] at e3
    by_cases el : l = i
    · subst el
      rw [hii] at e2; injection e2 with e2; injection e2 with ea eb; subst ea
      have := (h.non j _ _ _ e1 e3).lt e5
      omega
    · rw [hat l el] at e2
      rw [h2 l el] at e4
      exact h.sep j l c κ1 κ2 _ _ e1 e2 e3 e4 e5 e6
theorem Match.new {P : Program} {B : Bd} {s : Ren} {H H' : Nat → Option VO} {w w' : World} (h : Match P B s H w) {i κ : Nat} {o : Obj} {ex : Bool} {o' : Obj}
    (h0 : H i = none) (h1 : H' i = some (.live o ex)) (h2 : ∀ j, j ≠ i → H' j = H j) (hw : w'.heap = w.heap.push o') (hB : B.b ≤ w.heap.size) (hr : ORel P s κ ex o o') : Match P B (s.ext i (w.heap.size, κ)) H' w' := h.newX h0 h1 rfl h2 hw hB (.live hr)

theorem upd_put {H : Nat → Option VO} {s s' : HS} {k : Nat} {v : VO} (hs : Sim s H) (h : s.put k v = some s') : upd H s' k = some v ∧ ∀ j, j ≠ k → upd H s' j = H j := by
  obtain ⟨h1, h2, h3, h4⟩ := put_spec h
  refine ⟨by rw [upd_at (by simp [h4]), h2, if_pos rfl], fun j hj => ?_⟩
  cases hw : s.wr.testBit j with
  | true => rw [upd_at (by simp [h4, hw]), h2, if_neg hj, hs.wr j hw]
  | false => rw [upd_else (by simp [h4, hw]; exact fun e => hj e.symm)]
theorem upd_new {H : Nat → Option VO} {s s' : HS} {v : VO} (hs : Sim s H) (h : s.new v = some s') : upd H s' s.next = some v ∧ ∀ j, j ≠ s.next → upd H s' j = H j := by
  obtain ⟨h1, h2, h3, h4⟩ := new_spec h
  refine ⟨by rw [upd_at (by simp [h4]), h2, if_pos rfl], fun j hj => ?_⟩
  cases hw : s.wr.testBit j with
  | true => rw [upd_at (by simp [h4, hw]), h2, if_neg hj, hs.wr j hw]
  | false => rw [upd_else (by simp [h4, hw]; exact fun e => hj e.symm)]

theorem lor_rd {r : Nat} (k : Nat) : (Nat.lor r (bitOf k)).testBit k = true := by
  rw [lor_bit]; simp

/-- THE LAW of one operation. -/
theorem run_sound {P : Program} {B : Bd} {α β : Type} {R : Ren → α → β → Prop} {σ : Ren} {t : Sem α} {t' : Sem β} (h : SemRel P R σ t t') :
    ∀ (s s' : HS) (a : α), runV P t s = some (a, s') → ∀ (H : Nat → Option VO) (w : World), Match P B σ H w → Sim s H → Agree s s' H → Ok B w →
      ∃ σ' b w', t'.run P w = .ok b w' ∧ Ren.le σ σ' ∧ R σ' a b ∧ Match P B σ' (upd H s') w' ∧ Below B.b w w' := by
  induction h with
  | pure h =>
    intro s s' a hr H w hm hs ha hB
    simp only [runV] at hr
    injection hr with hr; injection hr with h1 h2; subst h1; subst h2
    exact ⟨_, _, w, rfl, Ren.le_refl _, h, by rw [hs.upd]; exact hm, Below.refl _ _⟩
  | load hσ hk ih =>
    rename_i s0 b b' κ o p m m' k k'
    intro s s' a hr H w hm hs ha hB
    cases p with
    | some q => simp [runV] at hr
    | none =>
      simp only [runV] at hr
      repeat' split at hr
      all_goals first | cases hr | skip
      · rename_i hg _ v hv
        rw [read_eq] at hr
        have hst := runV_step _ _ _ _ hr
        have hH : H b = _ := (ha.rd b (hst.rd b (lor_rd b))).trans hg
        obtain ⟨v', hc, _, hvv⟩ := hm.read hσ hH hv
        have hs1 : Sim { heap := s.heap, next := s.next, rd := Nat.lor s.rd (bitOf b), wr := s.wr } H := ⟨hs.wr, hs.new⟩
        obtain ⟨σ', y, w', h1, h2, h3, h4, h5⟩ := ih v v' hvv _ _ _ hr H w hm hs1 ⟨fun i e => ha.rd i e, fun i e f => ha.new i e f⟩ hB
        exact ⟨σ', y, w', by simp only [Sem.run, hc]; exact h1, h2, h3, h4, h5⟩
      · rename_i hg _ v hv
        rw [read_eq] at hr
        have hst := runV_step _ _ _ _ hr
        have hH : H b = _ := (ha.rd b (hst.rd b (lor_rd b))).trans hg
        obtain ⟨g1, ⟨_, _, g2⟩, g3⟩ := hm.glob b _ _ hH
        have hbb : b' = b := by
          have := hm.low b g1
          rw [hσ] at this; injection this with this; injection this
        subst hbb
        have hc : w.cell? ⟨b', o, none⟩ = some v := by simp [World.cell?, g2, hv]
        have hs1 : Sim { heap := s.heap, next := s.next, rd := Nat.lor s.rd (bitOf b'), wr := s.wr } H := ⟨hs.wr, hs.new⟩
        obtain ⟨σ', y, w', h1, h2, h3, h4, h5⟩ := ih v v (flat_rel 50 v (g3 _ _ hv)) _ _ _ hr H w hm hs1 ⟨fun i e => ha.rd i e, fun i e f => ha.new i e f⟩ hB
        exact ⟨σ', y, w', by simp only [Sem.run, hc]; exact h1, h2, h3, h4, h5⟩
  | store hσ hv hk ih =>
    rename_i s0 b b' κ o p m m' v v' k k'
    intro s s' a hr H w hm hs ha hB
    cases p with
    | some q => simp [runV] at hr
    | none =>
      simp only [runV] at hr
      repeat' split at hr
      all_goals first | cases hr | skip
      rename_i c e fz ex hg _ hlt _ hn1 hn2 _ s1 hp
      have hst := runV_step _ _ _ _ hr
      have hst0 := VStep.put hp (by rw [hg]; simp)
      have hrd : s1.rd.testBit b = true := by rw [(put_spec hp).2.2.1]; simp
      have hH : H b = _ := (ha.rd b (hst.rd b hrd)).trans hg
      simp only [Bool.and_eq_true, Bool.not_eq_true'] at hlt
      have hlt' : o < c.size := Nat.le_of_ble_eq_true hlt.1
      obtain ⟨x', hc, hf, _⟩ := hm.read hσ hH (o := o) (v := c[o]) (by simp [hlt'])
      rw [← frozenV_eq, hlt.2] at hf
      obtain ⟨o', ho, hor⟩ := hm.obj b b' κ _ ex hσ hH
      obtain ⟨u1, u2⟩ := upd_put hs hp
      have key : ∃ c' fz', o' = .cells c' e fz' ∧ ORel P s0 κ ex (.cells (c.setIfInBounds o v) e fz) (.cells (c'.setIfInBounds o v') e fz') := by
        have hset : ∀ (c' : Array Value), c.size ≤ c'.size → (∀ (j : Nat) (v v' : Value), c[j]? = some v → c'[j]? = some v' → VRel s0 v v') → ∀ (j : Nat) (x x' : Value), (c.setIfInBounds o v)[j]? = some x → (c'.setIfInBounds o v')[j]? = some x' → VRel s0 x x' := by
          intro c' hl hc j x x' hx hx'
          rw [Array.getElem?_setIfInBounds] at hx hx'
          by_cases e : o = j
          · subst e
            rw [if_pos rfl, if_pos hlt'] at hx
            rw [if_pos rfl, if_pos (by omega)] at hx'
            injection hx with hx; injection hx' with hx'; subst hx; subst hx'; exact hv
          · rw [if_neg e] at hx hx'
            exact hc j x x' hx hx'
        cases hor with
        | cells e fz hc => exact ⟨_, _, rfl, .cells e _ (hc.set o hv)⟩
        | row e fz info hi hl hc hk hm => exact ⟨_, _, rfl, .row e _ info hi (by simpa using hl) (hset _ hl hc) (by simpa using hk) hm⟩
        | srow e info hi hl hc hk hm =>
          rename_i c'
          have := ORel.srow (P := P) (s := s0) (κ := κ) (c := c.setIfInBounds o v) (c' := c'.setIfInBounds o v') e info hi (by simpa using hl) (hset _ hl hc) (by simpa using hk) hm
          rw [Array.size_setIfInBounds] at this
          exact ⟨_, _, rfl, this⟩
      obtain ⟨c', fz', rfl, hor'⟩ := key
      have hm1 : Match P B s0 (upd H s1) (w.setCell ⟨b', o, none⟩ v') :=
        hm.put hσ hH u1 u2 (heap_set ho v') hor' (by simp [World.setCell]) (fun k hk => Below.heap_setCell _ _ _ k hk)
      obtain ⟨σ', y, w', h1, h2, h3, h4, h5⟩ := ih s1 s' a hr _ _ hm1 (hs.step hst0) (ha.last hs hst0 hst) (hB.step ((Below.refl B.b w).setCell (p := ⟨b', o, none⟩) (hm.old b b' κ _ hσ hH rfl) v'))
      refine ⟨σ', y, w', ?_, h2, h3, by rw [upd_upd hst] at h4; exact h4, Below.trans ((Below.refl B.b w).setCell (p := ⟨b', o, none⟩) (hm.old b b' κ _ hσ hH rfl) v') h5⟩
      have hrun : (Sem.store m' ⟨b', o, none⟩ v' k').run P w = k'.run P (w.setCell ⟨b', o, none⟩ v') := by
        cases hv <;> first | (exact absurd rfl (hn1 _)) | (exact absurd rfl (hn2 _)) | (simp only [Sem.run, hc, hf]; rfl)
      rw [hrun]; exact h1
  | new ho hk ih =>
    rename_i s0 o o' k k'
    intro s s' a hr H w hm hs ha hB
    simp only [runV] at hr
    split at hr
    · rename_i s1 hp
      have hst := runV_step _ _ _ _ hr
      have hst0 := VStep.new hp
      obtain ⟨u1, u2⟩ := upd_new hs hp
      have hn : H s.next = none := ha.new s.next (Nat.le_refl _) (by have := (new_spec hp).1; have := hst.next; omega)
      have hσ : s0 s.next = none := (hm.dom _).2 hn
      have hm1 : Match P B (Ren.ext s0 s.next (w.heap.size, 0)) (upd H s1) { w with heap := w.heap.push o' } := hm.new hn u1 u2 rfl hB.size ho
      obtain ⟨σ', y, w', h1, h2, h3, h4, h5⟩ := ih s.next w.heap.size hσ s1 s' a hr _ _ hm1 (hs.step hst0) (ha.last hs hst0 hst) (hB.step ((Below.refl B.b w).alloc hB.size o'))
      refine ⟨σ', y, w', by simp only [Sem.run]; exact h1, Ren.le_trans (Ren.le_ext _ hσ) h2, h3, by rw [upd_upd hst] at h4; exact h4, Below.trans ?_ h5⟩
      exact (Below.refl B.b w).alloc hB.size o'
    · cases hr
  | getObj hσ hk ih =>
    rename_i s0 r r' κ k k'
    intro s s' a hr H w hm hs ha hB
    simp only [runV] at hr
    repeat' split at hr
    all_goals first | cases hr | skip
    all_goals
      rename_i hg
      rw [read_eq] at hr
      have hst := runV_step _ _ _ _ hr
      have hH : H r = _ := (ha.rd r (hst.rd r (lor_rd r))).trans hg
      obtain ⟨o', ho, hor⟩ := hm.obj r r' κ _ _ hσ hH
      have hs1 : Sim { heap := s.heap, next := s.next, rd := Nat.lor s.rd (bitOf r), wr := s.wr } H := ⟨hs.wr, hs.new⟩
      cases hor
      all_goals
        obtain ⟨σ', y, w', h1, h2, h3, h4, h5⟩ := ih _ _ (by first | exact ORel.map _ ‹_› ‹_› | exact ORel.stringIter _ _ | exact ORel.deferred | exact ORel.gone) rfl _ _ _ hr H w hm hs1 ⟨fun i e => ha.rd i e, fun i e f => ha.new i e f⟩ hB
        exact ⟨σ', y, w', by simp only [Sem.run, ho]; exact h1, h2, h3, h4, h5⟩
  | setObj hσ ho hk ih =>
    rename_i s0 r r' κ o o' k k'
    intro s s' a hr H w hm hs ha hB
    simp only [runV] at hr
    repeat' split at hr
    all_goals first | cases hr | skip
    all_goals
      rename_i hg _ s1 hp
      have hst := runV_step _ _ _ _ hr
      have hst0 := VStep.put hp (by rw [hg]; simp)
      have hrd : s1.rd.testBit r = true := by rw [(put_spec hp).2.2.1]; simp
      have hH : H r = _ := (ha.rd r (hst.rd r hrd)).trans hg
      obtain ⟨q, hq, hor⟩ := hm.obj r r' κ _ _ hσ hH
      obtain ⟨u1, u2⟩ := upd_put hs hp
      have hlt := hm.ltA hσ hH rfl
      have hm1 : Match P B s0 (upd H s1) { w with heap := w.heap.setIfInBounds r' o' } :=
        hm.put hσ hH u1 u2 (by simp [hlt]) (ho κ) (by simp) (fun k hk => by simp [Array.getElem?_setIfInBounds, Ne.symm hk])
      have hbel : Below B.b w { w with heap := w.heap.setIfInBounds r' o' } := ⟨rfl, rfl, rfl, by simp, fun k hk => by
        have := hm.old r r' κ _ hσ hH rfl
        have hne : ¬ r' = k := by omega
        simp [Array.getElem?_setIfInBounds, hne]⟩
      obtain ⟨σ', y, w', h1, h2, h3, h4, h5⟩ := ih s1 s' a hr _ _ hm1 (hs.step hst0) (ha.last hs hst0 hst) (hB.step hbel)
      refine ⟨σ', y, w', ?_, h2, h3, by rw [upd_upd hst] at h4; exact h4, hbel.trans h5⟩
      cases hor <;> (simp only [Sem.run, hq]; exact h1)
  | forced hq hk ih =>
    intro s s' a hr H w hm hs ha hB
    simp only [runV, hq] at hr
    obtain ⟨σ', y, w', h1, h2, h3, h4, h5⟩ := ih s s' a hr H w hm hs ha hB
    exact ⟨σ', y, w', by simp only [Sem.run, hq, if_true]; exact h1, h2, h3, h4, h5⟩
  | program hk ih =>
    intro s s' a hr H w hm hs ha hB
    simp only [runV] at hr
    obtain ⟨σ', y, w', h1, h2, h3, h4, h5⟩ := ih s s' a hr H w hm hs ha hB
    exact ⟨σ', y, w', by simp only [Sem.run]; exact h1, h2, h3, h4, h5⟩
  | mark hk ih =>
    intro s s' a hr H w hm hs ha hB
    simp only [runV] at hr
    split at hr
    · cases hr
    obtain ⟨σ', y, w', h1, h2, h3, h4, h5⟩ := ih s s' a hr H w hm hs ha hB
    exact ⟨σ', y, w', by simp only [Sem.run]; exact h1, h2, h3, h4, h5⟩
  | dead h => intro s s' a hr; rw [h] at hr; cases hr
end Go.Proofs.Ytpaojoahbmlolaa
