/- What the run says of the real memory: where its blocks lie, and that the two go together. -/
import Derived.Test.YtpaojoahbmlolaaEvA
import Derived.Below
import Derived.Laws.AppendOwn
import Derived.Laws.Sem
namespace Go.Proofs.Ytpaojoahbmlolaa
open Go Go.RowKit
set_option linter.unusedVariables false
set_option linter.unusedSimpArgs false
set_option linter.unnecessarySimpa false

abbrev Ren := Nat → Option (Nat × Nat)
def Ren.le (s t : Ren) : Prop := ∀ i b, s i = some b → t i = some b
theorem Ren.le_refl (s : Ren) : Ren.le s s := fun _ _ h => h
theorem Ren.le_trans {s t u : Ren} (h : Ren.le s t) (k : Ren.le t u) : Ren.le s u := fun i b e => k i b (h i b e)
def Ren.ext (s : Ren) (i : Nat) (b : Nat × Nat) : Ren := fun j => if j = i then some b else s j
theorem Ren.le_ext {s : Ren} {i : Nat} (b : Nat × Nat) (h : s i = none) : Ren.le s (s.ext i b) := by
  intro j c e
  unfold Ren.ext
  split
  · rename_i hj; subst hj; rw [h] at e; cases e
  · exact e

/-- of a list's block: 0 nothing, and no room; 1 nothing; else where it begins, and its capacity -/
def vOff (κ : Nat) : Nat := (κ - 2) / 18446744073709551616
def vCap (κ : Nat) : Nat := (κ - 2) % 18446744073709551616
def vk (off cap : Nat) : Nat := off * 18446744073709551616 + cap + 2
theorem vOff_vk {off cap : Nat} (h : cap < 18446744073709551616) : vOff (vk off cap) = off := by unfold vOff vk; omega
theorem vCap_vk {off cap : Nat} (h : cap < 18446744073709551616) : vCap (vk off cap) = cap := by unfold vCap vk; omega
theorem two_vk (off cap : Nat) : 2 ≤ vk off cap := by unfold vk; omega
def HandleAt (r κ n : Nat) (x : Option Addr) (c : Nat) : Prop := (κ = 0 ∧ n = 0 ∧ c = 0) ∨ (κ = 1 ∧ n = 0) ∨ (2 ≤ κ ∧ x = some ⟨r, vOff κ, none⟩ ∧ c = vCap κ ∧ n ≤ c)
inductive VRel (s : Ren) : Value → Value → Prop
  | bool (b : Bool) : VRel s (.bool b) (.bool b)
  | int (k : IntKind) (n : Int) : VRel s (.int k n) (.int k n)
  | string (b : ByteArray) : VRel s (.string b) (.string b)
  | ptrNil : VRel s (.pointer none) (.pointer none)
  | ptr {b b' κ o : Nat} {p : Option Nat} (h : s b = some (b', κ)) : VRel s (.pointer (some ⟨b, o, p⟩)) (.pointer (some ⟨b', o, p⟩))
  | sliceNil (l c : Nat) : VRel s (.slice none l c) (.slice none l c)
  | slice {b b' κ o : Nat} {p : Option Nat} (l : Nat) {c c' : Nat} (h : s b = some (b', κ)) (h0 : l ≤ c') (h1 : c < inf → c' = c) (h2 : inf ≤ c → o = 0 → c' = κ) :
      VRel s (.slice (some ⟨b, o, p⟩) l c) (.slice (some ⟨b', o, p⟩) l c')
  | mapNil : VRel s (.map none) (.map none)
  | map {r r' κ : Nat} (h : s r = some (r', κ)) : VRel s (.map (some r)) (.map (some r'))
  | nilFunc : VRel s .nilFunc .nilFunc
  | func (fn : Fn) {a a' b b' : Array Value} (hy : (match fn with | .yield _ => false | _ => true) = true) (h1 : a.size = a'.size) (h2 : ∀ (i : Nat) (v v' : Value), a[i]? = some v → a'[i]? = some v' → VRel s v v')
      (h3 : b.size = b'.size) (h4 : ∀ (i : Nat) (v v' : Value), b[i]? = some v → b'[i]? = some v' → VRel s v v') : VRel s (.func fn a b) (.func fn a' b')
  | iface (t : TypeId) {v v' : Value} (h : VRel s v v') : VRel s (.iface t v) (.iface t v')
  | nilIface : VRel s .nilIface .nilIface
  | yield {l l' κ : Nat} (h : s l = some (l', κ)) : VRel s (.func (.yield l) #[] #[]) (.func (.yield l') #[] #[])
  | agg {a a' : Array Value} (h1 : a.size = a'.size) (h2 : ∀ (i : Nat) (v v' : Value), a[i]? = some v → a'[i]? = some v' → VRel s v v') : VRel s (.agg a) (.agg a')
  | tuple {a a' : Array Value} (h1 : a.size = a'.size) (h2 : ∀ (i : Nat) (v v' : Value), a[i]? = some v → a'[i]? = some v' → VRel s v v') : VRel s (.tuple a) (.tuple a')

  | rowS {b r κ n c : Nat} {x : Option Addr} (h : s b = some (r, κ)) (hx : HandleAt r κ n x c) : VRel s (.complex .f64 b n) (.slice x n c)
  | rowP {b r κ o : Nat} (h : s b = some (r, κ)) (hk : 2 ≤ κ) : VRel s (.complex .f32 b o) (.pointer (some ⟨r, vOff κ + o, none⟩))

theorem VRel.mono {s t : Ren} (hs : Ren.le s t) {v v' : Value} (h : VRel s v v') : VRel t v v' := by
  induction h with
  | bool b => exact .bool b
  | int k n => exact .int k n
  | string b => exact .string b
  | ptrNil => exact .ptrNil
  | ptr h => exact .ptr (hs _ _ h)
  | sliceNil l c => exact .sliceNil l c
  | slice l h h0 h1 h2 => exact .slice l (hs _ _ h) h0 h1 h2
  | mapNil => exact .mapNil
  | map h => exact .map (hs _ _ h)
  | nilFunc => exact .nilFunc
  | func fn hy h1 h2 h3 h4 i2 i4 => exact .func fn hy h1 i2 h3 i4
  | iface t h ih => exact .iface t ih
  | nilIface => exact .nilIface
  | yield h => exact .yield (hs _ _ h)
  | agg h1 h2 ih => exact .agg h1 ih
  | tuple h1 h2 ih => exact .tuple h1 ih
  | rowS h hx => exact .rowS (hs _ _ h) hx
  | rowP h hk => exact .rowP (hs _ _ h) hk

/-- arrays, value by value -/
def AR (s : Ren) (a a' : Array Value) : Prop := a.size = a'.size ∧ ∀ (i : Nat) (v v' : Value), a[i]? = some v → a'[i]? = some v' → VRel s v v'
theorem AR.mono {s t : Ren} (hs : Ren.le s t) {a a' : Array Value} (h : AR s a a') : AR t a a' := ⟨h.1, fun i v v' x y => (h.2 i v v' x y).mono hs⟩
theorem AR.get {s : Ren} {a a' : Array Value} (h : AR s a a') {i : Nat} {v : Value} (hv : a[i]? = some v) : ∃ v', a'[i]? = some v' ∧ VRel s v v' := by
  have hi : i < a'.size := by rw [← h.1]; exact (Array.getElem?_eq_some_iff.1 hv).1
  exact ⟨a'[i], by simp [hi], h.2 i v _ hv (by simp [hi])⟩

inductive ORel (P : Program) (s : Ren) (κ : Nat) : Bool → Obj → Obj → Prop
  | cells {c c' : Array Value} (e : TypeId) (fz : Nat × Nat) (h : AR s c c') : ORel P s κ true (.cells c e fz) (.cells c' e fz)
  | row {c c' : Array Value} (e : TypeId) (fz : Nat × Nat) (i : TypeInfo) (hi : P.info? e = some i) (hl : c.size ≤ c'.size) (h : ∀ (j : Nat) (v v' : Value), c[j]? = some v → c'[j]? = some v' → VRel s v v') (hk : c'.size = κ * i.size) (hm : κ ≤ maxLen) :
      ORel P s κ false (.cells c e fz) (.cells c' e fz)
  | srow {c c' : Array Value} (e : TypeId) (i : TypeInfo) (hi : P.info? e = some i) (hl : c.size ≤ c'.size) (h : ∀ (j : Nat) (v v' : Value), c[j]? = some v → c'[j]? = some v' → VRel s v v') (hk : c'.size = κ * i.size) (hm : κ ≤ maxLen) :
      ORel P s κ false (.cells c e (inf, inf)) (.cells c' e (c'.size, c'.size + 1))
  | map {es es' : Array MapEntry} (cl : Nat) (h1 : es.size = es'.size) (h2 : ∀ (j : Nat) (e e' : MapEntry), es[j]? = some e → es'[j]? = some e' → VRel s e.key e'.key ∧ VRel s e.val e'.val ∧ e.born = e'.born) : ORel P s κ true (.map es cl) (.map es' cl)
  | stringIter (b : ByteArray) (p : Nat) : ORel P s κ true (.stringIter b p) (.stringIter b p)
  | deferred : ORel P s κ true (.deferred (some [])) (.deferred (some []))
  | gone : ORel P s κ true (.deferred none) (.deferred none)

theorem ORel.mono {P : Program} {s t : Ren} (hs : Ren.le s t) {κ : Nat} {ex : Bool} {o o' : Obj} (h : ORel P s κ ex o o') : ORel P t κ ex o o' := by
  cases h with
  | cells e fz h => exact .cells e fz (h.mono hs)
  | row e fz i hi hl h hk hm => exact .row e fz i hi hl (fun j v v' x y => (h j v v' x y).mono hs) hk hm
  | srow e i hi hl h hk hm => exact .srow e i hi hl (fun j v v' x y => (h j v v' x y).mono hs) hk hm
  | map cl h1 h2 => exact .map cl h1 fun j e e' x y => ⟨(h2 j e e' x y).1.mono hs, (h2 j e e' x y).2.1.mono hs, (h2 j e e' x y).2.2⟩
  | stringIter b p => exact .stringIter b p
  | deferred => exact .deferred
  | gone => exact .gone

/-- two slots -/
def SR (s : Ren) : Option Value → Option Value → Prop
  | some a, some b => isJunk a = true ∨ VRel s a b
  | none, none => True
  | _, _ => False
theorem SR.mono {s t : Ren} (h : Ren.le s t) : ∀ {a b : Option Value}, SR s a b → SR t a b
  | some a, some b, k => k.imp id (VRel.mono h)
  | none, none, _ => trivial
  | some _, none, k => k.elim
  | none, some _, k => k.elim
theorem slot_of {σ : Ren} {x y : Option Value} (h : SR σ x y) : (x = none ∧ y = none) ∨ ∃ v v', x = some v ∧ y = some v' ∧ (isJunk v = true ∨ VRel σ v v') := by
  cases x with
  | none => cases y with
    | none => exact .inl ⟨rfl, rfl⟩
    | some _ => exact h.elim
  | some v => cases y with
    | none => exact h.elim
    | some v' => exact .inr ⟨v, v', rfl, rfl, h⟩
/-- all slots -/
def TR (s : Ren) (t : TV) (a : Array Value) : Prop := ∀ k, SR s (t.get k) (a[k]?)
theorem TR.mono {s u : Ren} (h : Ren.le s u) {t : TV} {a : Array Value} (k : TR s t a) : TR u t a := fun i => (k i).mono h

theorem flat_rel {σ : Ren} : ∀ (n : Nat) (v : Value), flatV n v = true → VRel σ v v
  | 0, v, h => by simp [flatV] at h
  | n + 1, v, h => by
    have all : ∀ (a : Array Value), a.toList.all (flatV n) = true → ∀ (i : Nat) (v v' : Value), a[i]? = some v → a[i]? = some v' → VRel σ v v' := fun a h i v v' e e' => by
      rw [e] at e'; injection e' with e'; subst e'
      exact flat_rel n v (List.all_eq_true.1 h v (Array.mem_toList_iff.2 (Array.mem_of_getElem? e)))
    unfold flatV at h
    split at h
    · exact .bool _
    · exact .int _ _
    · exact .string _
    · exact .ptrNil
    · exact .sliceNil _ _
    · exact .mapNil
    · exact .nilFunc
    · exact .nilIface
    · exact .iface _ (flat_rel n _ h)
    · exact .agg rfl (all _ h)
    · exact .tuple rfl (all _ h)
    · simp only [Bool.and_eq_true] at h
      exact .func _ h.1.1 rfl (all _ h.1.2) rfl (all _ h.2)
    · cases h

/-- a block of the run and a real one -/
inductive XRel (P : Program) (s : Ren) (κ : Nat) : VO → Obj → Prop
  | live {o o' : Obj} {ex : Bool} (h : ORel P s κ ex o o') : XRel P s κ (.live o ex) o'
  | loop {st : LoopState} {pe : Option Code} {t : TV} {t' : Array Value} {ps : Array Tmp} {asg bd : Code} {d d' κ' fn : Nat} (h : TR s t t') (hd : s d = some (d', κ')) :
      XRel P s κ (.loop st pe t ps asg bd d) (.loop { state := st, pending := pe, fn, tmps := t', params := ps, assign := asg, body := bd, defers := d' })
  | row {c c' : Array Value} (e : TypeId) (i : TypeInfo) (hi : P.info? e = some i) (hl : c.size ≤ c'.size) (h : ∀ (j : Nat) (v v' : Value), c[j]? = some v → c'[j]? = some v' → VRel s v v') (h2 : 2 ≤ κ) (h0 : vOff κ = 0) (hk : c'.size = vCap κ * i.size) (hm : vCap κ ≤ maxLen) (h1 : c.toList.all okC = true) :
      XRel P s κ (.row c e) (.cells c' e (0, 0))
theorem XRel.mono {P : Program} {s t : Ren} (hs : Ren.le s t) {κ : Nat} {o : VO} {o' : Obj} (h : XRel P s κ o o') : XRel P t κ o o' := by
  cases h with
  | live h => exact .live (h.mono hs)
  | loop h hd => exact .loop (h.mono hs) (hs _ _ hd)
  | row e i hi hl h h2 h0 hk hm h1 => exact .row e i hi hl (fun j v v' x y => (h j v v' x y).mono hs) h2 h0 hk hm h1
def VO.alive : VO → Bool
  | .live .. => true
  | .loop .. => true
  | .row c _ => !(c.size == 0)
  | _ => false

/-- the first block that the call may make; the package variables that are known -/
structure Bd where
  b : Nat
  L : Vars
  low : L.length ≤ b
def Bd.g (B : Bd) : Nat := B.L.length
/-- the known variables, in a world -/
def LaidL (L : Vars) (w : World) : Prop := L.length ≤ w.heap.size ∧ ∀ (i : Nat) (c : Array Value) (e : TypeId), L[i]? = some (some (c, e)) → ∃ e' fz, w.heap[i]? = some (.cells c e' fz)
theorem LaidL.below {L : Vars} {n : Nat} {w w' : World} (h : LaidL L w) (hn : L.length ≤ n) (hb : Below n w w') : LaidL L w' :=
  ⟨Nat.le_trans h.1 hb.size, fun i c e hi => by
    have := (List.getElem?_eq_some_iff.1 hi).1
    rw [hb.block i (by omega)]
    exact h.2 i c e hi⟩
theorem LaidL.nil (w : World) : LaidL [] w := ⟨Nat.zero_le _, fun i c e h => by simp at h⟩
structure Ok (B : Bd) (w : World) : Prop where
  size : B.b ≤ w.heap.size
  laid : LaidL B.L w
theorem Ok.step {B : Bd} {w w' : World} (h : Ok B w) (hb : Below B.b w w') : Ok B w' := ⟨Nat.le_trans h.size hb.size, h.laid.below B.low hb⟩

/-- of lists that are empty, and of those that are only read -/
def VO.still : VO → Bool
  | .ro c _ => !(c.size == 0)
  | _ => false
def NRel (s : Ren) (w : World) (b κ : Nat) : VO → Prop
  | .row c _ => c.size = 0 → κ = 0
  | .ro c _ => (c.size = 0 ∧ κ ≤ 1) ∨ (c.size ≠ 0 ∧ 2 ≤ κ ∧ ∃ c' e' fz, w.heap[b]? = some (.cells c' e' fz) ∧ vOff κ + c.size ≤ c'.size ∧ c.toList.all okC = true ∧ ∀ (j : Nat) (v v' : Value), c[j]? = some v → c'[vOff κ + j]? = some v' → VRel s v v')
  | _ => True
theorem NRel.mono {s t : Ren} (hs : Ren.le s t) {w : World} {b κ : Nat} {v : VO} (h : NRel s w b κ v) : NRel t w b κ v := by
  cases v with
  | ro c e => exact h.imp id fun ⟨hn, h2, c', e', fz, h3, h4, h6, h5⟩ => ⟨hn, h2, c', e', fz, h3, h4, h6, fun j v v' x y => (h5 j v v' x y).mono hs⟩
  | _ => exact h
theorem NRel.world {s : Ren} {w w' : World} {b κ : Nat} {v : VO} (h : NRel s w b κ v) (hk : v.still = true → w'.heap[b]? = w.heap[b]?) : NRel s w' b κ v := by
  cases v with
  | ro c e => exact h.imp id fun ⟨hn, h2, c', e', fz, h3, h4, h5⟩ => ⟨hn, h2, c', e', fz, by rw [hk (by simp [VO.still]; simpa using hn)]; exact h3, h4, h5⟩
  | _ => exact h
theorem NRel.of_alive {s : Ren} {w : World} {b κ : Nat} {v : VO} (h : v.alive = true) : NRel s w b κ v := by
  cases v with
  | row c e =>
    intro h0
    have h : (!(c.size == 0)) = true := h
    rw [h0] at h; cases h
  | ro c e => cases h
  | _ => trivial
theorem VO.still_alive {v : VO} (h : v.still = true) (k : v.alive = true) : False := by
  cases v with
  | ro c e => exact absurd k (by simp [VO.alive])
  | _ => cases h
structure Match (P : Program) (B : Bd) (s : Ren) (H : Nat → Option VO) (w : World) : Prop where
  dom : ∀ i, s i = none ↔ H i = none
  old : ∀ i b κ v, s i = some (b, κ) → H i = some v → v.alive = true → B.b ≤ b
  objX : ∀ i b κ v, s i = some (b, κ) → H i = some v → v.alive = true → ∃ o', w.heap[b]? = some o' ∧ XRel P s κ v o'
  injX : ∀ i j b κ κ' v v', s i = some (b, κ) → s j = some (b, κ') → H i = some v → H j = some v' → v.alive = true → v'.alive = true → i = j
  low : ∀ g, g < B.g → s g = some (g, 0)
  glob : ∀ i c e, H i = some (.glob c e) → i < B.g ∧ (∃ e' fz, w.heap[i]? = some (.cells c e' fz)) ∧ ∀ (j : Nat) (v : Value), c[j]? = some v → flatV 50 v = true
  non : ∀ i b κ v, s i = some (b, κ) → H i = some v → NRel s w b κ v
  sep : ∀ i j b κ κ' v v', s i = some (b, κ) → s j = some (b, κ') → H i = some v → H j = some v' → v.still = true → v'.alive = true → False
theorem Match.ltA {P : Program} {B : Bd} {s : Ren} {H : Nat → Option VO} {w : World} (h : Match P B s H w) {i b κ : Nat} {v : VO} (hs : s i = some (b, κ)) (hH : H i = some v) (ha : v.alive = true) : b < w.heap.size :=
  let ⟨_, h1, _⟩ := h.objX i b κ v hs hH ha
  (Array.getElem?_eq_some_iff.1 h1).1
theorem NRel.lt {s : Ren} {w : World} {b κ : Nat} {v : VO} (h : NRel s w b κ v) (hst : v.still = true) : b < w.heap.size := by
  cases v with
  | ro c e =>
    rcases h with h | ⟨_, _, c', e', fz, h3, _⟩
    · simp [VO.still, h.1] at hst
    · exact (Array.getElem?_eq_some_iff.1 h3).1
  | _ => cases hst
theorem Match.obj {P : Program} {B : Bd} {s : Ren} {H : Nat → Option VO} {w : World} (h : Match P B s H w) (i b κ : Nat) (o : Obj) (ex : Bool) (h1 : s i = some (b, κ)) (h2 : H i = some (.live o ex)) : ∃ o', w.heap[b]? = some o' ∧ ORel P s κ ex o o' := by
  obtain ⟨o', h3, h4⟩ := h.objX i b κ _ h1 h2 rfl
  cases h4 with
  | live h5 => exact ⟨o', h3, h5⟩
theorem Match.inj {P : Program} {B : Bd} {s : Ren} {H : Nat → Option VO} {w : World} (h : Match P B s H w) (i j b κ κ' : Nat) (o : Obj) (ex : Bool) (o' : Obj) (ex' : Bool) (h1 : s i = some (b, κ)) (h2 : s j = some (b, κ')) (h3 : H i = some (.live o ex)) (h4 : H j = some (.live o' ex')) : i = j :=
  h.injX i j b κ κ' _ _ h1 h2 h3 h4 rfl rfl

/-! the tree of blocks -/
theorem Tr.get_nil (k : Nat) : Tr.get .nil k = none := by cases k <;> rfl
theorem Tr.get_node (o : Option VO) (l r : Tr) (k : Nat) : Tr.get (.node o l r) k = if k = 0 then o else if k % 2 = 1 then l.get ((k - 1) / 2) else r.get ((k - 1) / 2) := by
  conv => lhs; unfold Tr.get
  by_cases h : k = 0
  · subst h; rfl
  · rw [if_neg h]
    have : Nat.beq k 0 = false := by
      cases hb : Nat.beq k 0 with
      | false => rfl
      | true => exact absurd (Nat.eq_of_beq_eq_true hb) h
    rw [this]
    by_cases h2 : k % 2 = 1
    · rw [if_pos h2]
      have : Nat.beq (Nat.mod k 2) 1 = true := by show Nat.beq (k % 2) 1 = true; rw [h2]; rfl
      rw [this]; rfl
    · rw [if_neg h2]
      have : Nat.beq (Nat.mod k 2) 1 = false := by
        have : k % 2 = 0 := by omega
        show Nat.beq (k % 2) 1 = false; rw [this]; rfl
      rw [this]; rfl

theorem Tr.get_parts (t : Tr) (k : Nat) : t.get k = (Tr.node t.val t.left t.right).get k := by
  cases t with
  | nil => rw [Tr.get_nil, Tr.get_node]; simp [Tr.val, Tr.left, Tr.right, Tr.get_nil]
  | node o l r => rfl
theorem Tr.get_set : ∀ (f : Nat) (t : Tr) (k : Nat) (v : VO) (t' : Tr), Tr.set f t k v = some t' → ∀ j, t'.get j = if j = k then some v else t.get j
  | 0, t, k, v, t', h, j => by simp [Tr.set] at h
  | f + 1, t, k, v, t', h, j => by
    rw [Tr.get_parts t j]
    simp only [Tr.set] at h
    generalize t.val = o at *
    generalize t.left = l at *
    generalize t.right = r at *
    cases hb : Nat.beq k 0 with
    | true =>
      rw [hb] at h
      have hk := Nat.eq_of_beq_eq_true hb
      injection h with h
      subst h; subst hk
      rw [Tr.get_node, Tr.get_node]
      by_cases h0 : j = 0 <;> simp [h0]
    | false =>
      rw [hb] at h
      have hk : k ≠ 0 := fun e => by subst e; cases hb
      have hd : Nat.div (Nat.sub k 1) 2 = (k - 1) / 2 := rfl
      cases h2 : Nat.beq (Nat.mod k 2) 1 with
      | true =>
        rw [h2] at h
        have hk2 : k % 2 = 1 := Nat.eq_of_beq_eq_true h2
        simp only at h
        cases hs : Tr.set f l (Nat.div (Nat.sub k 1) 2) v with
        | none => rw [hs] at h; cases h
        | some l' =>
          rw [hs] at h
          injection h with h
          subst h
          have ih := Tr.get_set f l (Nat.div (Nat.sub k 1) 2) v l' hs
          rw [Tr.get_node, Tr.get_node]
          by_cases h0 : j = 0
          · simp [h0, Ne.symm hk]
          · by_cases hj2 : j % 2 = 1
            · rw [if_neg h0, if_pos hj2, if_neg h0, if_pos hj2, ih, hd]
              by_cases e : j = k
              · rw [if_pos (by rw [e]), if_pos e]
              · rw [if_neg (by omega), if_neg e]
            · have hjk : ¬ j = k := by omega
              rw [if_neg h0, if_neg hj2, if_neg h0, if_neg hj2, if_neg hjk]
      | false =>
        rw [h2] at h
        have hk2 : ¬ k % 2 = 1 := fun e => by
          have : Nat.beq (Nat.mod k 2) 1 = true := by show Nat.beq (k % 2) 1 = true; rw [e]; rfl
          rw [this] at h2; cases h2
        simp only at h
        cases hs : Tr.set f r (Nat.div (Nat.sub k 1) 2) v with
        | none => rw [hs] at h; cases h
        | some l' =>
          rw [hs] at h
          injection h with h
          subst h
          have ih := Tr.get_set f r (Nat.div (Nat.sub k 1) 2) v l' hs
          rw [Tr.get_node, Tr.get_node]
          by_cases h0 : j = 0
          · simp [h0, Ne.symm hk]
          · by_cases hj2 : j % 2 = 1
            · have hjk : ¬ j = k := by intro e; rw [e] at hj2; exact hk2 hj2
              rw [if_neg h0, if_pos hj2, if_neg h0, if_pos hj2, if_neg hjk]
            · rw [if_neg h0, if_neg hj2, if_neg h0, if_neg hj2, ih, hd]
              by_cases e : j = k
              · rw [if_pos (by rw [e]), if_pos e]
              · rw [if_neg (by omega), if_neg e]

/-! slots -/
theorem TV.get_nil (k : Nat) : TV.get .nil k = none := by cases k <;> rfl
theorem TV.get_node (o : Option Value) (l r : TV) (k : Nat) : TV.get (.node o l r) k = if k = 0 then o else if k % 2 = 1 then l.get ((k - 1) / 2) else r.get ((k - 1) / 2) := by
  conv => lhs; unfold TV.get
  by_cases h : k = 0
  · subst h; rfl
  · rw [if_neg h]
    have : Nat.beq k 0 = false := by
      cases hb : Nat.beq k 0 with
      | false => rfl
      | true => exact absurd (Nat.eq_of_beq_eq_true hb) h
    rw [this]
    by_cases h2 : k % 2 = 1
    · rw [if_pos h2]
      have : Nat.beq (Nat.mod k 2) 1 = true := by show Nat.beq (k % 2) 1 = true; rw [h2]; rfl
      rw [this]; rfl
    · rw [if_neg h2]
      have : Nat.beq (Nat.mod k 2) 1 = false := by
        have : k % 2 = 0 := by omega
        show Nat.beq (k % 2) 1 = false; rw [this]; rfl
      rw [this]; rfl
theorem TV.get_set : ∀ (t : TV) (k : Nat) (v : Value) (j : Nat), (t.set k v).get j = if j = k then (t.get k).map (fun _ => v) else t.get j
  | .nil, k, v, j => by simp [TV.set, TV.get_nil]
  | .node o l r, k, v, j => by
    unfold TV.set
    cases hb : Nat.beq k 0 with
    | true =>
      have hk := Nat.eq_of_beq_eq_true hb
      subst hk
      simp only
      rw [TV.get_node, TV.get_node, TV.get_node]
      by_cases h0 : j = 0
      · subst h0; cases o <;> rfl
      · simp [h0]
    | false =>
      have hk : k ≠ 0 := fun e => by subst e; cases hb
      have hd : Nat.div (Nat.sub k 1) 2 = (k - 1) / 2 := rfl
      cases h2 : Nat.beq (Nat.mod k 2) 1 with
      | true =>
        have hk2 : k % 2 = 1 := Nat.eq_of_beq_eq_true h2
        simp only
        rw [TV.get_node, TV.get_node, TV.get_node, TV.get_set l, hd]
        by_cases h0 : j = 0
        · simp [h0, Ne.symm hk]
        · by_cases hj2 : j % 2 = 1
          · rw [if_neg h0, if_pos hj2, if_neg h0, if_pos hj2, if_neg hk, if_pos hk2]
            by_cases e : j = k
            · rw [if_pos (by rw [e]), if_pos e]
            · rw [if_neg (by omega), if_neg e]
          · have hjk : ¬ j = k := by omega
            rw [if_neg h0, if_neg hj2, if_neg h0, if_neg hj2, if_neg hjk]
      | false =>
        have hk2 : ¬ k % 2 = 1 := fun e => by
          have : Nat.beq (Nat.mod k 2) 1 = true := by show Nat.beq (k % 2) 1 = true; rw [e]; rfl
          rw [this] at h2; cases h2
        simp only
        rw [TV.get_node, TV.get_node, TV.get_node, TV.get_set r, hd]
        by_cases h0 : j = 0
        · simp [h0, Ne.symm hk]
        · by_cases hj2 : j % 2 = 1
          · have hjk : ¬ j = k := by intro e; rw [e] at hj2; exact hk2 hj2
            rw [if_neg h0, if_pos hj2, if_neg h0, if_pos hj2, if_neg hjk]
          · rw [if_neg h0, if_neg hj2, if_neg h0, if_neg hj2, if_neg hk, if_neg hk2]
            by_cases e : j = k
            · rw [if_pos (by rw [e]), if_pos e]
            · rw [if_neg (by omega), if_neg e]
theorem TV.get_mk : ∀ (f n : Nat) (v : Value) (j : Nat), n < 2 ^ f → (TV.mk f n v).get j = if j < n then some v else none
  | 0, n, v, j, h => by
    have : n = 0 := by simpa using h
    subst this
    simp [TV.mk, TV.get_nil]
  | f + 1, n, v, j, h => by
    have hp : 2 ^ (f + 1) = 2 * 2 ^ f := by rw [Nat.pow_succ, Nat.mul_comm]
    unfold TV.mk
    cases hb : Nat.beq n 0 with
    | true =>
      have hk := Nat.eq_of_beq_eq_true hb
      subst hk
      simp [TV.get_nil]
    | false =>
      have hk : n ≠ 0 := fun e => by subst e; cases hb
      have hd : Nat.div n 2 = n / 2 := rfl
      have hd2 : Nat.div (Nat.sub n 1) 2 = (n - 1) / 2 := rfl
      simp only
      rw [TV.get_node, hd, hd2, TV.get_mk f (n / 2) v _ (by omega), TV.get_mk f ((n - 1) / 2) v _ (by omega)]
      by_cases h0 : j = 0
      · rw [if_pos h0, if_pos (by omega)]
      · rw [if_neg h0]
        by_cases hj2 : j % 2 = 1
        · rw [if_pos hj2]
          by_cases e : j < n
          · rw [if_pos (by omega), if_pos e]
          · rw [if_neg (by omega), if_neg e]
        · rw [if_neg hj2]
          by_cases e : j < n
          · rw [if_pos (by omega), if_pos e]
          · rw [if_neg (by omega), if_neg e]
theorem TV.get_puts : ∀ (l : List Value) (t : TV) (k j : Nat), (∀ i, i < k + l.length → t.get i ≠ none) → (t.puts k l).get j = if j < k then t.get j else if j < k + l.length then l[j - k]? else t.get j
  | [], t, k, j, h => by
    simp only [TV.puts, List.length_nil, Nat.add_zero]
    by_cases e : j < k <;> simp [e]
  | v :: l, t, k, j, h => by
    have hk : ∃ x, t.get k = some x := Option.ne_none_iff_exists'.1 (h k (by simp))
    obtain ⟨x, hx⟩ := hk
    have hadd : Nat.add k 1 = k + 1 := rfl
    simp only [TV.puts, hadd]
    rw [TV.get_puts l (t.set k v) (k + 1) j (fun i hi => by
      rw [TV.get_set]
      split
      · rw [hx]; simp
      · exact h i (by simp; omega)), TV.get_set, hx]
    simp only [List.length_cons, Option.map_some]
    by_cases e1 : j < k
    · rw [if_pos (show j < k + 1 by omega), if_neg (show ¬ j = k by omega), if_pos e1]
    · by_cases e2 : j = k
      · subst e2
        rw [if_pos (show j < j + 1 by omega), if_pos rfl, if_neg e1, if_pos (show j < j + (l.length + 1) by omega)]
        simp
      · rw [if_neg (show ¬ j < k + 1 by omega), if_neg e2, if_neg e1]
        by_cases e3 : j < k + (l.length + 1)
        · rw [if_pos (show j < k + 1 + l.length by omega), if_pos e3]
          rw [show j - k = (j - (k + 1)) + 1 by omega]
          simp
        · rw [if_neg (show ¬ j < k + 1 + l.length by omega), if_neg e3]

/-! one step of the run -/
structure VStep (s s' : HS) : Prop where
  next : s.next ≤ s'.next
  rd : ∀ i, s.rd.testBit i = true → s'.rd.testBit i = true
  wr : ∀ i, s.wr.testBit i = true → s'.wr.testBit i = true
  keep : ∀ i, s'.wr.testBit i = false → s'.heap.get i = s.heap.get i
  made : ∀ i, s.next ≤ i → i < s'.next → s'.wr.testBit i = true
  fresh : (∀ i, s.next ≤ i → s.heap.get i = none) → ∀ i, s'.next ≤ i → s'.heap.get i = none

theorem VStep.refl (s : HS) : VStep s s := ⟨Nat.le_refl _, fun _ h => h, fun _ h => h, fun _ _ => rfl, fun i h k => by omega, fun h => h⟩
theorem VStep.trans {a b c : HS} (h : VStep a b) (k : VStep b c) : VStep a c :=
  ⟨Nat.le_trans h.next k.next, fun i e => k.rd i (h.rd i e), fun i e => k.wr i (h.wr i e), fun i e => (k.keep i e).trans (h.keep i (by
      cases hb : b.wr.testBit i with
      | false => rfl
      | true => rw [k.wr i hb] at e; cases e)),
    fun i h1 h2 => by
      rcases Nat.lt_or_ge i b.next with h3 | h3
      · exact k.wr i (h.made i h1 h3)
      · exact k.made i h3 h2,
    fun e => k.fresh (h.fresh e)⟩

theorem bitOf_test (k i : Nat) : (bitOf k).testBit i = decide (k = i) := by
  show (1 <<< k).testBit i = _
  rw [Nat.one_shiftLeft, Nat.testBit_two_pow]
theorem lor_bit (m k i : Nat) : (Nat.lor m (bitOf k)).testBit i = (m.testBit i || decide (k = i)) := by
  show (m ||| bitOf k).testBit i = _
  rw [Nat.testBit_or, bitOf_test]

theorem force_eq {α : Type} (n : Nat) (k : Nat → α) : force n k = k n := by cases n <;> rfl
theorem read_eq (s : HS) (k : Nat) : s.read k = { heap := s.heap, next := s.next, rd := Nat.lor s.rd (bitOf k), wr := s.wr } := by unfold HS.read; rw [force_eq]
theorem VStep.read (s : HS) (k : Nat) : VStep s (s.read k) := by
  rw [read_eq]
  exact ⟨Nat.le_refl _, fun i h => by simp [lor_bit, h], fun _ h => h, fun _ _ => rfl, fun i h k => absurd k (Nat.not_lt.2 h), fun h => h⟩

theorem put_spec {s s' : HS} {k : Nat} {v : VO} (h : s.put k v = some s') :
    s'.next = s.next ∧ (∀ i, s'.heap.get i = if i = k then some v else s.heap.get i) ∧ (∀ i, s'.rd.testBit i = (s.rd.testBit i || decide (k = i))) ∧ ∀ i, s'.wr.testBit i = (s.wr.testBit i || decide (k = i)) := by
  unfold HS.put at h
  cases hs : Tr.set 64 s.heap k v with
  | none => rw [hs] at h; cases h
  | some t =>
    rw [hs] at h
    simp only [force_eq] at h
    injection h with h
    subst h
    exact ⟨rfl, Tr.get_set _ _ _ _ _ hs, fun i => lor_bit _ _ _, fun i => lor_bit _ _ _⟩
theorem new_spec {s s' : HS} {v : VO} (h : s.new v = some s') :
    s'.next = s.next + 1 ∧ (∀ i, s'.heap.get i = if i = s.next then some v else s.heap.get i) ∧ s'.rd = s.rd ∧ ∀ i, s'.wr.testBit i = (s.wr.testBit i || decide (s.next = i)) := by
  unfold HS.new at h
  cases hs : Tr.set 64 s.heap s.next v with
  | none => rw [hs] at h; cases h
  | some t =>
    rw [hs] at h
    simp only [force_eq] at h
    injection h with h
    subst h
    exact ⟨rfl, Tr.get_set _ _ _ _ _ hs, rfl, fun i => lor_bit _ _ _⟩

theorem VStep.put {s s' : HS} {k : Nat} {v : VO} (h : s.put k v = some s') (hk : s.heap.get k ≠ none) : VStep s s' := by
  obtain ⟨h1, h2, h3, h4⟩ := put_spec h
  refine ⟨by omega, fun i e => by simp [h3, e], fun i e => by simp [h4, e], fun i e => ?_, fun i a b => by omega, fun e i hi => ?_⟩
  · rw [h2, if_neg]
    rintro rfl
    simp [h4] at e
  · rw [h2, if_neg]
    · exact e i (by omega)
    · rintro rfl
      exact hk (e i (by omega))
theorem VStep.new {s s' : HS} {v : VO} (h : s.new v = some s') : VStep s s' := by
  obtain ⟨h1, h2, h3, h4⟩ := new_spec h
  refine ⟨by omega, fun i e => by rw [h3]; exact e, fun i e => by simp [h4, e], fun i e => ?_, fun i a b => by simp [h4]; right; omega, fun e i hi => ?_⟩
  · rw [h2, if_neg]
    rintro rfl
    simp [h4] at e
  · rw [h2, if_neg (by omega)]
    exact e i (by omega)

section
variable {α : Type} {P : Program}
theorem runV_step : ∀ (t : Sem α) (s s' : HS) (a : α), runV P t s = some (a, s') → VStep s s'
  | .pure a, s, s', x, h => by
    simp only [runV] at h
    injection h with h; injection h with h1 h2; subst h2; exact .refl _
  | .load m a k, s, s', x, h => by
    simp only [runV] at h
    repeat' split at h
    all_goals first | cases h | skip
    all_goals exact (VStep.read _ _).trans (runV_step _ _ _ _ h)
  | .store m a v k, s, s', x, h => by
    simp only [runV] at h
    repeat' split at h
    all_goals first | cases h | skip
    rename_i hg _ _ _ _ _ _ _ _ hp
    exact (VStep.put hp (by simp_all)).trans (runV_step _ _ _ _ h)
  | .new o k, s, s', x, h => by
    simp only [runV] at h
    repeat' split at h
    all_goals first | cases h | skip
    rename_i hp
    exact (VStep.new hp).trans (runV_step _ _ _ _ h)
  | .getObj r k, s, s', x, h => by
    simp only [runV] at h
    repeat' split at h
    all_goals first | cases h | skip
    all_goals exact (VStep.read _ _).trans (runV_step _ _ _ _ h)
  | .setObj r o k, s, s', x, h => by
    simp only [runV] at h
    repeat' split at h
    all_goals first | cases h | skip
    all_goals
      rename_i hp
      exact (VStep.put hp (by simp_all)).trans (runV_step _ _ _ _ h)
  | .choose q k, s, s', x, h => by
    simp only [runV] at h
    repeat' split at h
    all_goals first | cases h | skip
    exact runV_step _ _ _ _ h
  | .program k, s, s', x, h => by
    simp only [runV] at h
    exact runV_step _ _ _ _ h
  | .mark m k, s, s', x, h => by
    simp only [runV] at h
    split at h
    · cases h
    · exact runV_step _ _ _ _ h
  | .shape .., s, s', x, h => by simp [runV] at h
  | .freeze .., s, s', x, h => by simp [runV] at h
  | .frozen .., s, s', x, h => by simp [runV] at h
  | .sys .., s, s', x, h => by simp [runV] at h
  | .halt .., s, s', x, h => by simp [runV] at h
end
end Go.Proofs.Ytpaojoahbmlolaa
