/- The operations, run and real: maps, builtins, conversions. -/
import Derived.Test.YtpaojoahbmlolaaEvH
namespace Go.Proofs.Ytpaojoahbmlolaa
open Go Go.RowKit
set_option linter.unusedSectionVars false
set_option linter.unusedVariables false
set_option linter.unusedSimpArgs false
set_option linter.unnecessarySimpa false
section
variable {P : Program} [NoCx P] {σ : Ren} {α β : Type} {R : Ren → α → β → Prop}

theorem binOp_rel {op : BinOp} {t : TypeId} {x x' y y' : Value} (hx : VRel σ x x') (hy : VRel σ y y') (hb : okBin op x y = true) : SemRel P VR σ (binOp op t x y) (binOp op t x' y') := by
  have eqs : ∀ (b : Bool), SemRel P VR σ (do let r ← Op.equal t x y; pure (.bool (if b then !r else r)) : Sem Value) (do let r ← Op.equal t x' y'; pure (.bool (if b then !r else r)) : Sem Value) := fun b =>
    (equalIn_rel _ t hx hy).bnd fun s a c hs e => by obtain rfl : a = c := e; exact .ret (.bool _)
  by_cases h1 : (∃ k n, x = .int k n) ∧ ∃ k n, y = .int k n
  · obtain ⟨⟨k, n, rfl⟩, k2, m, rfl⟩ := h1
    cases hx; cases hy
    cases op <;> (unfold binOp; dsimp only)
    all_goals first
      | exact shift_rel
      | (refine ite_rel (fun _ => .dead dead_stuck) (fun _ => ?_); first | exact intArith_rel | exact intDiv_rel | exact intBits_rel | exact intCmp_rel)
  · by_cases h2 : (∃ n, x = .string n) ∧ ∃ n, y = .string n
    · obtain ⟨⟨n, rfl⟩, m, rfl⟩ := h2
      cases hx; cases hy
      cases op <;> (unfold binOp; dsimp only; exact stringOp_rel)
    · have hop : op = .eql ∨ op = .neq := by
        unfold okBin at hb
        split at hb
        · exact .inl rfl
        · exact .inr rfl
        · split at hb
          · exact absurd ⟨⟨_, _, rfl⟩, _, _, rfl⟩ h1
          · exact absurd ⟨⟨_, rfl⟩, _, rfl⟩ h2
          · cases hb
      rcases hop with rfl | rfl
      · have e := eqs false
        cases hx <;> cases hy <;> first | exact e | (exfalso; simp [okBin, isHandle] at hb; done) | (exfalso; exact h1 ⟨⟨_, _, rfl⟩, _, _, rfl⟩) | (exfalso; exact h2 ⟨⟨_, rfl⟩, _, rfl⟩)
      · have e := eqs true
        cases hx <;> cases hy <;> first | exact e | (exfalso; simp [okBin, isHandle] at hb; done) | (exfalso; exact h1 ⟨⟨_, _, rfl⟩, _, _, rfl⟩) | (exfalso; exact h2 ⟨⟨_, rfl⟩, _, rfl⟩)

theorem forInV_rel {δ : Type} (f : Value → δ → Sem (ForInStep δ)) : ∀ (l l' : List Value) (σ : Ren), LR σ l l' → (∀ x x' s b, VRel s x x' → SemRel P ER s (f x b) (f x' b)) → ∀ b, SemRel P ER σ (forIn l b f) (forIn l' b f)
  | [], [], σ, _, h, b => by rw [List.forIn_nil]; exact .ret rfl
  | x :: l, x' :: l', σ, hl, h, b => by
    rw [List.forIn_cons, List.forIn_cons]
    refine (h x x' σ b hl.1).bnd fun s u v hs e => ?_
    obtain rfl : u = v := e
    cases u with
    | done b => exact .ret rfl
    | yield b => exact forInV_rel f l l' s (hl.2.mono hs) h b
  | [], _ :: _, _, k, _, _ => k.elim
  | _ :: _, [], _, k, _, _ => k.elim

theorem PR.of_slice {b b' κ o : Nat} {p : Option Nat} (h : σ b = some (b', κ)) : PR σ ⟨b, o, p⟩ ⟨b', o, p⟩ := ⟨κ, h, rfl, rfl⟩

theorem bytesToString_rel {x x' : Value} (h : VRel σ x x') : SemRel P VR σ (Conv.bytesToString x) (Conv.bytesToString x') := by
  unfold Conv.bytesToString
  cases h
  case sliceNil => exact .ret (.string _)
  case slice h h0 h1 h2 =>
    dsimp only
    refine (loadCells_rel _ (PR.of_slice h)).bnd fun s c c' hs hc => ?_
    simp only [← Array.forIn_toList]
    refine SemRel.bnd (S := ER) (forInV_rel _ _ _ _ hc.list (fun v v' s2 b hv => ?_) _) fun s3 a b hs3 e => ?_
    · cases hv
      case int k n =>
        cases k <;> first | exact .ret rfl | exact .dead (dead_bind _ dead_stuck) | exact .dead dead_stuck
      all_goals first | exact .dead (dead_bind _ dead_stuck) | exact .dead dead_stuck
    · obtain rfl : a = b := e
      exact .ret (.string _)
  all_goals exact .dead fun _ => rfl
theorem runesToString_rel {x x' : Value} (h : VRel σ x x') : SemRel P VR σ (Conv.runesToString x) (Conv.runesToString x') := by
  unfold Conv.runesToString
  cases h
  case sliceNil => exact .ret (.string _)
  case slice h h0 h1 h2 =>
    dsimp only
    refine (loadCells_rel _ (PR.of_slice h)).bnd fun s c c' hs hc => ?_
    simp only [← Array.forIn_toList]
    refine SemRel.bnd (S := ER) (forInV_rel _ _ _ _ hc.list (fun v v' s2 b hv => ?_) _) fun s3 a b hs3 e => ?_
    · cases hv
      case int k n =>
        cases k <;> first | exact .ret rfl | exact .dead (dead_bind _ dead_stuck) | exact .dead dead_stuck
      all_goals first | exact .dead (dead_bind _ dead_stuck) | exact .dead dead_stuck
    · obtain rfl : a = b := e
      exact .ret (.string _)
  all_goals exact .dead fun _ => rfl

theorem convert_rel {s d : TypeId} {x x' : Value} (h : VRel σ x x') (hc : okConv P s d = true) : SemRel P VR σ (convert s d x) (convert s d x') := by
  unfold okConv at hc
  unfold convert
  split at hc
  · rename_i hs hd
    refine (underlying_rel hs).bnd fun s1 a b hs1 e => ?_
    obtain ⟨rfl, rfl⟩ := e
    refine (underlying_rel hd).bnd fun s2 a b hs2 e => ?_
    obtain ⟨rfl, rfl⟩ := e
    cases h.mono (Ren.le_trans hs1 hs2)
    case int => exact .ret (.int _ _)
    all_goals exact .dead fun _ => rfl
  · rename_i hs hd
    refine (underlying_rel hs).bnd fun s1 a b hs1 e => ?_
    obtain ⟨rfl, rfl⟩ := e
    refine (underlying_rel hd).bnd fun s2 a b hs2 e => ?_
    obtain ⟨rfl, rfl⟩ := e
    cases h.mono (Ren.le_trans hs1 hs2)
    case string => exact .ret (.string _)
    case int => exact .ret (.string _)
    all_goals exact .dead fun _ => rfl
  · rename_i hs hd
    refine (underlying_rel hs).bnd fun s1 a b hs1 e => ?_
    obtain ⟨rfl, rfl⟩ := e
    refine (underlying_rel hd).bnd fun s2 a b hs2 e => ?_
    obtain ⟨rfl, rfl⟩ := e
    cases h.mono (Ren.le_trans hs1 hs2)
    case string => exact .ret (.string _)
    case int => exact .ret (.string _)
    all_goals exact .dead fun _ => rfl
  · rename_i el hs hd
    refine (underlying_rel hs).bnd fun s1 a b hs1 e => ?_
    obtain ⟨rfl, rfl⟩ := e
    refine (underlying_rel hd).bnd fun s2 a b hs2 e => ?_
    obtain ⟨rfl, rfl⟩ := e
    have h2 := h.mono (Ren.le_trans hs1 hs2)
    have tail : ∀ {y y' : Value}, VRel s2 y y' → SemRel P VR s2 (do match ← underlying el with | .int .u8 => Conv.bytesToString y | .int .i32 => Conv.runesToString y | _ => stuck "Convert: a slice of what to string?" : Sem Value)
        (do match ← underlying el with | .int .u8 => Conv.bytesToString y' | .int .i32 => Conv.runesToString y' | _ => stuck "Convert: a slice of what to string?" : Sem Value) := fun hy => by
      refine underlying_any.bnd fun s3 a b hs3 e => ?_
      obtain ⟨rfl, _⟩ := e
      split
      · exact bytesToString_rel (hy.mono hs3)
      · exact runesToString_rel (hy.mono hs3)
      · exact .dead dead_stuck
    cases h2
    case string => exact .ret (.string _)
    case int => exact .ret (.string _)
    all_goals first | exact tail (by constructor <;> assumption) | exact tail .ptrNil | exact tail (.ptr ‹_›) | exact tail (.iface _ ‹_›) | exact tail .nilFunc | exact tail .nilIface | exact tail .mapNil
  · cases hc

/-! maps -/
theorem checkKey_rel : ∀ (d : Nat) {σ : Ren} (b : Bool) (t : TypeId) {x x' : Value}, VRel σ x x' → SemRel P ER σ (Instr.checkKey b d t x) (Instr.checkKey b d t x')
  | 0, σ, b, t, x, x', hx => .dead fun _ => rfl
  | d + 1, σ, b, t, x, x', hx => by
    unfold Instr.checkKey
    refine underlying_any.bnd fun s ty ty' hs e => ?_
    obtain ⟨rfl, hu⟩ := e
    replace hx := hx.mono hs
    refine sr_right fun u hr => ?_
    split
    · cases hx with | iface _ hx => ?_
      subst hr; dsimp only
      refine typeInfo_any.bnd fun s2 i i' hs2 e => ?_
      obtain ⟨rfl, _⟩ := e
      refine ite_rel (fun _ => ?_) (fun _ => checkKey_rel d b _ (hx.mono hs2))
      refine .dead ?_
      split
      · exact dead_bind _ dead_runtimePanic
      · exact dead_after fun _ => dead_bind _ dead_runtimePanic
    · cases hx with | agg h1 h2 => ?_
      subst hr; dsimp only
      simp only [Std.Legacy.Range.forIn_eq_forIn_range']
      refine SemRel.bnd (S := ER) (forIn_rel _ _ _ _ (fun f s3 b hs3 => ?_) _) fun s3 a b hs3 e => .ret rfl
      refine sizeOf_any.bnd fun s4 m m' hs4 e => ?_
      obtain ⟨rfl, _⟩ := e
      have hx2 : AR s4 _ _ := AR.mono (Ren.le_trans hs3 hs4) ⟨h1, h2⟩
      refine (part_rel hx2).bnd fun s5 v v' hs5 hv => ?_
      exact (checkKey_rel d _ _ hv).bnd fun _ _ _ _ _ => .ret rfl
    · cases hx with | agg h1 h2 => ?_
      subst hr; dsimp only
      simp only [← Array.forIn_toList]
      refine SemRel.bnd (S := ER) (forIn_rel _ _ _ _ (fun f s3 b hs3 => ?_) _) fun s3 a b hs3 e => .ret rfl
      refine ite_rel (fun _ => ?_) (fun _ => .ret rfl)
      have hx2 : AR s3 _ _ := AR.mono hs3 ⟨h1, h2⟩
      refine (part_rel hx2).bnd fun s5 v v' hs5 hv => ?_
      exact (checkKey_rel d _ _ hv).bnd fun _ _ _ _ _ => .ret rfl
    · cases hx; subst hr; exact .ret rfl
    · exact .dead dead_stuck
    · exact .dead dead_stuck
    · exact .dead dead_stuck
    · rename_i n1 n2 n3 n4 n5 n6 n7
      subst hr
      split
      all_goals first | exact .ret rfl | (cases hx; simp_all; done) | (simp_all; done)

/-- entries of a map -/
def MR (s : Ren) : List MapEntry → List MapEntry → Prop
  | [], [] => True
  | a :: l, b :: m => VRel s a.key b.key ∧ VRel s a.val b.val ∧ a.born = b.born ∧ MR s l m
  | _, _ => False
theorem MR.mono {s t : Ren} (h : Ren.le s t) : ∀ {l m : List MapEntry}, MR s l m → MR t l m
  | [], [], _ => trivial
  | a :: l, b :: m, k => ⟨k.1.mono h, k.2.1.mono h, k.2.2.1, MR.mono h k.2.2.2⟩
  | [], _ :: _, k => k.elim
  | _ :: _, [], k => k.elim
/-- what is found, and where -/
def FR (s : Ren) : Option (Nat × Value) → Option (Nat × Value) → Prop
  | some a, some b => a.1 = b.1 ∧ VRel s a.2 b.2
  | none, none => True
  | _, _ => False
theorem sameNow_rel {k : TypeDesc} {a a' b b' : Value} (h : VRel σ a a') (g : VRel σ b b') : Instr.sameNow k a b = Instr.sameNow k a' b' := by
  cases k <;> cases h <;> cases g <;> rfl
theorem findNow_rel {kind : TypeDesc} {k k' : Value} (h : VRel σ k k') : ∀ {l m : List MapEntry} (i : Nat), MR σ l m →
    match Instr.findNow kind k l i, Instr.findNow kind k' m i with
    | some a, some b => FR σ a b
    | none, none => True
    | _, _ => False
  | [], [], i, _ => trivial
  | a :: l, b :: m, i, hm => by
    simp only [Instr.findNow]
    rw [← sameNow_rel h hm.1]
    cases Instr.sameNow kind k a.key with
    | none => trivial
    | some x => cases x with
      | true => exact ⟨rfl, hm.2.1⟩
      | false => exact findNow_rel h (i + 1) hm.2.2.2
  | [], _ :: _, _, k => k.elim
  | _ :: _, [], _, k => k.elim
theorem findAsking_rel {t : TypeId} : ∀ {l m : List MapEntry} {σ : Ren} {k k' : Value} (i : Nat), VRel σ k k' → MR σ l m → SemRel P FR σ (Instr.findAsking t k l i) (Instr.findAsking t k' m i)
  | [], [], σ, k, k', i, h, _ => .ret trivial
  | a :: l, b :: m, σ, k, k', i, h, hm => by
    unfold Instr.findAsking
    refine (equalIn_rel _ t h hm.1).bnd fun s x y hs e => ?_
    obtain rfl : x = y := e
    exact ite_rel (fun _ => .ret ⟨rfl, hm.2.1.mono hs⟩) (fun _ => findAsking_rel (i + 1) (h.mono hs) (hm.2.2.2.mono hs))
  | [], _ :: _, _, _, _, _, _, k => k.elim
  | _ :: _, [], _, _, _, _, _, k => k.elim
theorem findKey_rel {t : TypeId} {l m : List MapEntry} {k k' : Value} (h : VRel σ k k') (hm : MR σ l m) : SemRel P FR σ (Instr.findKey t k l) (Instr.findKey t k' m) := by
  unfold Instr.findKey
  refine underlying_any.bnd fun s d d' hs e => ?_
  obtain ⟨rfl, _⟩ := e
  have := findNow_rel (kind := d) (h.mono hs) 0 (hm.mono hs)
  generalize Instr.findNow d k l 0 = x at *
  generalize Instr.findNow d k' m 0 = y at *
  cases x with
  | none => cases y with
    | none => exact findAsking_rel 0 (h.mono hs) (hm.mono hs)
    | some y => exact this.elim
  | some x => cases y with
    | none => exact this.elim
    | some y => exact .ret this
theorem ORel.entries {κ : Nat} {es : Array MapEntry} {cl : Nat} {o' : Obj} (h : ORel P σ κ true (.map es cl) o') : ∃ es', o' = .map es' cl ∧ MR σ es.toList es'.toList := by
  cases h with
  | map _ h1 h2 =>
    rename_i es'
    refine ⟨es', rfl, ?_⟩
    have : ∀ (l m : List MapEntry), l.length = m.length → (∀ (j : Nat) (e e' : MapEntry), l[j]? = some e → m[j]? = some e' → VRel σ e.key e'.key ∧ VRel σ e.val e'.val ∧ e.born = e'.born) → MR σ l m := by
      intro l
      induction l with
      | nil => intro m h _; cases m with
        | nil => trivial
        | cons => simp at h
      | cons a l ih => intro m h k; cases m with
        | nil => simp at h
        | cons b m =>
          have k0 := k 0 a b rfl rfl
          exact ⟨k0.1, k0.2.1, k0.2.2, ih m (by simpa using h) fun j e e' x y => k (j + 1) e e' (by simpa using x) (by simpa using y)⟩
    exact this _ _ (by simpa using h1) fun j e e' x y => h2 j e e' (by simpa using x) (by simpa using y)
theorem MR.length : ∀ {l m : List MapEntry}, MR σ l m → l.length = m.length
  | [], [], _ => rfl
  | a :: l, b :: m, k => by simp [MR.length k.2.2.2]
  | [], _ :: _, k => k.elim
  | _ :: _, [], k => k.elim
theorem MR.at : ∀ {l m : List MapEntry}, MR σ l m → ∀ (j : Nat) (e e' : MapEntry), l[j]? = some e → m[j]? = some e' → VRel σ e.key e'.key ∧ VRel σ e.val e'.val ∧ e.born = e'.born
  | [], [], _, j, e, e', x, _ => by simp at x
  | a :: l, b :: m, k, 0, e, e', x, y => by
    simp at x y; subst x; subst y; exact ⟨k.1, k.2.1, k.2.2.1⟩
  | a :: l, b :: m, k, j + 1, e, e', x, y => MR.at k.2.2.2 j e e' (by simpa using x) (by simpa using y)
  | [], _ :: _, k, _, _, _, _, _ => k.elim
  | _ :: _, [], k, _, _, _, _, _ => k.elim
theorem MR.orel {es es' : Array MapEntry} {cl κ : Nat} (h : MR σ es.toList es'.toList) : ORel P σ κ true (.map es cl) (.map es' cl) :=
  .map cl (by simpa using h.length) fun j e e' x y => h.at j e e' (by simpa using x) (by simpa using y)

/-- the map behind a value -/
theorem getMap_rel {r r' κ : Nat} (h : σ r = some (r', κ)) {f f' : Obj → Sem α} {S : Ren → α → α → Prop}
    (hd : ∀ o, (∀ es cl, o ≠ .map es cl) → ∀ x, runV P (f o) x = none) (hk : ∀ es es' cl, MR σ es.toList es'.toList → SemRel P S σ (f (.map es cl)) (f' (.map es' cl))) : SemRel P S σ (getObj r >>= f) (getObj r' >>= f') := by
  refine .getObj h fun o o' ho hc => ?_
  show SemRel P S σ (f o) (f' o')
  cases ho with
  | cells => cases hc
  | map cl h1 h2 =>
    obtain ⟨es', e, hm⟩ := ORel.entries (.map cl h1 h2 : ORel P σ κ true _ _)
    injection e with e1 e2
    subst e1
    exact hk _ _ _ hm
  | stringIter b p => exact .dead (hd _ fun _ _ h => by cases h)
  | deferred => exact .dead (hd _ fun _ _ h => by cases h)
  | gone => exact .dead (hd _ fun _ _ h => by cases h)

theorem lookup_rel {t : TypeId} {x x' k k' : Value} {ok : Bool} (hz : flatZ P (elemT P t) = true) (hx : VRel σ x x') (hk : VRel σ k k') : SemRel P VR σ (Instr.lookup t x k ok) (Instr.lookup t x' k' ok) := by
  unfold Instr.lookup
  refine underlying_any.bnd fun s d d' hs e => ?_
  obtain ⟨rfl, hu⟩ := e
  split
  · rename_i kt et
    rw [elemT_map hu] at hz
    have tail : ∀ (s2 : Ren), Ren.le s s2 → ∀ es es' : Array MapEntry, MR s2 es.toList es'.toList → SemRel P VR s2
        (do
          Instr.checkKey es.isEmpty 10000 kt k
          let (v, ok2) ← match ← Instr.findKey kt k es.toList with
            | some (_, v) => pure (v, true)
            | none => pure (← zeroValue et, false)
          pure (if ok then .tuple #[v, .bool ok2] else v) : Sem Value)
        (do
          Instr.checkKey es'.isEmpty 10000 kt k'
          let (v, ok2) ← match ← Instr.findKey kt k' es'.toList with
            | some (_, v) => pure (v, true)
            | none => pure (← zeroValue et, false)
          pure (if ok then .tuple #[v, .bool ok2] else v) : Sem Value) := by
      intro s2 hs2 es es' hm
      have he : es.isEmpty = es'.isEmpty := by
        have := hm.length
        simp only [Array.isEmpty]
        simp at this
        rw [this]
      rw [he]
      have hk2 := (hk.mono hs).mono hs2
      refine (checkKey_rel _ _ _ hk2).bnd fun s3 _ _ hs3 _ => ?_
      refine (findKey_rel (hk2.mono hs3) (hm.mono hs3)).bnd fun s4 a b hs4 hf => ?_
      have fin : ∀ (s : Ren) (v v' : Value) (b : Bool), VRel s v v' → VRel s (if ok then .tuple #[v, .bool b] else v) (if ok then .tuple #[v', .bool b] else v') := fun s v v' b h => by
        cases ok
        · exact h
        · have := (AR.single h).push (VRel.bool b)
          exact VRel.tuple this.1 this.2
      cases a with
      | none => cases b with
        | none => exact (zeroValue_rel hz).bnd fun s5 z z' hs5 hzz => .ret (fin _ _ _ _ hzz)
        | some b => exact hf.elim
      | some a => cases b with
        | none => exact hf.elim
        | some b => exact .ret (fin _ _ _ _ hf.2)
    cases hx.mono hs
    case mapNil => exact tail s (Ren.le_refl _) #[] #[] trivial
    case map h =>
      dsimp only
      refine getMap_rel h (fun o ho => ?_) (fun es es' cl hm => ?_)
      · cases o <;> first | exact dead_bind _ dead_stuck | exact absurd rfl (ho _ _)
      · exact tail s (Ren.le_refl _) es es' hm
    all_goals exact .dead (dead_bind _ dead_stuck)
  · exact .dead dead_stuck
end
end Go.Proofs.Ytpaojoahbmlolaa
