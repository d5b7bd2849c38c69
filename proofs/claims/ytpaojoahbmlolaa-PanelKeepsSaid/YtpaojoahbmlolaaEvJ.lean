/- The operations, run and real: the last ones, and all of them together. -/
import Derived.Test.YtpaojoahbmlolaaEvI
namespace Go.Proofs.Ytpaojoahbmlolaa
open Go Go.RowKit
set_option linter.unusedSectionVars false
set_option linter.unusedVariables false
set_option linter.unusedSimpArgs false
set_option linter.unnecessarySimpa false
section
variable {P : Program} [NoCx P] {σ : Ren} {α β : Type} {R : Ren → α → β → Prop}

theorem ptr_same {a a' b b' : Option Addr} (h : VRel σ (.pointer a) (.pointer a')) (k : VRel σ (.pointer b) (.pointer b')) (e : (a == b) = true) : (a' == b') = true := by
  have e := eq_of_beq e
  subst e
  cases h with
  | ptrNil => cases k with
    | ptrNil => rfl
  | ptr hx => cases k with
    | ptr hy =>
      rw [hx] at hy
      injection hy with hy; injection hy with hy _
      subst hy
      exact beq_self_eq_true _
theorem zip_same (f : Value → Value → Bool) (p : Value → Bool) (hf : ∀ {a a' b b' : Value}, VRel σ a a' → VRel σ b b' → p b = true → f a b = true → f a' b' = true) : ∀ {l1 l2 l3 l4 : List Value}, LR σ l1 l2 → LR σ l3 l4 → l3.all p = true → ((l1.zip l3).all fun x => f x.1 x.2) = true → ((l2.zip l4).all fun x => f x.1 x.2) = true
  | [], [], _, _, _, _, _, _ => rfl
  | _ :: _, _ :: _, [], [], _, _, _, _ => rfl
  | a :: l1, b :: l2, c :: l3, d :: l4, h, k, hp, e => by
    simp only [List.zip_cons_cons, List.all_cons, Bool.and_eq_true] at hp e ⊢
    exact ⟨hf h.1 k.1 hp.1 e.1, zip_same f p hf h.2 k.2 hp.2 e.2⟩
  | [], _ :: _, _, _, h, _, _, _ => h.elim
  | _ :: _, [], _, _, h, _, _, _ => h.elim
  | _ :: _, _ :: _, [], _ :: _, _, k, _, _ => k.elim
  | _ :: _, _ :: _, _ :: _, [], _, k, _, _ => k.elim
theorem sameBits_rel : ∀ (n d : Nat) {a a' b b' : Value}, VRel σ a a' → VRel σ b b' → noHv d b = true → Instr.sameBits n a b = true → Instr.sameBits n a' b' = true := by
  intro n
  induction n with
  | zero =>
    intro d a a' b b' h k hno e
    unfold Instr.sameBits at e
    split at e
    · cases h; cases k; exact e
    · cases h; cases k; exact e
    · cases h
    · cases d <;> cases hno
    · cases h; cases k; exact e
    · cases h with
      | ptrNil => cases k with
        | ptrNil => rfl
        | ptr hy => cases e
      | ptr hx => cases k with
        | ptrNil => cases e
        | ptr hy => exact ptr_same (.ptr hx) (.ptr hy) e
    · cases h
    · cases h; cases k; exact e
    all_goals first | (cases e; done) | (rename_i hh; cases hh; done)
  | succ n ih =>
    intro d a a' b b' h k hno e
    unfold Instr.sameBits at e
    split at e
    · cases h; cases k; exact e
    · cases h; cases k; exact e
    · cases h
    · cases d <;> cases hno
    · cases h; cases k; exact e
    · cases h with
      | ptrNil => cases k with
        | ptrNil => rfl
        | ptr hy => cases e
      | ptr hx => cases k with
        | ptrNil => cases e
        | ptr hy => exact ptr_same (.ptr hx) (.ptr hy) e
    · cases h
    · cases h; cases k; exact e
    · rename_i hn
      injection hn with hn
      subst hn
      cases h with | iface _ h => ?_
      cases k with | iface _ k => ?_
      simp only [Instr.sameBits, Bool.and_eq_true] at e ⊢
      cases d with
      | zero => cases hno
      | succ d => exact ⟨e.1, ih d h k hno e.2⟩
    · rename_i hn
      injection hn with hn
      subst hn
      cases h with | agg h1 h2 => ?_
      cases k with | agg k1 k2 => ?_
      simp only [Instr.sameBits, Bool.and_eq_true, beq_iff_eq] at e ⊢
      refine ⟨by rw [← h1, ← k1]; exact e.1, ?_⟩
      cases d with
      | zero => cases hno
      | succ d => exact zip_same (fun x y => Instr.sameBits n x y) (noHv d) (ih d) (AR.list ⟨h1, h2⟩) (AR.list ⟨k1, k2⟩) hno e.2
    · cases e

theorem keyThatStays_rel {a a' b b' : Value} (h : VRel σ a a') (k : VRel σ b b') (hno : noHv 20 b = true) : SemRel P VR σ (Instr.keyThatStays a b) (Instr.keyThatStays a' b') := by
  unfold Instr.keyThatStays
  by_cases e : Instr.sameBits 10000 a b = true
  · rw [if_pos e, if_pos (sameBits_rel _ 20 h k hno e)]
    exact .ret k
  · rw [if_neg e]
    exact .dead fun _ => rfl

theorem MR.modify {s : Ren} (f f' : MapEntry → MapEntry) (hf : ∀ e e', VRel s e.key e'.key → VRel s e.val e'.val → e.born = e'.born → VRel s (f e).key (f' e').key ∧ VRel s (f e).val (f' e').val ∧ (f e).born = (f' e').born) :
    ∀ {l m : List MapEntry} (i : Nat), MR s l m → MR s (l.modify i f) (m.modify i f')
  | [], [], i, _ => by cases i <;> trivial
  | a :: l, b :: m, 0, h => by
    have := hf a b h.1 h.2.1 h.2.2.1
    exact ⟨this.1, this.2.1, this.2.2, h.2.2.2⟩
  | a :: l, b :: m, i + 1, h => ⟨h.1, h.2.1, h.2.2.1, MR.modify f f' hf i h.2.2.2⟩
  | [], _ :: _, _, k => k.elim
  | _ :: _, [], _, k => k.elim
theorem MR.snoc {s : Ren} {a b : MapEntry} (h1 : VRel s a.key b.key) (h2 : VRel s a.val b.val) (h3 : a.born = b.born) : ∀ {l m : List MapEntry}, MR s l m → MR s (l ++ [a]) (m ++ [b])
  | [], [], _ => ⟨h1, h2, h3, trivial⟩
  | _ :: _, _ :: _, h => ⟨h.1, h.2.1, h.2.2.1, MR.snoc h1 h2 h3 h.2.2.2⟩
  | [], _ :: _, k => k.elim
  | _ :: _, [], k => k.elim
theorem MR.erase {s : Ren} : ∀ {l m : List MapEntry} (i : Nat), MR s l m → MR s (l.eraseIdx i) (m.eraseIdx i)
  | [], [], i, _ => trivial
  | a :: l, b :: m, 0, h => h.2.2.2
  | a :: l, b :: m, i + 1, h => ⟨h.1, h.2.1, h.2.2.1, MR.erase i h.2.2.2⟩
  | [], _ :: _, _, k => k.elim
  | _ :: _, [], _, k => k.elim
theorem setMap_rel {r r' κ : Nat} (h : σ r = some (r', κ)) {es es' : Array MapEntry} {cl : Nat} (hm : MR σ es.toList es'.toList) : SemRel P ER σ (setObj r (.map es cl)) (setObj r' (.map es' cl)) :=
  .setObj h (fun κ => hm.orel) (.pure rfl)
theorem MR.isEmpty {es es' : Array MapEntry} (hm : MR σ es.toList es'.toList) : es.isEmpty = es'.isEmpty := by
  have := hm.length
  simp only [Array.isEmpty]
  simp at this
  rw [this]

theorem mapUpdate_rel {t : TypeId} {x x' k k' v v' : Value} (hx : VRel σ x x') (hk : VRel σ k k') (hno : noHv 20 k = true) (hv : VRel σ v v') : SemRel P ER σ (Instr.mapUpdate t x k v) (Instr.mapUpdate t x' k' v') := by
  unfold Instr.mapUpdate
  refine underlying_any.bnd fun s d d' hs e => ?_
  obtain ⟨rfl, hu⟩ := e
  split
  · cases hx.mono hs
    case mapNil => exact .dead dead_runtimePanic
    case map h =>
      dsimp only
      refine getMap_rel h (fun o ho => ?_) (fun es es' cl hm => ?_)
      · cases o <;> first | exact dead_bind _ dead_stuck | exact dead_stuck | exact absurd rfl (ho _ _)
      · dsimp only
        have hk2 := hk.mono hs
        refine (checkKey_rel _ _ _ hk2).bnd fun s3 _ _ hs3 _ => ?_
        refine (findKey_rel (hk2.mono hs3) (hm.mono hs3)).bnd fun s4 a b hs4 hf => ?_
        have hm4 := (hm.mono hs3).mono hs4
        have hk4 := (hk2.mono hs3).mono hs4
        have hv4 := ((hv.mono hs).mono hs3).mono hs4
        have hr4 := hs4 _ _ (hs3 _ _ h)
        cases a with
        | none => cases b with
          | none =>
            refine setMap_rel hr4 ?_
            simp only [Array.toList_push]
            exact MR.snoc (a := { key := k, val := v, born := cl }) (b := { key := k', val := v', born := cl }) hk4 hv4 rfl hm4
          | some b => exact hf.elim
        | some a => cases b with
          | none => exact hf.elim
          | some b =>
            obtain ⟨i, a⟩ := a
            obtain ⟨j, b⟩ := b
            obtain ⟨rfl, _⟩ := hf
            dsimp only
            have ho : VRel s4 (((es[i]?).map (·.key)).getD k) (((es'[i]?).map (·.key)).getD k') := by
              cases he : es[i]? with
              | none =>
                have : es'[i]? = none := by
                  simp only [Array.getElem?_eq_none_iff] at he ⊢
                  have := hm4.length
                  simp at this
                  omega
                rw [this]; exact hk4
              | some e =>
                have hi : i < es'.size := by
                  have := hm4.length
                  simp at this
                  have := (Array.getElem?_eq_some_iff.1 he).1
                  omega
                have he' : es'[i]? = some es'[i] := by simp [hi]
                rw [he']
                exact (hm4.at i e es'[i] (by simpa using he) (by simpa using he')).1
            refine (keyThatStays_rel ho hk4 hno).bnd fun s5 q q' hs5 hq => ?_
            refine setMap_rel (hs5 _ _ hr4) ?_
            simp only [Array.toList_modify]
            exact MR.modify (fun e => { e with key := q, val := v }) (fun e => { e with key := q', val := v' }) (fun e e' _ _ hb => ⟨hq, hv4.mono hs5, hb⟩) i (hm4.mono hs5)
    all_goals exact .dead dead_stuck
  · exact .dead dead_stuck

theorem mapEntry_rel {t : TypeId} {x x' k k' : Value} (hz : flatZ P (elemT P t) = true) (hx : VRel σ x x') (hk : VRel σ k k') (hno : noHv 20 k = true) : SemRel P VR σ (Instr.mapEntry t x k) (Instr.mapEntry t x' k') := by
  unfold Instr.mapEntry
  refine underlying_any.bnd fun s d d' hs e => ?_
  obtain ⟨rfl, hu⟩ := e
  split
  · rename_i kt et
    rw [elemT_map hu] at hz
    have two : ∀ {s : Ren} {v v' : Value} (n : Int), VRel s v v' → VRel s (.tuple #[v, goInt n]) (.tuple #[v', goInt n]) := fun n h => by
      have := (AR.single h).push (VRel.int .i64 n)
      exact VRel.tuple this.1 this.2
    cases hx.mono hs
    case mapNil => exact .dead dead_runtimePanic
    case map h =>
      dsimp only
      refine getMap_rel h (fun o ho => ?_) (fun es es' cl hm => ?_)
      · cases o <;> first | exact dead_bind _ dead_stuck | exact dead_stuck | exact absurd rfl (ho _ _)
      · dsimp only
        have hk2 := hk.mono hs
        refine (checkKey_rel _ _ _ hk2).bnd fun s3 _ _ hs3 _ => ?_
        refine (findKey_rel (hk2.mono hs3) (hm.mono hs3)).bnd fun s4 a b hs4 hf => ?_
        have hm4 := (hm.mono hs3).mono hs4
        have hk4 := (hk2.mono hs3).mono hs4
        have hr4 := hs4 _ _ (hs3 _ _ h)
        cases a with
        | none => cases b with
          | none =>
            dsimp only
            refine (zeroValue_rel hz).bnd fun s5 z z' hs5 hzz => ?_
            refine SemRel.bnd (setMap_rel (hs5 _ _ hr4) ?_) fun s6 _ _ hs6 _ => .ret (two cl (hzz.mono hs6))
            simp only [Array.toList_push]
            exact MR.snoc (a := { key := k, val := z, born := cl }) (b := { key := k', val := z', born := cl }) (hk4.mono hs5) hzz rfl (hm4.mono hs5)
          | some b => exact hf.elim
        | some a => cases b with
          | none => exact hf.elim
          | some b =>
            obtain ⟨i, a⟩ := a
            obtain ⟨j, b⟩ := b
            obtain ⟨rfl, hv⟩ := hf
            dsimp only
            have both : VRel s4 (((es[i]?).map (·.key)).getD k) (((es'[i]?).map (·.key)).getD k') ∧ ((es[i]?).map (fun x => (x.born : Int))).getD 0 = ((es'[i]?).map (fun x => (x.born : Int))).getD 0 := by
              cases he : es[i]? with
              | none =>
                have : es'[i]? = none := by
                  simp only [Array.getElem?_eq_none_iff] at he ⊢
                  have := hm4.length
                  simp at this
                  omega
                rw [this]; exact ⟨hk4, rfl⟩
              | some e =>
                have hi : i < es'.size := by
                  have := hm4.length
                  simp at this
                  have := (Array.getElem?_eq_some_iff.1 he).1
                  omega
                have he' : es'[i]? = some es'[i] := by simp [hi]
                rw [he']
                have := hm4.at i e es'[i] (by simpa using he) (by simpa using he')
                exact ⟨this.1, by simp [this.2.2]⟩
            refine (keyThatStays_rel both.1 hk4 hno).bnd fun s5 q q' hs5 hq => ?_
            rw [both.2]
            refine SemRel.bnd (setMap_rel (hs5 _ _ hr4) ?_) fun s6 _ _ hs6 _ => .ret (two _ ((hv.mono hs5).mono hs6))
            simp only [Array.toList_modify]
            exact MR.modify (fun e => { e with key := q }) (fun e => { e with key := q' }) (fun e e' _ hv hb => ⟨hq, hv, hb⟩) i (hm4.mono hs5)
    all_goals exact .dead dead_stuck
  · exact .dead dead_stuck

theorem findBorn_rel (n : Int) : ∀ {l m : List MapEntry}, MR σ l m → l.findIdx? (fun e => (e.born : Int) == n) = m.findIdx? (fun e => (e.born : Int) == n)
  | [], [], _ => rfl
  | a :: l, b :: m, h => by
    rw [List.findIdx?_cons, List.findIdx?_cons, h.2.2.1, findBorn_rel n h.2.2.2]
  | [], _ :: _, k => k.elim
  | _ :: _, [], k => k.elim
theorem findIdx_arr (es : Array MapEntry) (p : MapEntry → Bool) : es.findIdx? p = es.toList.findIdx? p := by
  obtain ⟨l⟩ := es
  simp
theorem entryStore_rel {t : TypeId} {x x' k k' v v' : Value} (hx : VRel σ x x') (hk : VRel σ k k') (hv : VRel σ v v') : SemRel P ER σ (Instr.entryStore t x k v) (Instr.entryStore t x' k' v') := by
  unfold Instr.entryStore
  cases hx
  case map h =>
    dsimp only
    refine getMap_rel h (fun o ho => ?_) (fun es es' cl hm => ?_)
    · cases o <;> first | exact dead_bind _ dead_stuck | exact dead_stuck | exact absurd rfl (ho _ _)
    · dsimp only
      refine (asInt_rel hk).bnd fun s3 a b hs3 e => ?_
      rw [show a = b from e]
      have hb := findBorn_rel b (hm.mono hs3)
      rw [show es.findIdx? (fun e => (e.born : Int) == b) = es'.findIdx? (fun e => (e.born : Int) == b) from by rw [findIdx_arr, findIdx_arr]; exact hb]
      cases es'.findIdx? (fun e => (e.born : Int) == b) with
      | none => exact .dead fun _ => rfl
      | some i =>
        refine setMap_rel (hs3 _ _ h) ?_
        simp only [Array.toList_modify]
        exact MR.modify (fun e => { e with val := v }) (fun e => { e with val := v' }) (fun e e' hk _ hb => ⟨hk, hv.mono hs3, hb⟩) i (hm.mono hs3)
  all_goals exact .dead dead_stuck

theorem delete_rel {ts : Array TypeId} {ty : TypeId} {a a' : Array Value} (h : AR σ a a') : SemRel P VR σ (Builtin.delete_ ts ty a) (Builtin.delete_ ts ty a') := by
  unfold Builtin.delete_
  cases h0 : ts[0]? with
  | none => exact .dead fun _ => rfl
  | some t =>
    cases h1 : a[0]? with
    | none => exact .dead fun _ => rfl
    | some m =>
      obtain ⟨m', hm1, hm2⟩ := h.get h1
      cases h2 : a[1]? with
      | none => exact .dead fun _ => rfl
      | some k =>
        obtain ⟨k', hk1, hk2⟩ := h.get h2
        rw [hm1, hk1]
        dsimp only
        refine underlying_any.bnd fun s d d' hs e => ?_
        obtain ⟨rfl, hu⟩ := e
        split
        · have fin : ∀ s : Ren, SemRel P VR s (pure (.tuple #[]) : Sem Value) (pure (.tuple #[]) : Sem Value) := fun s => .ret (VRel.tuple rfl fun i v v' x => by simp at x)
          cases hm2.mono hs
          case mapNil => exact (checkKey_rel _ _ _ (hk2.mono hs)).bnd fun s3 _ _ hs3 _ => fin _
          case map h =>
            dsimp only
            refine getMap_rel h (fun o ho => ?_) (fun es es' cl hm => ?_)
            · cases o <;> first | exact dead_bind _ dead_stuck | exact absurd rfl (ho _ _)
            · dsimp only
              have hk3 := hk2.mono hs
              rw [← hm.isEmpty]
              refine (checkKey_rel _ _ _ hk3).bnd fun s3 _ _ hs3 _ => ?_
              refine (findKey_rel (hk3.mono hs3) (hm.mono hs3)).bnd fun s4 a b hs4 hf => ?_
              have hm4 := (hm.mono hs3).mono hs4
              have hr4 := hs4 _ _ (hs3 _ _ h)
              cases a with
              | none => cases b with
                | none => exact (setMap_rel hr4 hm4).bnd fun _ _ _ _ _ => fin _
                | some b => exact hf.elim
              | some a => cases b with
                | none => exact hf.elim
                | some b =>
                  obtain ⟨i, a⟩ := a
                  obtain ⟨j, b⟩ := b
                  obtain ⟨rfl, _⟩ := hf
                  dsimp only
                  refine (setMap_rel hr4 ?_).bnd fun _ _ _ _ _ => fin _
                  simp only [Array.toList_eraseIdxIfInBounds]
                  exact MR.erase i hm4
          all_goals exact .dead (dead_bind _ dead_stuck)
        · exact .dead dead_stuck

theorem clear_rel {ts : Array TypeId} {ty : TypeId} {a a' : Array Value} (hz : ∀ t, ts[0]? = some t → flatZ P (elemT P t) = true) (h : AR σ a a') : SemRel P VR σ (Builtin.clear_ ts ty a) (Builtin.clear_ ts ty a') := by
  unfold Builtin.clear_
  cases h0 : ts[0]? with
  | none => exact .dead fun _ => rfl
  | some t =>
    cases h1 : a[0]? with
    | none => exact .dead fun _ => rfl
    | some m =>
      obtain ⟨m', hm1, hm2⟩ := h.get h1
      rw [hm1]
      dsimp only
      have hz := hz t h0
      refine underlying_any.bnd fun s d d' hs e => ?_
      obtain ⟨rfl, hu⟩ := e
      have fin : ∀ s : Ren, SemRel P VR s (pure (.tuple #[]) : Sem Value) (pure (.tuple #[]) : Sem Value) := fun s => .ret (VRel.tuple rfl fun i v v' x => by simp at x)
      cases hm2.mono hs
      case mapNil => exact fin _
      case sliceNil => exact fin _
      case map h =>
        dsimp only
        refine getMap_rel h (fun o ho => ?_) (fun es es' cl hm => ?_)
        · cases o <;> first | exact dead_bind _ dead_stuck | exact absurd rfl (ho _ _)
        · exact SemRel.bnd (setMap_rel h (es := #[]) (es' := #[]) trivial) fun _ _ _ _ _ => fin _
      case slice h hl1 hl2 hl3 =>
        rename_i l cr cv
        cases l with
        | zero => exact fin _
        | succ n =>
          cases d <;> try exact .dead (dead_bind _ dead_stuck)
          rename_i e
          rw [elemT_slice hu] at hz
          refine (zeroValue_rel hz).bnd fun s5 z z' hs5 hzz => ?_
          refine (storeCells_rel 0 (PR.of_slice (hs5 _ _ h)) ?_).bnd fun _ _ _ _ _ => fin _
          have hc := AR.cells hzz
          unfold Builtin.zeroCells
          rw [show (n + 1) * z'.cells.size = (n + 1) * z.cells.size from by rw [hc.1]]
          exact (hc.range ((n + 1) * z.cells.size)).list
      all_goals exact .dead (dead_bind _ dead_stuck)

theorem len_rel {ts : Array TypeId} {ty : TypeId} {a a' : Array Value} (h : AR σ a a') : SemRel P VR σ (Builtin.len_ ts ty a) (Builtin.len_ ts ty a') := by
  unfold Builtin.len_
  cases h0 : ts[0]? with
  | none => exact .dead fun _ => rfl
  | some t =>
    cases h1 : a[0]? with
    | none => exact .dead fun _ => rfl
    | some m =>
      obtain ⟨m', hm1, hm2⟩ := h.get h1
      rw [hm1]
      dsimp only
      refine underlying_any.bnd fun s d d' hs e => ?_
      obtain ⟨rfl, hu⟩ := e
      have hm := hm2.mono hs
      refine sr_right fun u hr => ?_
      split
      · cases hm; subst hr; exact .ret (.int _ _)
      · subst hr; exact .ret (.int _ _)
      · subst hr; dsimp only
        refine underlying_any.bnd fun s2 d d' hs2 e => ?_
        obtain ⟨rfl, _⟩ := e
        split
        · exact .ret (.int _ _)
        · exact .dead dead_stuck
      · cases hm <;> (subst hr; exact .ret (.int _ _))
      · cases hm; subst hr; exact .ret (.int _ _)
      · cases hm
      · cases hm with | map h => ?_
        subst hr; dsimp only
        refine getMap_rel h (fun o ho => ?_) (fun es es' cl hm => ?_)
        · cases o <;> first | exact dead_stuck | exact absurd rfl (ho _ _)
        · have : es.size = es'.size := by simpa using hm.length
          simp only [this]
          exact .ret (.int _ _)
      · cases hm
      · exact .dead dead_stuck

theorem firstCells_rel {size n : Nat} {x x' : Value} (h : VRel σ x x') : SemRel P AR σ (Builtin.firstCells size n x) (Builtin.firstCells size n x') := by
  cases h
  case sliceNil => exact .ret AR.empty
  case slice h h0 h1 h2 => exact loadCells_rel _ (PR.of_slice h)
  case string b =>
    refine .ret ⟨rfl, fun i v v' x y => ?_⟩
    rw [x] at y; injection y with y; subst y
    simp only [Array.getElem?_map, Option.map_eq_some_iff] at x
    obtain ⟨_, _, rfl⟩ := x
    exact .int _ _
  all_goals exact .dead dead_stuck
theorem lenOf_rel {x x' : Value} (h : VRel σ x x') : SemRel P ER σ (Builtin.lenOf x) (Builtin.lenOf x') := by
  cases h <;> first | exact .ret rfl | exact .dead dead_stuck
theorem copy_rel {ts : Array TypeId} {ty : TypeId} {a a' : Array Value} (h : AR σ a a') : SemRel P VR σ (Builtin.copy_ ts ty a) (Builtin.copy_ ts ty a') := by
  unfold Builtin.copy_
  cases h0 : ts[0]? with
  | none => exact .dead fun _ => rfl
  | some t =>
    cases h1 : a[0]? with
    | none => exact .dead fun _ => rfl
    | some m =>
      obtain ⟨m', hm1, hm2⟩ := h.get h1
      cases h2 : a[1]? with
      | none => exact .dead fun _ => rfl
      | some k =>
        obtain ⟨k', hk1, hk2⟩ := h.get h2
        rw [hm1, hk1]
        dsimp only
        refine underlying_any.bnd fun s d d' hs e => ?_
        obtain ⟨rfl, hu⟩ := e
        split
        · cases hm2.mono hs
          case sliceNil =>
            dsimp only
            refine (lenOf_rel (hk2.mono hs)).bnd fun s2 a b hs2 e => ?_
            obtain rfl : a = b := e
            refine sizeOf_any.bnd fun s3 a b hs3 e => ?_
            obtain ⟨rfl, _⟩ := e
            exact (firstCells_rel (((hk2.mono hs).mono hs2).mono hs3)).bnd fun _ c c' _ _ => .ret (.int _ _)
          case slice h h0 h1 h2 =>
            dsimp only
            refine (lenOf_rel (hk2.mono hs)).bnd fun s2 a b hs2 e => ?_
            obtain rfl : a = b := e
            refine sizeOf_any.bnd fun s3 a b hs3 e => ?_
            obtain ⟨rfl, _⟩ := e
            refine (firstCells_rel (((hk2.mono hs).mono hs2).mono hs3)).bnd fun s4 c c' hs4 hc => ?_
            exact (storeCells_rel 0 (PR.of_slice (hs4 _ _ (hs3 _ _ (hs2 _ _ h)))) hc.list).bnd fun _ _ _ _ _ => .ret (.int _ _)
          all_goals exact .dead dead_stuck
        · exact .dead dead_stuck

theorem min2_rel {x x' y y' : Value} (h : VRel σ x x') (k : VRel σ y y') : SemRel P VR σ (Builtin.min2 x y) (Builtin.min2 x' y') := by
  unfold Builtin.min2
  refine sr_right fun u hr => ?_
  split
  · cases h; cases k; subst hr; exact .ret (.int _ _)
  · cases h
  · cases h; cases k; subst hr
    refine stringOp_rel.bnd fun s v v' hs hv => ?_
    refine (asBool_rel hv).bnd fun s2 a b hs2 e => ?_
    obtain rfl : a = b := e
    exact .ret (.string _)
  · exact .dead fun _ => rfl
  · exact .dead fun _ => rfl
  · exact .dead fun _ => rfl
theorem max2_rel {x x' y y' : Value} (h : VRel σ x x') (k : VRel σ y y') : SemRel P VR σ (Builtin.max2 x y) (Builtin.max2 x' y') := by
  unfold Builtin.max2
  refine sr_right fun u hr => ?_
  split
  · cases h; cases k; subst hr; exact .ret (.int _ _)
  · cases h
  · cases h; cases k; subst hr
    refine stringOp_rel.bnd fun s v v' hs hv => ?_
    refine (asBool_rel hv).bnd fun s2 a b hs2 e => ?_
    obtain rfl : a = b := e
    exact .ret (.string _)
  · exact .dead fun _ => rfl
  · exact .dead fun _ => rfl
  · exact .dead fun _ => rfl
theorem foldM_rel (f : Value → Value → Sem Value) (hf : ∀ {s : Ren} {x x' y y' : Value}, VRel s x x' → VRel s y y' → SemRel P VR s (f x y) (f x' y')) : ∀ {l l' : List Value} {s : Ren} {x x' : Value}, VRel s x x' → LR s l l' → SemRel P VR s (l.foldlM f x) (l'.foldlM f x')
  | [], [], s, x, x', h, _ => .ret h
  | a :: l, b :: l', s, x, x', h, k => by
    rw [List.foldlM_cons, List.foldlM_cons]
    exact (hf h k.1).bnd fun s2 v v' hs hv => foldM_rel f hf hv (k.2.mono hs)
  | [], _ :: _, _, _, _, _, k => k.elim
  | _ :: _, [], _, _, _, _, k => k.elim
theorem min_rel {ts : Array TypeId} {ty : TypeId} {a a' : Array Value} (h : AR σ a a') : SemRel P VR σ (Builtin.min_ ts ty a) (Builtin.min_ ts ty a') := by
  unfold Builtin.min_
  have hl := h.list
  generalize a.toList = l at *
  generalize a'.toList = l' at *
  cases l with
  | nil => exact .dead dead_stuck
  | cons x l => cases l' with
    | nil => exact hl.elim
    | cons x' l' => exact foldM_rel _ min2_rel hl.1 hl.2
theorem max_rel {ts : Array TypeId} {ty : TypeId} {a a' : Array Value} (h : AR σ a a') : SemRel P VR σ (Builtin.max_ ts ty a) (Builtin.max_ ts ty a') := by
  unfold Builtin.max_
  have hl := h.list
  generalize a.toList = l at *
  generalize a'.toList = l' at *
  cases l with
  | nil => exact .dead dead_stuck
  | cons x l => cases l' with
    | nil => exact hl.elim
    | cons x' l' => exact foldM_rel _ max2_rel hl.1 hl.2

theorem range_rel {t : TypeId} {x x' : Value} (ht : P.underlying t = some .string) (h : VRel σ x x') : SemRel P VR σ (Instr.range t x) (Instr.range t x') := by
  unfold Instr.range
  refine (underlying_rel ht).bnd fun s d d' hs e => ?_
  obtain ⟨rfl, rfl⟩ := e
  cases h.mono hs
  case string b =>
    exact .new (.stringIter b 0) fun i b hi => .pure (VRel.ptr (κ := 0) (by simp [Ren.ext]))
  all_goals exact .dead fun _ => rfl
theorem next_rel {x x' : Value} {ty : TypeId} (h : VRel σ x x') : SemRel P VR σ (Instr.next x true ty) (Instr.next x' true ty) := by
  unfold Instr.next
  cases h
  case ptr b b' κ o p h =>
    cases o with
    | succ o => exact .dead dead_stuck
    | zero =>
      dsimp only
      refine .getObj h fun q q' ho hc => ?_
      cases ho with
      | cells => cases hc
      | map cl h1 h2 => exact .dead dead_stuck
      | deferred => exact .dead dead_stuck
      | gone => exact .dead dead_stuck
      | stringIter s pos =>
        show SemRel P VR σ (if pos < s.size then _ else _) (if pos < s.size then _ else _)
        refine ite_rel (fun _ => ?_) (fun _ => .ret ?_)
        · generalize Utf8.decode s pos = cw
          obtain ⟨c, w⟩ := cw
          refine .setObj h (fun κ => .stringIter _ _) (.pure ?_)
          have := ((AR.single (VRel.bool true : VRel σ _ _)).push (VRel.int .i64 pos)).push (VRel.int .i32 c)
          exact VRel.tuple this.1 this.2
        · have := AR.single (VRel.bool false : VRel σ _ _)
          exact VRel.tuple this.1 this.2
  all_goals exact .dead fun _ => rfl

theorem typeAssert_rel {x x' : Value} {t u : TypeId} {ok : Bool} (hz : flatZ P u = true) (h : VRel σ x x') : SemRel P VR σ (Instr.typeAssert x t u ok) (Instr.typeAssert x' t u ok) := by
  unfold Instr.typeAssert
  have holds : ∀ {s : Ren} {v v' : Value}, VRel s v v' → SemRel P VR s (pure (if ok then .tuple #[v, .bool true] else v) : Sem Value) (pure (if ok then .tuple #[v', .bool true] else v') : Sem Value) := fun h => by
    cases ok
    · exact .ret h
    · have := (AR.single h).push (VRel.bool true)
      exact .ret (VRel.tuple this.1 this.2)
  have fails : ∀ (s : Ren) (a b : Option TypeId) (m : String), SemRel P VR s (do if ok then pure (.tuple #[← zeroValue u, .bool false]) else runtimePanic (.typeAssertion a b u m) : Sem Value) (do if ok then pure (.tuple #[← zeroValue u, .bool false]) else runtimePanic (.typeAssertion a b u m) : Sem Value) := fun s a b m => by
    refine ite_rel (fun _ => ?_) (fun _ => .dead dead_runtimePanic)
    refine (zeroValue_rel hz).bnd fun s2 z z' hs hzz => ?_
    have := (AR.single hzz).push (VRel.bool false)
    exact .ret (VRel.tuple this.1 this.2)
  refine underlying_any.bnd fun s d d' hs e => ?_
  obtain ⟨rfl, hu⟩ := e
  replace h := h.mono hs
  refine sr_right fun w hr => ?_
  split
  · cases h; subst hr; exact fails _ _ _ _
  · cases h with | iface _ h => ?_
    subst hr; dsimp only
    refine typeInfo_any.bnd fun s2 i i' hs2 e => ?_
    obtain ⟨rfl, _⟩ := e
    split
    · exact holds (VRel.iface _ (h.mono hs2))
    · exact fails _ _ _ _
  · rename_i n1
    cases h; subst hr
    cases d <;> first | exact (n1 _ rfl).elim | exact fails _ _ _ _
  · rename_i n1
    cases h with | iface _ h => ?_
    subst hr
    cases d <;> first | exact (n1 _ rfl).elim | exact ite_rel (fun _ => holds h) (fun _ => fails _ _ _ _)
  · exact .dead dead_stuck
end
end Go.Proofs.Ytpaojoahbmlolaa
