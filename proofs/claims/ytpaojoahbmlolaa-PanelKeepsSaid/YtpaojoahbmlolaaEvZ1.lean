/- What is so of a state is so of the state numbered anew. -/
import Derived.Test.YtpaojoahbmlolaaEvZ
namespace Go.Proofs.Ytpaojoahbmlolaa
open Go Go.RowKit
set_option linter.unusedSectionVars false
set_option linter.unusedVariables false
set_option linter.unusedSimpArgs false
set_option linter.unnecessarySimpa false
section
variable {P : Program} [NoCx P] {B : Bd}

theorem renV_junk {n : Nat} {ρ : List (Nat × Nat)} : ∀ (d : Nat) (v u : Value), renV n ρ d v = some u → isJunk v = true → isJunk u = true
  | 0, v, u, h, k => by cases h
  | d + 1, v, u, h, k => by
    unfold isJunk at k
    split at k
    · rename_i a
      obtain ⟨l⟩ := a
      simp only at k
      split at k
      · split at k
        · rename_i c
          unfold renV at h
          simp only at h
          split at h
          · rename_i m hr
            injection h with h; subst h
            simp only [renL] at hr
            split at hr
            · rename_i y hy
              injection hr with hr; subst hr
              cases d with
              | zero => cases hy
              | succ d =>
                unfold renV at hy
                obtain ⟨c⟩ := c
                simp only at hy
                split at hy
                · injection hy with hy; subst hy; rfl
                · cases hy
            · cases hr
          · cases h
        · cases k
      · cases k
    · cases k
theorem renT_rel {σ σ2 : Ren} {f : Value → Option Value} (ih : ∀ v u v', f v = some u → VRel σ v v' → VRel σ2 u v') (ij : ∀ v u, f v = some u → isJunk v = true → isJunk u = true) :
    ∀ {t t2 : TV}, renT f t = some t2 → ∀ k (x : Option Value), SR σ (t.get k) x → SR σ2 (t2.get k) x
  | .nil, t2, h, k, x, hs => by
    simp only [renT] at h; injection h with h; subst h
    rw [TV.get_nil] at hs ⊢
    cases x with
    | none => trivial
    | some _ => exact hs.elim
  | .node o l r, t2, h, k, x, hs => by
    unfold renT at h
    split at h
    · rename_i o' ho
      split at h
      · rename_i l' r' hl hr
        injection h with h; subst h
        rw [TV.get_node] at hs ⊢
        by_cases h0 : k = 0
        · rw [if_pos h0] at hs ⊢
          cases o with
          | none => injection ho with ho; subst ho; cases x with
            | none => trivial
            | some _ => exact hs.elim
          | some v =>
            simp only at ho
            split at ho
            · rename_i u hu
              injection ho with ho; subst ho
              cases x with
              | none => exact hs.elim
              | some v' => exact hs.imp (ij v u hu) (ih v u v' hu)
            · cases ho
        · rw [if_neg h0] at hs ⊢
          by_cases h1 : k % 2 = 1
          · rw [if_pos h1] at hs ⊢; exact renT_rel ih ij hl _ _ hs
          · rw [if_neg h1] at hs ⊢; exact renT_rel ih ij hr _ _ hs
      · cases h
    · cases h
theorem upds_junk {σ : Ren} {a : Array Value} : ∀ (js : List Nat) (t : TV), TR σ t a → TR σ (t.upds (js.map fun k => (k, junk))) a
  | [], t, h => h
  | j :: js, t, h => by
    simp only [List.map_cons, TV.upds]
    refine upds_junk js _ fun k => ?_
    rw [TV.get_set]
    split
    · rename_i e
      subst e
      have := h k
      cases hg : t.get k with
      | none => rw [hg] at this; exact this
      | some v =>
        rw [hg] at this
        cases hx : a[k]? with
        | none => rw [hx] at this; exact this.elim
        | some v' => exact Or.inl rfl
    · exact h k
theorem renDs_rel {n : Nat} {ρ : List (Nat × Nat)} {σ σ2 : Ren} (hb : Renum n ρ σ σ2) : ∀ {l m : List Deferred}, renDs n ρ l = some m → ∀ {k : List Deferred}, DL σ l k → DL σ2 m k
  | [], m, h, k, hk => by
    simp only [renDs] at h; injection h with h; subst h
    cases k with
    | nil => trivial
    | cons => exact hk.elim
  | d :: l, m, h, k, hk => by
    cases k with
    | nil => exact hk.elim
    | cons e k =>
      obtain ⟨h1, h2⟩ := hk
      unfold renDs at h
      split at h
      · cases h
      · rename_i m' hm'
        have ih := renDs_rel hb hm' h2
        cases h1 with
        | mark q =>
          simp only at h
          split at h
          · rename_i hr _
            injection h with h; subst h
            exact ⟨.mark (hb _ _ _ hr q), ih⟩
          · cases h
        | fn q1 q2 =>
          simp only at h
          split at h
          · rename_i hr1 hr2
            injection h with h; subst h
            exact ⟨.fn (renArr (renV_rel hb 20) hr1 q1) (renArr (renV_rel hb 20) hr2 q2), ih⟩
          · cases h
theorem renE_spec {f : Value → Option Value} : ∀ {l m : List MapEntry}, renE f l = some m → m.length = l.length ∧ ∀ (i : Nat) (e e' : MapEntry), l[i]? = some e → m[i]? = some e' → f e.key = some e'.key ∧ f e.val = some e'.val ∧ e.born = e'.born
  | [], m, h => by
    simp only [renE] at h; injection h with h; subst h
    exact ⟨rfl, fun i v u e => by simp at e⟩
  | x :: l, m, h => by
    simp only [renE] at h
    split at h
    · rename_i h1 h2 h3
      injection h with h; subst h
      obtain ⟨g1, g2⟩ := renE_spec h3
      refine ⟨by simp [g1], fun i v u e1 e2 => ?_⟩
      cases i with
      | zero => simp at e1 e2; subst e1; subst e2; exact ⟨h1, h2, rfl⟩
      | succ i => exact g2 i v u (by simpa using e1) (by simpa using e2)
    · cases h
theorem renO_rel {n : Nat} {ρ : List (Nat × Nat)} {σ σ2 : Ren} (hb : Renum n ρ σ σ2) {κ : Nat} {v u : VO} {o : Obj} (h : renO n ρ v = some u) (k : XRel P σ κ v o) : XRel P σ2 κ u o := by
  unfold renO at h
  split at h
  · split at h
    · rename_i hr
      injection h with h; subst h
      obtain ⟨z1, z2⟩ := renL_spec hr
      cases k with
      | live k => cases k with
        | cells e fz q => exact .live (.cells _ _ (renArr (renV_rel hb 20) hr q))
        | row e fz i hi hl q hk hm => exact .live (.row _ _ i hi (by simpa [z1] using hl) (fun j u' v' e1 e2 => by
            obtain ⟨v, x1, x2⟩ := renL_back hr e1
            exact renV_rel hb 20 _ _ _ x2 (q j v v' x1 e2)) hk hm)
        | srow e i hi hl q hk hm => exact .live (.srow _ i hi (by simpa [z1] using hl) (fun j u' v' e1 e2 => by
            obtain ⟨v, x1, x2⟩ := renL_back hr e1
            exact renV_rel hb 20 _ _ _ x2 (q j v v' x1 e2)) hk hm)
    · cases h
  · split at h
    · rename_i hr
      injection h with h; subst h
      obtain ⟨z1, z2⟩ := renE_spec hr
      cases k with
      | live k => cases k with
        | map _ q1 q2 =>
          refine .live (.map _ ?_ ?_)
          · show List.length _ = _
            rw [z1]; exact q1
          · intro j e e' e1 e2
            have e1' : _ := e1
            rw [List.getElem?_toArray] at e1'
            obtain ⟨hj, _⟩ := List.getElem?_eq_some_iff.1 e1'
            rw [z1] at hj
            obtain ⟨y1, y2, y3⟩ := z2 j _ _ (List.getElem?_eq_getElem hj) e1'
            obtain ⟨x1, x2, x3⟩ := q2 j _ e' (by rw [List.getElem?_toArray]; exact List.getElem?_eq_getElem hj) e2
            exact ⟨renV_rel hb 20 _ _ _ y1 x1, renV_rel hb 20 _ _ _ y2 x2, by rw [← y3]; exact x3⟩
    · cases h
  · injection h with h; subst h
    cases k with
    | live k => cases k; exact .live (.stringIter _ _)
  · injection h with h; subst h
    cases k with
    | live k => cases k with
      | deferred => exact .live .deferred
      | gone => exact .live .gone
  · split at h
    · rename_i hr hdr
      injection h with h; subst h
      cases k with
      | loop ht hd => exact .loop (fun j => renT_rel (renV_rel hb 20) (renV_junk 20) hr j _ (ht j)) (hb _ _ _ hdr hd)
    · cases h
  · injection h with h; subst h; cases k
  · injection h with h; subst h
    cases k with
    | row e i hi hl q k2 k0 hk hm h1 => exact .row _ i hi hl (fun j v v' e1 e2 => flat_same (okC_at h1 e1) (q j v v' e1 e2)) k2 k0 hk hm h1
  · injection h with h; subst h; cases k
  · cases h
theorem renO_non {n : Nat} {ρ : List (Nat × Nat)} {σ σ2 : Ren} (hb : Renum n ρ σ σ2) {w : World} {b κ : Nat} {v u : VO} (h : renO n ρ v = some u) (k : NRel σ w b κ v) : NRel σ2 w b κ u := by
  unfold renO at h
  split at h
  · split at h
    · injection h with h; subst h; trivial
    · cases h
  · split at h
    · injection h with h; subst h; trivial
    · cases h
  · injection h with h; subst h; trivial
  · injection h with h; subst h; trivial
  · split at h
    · injection h with h; subst h; trivial
    · cases h
  · injection h with h; subst h; trivial
  · injection h with h; subst h; exact k
  · injection h with h; subst h
    exact k.imp id fun ⟨kn, k2, c', e', fz, k3, k4, k5, k6⟩ => ⟨kn, k2, c', e', fz, k3, k4, k5, fun j v v' e1 e2 => flat_same (okC_at k5 e1) (k6 j v v' e1 e2)⟩
  · cases h
theorem renO_alive {n : Nat} {ρ : List (Nat × Nat)} {v u : VO} (h : renO n ρ v = some u) : v.alive = u.alive ∧ v.still = u.still ∧ ∀ c e, u ≠ .glob c e := by
  unfold renO at h
  split at h
  · split at h
    · injection h with h; subst h; exact ⟨rfl, rfl, fun c e x => by cases x⟩
    · cases h
  · split at h
    · injection h with h; subst h; exact ⟨rfl, rfl, fun c e x => by cases x⟩
    · cases h
  · injection h with h; subst h; exact ⟨rfl, rfl, fun c e x => by cases x⟩
  · injection h with h; subst h; exact ⟨rfl, rfl, fun c e x => by cases x⟩
  · split at h
    · injection h with h; subst h; exact ⟨rfl, rfl, fun c e x => by cases x⟩
    · cases h
  · injection h with h; subst h; exact ⟨rfl, rfl, fun c e x => by cases x⟩
  · injection h with h; subst h; exact ⟨rfl, rfl, fun c e x => by cases x⟩
  · injection h with h; subst h; exact ⟨rfl, rfl, fun c e x => by cases x⟩
  · cases h

/-! what is as it was -/
theorem vrel_dom {σ0 σ1 σ2 : Ren} (hag : ∀ b p, σ0 b = some p → σ2 b = σ1 b) {v u0 : Value} (h : VRel σ0 v u0) : ∀ {u : Value}, VRel σ1 v u → VRel σ2 v u := by
  induction h with
  | bool b => intro u k; cases k; exact .bool _
  | int a b => intro u k; cases k; exact .int _ _
  | string b => intro u k; cases k; exact .string _
  | ptrNil => intro u k; cases k; exact .ptrNil
  | ptr q => intro u k; cases k with
    | ptr q1 => exact .ptr (by rw [hag _ _ q]; exact q1)
  | sliceNil l c => intro u k; cases k; exact .sliceNil _ _
  | slice l q q0 q1 q2 => intro u k; cases k with
    | slice _ r r0 r1 r2 => exact .slice l (by rw [hag _ _ q]; exact r) r0 r1 r2
  | mapNil => intro u k; cases k; exact .mapNil
  | map q => intro u k; cases k with
    | map q1 => exact .map (by rw [hag _ _ q]; exact q1)
  | nilFunc => intro u k; cases k; exact .nilFunc
  | func fn hy q1 q2 q3 q4 i2 i4 => intro u k; cases k with
    | func _ hy r1 r2 r3 r4 =>
      refine .func fn hy r1 (fun i v v' e1 e2 => ?_) r3 (fun i v v' e1 e2 => ?_)
      · obtain ⟨x, hx, _⟩ := AR.get ⟨q1, q2⟩ e1
        exact i2 i v x e1 hx (r2 i v v' e1 e2)
      · obtain ⟨x, hx, _⟩ := AR.get ⟨q3, q4⟩ e1
        exact i4 i v x e1 hx (r4 i v v' e1 e2)
    | yield q => cases hy
  | iface t q ih => intro u k; cases k with
    | iface _ q1 => exact .iface t (ih q1)
  | nilIface => intro u k; cases k; exact .nilIface
  | yield q => intro u k; cases k with
    | func _ hy _ _ _ _ => cases hy
    | yield q1 => exact .yield (by rw [hag _ _ q]; exact q1)
  | rowS q hx => intro u k; cases k with
    | rowS q1 hx1 => exact .rowS (by rw [hag _ _ q]; exact q1) hx1
  | rowP q hk => intro u k; cases k with
    | rowP q1 hk1 => exact .rowP (by rw [hag _ _ q]; exact q1) hk1
  | agg q1 q2 ih => intro u k; cases k with
    | agg r1 r2 =>
      refine .agg r1 fun i v v' e1 e2 => ?_
      obtain ⟨x, hx, _⟩ := AR.get ⟨q1, q2⟩ e1
      exact ih i v x e1 hx (r2 i v v' e1 e2)
  | tuple q1 q2 ih => intro u k; cases k with
    | tuple r1 r2 =>
      refine .tuple r1 fun i v v' e1 e2 => ?_
      obtain ⟨x, hx, _⟩ := AR.get ⟨q1, q2⟩ e1
      exact ih i v x e1 hx (r2 i v v' e1 e2)
theorem ar_dom {σ0 σ1 σ2 : Ren} (hag : ∀ b p, σ0 b = some p → σ2 b = σ1 b) {c c0 c1 : Array Value} (h : ∀ (j : Nat) (v v' : Value), c[j]? = some v → c0[j]? = some v' → VRel σ0 v v') (hs : c.size ≤ c0.size) (k : ∀ (j : Nat) (v v' : Value), c[j]? = some v → c1[j]? = some v' → VRel σ1 v v') :
    ∀ (j : Nat) (v v' : Value), c[j]? = some v → c1[j]? = some v' → VRel σ2 v v' := fun j v v' e1 e2 => by
  have hj : j < c0.size := Nat.lt_of_lt_of_le (Array.getElem?_eq_some_iff.1 e1).1 hs
  exact vrel_dom hag (h j v c0[j] e1 (Array.getElem?_eq_getElem hj)) (k j v v' e1 e2)
theorem tr_dom {σ0 σ1 σ2 : Ren} (hag : ∀ b p, σ0 b = some p → σ2 b = σ1 b) {t : TV} {a0 a1 : Array Value} (h : TR σ0 t a0) (k : TR σ1 t a1) : TR σ2 t a1 := fun j => by
  have h1 := h j
  have h2 := k j
  cases hg : t.get j with
  | none =>
    rw [hg] at h2
    cases hx : a1[j]? with
    | none => trivial
    | some _ => rw [hx] at h2; exact h2.elim
  | some v =>
    rw [hg] at h1 h2
    cases hx : a1[j]? with
    | none => rw [hx] at h2; exact h2.elim
    | some v' =>
      rw [hx] at h2
      cases hy : a0[j]? with
      | none => rw [hy] at h1; exact h1.elim
      | some v0 =>
        rw [hy] at h1
        rcases h2 with h2 | h2
        · exact Or.inl h2
        · rcases h1 with h1 | h1
          · exact Or.inl h1
          · exact Or.inr (vrel_dom hag h1 h2)
theorem xrel_dom {σ0 σ1 σ2 : Ren} (hag : ∀ b p, σ0 b = some p → σ2 b = σ1 b) {κ0 κ : Nat} {v : VO} {o0 o : Obj} (h : XRel P σ0 κ0 v o0) (k : XRel P σ1 κ v o) : XRel P σ2 κ v o := by
  cases h with
  | live h =>
    cases k with
    | live k =>
      cases h with
      | cells e fz q => cases k with
        | cells _ _ q1 => exact .live (.cells _ _ ⟨q1.1, ar_dom hag q.2 (Nat.le_of_eq q.1) q1.2⟩)
      | row e fz i hi hl q hk hm => cases k with
        | row _ _ i1 hi1 hl1 q1 hk1 hm1 => exact .live (.row _ _ i1 hi1 hl1 (ar_dom hag q hl q1) hk1 hm1)
        | srow _ i1 hi1 hl1 q1 hk1 hm1 => exact .live (.srow _ i1 hi1 hl1 (ar_dom hag q hl q1) hk1 hm1)
      | srow e i hi hl q hk hm => cases k with
        | row _ _ i1 hi1 hl1 q1 hk1 hm1 => exact .live (.row _ _ i1 hi1 hl1 (ar_dom hag q hl q1) hk1 hm1)
        | srow _ i1 hi1 hl1 q1 hk1 hm1 => exact .live (.srow _ i1 hi1 hl1 (ar_dom hag q hl q1) hk1 hm1)
      | map cl q1 q2 => cases k with
        | map _ r1 r2 =>
          refine .live (.map cl r1 fun j e e' e1 e2 => ?_)
          have hj := (Array.getElem?_eq_some_iff.1 e1).1
          rw [q1] at hj
          obtain ⟨x1, x2, x3⟩ := r2 j e e' e1 e2
          obtain ⟨y1, y2, y3⟩ := q2 j e _ e1 (Array.getElem?_eq_getElem hj)
          exact ⟨vrel_dom hag y1 x1, vrel_dom hag y2 x2, x3⟩
      | stringIter b p => cases k; exact .live (.stringIter _ _)
      | deferred => cases k; exact .live .deferred
      | gone => cases k; exact .live .gone
  | loop ht hd =>
    cases k with
    | loop ht1 hd1 => exact .loop (tr_dom hag ht ht1) (by rw [hag _ _ hd]; exact hd1)
  | row e i hi hl q k2 k0 hk hm h1 =>
    cases k with
    | row _ i1 hi1 hl1 q1 k21 k01 hk1 hm1 h11 => exact .row _ i1 hi1 hl1 (fun j x x' e1 e2 => flat_same (okC_at h11 e1) (q1 j x x' e1 e2)) k21 k01 hk1 hm1 h11
theorem non_dom {σ1 σ2 : Ren} {w : World} {b κ : Nat} {v : VO} (k : NRel σ1 w b κ v) : NRel σ2 w b κ v := by
  cases v with
  | ro c e => exact k.imp id fun ⟨kn, k2, c', e', fz, k3, k4, k5, k6⟩ => ⟨kn, k2, c', e', fz, k3, k4, k5, fun j x x' e1 e2 => flat_same (okC_at k5 e1) (k6 j x x' e1 e2)⟩
  | _ => exact k
end
end Go.Proofs.Ytpaojoahbmlolaa
