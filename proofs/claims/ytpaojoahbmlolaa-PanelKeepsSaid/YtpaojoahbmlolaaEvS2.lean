/- Calls with lists: what is known of one, and how it is used. -/
import Derived.Test.YtpaojoahbmlolaaEvS1
namespace Go.Proofs.Ytpaojoahbmlolaa
open Go Go.RowKit
set_option linter.unusedSectionVars false
set_option linter.unusedVariables false
set_option linter.unusedSimpArgs false
set_option linter.unnecessarySimpa false
/-- a list that goes in -/
def ListIn (w : World) (c : Array Value) (n : Nat) (x : Option Addr) (cap : Nat) : Prop := (c.size = 0 ∧ n = 0) ∨ (c.size ≠ 0 ∧ n ≤ cap ∧ cap < 18446744073709551616 ∧ ∃ r off c' e' fz, x = some ⟨r, off, none⟩ ∧ w.heap[r]? = some (.cells c' e' fz) ∧ off + c.size ≤ c'.size ∧ c.toList.all okC = true ∧ ∀ (j : Nat) (v : Value), c[j]? = some v → c'[off + j]? = some v)
mutual
inductive DIn (w : World) : D → Value → Prop
  | val {v : Value} (h : flatV 20 v = true) : DIn w (.val v) v
  | list {c : Array Value} {n cap : Nat} {x : Option Addr} (h : ListIn w c n x cap) : DIn w (.list c n) (.slice x n cap)
  | agg {l : List D} {l' : List Value} (h : DIns w l l') : DIn w (.agg l) (.agg ⟨l'⟩)
inductive DIns (w : World) : List D → List Value → Prop
  | nil : DIns w [] []
  | cons {d : D} {v : Value} {l : List D} {l' : List Value} (h : DIn w d v) (k : DIns w l l') : DIns w (d :: l) (v :: l')
end
/-- lists that come out -/
structure RowsAt (P : Program) (lo : Nat) (τ : Ren) (bs : Outs) (w : World) : Prop where
  dom : ∀ j, τ j = none ↔ bs.length ≤ j
  at_ : ∀ j c e, bs[j]? = some (c, e) → ∃ r κ, τ j = some (r, κ) ∧ (c.size = 0 → κ = 0) ∧ (c.size ≠ 0 → lo ≤ r ∧ ∃ o', w.heap[r]? = some o' ∧ ∀ σ, XRel P σ κ (.row c e) o')
  inj : ∀ i j c e c' e' r κ κ', bs[i]? = some (c, e) → bs[j]? = some (c', e') → c.size ≠ 0 → c'.size ≠ 0 → τ i = some (r, κ) → τ j = some (r, κ') → i = j
/-- what is known of a call -/
def KnownR (P : Program) (L : Vars) (f : FuncId) (ds : List D) (v : Value) (bs : Outs) : Prop := ∀ w args', LaidL L w → DIns w ds args' → Calls P f args'.toArray w fun e w' => ∃ v' τ, e = .returned v' ∧ Below w.heap.size w w' ∧ VRel τ v v' ∧ RowsAt P w.heap.size τ bs w'
def TabDOk (P : Program) (L : Vars) (T : TabD) : Prop := ∀ f ds v bs, T f ds = some (v, bs) → KnownR P L f ds v bs
section
variable {P : Program} [NoCx P] {B : Bd}

/-! the start -/
def NoAlive (s : HS) : Prop := ∀ j p, s.heap.get j = some p → p.alive = false
structure Emb (P : Program) (B : Bd) (σ : Ren) (s : HS) (w : World) : Prop where
  m : Match P B σ (fun i => s.heap.get i) w
  na : NoAlive s
  new : ∀ i, s.next ≤ i → s.heap.get i = none
theorem emb_both {w : World} : ∀ (f : Nat), (∀ (d : D) (v' : Value) (s s' : HS) (v : Value) (σ : Ren), DIn w d v' → embD f d s = some (v, s') → Emb P B σ s w → ∃ σ', Ren.le σ σ' ∧ VRel σ' v v' ∧ Emb P B σ' s' w) := by
  intro f
  induction f with
  | zero => intro d v' s s' v σ _ h; cases h
  | succ f ih =>
    have ihl : ∀ (l : List D) (l' : List Value) (s s' : HS) (vs : List Value) (σ : Ren), DIns w l l' → embL (embD f) l s = some (vs, s') → Emb P B σ s w → ∃ σ', Ren.le σ σ' ∧ LR σ' vs l' ∧ Emb P B σ' s' w := by
      intro l
      induction l with
      | nil =>
        intro l' s s' vs σ hd h hm
        cases hd
        simp only [embL] at h
        injection h with h; injection h with h1 h2; subst h1; subst h2
        exact ⟨σ, Ren.le_refl _, trivial, hm⟩
      | cons d l il =>
        intro l' s s' vs σ hd h hm
        cases hd with
        | cons h1 h2 =>
          simp only [embL] at h
          split at h
          · rename_i v s1 he
            split at h
            · rename_i vs2 s2 hl
              injection h with h; injection h with e1 e2; subst e1; subst e2
              obtain ⟨σ1, q1, q2, q3⟩ := ih d _ s s1 v σ h1 he hm
              obtain ⟨σ2, r1, r2, r3⟩ := il _ s1 s2 vs2 σ1 h2 hl q3
              exact ⟨σ2, Ren.le_trans q1 r1, ⟨q2.mono r1, r2⟩, r3⟩
            · cases h
          · cases h
    intro d v' s s' v σ hd h hm
    simp only [embD] at h
    cases hd with
    | val hf =>
      simp only at h
      split at h
      · injection h with h; injection h with h1 h2; subst h1; subst h2
        exact ⟨σ, Ren.le_refl _, flat_rel 20 _ hf, hm⟩
      · cases h
    | list hl =>
      rename_i c n cap x
      simp only at h
      split at h
      · rename_i s1 hn
        injection h with h; injection h with h1 h2; subst h1; subst h2
        obtain ⟨a1, a2, a3, a4⟩ := new_spec hn
        have hnone := hm.new s.next (Nat.le_refl _)
        have hσ := (hm.m.dom _).2 hnone
        have u1 : s1.heap.get s.next = some (.ro c 0) := by rw [a2, if_pos rfl]
        have u2 : ∀ j, j ≠ s.next → s1.heap.get j = s.heap.get j := fun j hj => by rw [a2, if_neg hj]
        have hna : NoAlive s1 := fun j p e => by
          by_cases ej : j = s.next
          · subst ej; rw [u1] at e; injection e with e; subst e; rfl
          · rw [u2 j ej] at e; exact hm.na j p e
        have hnew : ∀ i, s1.next ≤ i → s1.heap.get i = none := fun i hi => by rw [u2 i (by omega)]; exact hm.new i (by omega)
        rcases hl with ⟨l1, rfl⟩ | ⟨lnz, l1, l2, r, off, c', e', fz, rfl, l3, l4, l5, l6⟩
        · refine ⟨σ.ext s.next (0, 1), Ren.le_ext _ hσ, .rowS Ren.ext_self (.inr (.inl ⟨rfl, rfl⟩)), ⟨?_, hna, hnew⟩⟩
          exact hm.m.newN hnone u1 rfl (fun c e x => by cases x) u2 (.inl ⟨l1, Nat.le_refl _⟩) (fun _ j κ' v' _ e2 e3 => by rw [hm.na j v' e2] at e3; cases e3)
        · refine ⟨σ.ext s.next (r, vk off cap), Ren.le_ext _ hσ, .rowS Ren.ext_self (.inr (.inr ⟨two_vk _ _, by rw [vOff_vk l2], by rw [vCap_vk l2], l1⟩)), ⟨?_, hna, hnew⟩⟩
          refine hm.m.newN hnone u1 rfl (fun c e x => by cases x) u2 (.inr ⟨lnz, two_vk _ _, c', e', fz, l3, by rw [vOff_vk l2]; exact l4, l5, fun j v v' e1 e2 => ?_⟩) (fun _ j κ' v' _ e2 e3 => by rw [hm.na j v' e2] at e3; cases e3)
          rw [vOff_vk l2, l6 j v e1] at e2
          injection e2 with e2; subst e2
          exact flat_rel 50 v (okC_flat (okC_at l5 e1))
      · cases h
    | agg hl =>
      simp only at h
      split at h
      · rename_i l2 s1 he
        injection h with h; injection h with h1 h2; subst h1; subst h2
        obtain ⟨σ1, q1, q2, q3⟩ := ihl _ _ s s1 l2 σ hl he hm
        have := q2.array
        exact ⟨σ1, q1, .agg this.1 this.2, q3⟩
      · cases h
theorem embL_match {w : World} {f : Nat} : ∀ (l : List D) (l' : List Value) (s s' : HS) (vs : List Value) (σ : Ren), DIns w l l' → embL (embD f) l s = some (vs, s') → Emb P B σ s w → ∃ σ', Ren.le σ σ' ∧ LR σ' vs l' ∧ Emb P B σ' s' w
  | [], l', s, s', vs, σ, hd, h, hm => by
    cases hd
    simp only [embL] at h
    injection h with h; injection h with h1 h2; subst h1; subst h2
    exact ⟨σ, Ren.le_refl _, trivial, hm⟩
  | d :: l, l', s, s', vs, σ, hd, h, hm => by
    cases hd with
    | cons h1 h2 =>
      simp only [embL] at h
      split at h
      · rename_i v s1 he
        split at h
        · rename_i vs2 s2 hl
          injection h with h; injection h with e1 e2; subst e1; subst e2
          obtain ⟨σ1, q1, q2, q3⟩ := emb_both f d _ s s1 v σ h1 he hm
          obtain ⟨σ2, r1, r2, r3⟩ := embL_match l _ s1 s2 vs2 σ1 h2 hl q3
          exact ⟨σ2, Ren.le_trans q1 r1, ⟨q2.mono r1, r2⟩, r3⟩
        · cases h
      · cases h

/-! what goes in, read -/
theorem rdL_same {f : HS → Value → Option (D × HS)} (hf : ∀ s v d s1, f s v = some (d, s1) → Same s s1) : ∀ {l : List Value} {s s1 : HS} {ds : List D}, rdL f l s = some (ds, s1) → Same s s1
  | [], s, s1, ds, h => by
    simp only [rdL] at h; injection h with h; injection h with h1 h2; subst h2; exact .refl _
  | v :: l, s, s1, ds, h => by
    simp only [rdL] at h
    split at h
    · rename_i d s2 hd
      split at h
      · rename_i ds2 s3 hds
        injection h with h; injection h with h1 h2; subst h2
        exact (hf _ _ _ _ hd).trans (rdL_same hf hds)
      · cases h
    · cases h
theorem rdD_same : ∀ (f : Nat) (s : HS) (v : Value) (d : D) (s1 : HS), rdD f s v = some (d, s1) → Same s s1
  | 0, s, v, d, s1, h => by cases h
  | f + 1, s, v, d, s1, h => by
    unfold rdD at h
    split at h
    · split at h
      · injection h with h; injection h with h1 h2; subst h2; exact .read _ _
      · cases h
    · injection h with h; injection h with h1 h2; subst h2; exact .refl _
    · split at h
      · split at h
        · rename_i hl
          injection h with h; injection h with h1 h2; subst h2
          exact rdL_same (rdD_same f) hl
        · cases h
      · split at h
        · injection h with h; injection h with h1 h2; subst h2; exact .refl _
        · cases h
    · split at h
      · injection h with h; injection h with h1 h2; subst h2; exact .refl _
      · cases h
theorem listIn_of {σ : Ren} {w : World} {r κ n cap : Nat} {x : Option Addr} {c : Array Value} (h : CellsAt σ w r κ c) (hat : HandleAt r κ n x cap) : ListIn w c n x cap := by
  rcases h with ⟨h, hk⟩ | ⟨hnz, k2, c', e', fz, h1, h2, h3, h4⟩
  · refine .inl ⟨h, ?_⟩
    rcases hat with ⟨_, q, _⟩ | ⟨_, q⟩ | ⟨q, _⟩
    · exact q
    · exact q
    · omega
  · rcases hat with ⟨q, _⟩ | ⟨q, _⟩ | ⟨_, rfl, rfl, hle⟩
    · omega
    · omega
    · refine .inr ⟨hnz, hle, Nat.mod_lt _ (by decide), r, vOff κ, c', e', fz, rfl, h1, h2, h3, fun j v hv => ?_⟩
      have hj := (Array.getElem?_eq_some_iff.1 hv).1
      have e1 : c'[vOff κ + j]? = some c'[vOff κ + j] := by simp
      have := h4 j v _ hv e1
      rw [e1, flat_eq 50 v _ (okC_flat (okC_at h3 hv)) this]

theorem rd_in {σ : Ren} {H : Nat → Option VO} {w : World} (hm : Match P B σ H w) : ∀ (f : Nat) (s : HS) (v v' : Value) (d : D) (s1 : HS), rdD f s v = some (d, s1) → VRel σ v v' → (∀ i, s1.rd.testBit i = true → H i = s.heap.get i) → DIn w d v'
  | 0, s, v, v', d, s1, h, _, _ => by cases h
  | f + 1, s, v, v', d, s1, h, hv, ha => by
    unfold rdD at h
    split at h
    · rename_i b n
      split at h
      · rename_i c e gr hl
        injection h with h; injection h with h1 h2; subst h1; subst h2
        cases hv with
        | rowS hb hat =>
          have hH : H b = s.heap.get b := ha b (by rw [read_eq]; exact lor_rd b)
          exact .list (listIn_of (list_at hl hH hb hm) hat)
      · cases h
    · injection h with h; injection h with h1 h2; subst h1; subst h2
      cases hv
      exact .list (.inl ⟨rfl, rfl⟩)
    · rename_i l
      split at h
      · split at h
        · rename_i ds s2 hl
          injection h with h; injection h with h1 h2; subst h1; subst h2
          cases hv with
          | agg q1 q2 =>
            rename_i a'
            obtain ⟨a'⟩ := a'
            refine .agg ?_
            have hlr : LR σ l a' := by
              have := AR.list (a := ⟨l⟩) (a' := ⟨a'⟩) ⟨q1, q2⟩
              exact this
            -- one after another
            have go : ∀ (l l' : List Value) (s s1 : HS) (ds : List D), rdL (rdD f) l s = some (ds, s1) → LR σ l l' → (∀ i, s1.rd.testBit i = true → H i = s.heap.get i) → DIns w ds l' := by
              intro l
              induction l with
              | nil =>
                intro l' s s1 ds h hl ha
                simp only [rdL] at h
                injection h with h; injection h with h1 h2; subst h1
                cases l' with
                | nil => exact .nil
                | cons _ _ => exact hl.elim
              | cons v l il =>
                intro l' s s1 ds h hl ha
                cases l' with
                | nil => exact hl.elim
                | cons v' l' =>
                  simp only [rdL] at h
                  split at h
                  · rename_i d s2 hd
                    split at h
                    · rename_i ds2 s3 hds
                      injection h with h; injection h with h1 h2; subst h1; subst h2
                      have sm1 := rdD_same f _ _ _ _ hd
                      have sm2 := rdL_same (rdD_same f) hds
                      exact .cons (rd_in hm f _ _ _ _ _ hd hl.1 (fun i e => ha i (sm2.step.rd i e))) (il _ _ _ _ hds hl.2 (fun i e => by rw [sm1.heap]; exact ha i e))
                    · cases h
                  · cases h
            exact go _ _ _ _ _ hl hlr ha
        · cases h
      · split at h
        · rename_i hf
          injection h with h; injection h with h1 h2; subst h1; subst h2
          rw [flat_eq 20 _ _ hf hv]
          exact .val hf
        · cases h
    · split at h
      · rename_i hf
        injection h with h; injection h with h1 h2; subst h1; subst h2
        rw [flat_eq 20 _ _ hf hv]
        exact .val hf
      · cases h
theorem rdL_in {σ : Ren} {H : Nat → Option VO} {w : World} (hm : Match P B σ H w) {f : Nat} : ∀ (l l' : List Value) (s s1 : HS) (ds : List D), rdL (rdD f) l s = some (ds, s1) → LR σ l l' → (∀ i, s1.rd.testBit i = true → H i = s.heap.get i) → DIns w ds l'
  | [], l', s, s1, ds, h, hl, ha => by
    simp only [rdL] at h
    injection h with h; injection h with h1 h2; subst h1
    cases l' with
    | nil => exact .nil
    | cons _ _ => exact hl.elim
  | v :: l, l', s, s1, ds, h, hl, ha => by
    cases l' with
    | nil => exact hl.elim
    | cons v' l' =>
      simp only [rdL] at h
      split at h
      · rename_i d s2 hd
        split at h
        · rename_i ds2 s3 hds
          injection h with h; injection h with h1 h2; subst h1; subst h2
          have sm1 := rdD_same f _ _ _ _ hd
          have sm2 := rdL_same (rdD_same f) hds
          exact .cons (rd_in hm f _ _ _ _ _ hd hl.1 (fun i e => ha i (sm2.step.rd i e))) (rdL_in hm l l' _ _ _ hds hl.2 (fun i e => by rw [sm1.heap]; exact ha i e))
        · cases h
      · cases h

/-! what comes out, laid -/
theorem putR_spec : ∀ (bs : Outs) (s s' : HS), putR bs s = some s' → VStep s s' ∧ s'.next = s.next + bs.length ∧ ∀ H, Sim s H → ∀ i, upd H s' i = if s.next ≤ i ∧ i < s.next + bs.length then (bs[i - s.next]?).map (fun p => VO.row p.1 p.2) else H i
  | [], s, s', h => by
    simp only [putR] at h
    injection h with h; subst h
    exact ⟨.refl _, rfl, fun H hs i => by rw [hs.upd, if_neg (by simp)]⟩
  | (c, e) :: bs, s, s', h => by
    simp only [putR] at h
    split at h
    · rename_i s1 hn
      obtain ⟨g1, g2, g3⟩ := putR_spec bs s1 s' h
      have hst := VStep.new hn
      have hnx := (new_spec hn).1
      refine ⟨hst.trans g1, by rw [g2, hnx]; simp; omega, fun H hs i => ?_⟩
      obtain ⟨u1, u2⟩ := upd_new hs hn
      have := g3 (upd H s1) (hs.step hst) i
      rw [upd_upd g1] at this
      rw [this, hnx]
      simp only [List.length_cons]
      by_cases e1 : i = s.next
      · subst e1
        rw [if_neg (by omega), if_pos (by omega), u1]
        simp
      · by_cases e2 : s.next + 1 ≤ i ∧ i < s.next + 1 + bs.length
        · rw [if_pos e2, if_pos (by omega), show i - s.next = (i - (s.next + 1)) + 1 by omega]
          simp
        · rw [if_neg e2, if_neg (by omega), u2 i e1]
    · cases h
theorem lookB_rho (nx : Nat) : ∀ (k j : Nat), lookB (rhoR nx k) j = if j < k then some (nx + j) else none
  | 0, j => by simp [rhoR, lookB]
  | k + 1, j => by
    have app : ∀ (l m : List (Nat × Nat)) (j : Nat), lookB (l ++ m) j = match lookB l j with | some x => some x | none => lookB m j := by
      intro l m j
      induction l with
      | nil => rfl
      | cons p l ih =>
        obtain ⟨o, x⟩ := p
        simp only [List.cons_append, lookB]
        split
        · rfl
        · exact ih
    unfold rhoR
    rw [app, lookB_rho nx k j]
    by_cases h1 : j < k
    · rw [if_pos h1, if_pos (by omega)]
    · rw [if_neg h1]
      simp only [lookB]
      by_cases h2 : j = k
      · subst h2; rw [Nat.beq_refl, if_pos (by omega)]; rfl
      · have : Nat.beq k j = false := by
          cases hb : Nat.beq k j with
          | false => rfl
          | true => exact absurd (Nat.eq_of_beq_eq_true hb).symm h2
        rw [this, if_neg (by omega)]
theorem Match.lists {σ τ : Ren} {H H' : Nat → Option VO} {w w' : World} {nx : Nat} {bs : Outs} (hm : Match P B σ H w) (hB : B.b ≤ w.heap.size) (hbl : Below w.heap.size w w') (hr : RowsAt P w.heap.size τ bs w')
    (hn : ∀ i, nx ≤ i → i < nx + bs.length → H i = none) (hH : ∀ i, H' i = if nx ≤ i ∧ i < nx + bs.length then (bs[i - nx]?).map (fun p => VO.row p.1 p.2) else H i) :
    ∃ σ', Ren.le σ σ' ∧ (∀ j, j < bs.length → σ' (nx + j) = τ j) ∧ Match P B σ' H' w' := by
  have hm' := hm.below hbl
  obtain ⟨σ', hσ⟩ : ∃ σ' : Ren, σ' = fun i => if nx ≤ i ∧ i < nx + bs.length then τ (i - nx) else σ i := ⟨_, rfl⟩
  have hin : ∀ i, nx ≤ i ∧ i < nx + bs.length → σ' i = τ (i - nx) := fun i h => by rw [hσ]; simp only [if_pos h]
  have hout : ∀ i, ¬ (nx ≤ i ∧ i < nx + bs.length) → σ' i = σ i := fun i h => by rw [hσ]; simp only [if_neg h]
  have hle : Ren.le σ σ' := fun i b e => by
    rw [hout i fun h => by rw [(hm.dom i).2 (hn i h.1 h.2)] at e; cases e]; exact e
  have inw : ∀ i v, nx ≤ i ∧ i < nx + bs.length → H' i = some v → ∃ c e r κ, bs[i - nx]? = some (c, e) ∧ v = .row c e ∧ σ' i = some (r, κ) ∧ (c.size = 0 → κ = 0) ∧ (c.size ≠ 0 → w.heap.size ≤ r ∧ ∃ o', w'.heap[r]? = some o' ∧ ∀ σ, XRel P σ κ (.row c e) o') := fun i v h e => by
    rw [hH, if_pos h] at e
    cases hb : bs[i - nx]? with
    | none => rw [hb] at e; cases e
    | some p =>
      obtain ⟨c, t⟩ := p
      rw [hb] at e
      injection e with e; subst e
      obtain ⟨r, κ, g1, g2, g3⟩ := hr.at_ _ _ _ hb
      exact ⟨c, t, r, κ, rfl, rfl, by rw [hin i h]; exact g1, g2, g3⟩
  have outw : ∀ i v, ¬ (nx ≤ i ∧ i < nx + bs.length) → H' i = some v → H i = some v := fun i v h e => by rw [hH, if_neg h] at e; exact e
  have nz : ∀ {c : Array Value} {e : TypeId}, (VO.row c e).alive = true → c.size ≠ 0 := fun h h0 => by simp [VO.alive, h0] at h
  refine ⟨σ', hle, fun j hj => by rw [hin (nx + j) ⟨by omega, by omega⟩]; congr 1; omega, ⟨fun i => ?_, fun i b κ v e1 e2 e3 => ?_, fun i b κ v e1 e2 e3 => ?_, fun i j b κ κ' v v' e1 e2 e3 e4 e5 e6 => ?_, fun g hg => ?_, fun i c e e1 => ?_, fun i b κ v e1 e2 => ?_, fun i j b κ κ' v v' e1 e2 e3 e4 e5 e6 => ?_⟩⟩
  · by_cases h : nx ≤ i ∧ i < nx + bs.length
    · rw [hin i h, hH, if_pos h]
      have : ¬ bs.length ≤ i - nx := by omega
      constructor
      · intro e; exact absurd ((hr.dom _).1 e) this
      · intro e
        have hl : i - nx < bs.length := by omega
        rw [List.getElem?_eq_getElem hl] at e; cases e
    · rw [hout i h, hH, if_neg h]; exact hm.dom i
  · by_cases h : nx ≤ i ∧ i < nx + bs.length
    · obtain ⟨c, t, r, κ2, _, rfl, g1, _, g3⟩ := inw i v h e2
      rw [g1] at e1; injection e1 with e1; injection e1 with ea eb; subst ea
      have := (g3 (nz e3)).1
      omega
    · rw [hout i h] at e1
      exact hm.old i b κ v e1 (outw i v h e2) e3
  · by_cases h : nx ≤ i ∧ i < nx + bs.length
    · obtain ⟨c, t, r, κ2, _, rfl, g1, _, g3⟩ := inw i v h e2
      rw [g1] at e1; injection e1 with e1; injection e1 with ea eb; subst ea; subst eb
      obtain ⟨_, o', q1, q2⟩ := g3 (nz e3)
      exact ⟨o', q1, q2 _⟩
    · rw [hout i h] at e1
      obtain ⟨o', q1, q2⟩ := hm'.objX i b κ v e1 (outw i v h e2) e3
      exact ⟨o', q1, q2.mono hle⟩
  · by_cases h : nx ≤ i ∧ i < nx + bs.length
    · obtain ⟨c, t, r, κ2, hb1, rfl, g1, _, g3⟩ := inw i v h e3
      rw [g1] at e1; injection e1 with e1; injection e1 with ea eb; subst ea; subst eb
      have hge := (g3 (nz e5)).1
      by_cases k : nx ≤ j ∧ j < nx + bs.length
      · obtain ⟨c2, t2, r2, κ3, hb2, rfl, k1, _, k3⟩ := inw j v' k e4
        rw [k1] at e2; injection e2 with e2; injection e2 with ea eb; subst ea; subst eb
        rw [hin i h] at g1
        rw [hin j k] at k1
        have := hr.inj _ _ _ _ _ _ _ _ _ hb1 hb2 (nz e5) (nz e6) g1 k1
        omega
      · exfalso
        rw [hout j k] at e2
        have := hm.ltA e2 (outw j v' k e4) e6
        omega
    · by_cases k : nx ≤ j ∧ j < nx + bs.length
      · exfalso
        obtain ⟨c2, t2, r2, κ3, hb2, rfl, k1, _, k3⟩ := inw j v' k e4
        rw [k1] at e2; injection e2 with e2; injection e2 with ea eb; subst ea; subst eb
        have hge := (k3 (nz e6)).1
        rw [hout i h] at e1
        have := hm.ltA e1 (outw i v h e3) e5
        omega
      · rw [hout i h] at e1
        rw [hout j k] at e2
        exact hm.injX i j b κ κ' v v' e1 e2 (outw i v h e3) (outw j v' k e4) e5 e6
  · exact hle _ _ (hm.low g hg)
  · by_cases h : nx ≤ i ∧ i < nx + bs.length
    · obtain ⟨_, _, _, _, _, q, _⟩ := inw i _ h e1
      cases q
    · exact hm'.glob i c e (outw i _ h e1)
  · by_cases h : nx ≤ i ∧ i < nx + bs.length
    · obtain ⟨c, t, r, κ2, _, rfl, g1, g2, _⟩ := inw i v h e2
      rw [g1] at e1; injection e1 with e1; injection e1 with ea eb; subst ea; subst eb
      exact g2
    · rw [hout i h] at e1
      exact (hm'.non i b κ v e1 (outw i v h e2)).mono hle
  · have h : ¬ (nx ≤ i ∧ i < nx + bs.length) := fun h => by
      obtain ⟨_, _, _, _, _, q, _⟩ := inw i _ h e3
      subst q; cases e5
    rw [hout i h] at e1
    have e3' := outw i v h e3
    by_cases k : nx ≤ j ∧ j < nx + bs.length
    · obtain ⟨c2, t2, r2, κ3, hb2, rfl, k1, _, k3⟩ := inw j v' k e4
      rw [k1] at e2; injection e2 with e2; injection e2 with ea eb; subst ea; subst eb
      have hge := (k3 (nz e6)).1
      have := (hm.non i _ _ _ e1 e3').lt e5
      omega
    · rw [hout j k] at e2
      exact hm.sep i j b κ κ' v v' e1 e2 e3' (outw j v' k e4) e5 e6
theorem callD_sound {T : TabD} (hT : TabDOk P B.L T) {call : CallV} (hc : CallSound P B call) : CallSound P B ⟨call.g, callD T call.fn, call.rnd⟩ := by
  refine ⟨hc.g, ?_, hc.rnd⟩
  intro f args s s' v h
  replace h : callD T call.fn f args s = some (v, s') := h
  unfold callD at h
  split at h
  · rename_i ds s1 hrd
    split at h
    · rename_i v0 bs hl
      split at h
      · rename_i s2 v2 hp hv2
        injection h with h; injection h with h1 h2; subst h1; subst h2
        have sm := rdL_same (rdD_same 20) hrd
        obtain ⟨p1, p2, p3⟩ := putR_spec bs s1 s2 hp
        refine ⟨sm.step.trans p1, fun σ args' H w ha hm hs hag hB => ?_⟩
        have hin := rdL_in hm args.toList args'.toList s s1 ds hrd ha.list (fun i e => hag.rd i (p1.rd i e))
        have hk := hT f ds v0 bs hl w args'.toList hB.laid hin
        rw [Array.toArray_toList] at hk
        refine hk.mono ?_
        rintro e w' ⟨v', τ, rfl, hbl, hv, hr⟩
        have hs1 := sm.sim hs
        have hnn : ∀ i, s1.next ≤ i → i < s1.next + bs.length → H i = none := fun i h1 h2 => hag.new i (by rw [← sm.next]; exact h1) (by rw [p2]; exact h2)
        obtain ⟨σ', g1, g2, g3⟩ := hm.lists hB.size hbl hr hnn (p3 H hs1)
        refine ⟨σ', v', rfl, g1, ?_, g3, hbl.mono hB.size⟩
        refine renV_rel (fun b b' p e1 e2 => ?_) 20 v0 v2 v' hv2 hv
        unfold renB at e1
        rw [show Nat.blt b 0 = false by cases b <;> rfl] at e1
        simp only [lookB_rho] at e1
        split at e1
        · rename_i hlt
          injection e1 with e1; subst e1
          rw [g2 b hlt]; exact e2
        · cases e1
      · exact hc.fn _ _ _ _ _ h
    · exact hc.fn _ _ _ _ _ h
  · exact hc.fn _ _ _ _ _ h
end
end Go.Proofs.Ytpaojoahbmlolaa
