/- Loops with lists: they are known by their block from the first round on. -/
import Derived.Test.YtpaojoahbmlolaaEvZ3
namespace Go.Proofs.Ytpaojoahbmlolaa
open Go Go.RowKit
set_option linter.unusedSectionVars false
set_option linter.unusedVariables false
set_option linter.unusedSimpArgs false
set_option linter.unnecessarySimpa false
/-- where a list stands -/
inductive Pl where
  | slot (k : Nat)
  | cell (b o : Nat)
def killU (u : Option Nat) (s : HS) : Option HS := match u with
  | some b => s.put b .dead
  | none => some s
def conv1 (P : Program) (p : Pl) (e : TypeId) (s : St) : Option St := match p with
  | .slot k => match asRowV P s.hs e (s.tmps.at k) with
    | some (c, n, u) => match killU u s.hs with
      | some h1 => match h1.new (.row c e) with
        | some h2 => some ⟨s.tmps.set k (.complex .f64 h1.next n), h2, s.defs⟩
        | none => none
      | none => none
    | none => none
  | .cell b o => match s.hs.heap.get b with
    | some (.live (.cells cc ee fz) ex) => match cc[o]? with
      | some v => match asRowV P s.hs e v with
        | some (c, n, u) => match killU u s.hs with
          | some h1 => match h1.new (.row c e) with
            | some h2 => match h2.heap.get b with
              | some (.live (.cells cc2 ee2 fz2) ex2) => match h2.put b (.live (.cells (cc2.setIfInBounds o (.complex .f64 h1.next n)) ee2 fz2) ex2) with
                | some h3 => some ⟨s.tmps, h3, s.defs⟩
                | none => none
              | _ => none
            | none => none
          | none => none
        | none => none
      | none => none
    | _ => none
def convs (P : Program) : List (Pl × TypeId) → St → Option St
  | [], s => some s
  | (p, e) :: l, s => match conv1 P p e s with
    | some s' => convs P l s'
    | none => none
section
variable {P : Program} [NoCx P]

theorem kill_step {u : Option Nat} {s s' : HS} (h : killU u s = some s') (hu : ∀ b, u = some b → s.heap.get b ≠ none) : VStep s s' := by
  cases u with
  | none => injection h with h; subst h; exact .refl _
  | some b => exact VStep.put h (hu b rfl)
theorem asRow_there {s : HS} {e : TypeId} {v : Value} {c : Array Value} {n : Nat} {u : Option Nat} (h : asRowV P s e v = some (c, n, u)) : ∀ b, u = some b → s.heap.get b ≠ none := by
  intro b hb
  unfold asRowV at h
  repeat' split at h
  all_goals first | cases h | skip
  all_goals first | (cases hb; done) | (injection hb with hb; subst hb; simp_all)
theorem conv1_step {p : Pl} {e : TypeId} {s s' : St} (h : conv1 P p e s = some s') : VStep s.hs s'.hs := by
  unfold conv1 at h
  split at h
  · split at h
    · rename_i c n u hr
      split at h
      · rename_i h1 hk
        split at h
        · rename_i h2 hn
          injection h with h; subst h
          exact (kill_step hk (asRow_there hr)).trans (VStep.new hn)
        · cases h
      · cases h
    · cases h
  · split at h
    · split at h
      · split at h
        · rename_i c n u hr
          split at h
          · rename_i h1 hk
            split at h
            · rename_i h2 hn
              split at h
              · rename_i hg
                split at h
                · rename_i h3 hp
                  injection h with h; subst h
                  exact ((kill_step hk (asRow_there hr)).trans (VStep.new hn)).trans (VStep.put hp (by rw [hg]; simp))
                · cases h
              · cases h
            · cases h
          · cases h
        · cases h
      · cases h
    · cases h
theorem convs_step : ∀ {l : List (Pl × TypeId)} {s s' : St}, convs P l s = some s' → VStep s.hs s'.hs
  | [], s, s', h => by simp only [convs] at h; injection h with h; subst h; exact .refl _
  | (p, e) :: l, s, s', h => by
    simp only [convs] at h
    split at h
    · rename_i s1 h1; exact (conv1_step h1).trans (convs_step h)
    · cases h

/-- a list takes a block of its own -/
theorem conv_row {B : Bd} {σ : Ren} {H : Nat → Option VO} {w : World} {s h1 h2 : HS} {e : TypeId} {v v' : Value} {c : Array Value} {n : Nat} {u : Option Nat} (hm : Match P B σ H w) (hs : Sim s H) (ha : Agree s h2 H) (hr : asRowV P s e v = some (c, n, u)) (hk : killU u s = some h1) (hn : h1.new (.row c e) = some h2) (hv : VRel σ v v') :
    ∃ σ', Ren.le σ σ' ∧ VRel σ' (.complex .f64 h1.next n) v' ∧ Match P B σ' (upd H h2) w := by
  have st1 := kill_step hk (asRow_there hr)
  have st2 := VStep.new hn
  have hs1 := hs.step st1
  obtain ⟨u3, u4⟩ := upd_new hs1 hn
  rw [upd_upd st2] at u3 u4
  have hnx : h1.next = s.next := by
    cases u with
    | none => injection hk with hk; subst hk; rfl
    | some b => exact (put_spec hk).1
  have hnn : H h1.next = none := ha.new h1.next (by rw [hnx]; exact Nat.le_refl _) (by have := (new_spec hn).1; omega)
  have hσ := (hm.dom _).2 hnn
  -- what the list is
  have key : ∃ r κ, (∃ x cap, v' = .slice x n cap ∧ HandleAt r κ n x cap) ∧ (c.size = 0 → κ = 0) ∧ (c.size ≠ 0 → ∃ b κb vo, u = some b ∧ σ b = some (r, κb) ∧ H b = some vo ∧ vo.alive = true ∧ ∃ o', w.heap[r]? = some o' ∧ ∀ τ, XRel P τ κ (.row c e) o') := by
    cases u with
    | none =>
      -- nothing
      unfold asRowV at hr
      repeat' split at hr
      all_goals first | cases hr | skip
      cases hv
      exact ⟨0, 0, ⟨_, _, rfl, .inl ⟨rfl, rfl, rfl⟩⟩, fun _ => rfl, fun h => absurd rfl h⟩
    | some b =>
      have hH : H b = s.heap.get b := ha.rd b (st2.rd b (by have := (put_spec hk).2.2.1 b; rw [this]; simp))
      -- the memory as the run has it, at b alone
      unfold asRowV at hr
      split at hr
      · cases hr
      · rename_i b0 n0
        split at hr
        · rename_i c0 e0 hg
          split at hr
          · rename_i he
            injection hr with hr; injection hr with q1 q2; injection q2 with q2 q3; injection q3 with q3; subst q1; subst q2; subst q3
            obtain rfl : e0 = e := Nat.eq_of_beq_eq_true he
            cases hv with
            | rowS hb hat =>
              rename_i r κ cap x
              refine ⟨r, κ, ⟨_, _, rfl, hat⟩, fun h0 => hm.non b0 r κ _ hb (hH.trans hg) h0, fun h0 => ?_⟩
              have hal : (VO.row c0 e0).alive = true := by simp [VO.alive]; simpa using h0
              obtain ⟨o', g1, g2⟩ := hm.objX b0 r κ _ hb (hH.trans hg) hal
              exact ⟨b0, κ, _, rfl, hb, hH.trans hg, hal, o', g1, fun τ => row_any g2⟩
          · cases hr
        · cases hr
      · rename_i b0 n0 cap0
        split at hr
        · rename_i c0 e0 i hg hi
          split at hr
          · rename_i hc
            injection hr with hr; injection hr with q1 q2; injection q2 with q2 q3; injection q3 with q3; subst q1; subst q2; subst q3
            simp only [Bool.and_eq_true, blt_iff] at hc
            obtain ⟨⟨he, hlt, hsz⟩, hnc, hok, hpos⟩ := hc
            obtain rfl : e0 = e := Nat.eq_of_beq_eq_true he
            have hsz : c0.size = cap0 * i.size := Nat.eq_of_beq_eq_true hsz
            obtain rfl : n0 = cap0 := Nat.eq_of_beq_eq_true hnc
            cases hv with
            | slice _ q0 q1 q2 q3 =>
              rename_i b' κb cap'
              obtain rfl := q2 hlt
              have hmx : cap' ≤ maxLen := by unfold inf at hlt; unfold maxLen; omega
              have hlt2 := Nat.lt_of_le_of_lt hmx maxLen_lt
              obtain ⟨o', g1, g2⟩ := hm.obj b0 b' κb _ _ q0 (hH.trans hg)
              cases g2 with
              | cells _ _ hcc =>
                rename_i c'
                refine ⟨b', vk 0 cap', ⟨_, _, rfl, .inr (.inr ⟨two_vk _ _, by rw [vOff_vk hlt2], by rw [vCap_vk hlt2], q1⟩)⟩, fun h0 => by omega, fun _ => ⟨b0, κb, _, rfl, q0, hH.trans hg, rfl, _, g1, fun τ => ?_⟩⟩
                exact .row _ i hi (Nat.le_of_eq hcc.1) (fun j v v' e1 e2 => flat_same (okC_at hok e1) (hcc.2 j v v' e1 e2)) (two_vk _ _) (vOff_vk hlt2) (by rw [vCap_vk hlt2, ← hcc.1]; exact hsz) (by rw [vCap_vk hlt2]; exact hmx) hok
          · cases hr
        · rename_i c0 e0 i hg hi
          split at hr
          · rename_i hc
            injection hr with hr; injection hr with q1 q2; injection q2 with q2 q3; injection q3 with q3; subst q1; subst q2; subst q3
            simp only [Bool.and_eq_true, blt_iff] at hc
            obtain ⟨⟨he, hlt, hsz⟩, hok, hpos⟩ := hc
            obtain rfl : e0 = e := Nat.eq_of_beq_eq_true he
            have hlt : inf ≤ cap0 := Nat.le_of_ble_eq_true hlt
            cases hv with
            | slice _ q0 q1 q2 q3 =>
              rename_i b' κb cap'
              obtain rfl := q3 hlt rfl
              obtain ⟨o', g1, g2⟩ := hm.obj b0 b' cap' _ _ q0 (hH.trans hg)
              cases g2 with
              | row _ _ info hi2 hlc hcc hk2 hmx =>
                rename_i c'
                have hlt2 := Nat.lt_of_le_of_lt hmx maxLen_lt
                refine ⟨b', vk 0 cap', ⟨_, _, rfl, .inr (.inr ⟨two_vk _ _, by rw [vOff_vk hlt2], by rw [vCap_vk hlt2], q1⟩)⟩, fun h0 => by omega, fun _ => ⟨b0, cap', _, rfl, q0, hH.trans hg, rfl, _, g1, fun τ => ?_⟩⟩
                exact .row _ info hi2 hlc (fun j v v' e1 e2 => flat_same (okC_at hok e1) (hcc j v v' e1 e2)) (two_vk _ _) (vOff_vk hlt2) (by rw [vCap_vk hlt2]; exact hk2) (by rw [vCap_vk hlt2]; exact hmx) hok
          · cases hr
        · cases hr
      · cases hr
  obtain ⟨r, κ, ⟨x, cap, rfl, hat⟩, k1, k2⟩ := key
  refine ⟨σ.ext h1.next (r, κ), Ren.le_ext _ hσ, .rowS Ren.ext_self hat, ?_⟩
  cases u with
  | none =>
    injection hk with hk; subst hk
    have hz : c.size = 0 := by
      rcases Nat.eq_zero_or_pos c.size with h0 | h0
      · exact h0
      · obtain ⟨b, _, _, hb, _⟩ := k2 (by omega)
        cases hb
    rw [hs.upd] at u4
    exact hm.newN hnn u3 (by simp [VO.alive, hz]) (fun c e x => by cases x) u4 k1 (fun h => by cases h)
  | some b =>
    obtain ⟨u1, u2⟩ := upd_put hs hk
    have hg : s.heap.get b ≠ none := asRow_there hr b rfl
    have hH : H b = s.heap.get b := ha.rd b (st2.rd b (by have := (put_spec hk).2.2.1 b; rw [this]; simp))
    have hm1 : Match P B σ (upd H h1) w := hm.kill (by rw [hH]; exact hg) u1 u2
    have hne : h1.next ≠ b := fun e => by
      rw [e] at hnn
      rw [hH] at hnn; exact hg hnn
    by_cases hz : c.size = 0
    · exact hm1.newN ((u2 _ hne).trans hnn) u3 (by simp [VO.alive, hz]) (fun c e x => by cases x) u4 k1 (fun h => by cases h)
    · obtain ⟨b2, κb, vo, hb2, q1, q2, q3, o', q4, q5⟩ := k2 hz
      injection hb2 with hb2; subst hb2
      have d1 : upd H h2 b = some .dead := by rw [u4 b (Ne.symm hne)]; exact u1
      have d3 : ∀ j, j ≠ b → j ≠ h1.next → upd H h2 j = H j := fun j e1 e2 => (u4 j e2).trans (u2 j e1)
      exact hm.shareK q1 q2 q3 hnn d1 u3 (by simp [VO.alive]; simpa using hz) d3 q4 (q5 _) rfl (fun _ _ => rfl)
theorem TR.set {σ : Ren} {t : TV} {a : Array Value} (h : TR σ t a) {k : Nat} {u : Value} (hu : ∀ v', a[k]? = some v' → VRel σ u v') : TR σ (t.set k u) a := fun j => by
  rw [TV.get_set]
  by_cases e : j = k
  · subst e
    rw [if_pos rfl]
    rcases slot_of (h j) with ⟨h1, h2⟩ | ⟨x, x', h1, h2, h3⟩
    · rw [h1, h2]; trivial
    · rw [h1, h2]; exact Or.inr (hu _ h2)
  · rw [if_neg e]; exact h j
/-- a cell takes another value for the same real one -/
theorem Match.recell {B : Bd} {σ : Ren} {H H' : Nat → Option VO} {w : World} (h : Match P B σ H w) {i b κ o : Nat} {c : Array Value} {e : TypeId} {fz : Nat × Nat} {ex : Bool} {u : Value} (hs : σ i = some (b, κ)) (h0 : H i = some (.live (.cells c e fz) ex)) (h1 : H' i = some (.live (.cells (c.setIfInBounds o u) e fz) ex)) (h2 : ∀ j, j ≠ i → H' j = H j)
    (hu : ∀ o' c' e' fz', o' = Obj.cells c' e' fz' → w.heap[b]? = some o' → ∀ v', c'[o]? = some v' → VRel σ u v') : Match P B σ H' w := by
  obtain ⟨o', g1, g2⟩ := h.obj i b κ _ _ hs h0
  have hset : ∀ (c' : Array Value), (∀ (j : Nat) (v v' : Value), c[j]? = some v → c'[j]? = some v' → VRel σ v v') → (∀ v', c'[o]? = some v' → VRel σ u v') → ∀ (j : Nat) (v v' : Value), (c.setIfInBounds o u)[j]? = some v → c'[j]? = some v' → VRel σ v v' := by
    intro c' hc hu j v v' hx hx'
    rw [Array.getElem?_setIfInBounds] at hx
    split at hx
    · rename_i e
      subst e
      split at hx
      · injection hx with hx; subst hx; exact hu v' hx'
      · cases hx
    · exact hc j v v' hx hx'
  refine h.put hs h0 h1 h2 g1 ?_ rfl (fun _ _ => rfl)
  cases g2 with
  | cells _ _ hc => exact .cells _ _ ⟨by simpa using hc.1, hset _ hc.2 (hu _ _ _ _ rfl g1)⟩
  | row _ _ info hi hl hc hk hm => exact .row _ _ info hi (by simpa using hl) (hset _ hc (hu _ _ _ _ rfl g1)) hk hm
  | srow _ info hi hl hc hk hm => exact .srow _ info hi (by simpa using hl) (hset _ hc (hu _ _ _ _ rfl g1)) hk hm
theorem conv1_match {B : Bd} {p : Pl} {e : TypeId} {s s' : St} (h : conv1 P p e s = some s') {σ : Ren} {H : Nat → Option VO} {w : World} {a : Array Value} (hm : Match P B σ H w) (hs : Sim s.hs H) (ha : Agree s.hs s'.hs H) (ht : TR σ s.tmps a) :
    ∃ σ', Ren.le σ σ' ∧ Match P B σ' (upd H s'.hs) w ∧ TR σ' s'.tmps a ∧ s'.defs = s.defs := by
  unfold conv1 at h
  split at h
  · rename_i k
    split at h
    · rename_i c n u hr
      split at h
      · rename_i h1 hk
        split at h
        · rename_i h2 hn
          injection h with h; subst h
          have hnj : isJunk (s.tmps.at k) = false := by
            cases hj : isJunk (s.tmps.at k) with
            | false => rfl
            | true =>
              exfalso
              generalize s.tmps.at k = v at hr hj
              unfold asRowV at hr
              repeat' split at hr
              all_goals first | cases hr | skip
              all_goals cases hj
          by_cases hk2 : ∃ v', a[k]? = some v'
          · obtain ⟨v', hv'⟩ := hk2
            have hv := (ht k).at hnj
            rw [Array.getD_eq_getD_getElem?, hv'] at hv
            obtain ⟨σ', g1, g2, g3⟩ := conv_row hm hs ha hr hk hn hv
            refine ⟨σ', g1, g3, (ht.mono g1).set fun v2 h2 => ?_, rfl⟩
            rw [hv'] at h2; injection h2 with h2; subst h2; exact g2
          · -- no such slot
            have hno : s.tmps.get k = none := by
              cases hg : s.tmps.get k with
              | none => rfl
              | some v =>
                have := ht k
                rw [hg] at this
                cases hx : a[k]? with
                | none => rw [hx] at this; exact this.elim
                | some v' => exact absurd ⟨v', hx⟩ hk2
            have : s.tmps.at k = undef := by unfold TV.at; rw [hno]
            rw [this] at hr
            cases hr
        · cases h
      · cases h
    · cases h
  · rename_i b o
    split at h
    · rename_i cc ee fz ex hg0
      split at h
      · rename_i v hv0
        split at h
        · rename_i c n u hr
          split at h
          · rename_i h1 hk
            split at h
            · rename_i h2 hn
              split at h
              · rename_i cc2 ee2 fz2 ex2 hg
                split at h
                · rename_i h3 hp
                  injection h with h; subst h
                  have st1 := kill_step hk (asRow_there hr)
                  have st2 := VStep.new hn
                  have st3 := VStep.put hp (by rw [hg]; simp)
                  have st12 := st1.trans st2
                  have hH : H b = s.hs.heap.get b := ha.rd b (by rw [(put_spec hp).2.2.1]; simp)
                  have hH0 := hH.trans hg0
                  cases hsb : σ b with
                  | none => rw [(hm.dom b).1 hsb] at hH0; cases hH0
                  | some p =>
                    obtain ⟨b', κ⟩ := p
                    obtain ⟨v', hc, _, hvv⟩ := hm.read hsb hH0 hv0
                    obtain ⟨σ', g1, g2, g3⟩ := conv_row hm hs (ha.first st3) hr hk hn hvv
                    have hs2 := hs.step st12
                    obtain ⟨u1, u2⟩ := upd_put hs2 hp
                    rw [upd_upd st3] at u1 u2
                    have hb2 : upd H h2 b = some (.live (.cells cc2 ee2 fz2) ex2) := by
                      cases hw : h2.wr.testBit b with
                      | true => rw [upd_at hw]; exact hg
                      | false => rw [upd_else hw, hH, ← st12.keep b hw]; exact hg
                    refine ⟨σ', g1, ?_, ht.mono g1, rfl⟩
                    refine g3.recell (g1 _ _ hsb) hb2 u1 u2 fun o' c' e' fz' e1 e2 v2 e3 => ?_
                    subst e1
                    simp only [World.cell?, e2] at hc
                    rw [e3] at hc; injection hc with hc; subst hc
                    exact g2
                · cases h
              · cases h
            · cases h
          · cases h
        · cases h
      · cases h
    · cases h
theorem convs_match {B : Bd} : ∀ {l : List (Pl × TypeId)} {s s' : St}, convs P l s = some s' → ∀ {σ : Ren} {H : Nat → Option VO} {w : World} {a : Array Value}, Match P B σ H w → Sim s.hs H → Agree s.hs s'.hs H → TR σ s.tmps a →
    ∃ σ', Ren.le σ σ' ∧ Match P B σ' (upd H s'.hs) w ∧ TR σ' s'.tmps a ∧ s'.defs = s.defs
  | [], s, s', h, σ, H, w, a, hm, hs, ha, ht => by
    simp only [convs] at h; injection h with h; subst h
    exact ⟨σ, Ren.le_refl _, by rw [hs.upd]; exact hm, ht, rfl⟩
  | (p, e) :: l, s, s', h, σ, H, w, a, hm, hs, ha, ht => by
    simp only [convs] at h
    split at h
    · rename_i s1 h1
      have st1 := conv1_step h1
      have st2 := convs_step h
      obtain ⟨σ1, g1, g2, g3, g4⟩ := conv1_match h1 hm hs (ha.first st2) ht
      obtain ⟨σ2, k1, k2, k3, k4⟩ := convs_match h g2 (hs.step st1) (ha.last hs st1 st2) g3
      rw [upd_upd st2] at k2
      exact ⟨σ2, Ren.le_trans g1 k1, k2, k3, k4.trans g4⟩
    · cases h
/-- ahead of the first round, lists in blocks of their own -/
theorem rounds_begin2 {L : Vars} {n m : Nat} {ρ : List (Nat × Nat)} {js : List Nat} {nx xr xw : Nat} {ro : Option Nat} {c : Code} {s0 s1 S F : St} {x : VX} {l : List (Pl × TypeId)}
    (hn : n = s0.hs.next) (hr0 : s0.hs.rd < bitOf n) (hw0 : s0.hs.wr < bitOf n) (hcv : convs P l s0 = some s1) (hc : canonS n m ρ js nx xr xw s1 = some S) (hok : canonOk n m ρ nx s1 = true)
    (h : VStep s0.hs S.hs → RoundsC P L n m s0.hs ro c S x F) : RoundsC P L n m s0.hs ro c s0 x F := by
  have hc := canon_spec hc hok
  have hst := convs_step hcv
  obtain ⟨g1, g2, k, g3⟩ := h (canon_step (s0 := (⟨s0.tmps, s0.hs, s0.defs⟩ : St)) hc hn hr0 hw0 hst)
  have hrd : ∀ i, i < n → s1.hs.rd.testBit i = true → F.hs.rd.testBit i = true := fun i hi e => g1 i hi (by rw [hc.rd]; simp [hi, e])
  refine ⟨fun i hi e => hrd i hi (hst.rd i e), g2, k, fun B hBL σ0 H hb h0 hF σ ro' a w Q hle hro hm ht hd hB hk => ?_⟩
  have hag : Agree s0.hs s1.hs H := by
    have := round_agree hn h0 (VStep.refl _) hst hc.low hb.win hc.rdm hrd hF
    rw [h0.upd] at this
    exact this
  rw [h0.upd] at hm
  obtain ⟨σ1, k1, k2, k3, k4⟩ := convs_match hcv hm h0 hag ht
  obtain ⟨σ2, j1, j2, j3, j4⟩ := canon_match hc hb (Ren.le_trans hle k1) k2 (hst.fresh h0.new) (fun i hi hlt => hst.made i (by rw [← hn]; exact hi) hlt) (fun i hi hw hx => by rw [hst.keep i hw]; exact hF.rd i (g1 i hi (by rw [hc.rd]; simp [hi, hx]))) k3 (by rw [k4]; exact hd.mono k1)
  exact g3 B hBL σ0 H hb h0 hF σ2 ro' a w Q j1 hro j2 j3 j4 hB hk
theorem begin_step2 {n m : Nat} {ρ : List (Nat × Nat)} {js : List Nat} {nx xr xw : Nat} {s0 s1 S : St} {l : List (Pl × TypeId)}
    (hn : n = s0.hs.next) (hr0 : s0.hs.rd < bitOf n) (hw0 : s0.hs.wr < bitOf n) (hcv : convs P l s0 = some s1) (hc : canonS n m ρ js nx xr xw s1 = some S) (hok : canonOk n m ρ nx s1 = true) : VStep s0.hs S.hs :=
  canon_step (s0 := (⟨s0.tmps, s0.hs, s0.defs⟩ : St)) (canon_spec hc hok) hn hr0 hw0 (convs_step hcv)
end
/-- one round, numbered anew, its lists too -/
noncomputable def bodyR (P : Program) (G : Nat) (T : GTab) (fuel : Nat) (h : Hd) (s : St) (ans : List (Nat × Ans)) (n m : Nat) (ρ : List (Nat × Nat)) (js : List Nat) (nx xr xw : Nat) : Option (VX × St × List Prop) :=
  evO P G T (fun _ _ _ _ => none) (fun _ => none) fuel h.ro h.a s ⟨0, ans, []⟩ fun x s q => match canonOk n m ρ nx s with
    | true => match canonS n m ρ js nx xr xw s with
      | some s' => s'.fcv fun s' => some (x, s', q.log)
      | none => none
    | false => none
section
variable {P : Program} [NoCx P]
theorem body_canonR {L : Vars} {T : GTab} {fuel : Nat} {h : Hd} {s s2 : St} {x : VX} {ans : List (Nat × Ans)} {log : List Prop} {n m : Nat} {ρ : List (Nat × Nat)} {js : List Nat} {nx xr xw : Nat} (he : bodyR P L.length T fuel h s ans n m ρ js nx xr xw = some (x, s2, log)) (hl : allP log) :
    ∃ s1, (Evt fun f => evC P L.length T.hook f h.ro h.a s = some (x, s1)) ∧ canonS n m ρ js nx xr xw s1 = some s2 ∧ canonOk n m ρ nx s1 = true := by
  unfold bodyR at he
  obtain ⟨x1, s1, q1, g1, g2, g3⟩ := evO_of (fun _ _ _ _ => rfl) (fun _ => rfl) fuel _ _ _ _ _ _ he
  try dsimp only at g1
  split at g1
  · rename_i hok
    split at g1
    · rename_i s' hs'
      rw [St.fcv_eq] at g1
      injection g1 with g1; injection g1 with e1 e2; injection e2 with e2 e3
      subst e1; subst e2; subst e3
      exact ⟨s1, g3 hl, hs', hok⟩
    · cases g1
  · cases g1
end
end Go.Proofs.Ytpaojoahbmlolaa
