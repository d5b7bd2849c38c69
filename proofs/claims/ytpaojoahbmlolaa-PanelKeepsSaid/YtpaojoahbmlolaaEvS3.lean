/- Calls with lists: what comes out, packed. -/
import Derived.Test.YtpaojoahbmlolaaEvS2
namespace Go.Proofs.Ytpaojoahbmlolaa
open Go Go.RowKit
set_option linter.unusedSectionVars false
set_option linter.unusedVariables false
set_option linter.unusedSimpArgs false
set_option linter.unnecessarySimpa false
section
variable {P : Program} [NoCx P] {B : Bd}

theorem row_any {σ τ : Ren} {κ : Nat} {c : Array Value} {e : TypeId} {o : Obj} (h : XRel P σ κ (.row c e) o) : XRel P τ κ (.row c e) o := by
  cases h with
  | row e i hi hl q k2 k0 hk hm h1 => exact .row _ i hi hl (fun j v v' e1 e2 => flat_same (okC_at h1 e1) (q j v v' e1 e2)) k2 k0 hk hm h1
def RowOf (P : Program) (σ : Ren) (s : HS) (w : World) (c : Array Value) (e : TypeId) (n : Nat) (u : Option Nat) (v' : Value) (r κ : Nat) : Prop :=
  (∃ x cap, v' = .slice x n cap ∧ HandleAt r κ n x cap) ∧ (c.size = 0 → κ = 0) ∧ (c.size ≠ 0 → ∃ b κb vo, u = some b ∧ σ b = some (r, κb) ∧ s.heap.get b = some vo ∧ vo.alive = true ∧ ∃ o', w.heap[r]? = some o' ∧ ∀ τ, XRel P τ κ (.row c e) o')
theorem asRow_sound {σ : Ren} {s : HS} {w : World} (hm : Match P B σ (fun i => s.heap.get i) w) {e : TypeId} {v v' : Value} {c : Array Value} {n : Nat} {u : Option Nat} (h : asRowV P s e v = some (c, n, u)) (hv : VRel σ v v') : ∃ r κ, RowOf P σ s w c e n u v' r κ := by
  unfold asRowV at h
  split at h
  · injection h with h; injection h with h1 h2; injection h2 with h2 h3; subst h1; subst h2; subst h3
    cases hv
    exact ⟨0, 0, ⟨_, _, rfl, .inl ⟨rfl, rfl, rfl⟩⟩, fun _ => rfl, fun h => absurd rfl h⟩
  · rename_i b n0
    split at h
    · rename_i c0 e0 hg
      split at h
      · rename_i he
        injection h with h; injection h with h1 h2; injection h2 with h2 h3; subst h1; subst h2; subst h3
        obtain rfl : e0 = e := Nat.eq_of_beq_eq_true he
        cases hv with
        | rowS hb hat =>
          rename_i r κ cap x
          refine ⟨r, κ, ⟨_, _, rfl, hat⟩, fun h0 => hm.non b r κ _ hb hg h0, fun h0 => ?_⟩
          have hal : (VO.row c0 e0).alive = true := by simp [VO.alive]; simpa using h0
          obtain ⟨o', g1, g2⟩ := hm.objX b r κ _ hb hg hal
          exact ⟨b, κ, _, rfl, hb, hg, hal, o', g1, fun τ => row_any g2⟩
      · cases h
    · cases h
  · rename_i b n0 cap0
    split at h
    · rename_i c0 e0 i hg hi
      split at h
      · rename_i hc
        injection h with h; injection h with h1 h2; injection h2 with h2 h3; subst h1; subst h2; subst h3
        simp only [Bool.and_eq_true, blt_iff] at hc
        obtain ⟨⟨he, hlt, hsz⟩, hn, hok, hpos⟩ := hc
        obtain rfl : e0 = e := Nat.eq_of_beq_eq_true he
        have hsz : c0.size = cap0 * i.size := Nat.eq_of_beq_eq_true hsz
        obtain rfl : n0 = cap0 := Nat.eq_of_beq_eq_true hn
        cases hv with
        | slice _ q0 q1 q2 q3 =>
          rename_i b' κb cap'
          obtain rfl := q2 hlt
          have hmx : cap' ≤ maxLen := by unfold inf at hlt; unfold maxLen; omega
          have hlt2 := Nat.lt_of_le_of_lt hmx maxLen_lt
          obtain ⟨o', g1, g2⟩ := hm.obj b b' κb _ _ q0 hg
          cases g2 with
          | cells _ _ hcc =>
            rename_i c'
            refine ⟨b', vk 0 cap', ⟨_, _, rfl, .inr (.inr ⟨two_vk _ _, by rw [vOff_vk hlt2], by rw [vCap_vk hlt2], q1⟩)⟩, fun h0 => by omega, fun _ => ⟨b, κb, _, rfl, q0, hg, rfl, _, g1, fun τ => ?_⟩⟩
            exact .row _ i hi (Nat.le_of_eq hcc.1) (fun j v v' e1 e2 => flat_same (okC_at hok e1) (hcc.2 j v v' e1 e2)) (two_vk _ _) (vOff_vk hlt2) (by rw [vCap_vk hlt2, ← hcc.1]; exact hsz) (by rw [vCap_vk hlt2]; exact hmx) hok
      · cases h
    · rename_i c0 e0 i hg hi
      split at h
      · rename_i hc
        injection h with h; injection h with h1 h2; injection h2 with h2 h3; subst h1; subst h2; subst h3
        simp only [Bool.and_eq_true, blt_iff] at hc
        obtain ⟨⟨he, hlt, hsz⟩, hok, hpos⟩ := hc
        obtain rfl : e0 = e := Nat.eq_of_beq_eq_true he
        have hlt : inf ≤ cap0 := Nat.le_of_ble_eq_true hlt
        cases hv with
        | slice _ q0 q1 q2 q3 =>
          rename_i b' κb cap'
          obtain rfl := q3 hlt rfl
          obtain ⟨o', g1, g2⟩ := hm.obj b b' cap' _ _ q0 hg
          cases g2 with
          | row _ _ info hi2 hlc hcc hk hmx =>
            rename_i c'
            have hlt2 := Nat.lt_of_le_of_lt hmx maxLen_lt
            refine ⟨b', vk 0 cap', ⟨_, _, rfl, .inr (.inr ⟨two_vk _ _, by rw [vOff_vk hlt2], by rw [vCap_vk hlt2], q1⟩)⟩, fun h0 => by omega, fun _ => ⟨b, cap', _, rfl, q0, hg, rfl, _, g1, fun τ => ?_⟩⟩
            exact .row _ info hi2 hlc (fun j v v' e1 e2 => flat_same (okC_at hok e1) (hcc j v v' e1 e2)) (two_vk _ _) (vOff_vk hlt2) (by rw [vCap_vk hlt2]; exact hk) (by rw [vCap_vk hlt2]; exact hmx) hok
      · cases h
    · cases h
  · cases h
structure PkInv (P : Program) (σ : Ren) (s : HS) (w : World) (τ : Ren) (p : Pk) : Prop where
  dom : ∀ j, τ j = none ↔ p.bs.length ≤ j
  len : p.us.length = p.bs.length
  at_ : ∀ (j : Nat) (c : Array Value) (e : TypeId), p.bs[j]? = some (c, e) → ∃ r κ n v' u, τ j = some (r, κ) ∧ p.us[j]? = some u ∧ RowOf P σ s w c e n u v' r κ
  uni : ∀ (i j b : Nat), p.us[i]? = some (some b) → p.us[j]? = some (some b) → i = j
theorem hasU_iff {us : List (Option Nat)} {b : Nat} (h : hasU us b = false) (i : Nat) : us[i]? ≠ some (some b) := fun e => by
  have hm := List.mem_of_getElem? e
  have : hasU us b = true := List.any_eq_true.2 ⟨some b, hm, Nat.beq_refl b⟩
  rw [h] at this; cases this
theorem pk_add {σ τ : Ren} {s : HS} {w : World} {p : Pk} (h : PkInv P σ s w τ p) {c : Array Value} {e : TypeId} {n r κ : Nat} {u : Option Nat} {v' : Value} {es : List TypeId} (hr : RowOf P σ s w c e n u v' r κ) (hu : ∀ b, u = some b → hasU p.us b = false) :
    PkInv P σ s w (τ.ext p.bs.length (r, κ)) ⟨es, p.bs ++ [(c, e)], p.us ++ [u]⟩ := by
  have hl := h.len
  refine ⟨fun j => ?_, by simp [hl], fun j c2 e2 hj => ?_, fun i j b h1 h2 => ?_⟩
  · unfold Ren.ext
    by_cases ej : j = p.bs.length
    · subst ej; simp
    · rw [if_neg ej, h.dom]
      simp; omega
  · by_cases ej : j < p.bs.length
    · rw [List.getElem?_append_left ej] at hj
      obtain ⟨r2, κ2, n2, v2, u2, g1, g2, g3⟩ := h.at_ j c2 e2 hj
      refine ⟨r2, κ2, n2, v2, u2, ?_, ?_, g3⟩
      · unfold Ren.ext; rw [if_neg (by omega)]; exact g1
      · show (p.us ++ [u])[j]? = _
        rw [List.getElem?_append_left (by omega)]; exact g2
    · have ej2 : j = p.bs.length := by
        have := (List.getElem?_eq_some_iff.1 hj).1
        simp at this; omega
      subst ej2
      simp at hj
      obtain ⟨rfl, rfl⟩ := hj
      exact ⟨r, κ, n, v', u, Ren.ext_self, by show (p.us ++ [u])[p.bs.length]? = _; rw [← hl]; simp, hr⟩
  · have key : ∀ i, (p.us ++ [u])[i]? = some (some b) → (i < p.us.length ∧ p.us[i]? = some (some b)) ∨ (i = p.us.length ∧ u = some b) := fun i h => by
      by_cases hi : i < p.us.length
      · rw [List.getElem?_append_left hi] at h; exact .inl ⟨hi, h⟩
      · have := (List.getElem?_eq_some_iff.1 h).1
        simp at this
        have hi2 : i = p.us.length := by omega
        subst hi2
        simp at h
        exact .inr ⟨rfl, h⟩
    rcases key i h1 with ⟨a1, a2⟩ | ⟨a1, a2⟩
    · rcases key j h2 with ⟨b1, b2⟩ | ⟨b1, b2⟩
      · exact h.uni i j b a2 b2
      · exact absurd a2 (hasU_iff (hu b b2) i)
    · rcases key j h2 with ⟨b1, b2⟩ | ⟨b1, b2⟩
      · exact absurd b2 (hasU_iff (hu b a2) j)
      · omega
theorem pack_sound {σ : Ren} {s : HS} {w : World} (hm : Match P B σ (fun i => s.heap.get i) w) : ∀ (f : Nat) (v v' u : Value) (p p' : Pk) (τ : Ren), packV P s f v p = some (u, p') → VRel σ v v' → PkInv P σ s w τ p → ∃ τ', Ren.le τ τ' ∧ VRel τ' u v' ∧ PkInv P σ s w τ' p'
  | 0, v, v', u, p, p', τ, h, _, _ => by cases h
  | f + 1, v, v', u, p, p', τ, h, hv, hp => by
    have go : ∀ (l l' m : List Value) (p p' : Pk) (τ : Ren), packL (packV P s f) l p = some (m, p') → LR σ l l' → PkInv P σ s w τ p → ∃ τ', Ren.le τ τ' ∧ LR τ' m l' ∧ PkInv P σ s w τ' p' := by
      intro l
      induction l with
      | nil =>
        intro l' m p p' τ h hl hp
        simp only [packL] at h
        injection h with h; injection h with h1 h2; subst h1; subst h2
        cases l' with
        | nil => exact ⟨τ, Ren.le_refl _, trivial, hp⟩
        | cons _ _ => exact hl.elim
      | cons v l il =>
        intro l' m p p' τ h hl hp
        cases l' with
        | nil => exact hl.elim
        | cons v' l' =>
          simp only [packL] at h
          split at h
          · rename_i u p1 h1
            split at h
            · rename_i us p2 h2
              injection h with h; injection h with e1 e2; subst e1; subst e2
              obtain ⟨τ1, a1, a2, a3⟩ := pack_sound hm f v v' u p p1 τ h1 hl.1 hp
              obtain ⟨τ2, b1, b2, b3⟩ := il l' us p1 p2 τ1 h2 hl.2 a3
              exact ⟨τ2, Ren.le_trans a1 b1, ⟨a2.mono b1, b2⟩, b3⟩
            · cases h
          · cases h
    unfold packV at h
    split at h
    · rename_i l
      split at h
      · rename_i m p1 h1
        injection h with h; injection h with e1 e2; subst e1; subst e2
        cases hv with
        | agg q1 q2 =>
          rename_i a'
          obtain ⟨a'⟩ := a'
          obtain ⟨τ1, a1, a2, a3⟩ := go l a' m p p1 τ h1 (AR.list (a := ⟨l⟩) (a' := ⟨a'⟩) ⟨q1, q2⟩) hp
          have := a2.array
          exact ⟨τ1, a1, .agg this.1 this.2, a3⟩
      · cases h
    · rename_i l
      split at h
      · rename_i m p1 h1
        injection h with h; injection h with e1 e2; subst e1; subst e2
        cases hv with
        | tuple q1 q2 =>
          rename_i a'
          obtain ⟨a'⟩ := a'
          obtain ⟨τ1, a1, a2, a3⟩ := go l a' m p p1 τ h1 (AR.list (a := ⟨l⟩) (a' := ⟨a'⟩) ⟨q1, q2⟩) hp
          have := a2.array
          exact ⟨τ1, a1, .tuple this.1 this.2, a3⟩
      · cases h
    · split at h
      · split at h
        · rename_i e es hes
          have hle : ∀ r κ, Ren.le τ (τ.ext p.bs.length (r, κ)) := fun r κ => Ren.le_ext _ ((hp.dom _).2 (Nat.le_refl _))
          split at h
          · rename_i c n hr
            injection h with h; injection h with e1 e2; subst e1; subst e2
            obtain ⟨r, κ, hro⟩ := asRow_sound hm hr hv
            have hro2 := hro
            obtain ⟨⟨x, cap, rfl, hat⟩, _⟩ := hro2
            exact ⟨_, hle r κ, .rowS Ren.ext_self hat, pk_add hp hro (fun b hb => by cases hb)⟩
          · rename_i c n b hr
            split at h
            · cases h
            · rename_i hus
              injection h with h; injection h with e1 e2; subst e1; subst e2
              obtain ⟨r, κ, hro⟩ := asRow_sound hm hr hv
              have hro2 := hro
              obtain ⟨⟨x, cap, rfl, hat⟩, _⟩ := hro2
              exact ⟨_, hle r κ, .rowS Ren.ext_self hat, pk_add hp hro (fun b2 hb => by injection hb with hb; subst hb; exact hus)⟩
          · cases h
        · cases h
      · split at h
        · rename_i hf
          injection h with h; injection h with e1 e2; subst e1; subst e2
          rw [flat_eq 20 _ _ hf hv]
          exact ⟨τ, Ren.le_refl _, flat_rel 20 _ hf, hp⟩
        · cases h
theorem pk_rows {σ τ : Ren} {s : HS} {w : World} (hm : Match P B σ (fun i => s.heap.get i) w) {p : Pk} (h : PkInv P σ s w τ p) : RowsAt P B.b τ p.bs w := by
  refine ⟨h.dom, fun j c e hj => ?_, fun i j c e c' e' r κ κ' h1 h2 n1 n2 t1 t2 => ?_⟩
  · obtain ⟨r, κ, n, v', u, g1, g2, _, g3, g4⟩ := h.at_ j c e hj
    refine ⟨r, κ, g1, g3, fun h0 => ?_⟩
    obtain ⟨b, κb, vo, _, k2, k3, k4, o', k5, k6⟩ := g4 h0
    exact ⟨hm.old b r κb vo k2 k3 k4, o', k5, k6⟩
  · obtain ⟨r1, κ1, _, _, u1, g1, g2, _, _, g4⟩ := h.at_ i c e h1
    obtain ⟨r2, κ2, _, _, u2, k1, k2, _, _, k4⟩ := h.at_ j c' e' h2
    rw [t1] at g1; injection g1 with g1; injection g1 with ea eb; subst ea
    rw [t2] at k1; injection k1 with k1; injection k1 with ea2 eb2; subst ea2
    obtain ⟨b, κb, vo, rfl, a2, a3, a4, _⟩ := g4 n1
    obtain ⟨b2, κb2, vo2, rfl, c2, c3, c4, _⟩ := k4 n2
    have := hm.injX b b2 r κb κb2 vo vo2 a2 c2 a3 c3 a4 c4
    subst this
    exact h.uni i j b g2 k2

/-- the start of a call with lists -/
def startD (L : Vars) (ds : List D) : Option (List Value × HS) := match startH L with
  | some hs => match embL (embD 20) ds hs with
    | some (vs, s) => some (vs, ⟨s.heap, s.next, 0, 0⟩)
    | none => none
  | none => none
theorem startD_spec {L : Vars} {ds : List D} {vs : List Value} {s : HS} (h : startD L ds = some (vs, s)) (hf : flatL L = true) {w : World} (hl : LaidL L w) {args' : List Value} (hd : DIns w ds args') :
    ∃ σ, AR σ vs.toArray args'.toArray ∧ Match P ⟨w.heap.size, L, hl.1⟩ σ (fun i => s.heap.get i) w ∧ Sim s (fun i => s.heap.get i) ∧ (∀ s', Agree s s' (fun i => s.heap.get i)) := by
  unfold startD at h
  split at h
  · rename_i hs hst0
    split at h
    · rename_i vs1 s1 he
      injection h with h; injection h with h1 h2; subst h1; subst h2
      obtain ⟨q1, q2, q3, q4⟩ := start_spec hst0
      have hna : NoAlive hs := fun j p e => by
        rw [q4] at e
        split at e
        · cases hx : L[j]? with
          | none => rw [hx] at e; cases e
          | some x =>
            rw [hx] at e
            injection e with e; subst e
            unfold varV
            split <;> rfl
        · cases e
      obtain ⟨σ', g1, g2, g3⟩ := embL_match (P := P) ds args' hs s1 vs1 (ren0 L) hd he ⟨start_match hst0 hf hl, hna, fun i hi => by rw [q4, if_neg (by omega)]⟩
      exact ⟨σ', g2.array, g3.m, ⟨fun i _ => rfl, g3.new⟩, fun s' => ⟨fun i _ => rfl, fun i e _ => g3.new i e⟩⟩
    · cases h
  · cases h
/-- THE LAW: a call with lists that the run says. -/
theorem known_pack {L : Vars} {ds : List D} {vs : List Value} {s s' : HS} {f : FuncId} {v u : Value} {es : List TypeId} {p : Pk} (hst : startD L ds = some (vs, s)) (hf : flatL L = true) (hpk : packV P s' 20 v ⟨es, [], []⟩ = some (u, p)) (hvs : VStep s s')
    (hk : ∀ (w : World) (hl : LaidL L w) (σ : Ren) (args' : Array Value) (H : Nat → Option VO), AR σ vs.toArray args' → Match P ⟨w.heap.size, L, hl.1⟩ σ H w → Sim s H → Agree s s' H → Ok ⟨w.heap.size, L, hl.1⟩ w → Calls P f args' w (After P ⟨w.heap.size, L, hl.1⟩ σ H w s' v)) : KnownR P L f ds u p.bs := by
  intro w args' hl hd
  obtain ⟨σ, g1, g2, g3, g4⟩ := startD_spec (P := P) hst hf hl hd
  refine (hk w hl σ args'.toArray _ g1 g2 g3 (g4 s') ⟨Nat.le_refl _, hl⟩).mono ?_
  rintro e w' ⟨σ', v', rfl, _, hv, hm, hb⟩
  have hupd : upd (fun i => s.heap.get i) s' = fun i => s'.heap.get i := by
    funext i
    cases hw : s'.wr.testBit i with
    | true => exact upd_at hw
    | false => rw [upd_else hw]; exact (hvs.keep i hw).symm
  rw [hupd] at hm
  obtain ⟨τ, _, k2, k3⟩ := pack_sound hm 20 v v' u ⟨es, [], []⟩ p (fun _ => none) hpk hv ⟨fun j => by simp, rfl, fun j c e h => by simp at h, fun i j b h => by simp at h⟩
  exact ⟨v', τ, rfl, hb, k2, pk_rows hm k3⟩
end
end Go.Proofs.Ytpaojoahbmlolaa
