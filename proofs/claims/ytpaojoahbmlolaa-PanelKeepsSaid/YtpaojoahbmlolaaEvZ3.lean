/- Loops whose rounds are numbered anew: how they end. -/
import Derived.Test.YtpaojoahbmlolaaEvZ2
namespace Go.Proofs.Ytpaojoahbmlolaa
open Go Go.RowKit
set_option linter.unusedSectionVars false
set_option linter.unusedVariables false
set_option linter.unusedSimpArgs false
set_option linter.unnecessarySimpa false
section
variable {P : Program} [NoCx P]

/-- from the state S on, in rounds of a loop that was entered with the memory s0: how it ends -/
def RoundsC (P : Program) (L : Vars) (n m : Nat) (s0 : HS) (ro : Option Nat) (c : Code) (S : St) (x : VX) (F : St) : Prop :=
  (∀ i, i < n → S.hs.rd.testBit i = true → F.hs.rd.testBit i = true) ∧ VStep s0 F.hs ∧
  ∃ k, ∀ (B : Bd), B.L = L → ∀ (σ0 : Ren) (H : Nat → Option VO), Base P B n m σ0 H → Sim s0 H → Agree s0 F.hs H → ∀ (σ : Ren) (ro' : Option Nat) (a : Act) (w : World) (Q : Exit → Act → World → Prop),
    Ren.le σ0 σ → RoR σ0 ro ro' → Match P B σ (upd H S.hs) w → TR σ S.tmps a.tmps → DL σ S.defs a.defers → Ok B w →
    (∀ σ' a' w', Ren.le σ0 σ' → Match P B σ' (upd H F.hs) w' → TR σ' F.tmps a'.tmps → DL σ' F.defs a'.defers → Below B.b w w' → Q x.out a' w') → Code.roundsIn (fz ro') 0 P c Q k a w

/-- what a round reads is as it was -/
theorem round_agree {n m : Nat} {s0 S s1 F : HS} {H : Nat → Option VO} (hn : n = s0.next) (h0 : Sim s0 H) (hS : VStep s0 S) (h1 : VStep S s1) (hm : s1.next ≤ m) (hw : ∀ i, n ≤ i → i < m → H i = none) (hrm : ∀ i, m ≤ i → s1.rd.testBit i = false)
    (hr : ∀ i, i < n → s1.rd.testBit i = true → F.rd.testBit i = true) (hF : Agree s0 F H) : Agree S s1 (upd H S) := by
  refine ⟨fun i e => ?_, fun i e f => ?_⟩
  · cases hb : S.wr.testBit i with
    | true => exact upd_at hb
    | false =>
      rw [upd_else hb, hS.keep i hb]
      rcases Nat.lt_or_ge i n with hi | hi
      · exact hF.rd i (hr i hi e)
      · rcases Nat.lt_or_ge i m with hj | hj
        · rw [hw i hi hj, h0.new i (by omega)]
        · rw [hrm i hj] at e; cases e
  · have h2 := hS.next
    cases hb : S.wr.testBit i with
    | true => rw [upd_at hb]; exact hS.fresh h0.new i e
    | false => rw [upd_else hb]; exact hw i (by omega) (by omega)

theorem res_of (hmix : P.follows .mixedOrders = true) {L : Vars} {T : GTab} (hT : GOk P L T) {ro : Option Nat} {c : Code} {S s1 : St} {x : VX} (he : Evt fun f => evC P L.length T.hook f ro c S = some (x, s1)) {B : Bd} (hB : B.L = L) : ∃ f, CodeSound P B (evC P B.g T.hook f) ∧ evC P B.g T.hook f ro c S = some (x, s1) := by
  obtain ⟨F, he⟩ := he
  subst hB
  exact ⟨F, (ev_both hmix (W := T.hook) (fun call hc => tabC_sound hT hc) (hT.2.1 B rfl) F).1, he F (Nat.le_refl _)⟩

theorem rounds_core (hmix : P.follows .mixedOrders = true) {L : Vars} {T : GTab} (hT : GOk P L T) {n m : Nat} {ρ : List (Nat × Nat)} {js : List Nat} {nx xr xw : Nat} {s0 : HS} {ro : Option Nat} {c : Code} {S s1 S2 F : St} {x : VX}
    (hn : n = s0.next) (he : Evt fun f => evC P L.length T.hook f ro c S = some (x, s1)) (hS : VStep s0 S.hs) (hc : CanonS n m ρ js nx xr xw s1 S2) (h1 : VStep S.hs s1.hs)
    (hr : ∀ i, i < n → s1.hs.rd.testBit i = true → F.hs.rd.testBit i = true) (hxF : ∀ i, i < n → xw.testBit i = true → F.hs.rd.testBit i = true)
    (B : Bd) (hBL : B.L = L) (σ0 : Ren) (H : Nat → Option VO) (hb : Base P B n m σ0 H) (h0 : Sim s0 H) (hF : Agree s0 F.hs H) (σ : Ren) (ro' : Option Nat) (a : Act) (w : World) (Q : Exit → Act → World → Prop)
    (hle : Ren.le σ0 σ) (hro : RoR σ0 ro ro') (hm : Match P B σ (upd H S.hs) w) (ht : TR σ S.tmps a.tmps) (hd : DL σ S.defs a.defers) (hB : Ok B w)
    (hk : ∀ σ' a' w', Ren.le σ0 σ' → Match P B σ' (upd H S2.hs) w' → TR σ' S2.tmps a'.tmps → DL σ' S2.defs a'.defers → Below B.b w w' → Q x.out a' w') : c.wpIn (fz ro') 0 P Q a w := by
  obtain ⟨f, hcs, hev⟩ := res_of hmix hT he hBL
  obtain ⟨q1, q2⟩ := hcs _ _ _ _ _ hev
  refine q2 σ ro' (upd H S.hs) a w Q (hro.mono hle) hm (h0.step hS) ht hd (round_agree hn h0 hS h1 hc.low hb.win hc.rdm hr hF) hB fun σ1 a1 w1 k1 k2 k3 k4 k5 => ?_
  rw [upd_upd h1] at k2
  have hst := hS.trans h1
  obtain ⟨σ2, j1, j2, j3, j4⟩ := canon_match hc hb (Ren.le_trans hle k1) k2 (hst.fresh h0.new) (fun i hi hlt => hst.made i (by rw [← hn]; exact hi) hlt) (fun i hi hw hx => by rw [hst.keep i hw]; exact hF.rd i (hxF i hi hx)) k3 k4
  exact hk σ2 a1 w1 j1 j2 j3 j4 k5

theorem step_of (hmix : P.follows .mixedOrders = true) {L : Vars} {T : GTab} (hT : GOk P L T) {ro : Option Nat} {c : Code} {S s1 : St} {x : VX} (he : Evt fun f => evC P L.length T.hook f ro c S = some (x, s1)) : VStep S.hs s1.hs := by
  obtain ⟨f, hcs, hev⟩ := res_of hmix hT he (B := ⟨L.length, L, Nat.le_refl _⟩) rfl
  exact (hcs _ _ _ _ _ hev).1

theorem rounds_step (hmix : P.follows .mixedOrders = true) {L : Vars} {T : GTab} (hT : GOk P L T) {n m : Nat} {ρ : List (Nat × Nat)} {js : List Nat} {nx xr xw : Nat} {s0 : HS} {ro : Option Nat} {c : Code} {S s1 S2 : St} {x : VX}
    (hn : n = s0.next) (hr0 : s0.rd < bitOf n) (hw0 : s0.wr < bitOf n) (he : Evt fun f => evC P L.length T.hook f ro c S = some (x, s1)) (hS : VStep s0 S.hs)
    (hc : canonS n m ρ js nx xr xw s1 = some S2) (hok : canonOk n m ρ nx s1 = true) : VStep s0 S2.hs :=
  canon_step (s0 := (⟨S.tmps, s0, S.defs⟩ : St)) (canon_spec hc hok) hn hr0 hw0 (hS.trans (step_of hmix hT he))
theorem begin_step {n m : Nat} {ρ : List (Nat × Nat)} {js : List Nat} {nx xr xw : Nat} {s0 S : St}
    (hn : n = s0.hs.next) (hr0 : s0.hs.rd < bitOf n) (hw0 : s0.hs.wr < bitOf n) (hc : canonS n m ρ js nx xr xw s0 = some S) (hok : canonOk n m ρ nx s0 = true) : VStep s0.hs S.hs :=
  canon_step (s0 := s0) (canon_spec hc hok) hn hr0 hw0 (.refl _)
/-- one more round -/
theorem rounds_next (hmix : P.follows .mixedOrders = true) {L : Vars} {T : GTab} (hT : GOk P L T) {n m : Nat} {ρ : List (Nat × Nat)} {js : List Nat} {nx xr xw : Nat} {s0 : HS} {ro : Option Nat} {c : Code} {S s1 S2 F : St} {x : VX}
    (hn : n = s0.next) (hr0 : s0.rd < bitOf n) (hw0 : s0.wr < bitOf n) (he : Evt fun f => evC P L.length T.hook f ro c S = some (.normal, s1)) (hS : VStep s0 S.hs)
    (hc : canonS n m ρ js nx xr xw s1 = some S2) (hok : canonOk n m ρ nx s1 = true) (h : VStep s0 S2.hs → RoundsC P L n m s0 ro c S2 x F) : RoundsC P L n m s0 ro c S x F := by
  have hc := canon_spec hc hok
  have h1 := step_of hmix hT he
  have hS2 : VStep s0 S2.hs := canon_step (s0 := (⟨S.tmps, s0, S.defs⟩ : St)) hc hn hr0 hw0 (hS.trans h1)
  obtain ⟨g1, g2, k, g3⟩ := h hS2
  have hr : ∀ i, i < n → s1.hs.rd.testBit i = true → F.hs.rd.testBit i = true := fun i hi e => g1 i hi (by rw [hc.rd]; simp [hi, e])
  have hxF : ∀ i, i < n → xw.testBit i = true → F.hs.rd.testBit i = true := fun i hi e => g1 i hi (by rw [hc.rd]; simp [hi, e])
  refine ⟨fun i hi e => hr i hi (h1.rd i e), g2, k + 1, fun B hBL σ0 H hb h0 hF σ ro' a w Q hle hro hm ht hd hB hk => ?_⟩
  rw [roundsIn_succ]
  refine rounds_core hmix hT hn he hS hc h1 hr hxF B hBL σ0 H hb h0 hF σ ro' a w _ hle hro hm ht hd hB fun σ' a' w' k1 k2 k3 k4 k5 => ?_
  exact g3 B hBL σ0 H hb h0 hF σ' ro' a' w' Q k1 hro k2 k3 k4 (hB.step k5) fun σ2 a2 w2 j1 j2 j3 j4 j5 => hk σ2 a2 w2 j1 j2 j3 j4 (k5.trans j5)
/-- the last one -/
theorem rounds_end (hmix : P.follows .mixedOrders = true) {L : Vars} {T : GTab} (hT : GOk P L T) {n m : Nat} {ρ : List (Nat × Nat)} {js : List Nat} {nx xr xw : Nat} {s0 : HS} {ro : Option Nat} {c : Code} {S s1 F : St} {x : VX}
    (hn : n = s0.next) (hr0 : s0.rd < bitOf n) (hw0 : s0.wr < bitOf n) (he : Evt fun f => evC P L.length T.hook f ro c S = some (x, s1)) (hx : x.out ≠ .normal) (hS : VStep s0 S.hs)
    (hc : canonS n m ρ js nx xr xw s1 = some F) (hok : canonOk n m ρ nx s1 = true) : RoundsC P L n m s0 ro c S x F := by
  have hc := canon_spec hc hok
  have h1 := step_of hmix hT he
  have hF2 : VStep s0 F.hs := canon_step (s0 := (⟨S.tmps, s0, S.defs⟩ : St)) hc hn hr0 hw0 (hS.trans h1)
  have hr : ∀ i, i < n → s1.hs.rd.testBit i = true → F.hs.rd.testBit i = true := fun i hi e => by rw [hc.rd]; simp [hi, e]
  have hxF : ∀ i, i < n → xw.testBit i = true → F.hs.rd.testBit i = true := fun i hi e => by rw [hc.rd]; simp [hi, e]
  refine ⟨fun i hi e => hr i hi (h1.rd i e), hF2, 1, fun B hBL σ0 H hb h0 hF σ ro' a w Q hle hro hm ht hd hB hk => ?_⟩
  rw [roundsIn_succ]
  refine rounds_core hmix hT hn he hS hc h1 hr hxF B hBL σ0 H hb h0 hF σ ro' a w _ hle hro hm ht hd hB fun σ' a' w' k1 k2 k3 k4 k5 => ?_
  have := hk σ' a' w' k1 k2 k3 k4 k5
  cases x with
  | normal => exact absurd rfl hx
  | exit id => exact this
  | ret => exact this
/-- ahead of the first one -/
theorem rounds_begin {L : Vars} {n m : Nat} {ρ : List (Nat × Nat)} {js : List Nat} {nx xr xw : Nat} {ro : Option Nat} {c : Code} {s0 S F : St} {x : VX}
    (hn : n = s0.hs.next) (hr0 : s0.hs.rd < bitOf n) (hw0 : s0.hs.wr < bitOf n) (hc : canonS n m ρ js nx xr xw s0 = some S) (hok : canonOk n m ρ nx s0 = true)
    (h : VStep s0.hs S.hs → RoundsC P L n m s0.hs ro c S x F) : RoundsC P L n m s0.hs ro c s0 x F := by
  have hc := canon_spec hc hok
  obtain ⟨g1, g2, k, g3⟩ := h (canon_step (s0 := s0) hc hn hr0 hw0 (.refl _))
  refine ⟨fun i hi e => g1 i hi (by rw [hc.rd]; simp [hi, e]), g2, k, fun B hBL σ0 H hb h0 hF σ ro' a w Q hle hro hm ht hd hB hk => ?_⟩
  obtain ⟨σ2, j1, j2, j3, j4⟩ := canon_match hc hb hle hm h0.new (fun i hi hlt => by omega) (fun i hi hw hx => hF.rd i (g1 i hi (by rw [hc.rd]; simp [hi, hx]))) ht hd
  exact g3 B hBL σ0 H hb h0 hF σ2 ro' a w Q j1 hro j2 j3 j4 hB hk
/-- THE LAW: the loop ends so -/
theorem rounds_ok {L : Vars} {n m : Nat} {ro : Option Nat} {c : Code} {s0 F : St} {x : VX} (hn : n = s0.hs.next) (hL : L.length ≤ n) (hFm : F.hs.next = m) (h : RoundsC P L n m s0.hs ro c s0 x F) (B : Bd) (hBL : B.L = L) : LoopOk P B ro c s0 x F := by
  obtain ⟨g1, g2, k, g3⟩ := h
  refine ⟨g2, k, fun σ ro' H a w Q hro hm hs ht hd ha hB hk => ?_⟩
  have hb : Base P B n m σ H := ⟨hm.dom, fun i h1 h2 => ha.new i (by omega) (by omega), fun i b κ v e1 e2 e3 => (hm.objX i b κ v e1 e2 e3).imp fun _ h => h.2, by show B.L.length ≤ n; rw [hBL]; exact hL⟩
  exact g3 B hBL σ H hb hs ha σ ro' a w Q (Ren.le_refl _) hro (by rw [hs.upd]; exact hm) ht hd hB hk

/-! states and heads, built up with their values -/
section
variable {α : Type}
def fcA (a : Addr) (k : Addr → α) : α := force a.block fun b => force a.off fun o => match a.spot with
  | none => k ⟨b, o, none⟩
  | some t => k ⟨b, o, some t⟩
theorem fcA_eq (a : Addr) (k : Addr → α) : fcA a k = k a := by
  obtain ⟨b, o, t⟩ := a
  unfold fcA
  simp only [force_eq]
  cases t <;> rfl
mutual
/-- a value, built up -/
def fcV : Nat → Value → (Value → α) → α
  | 0, v, k => k v
  | n + 1, v, k => match v with
    | .int q x => k (.int q x)
    | .bool b => k (.bool b)
    | .pointer none => k (.pointer none)
    | .pointer (some a) => fcA a fun a => k (.pointer (some a))
    | .slice none l c => k (.slice none l c)
    | .slice (some a) l c => force a.block fun b => k (.slice (some ⟨b, a.off, a.spot⟩) l c)
    | .complex fk b m => force b fun b => k (.complex fk b m)
    | .agg c => fcVs n c.toList fun l => k (.agg ⟨l⟩)
    | .tuple c => fcVs n c.toList fun l => k (.tuple ⟨l⟩)
    | v => k v
def fcVs : Nat → List Value → (List Value → α) → α
  | 0, l, k => k l
  | n + 1, l, k => match l with
    | [] => k []
    | v :: l => fcV n v fun v => fcVs n l fun l => k (v :: l)
end
theorem fcV_both (n : Nat) : (∀ (v : Value) (k : Value → α), fcV n v k = k v) ∧ (∀ (l : List Value) (k : List Value → α), fcVs n l k = k l) := by
  induction n with
  | zero => exact ⟨fun v k => by unfold fcV; rfl, fun l k => by unfold fcVs; rfl⟩
  | succ n ih =>
    refine ⟨fun v k => ?_, fun l k => ?_⟩
    · unfold fcV
      split
      all_goals first
        | rfl
        | (rw [fcA_eq])
        | (rw [ih.2])
        | (rw [force_eq])
    · unfold fcVs
      cases l with
      | nil => rfl
      | cons v l => show fcV n v _ = _; rw [ih.1, ih.2]
theorem fcV_eq (n : Nat) (v : Value) (k : Value → α) : fcV n v k = k v := (fcV_both n).1 v k
def TV.fcv : TV → (TV → α) → α
  | .nil, k => k .nil
  | .node o l r, k => match o with
    | none => l.fcv fun l => r.fcv fun r => k (.node none l r)
    | some v => fcV 30 v fun v => l.fcv fun l => r.fcv fun r => k (.node (some v) l r)
theorem TV.fcv_eq : ∀ (t : TV) (k : TV → α), t.fcv k = k t
  | .nil, k => rfl
  | .node none l r, k => by unfold TV.fcv; simp only [TV.fcv_eq l, TV.fcv_eq r]
  | .node (some v) l r, k => by unfold TV.fcv; simp only [fcV_eq, TV.fcv_eq l, TV.fcv_eq r]
def fcvL : List Value → (List Value → α) → α
  | [], k => k []
  | v :: l, k => fcV 30 v fun v => fcvL l fun l => k (v :: l)
theorem fcvL_eq : ∀ (l : List Value) (k : List Value → α), fcvL l k = k l
  | [], k => rfl
  | v :: l, k => by unfold fcvL; rw [fcV_eq, fcvL_eq l]
def VO.fcv (o : VO) (k : VO → α) : α := match o with
  | .live (.cells c e fz) ex => fcvL c.toList fun l => k (.live (.cells ⟨l⟩ e fz) ex)
  | o => k o
theorem VO.fcv_eq (o : VO) (k : VO → α) : o.fcv k = k o := by
  unfold VO.fcv
  split
  · rw [fcvL_eq]
  · rfl
def Tr.fcv : Tr → (Tr → α) → α
  | .nil, k => k .nil
  | .node o l r, k => match o with
    | none => l.fcv fun l => r.fcv fun r => k (.node none l r)
    | some v => v.fcv fun v => l.fcv fun l => r.fcv fun r => k (.node (some v) l r)
theorem Tr.fcv_eq : ∀ (t : Tr) (k : Tr → α), t.fcv k = k t
  | .nil, k => rfl
  | .node none l r, k => by unfold Tr.fcv; simp only [Tr.fcv_eq l, Tr.fcv_eq r]
  | .node (some v) l r, k => by unfold Tr.fcv; simp only [VO.fcv_eq, Tr.fcv_eq l, Tr.fcv_eq r]
def St.fcv (s : St) (k : St → α) : α := s.tmps.fcv fun t => s.hs.heap.fcv fun h => force s.hs.next fun n => force s.hs.rd fun rd => force s.hs.wr fun wr => k ⟨t, ⟨h, n, rd, wr⟩, s.defs⟩
theorem St.fcv_eq (s : St) (k : St → α) : s.fcv k = k s := by
  unfold St.fcv
  simp only [TV.fcv_eq, Tr.fcv_eq, force_eq]
end
/-- a head, its state built up -/
noncomputable def headF (P : Program) (L : Vars) (T : GTab) (fuel : Nat) (f : FuncId) (args : List Value) (ans : List (Nat × Ans)) : Hd :=
  match startH L with
  | some hs => match callO P (evO P L.length T (fun ro a s _ => s.fcv fun s => some (Hd.mk ro a s)) (fun _ => none) fuel) f args.toArray hs ⟨0, ans, []⟩ fun _ _ _ => none with
    | some h => h
    | none => ⟨none, .skip, ⟨.nil, ⟨.nil, 0, 0, 0⟩, []⟩⟩
  | none => ⟨none, .skip, ⟨.nil, ⟨.nil, 0, 0, 0⟩, []⟩⟩
/-- one round, numbered anew -/
noncomputable def bodyK (P : Program) (G : Nat) (T : GTab) (fuel : Nat) (h : Hd) (s : St) (ans : List (Nat × Ans)) (n m : Nat) (js : List Nat) (nx xr xw : Nat) : Option (VX × St × List Prop) :=
  evO P G T (fun _ _ _ _ => none) (fun _ => none) fuel h.ro h.a s ⟨0, ans, []⟩ fun x s q => match canonOk n m [] nx s with
    | true => match canonS n m [] js nx xr xw s with
      | some s' => s'.fcv fun s' => some (x, s', q.log)
      | none => none
    | false => none
theorem body_canon {L : Vars} {T : GTab} {fuel : Nat} {h : Hd} {s s2 : St} {x : VX} {ans : List (Nat × Ans)} {log : List Prop} {n m : Nat} {js : List Nat} {nx xr xw : Nat} (he : bodyK P L.length T fuel h s ans n m js nx xr xw = some (x, s2, log)) (hl : allP log) :
    ∃ s1, (Evt fun f => evC P L.length T.hook f h.ro h.a s = some (x, s1)) ∧ canonS n m [] js nx xr xw s1 = some s2 ∧ canonOk n m [] nx s1 = true := by
  unfold bodyK at he
  obtain ⟨x1, s1, q1, g1, g2, g3⟩ := evO_of (fun _ _ _ _ => rfl) (fun _ => rfl) fuel _ _ _ _ _ _ he
  try dsimp only at g1
  split at g1
  · rename_i hok
    split at g1
    · rename_i s' hs'
      rw [St.fcv_eq] at g1
      injection g1 with g1; injection g1 with e1 e2; injection e2 with e2 e3
      subst e1; subst e2; subst e3
      exact ⟨s1, g3 hl, hs', hok⟩
    · cases g1
  · cases g1
def entryK (n m : Nat) (js : List Nat) (xr xw : Nat) (s : St) : St := match canonS n m [] js n xr xw s with
  | some s' => s'.fc fun s' => s'
  | none => s
/-- one more loop that is known -/
noncomputable def GTab.add (T : GTab) (key : Nat) (ro : Option Nat) (a : Code) (s : St) (x : VX) (s' : St) (hk : loopKey a = key) : GTab :=
  ⟨T.look, (fun ro1 a1 s1 => by classical exact if ro1 = ro ∧ a1 = a ∧ s1 = s then some (x, s') else T.loop ro1 a1 s1), (fun k => match Nat.beq k key with | true => true | false => T.keys k), fun ro1 a1 s1 h => by
    classical
    cases hb : Nat.beq (loopKey a1) key with
    | true => rw [hb] at h; cases h
    | false =>
      rw [hb] at h
      rw [if_neg (fun e => by rw [e.2.1, hk, Nat.beq_refl] at hb; cases hb)]
      exact T.out ro1 a1 s1 h, T.dk, T.lookD, T.outD⟩
theorem GOk.add {L : Vars} {T : GTab} (hT : GOk P L T) {key : Nat} {ro : Option Nat} {a : Code} {s : St} {x : VX} {s' : St} {hk : loopKey a = key} (h : ∀ B : Bd, B.L = L → LoopOk P B ro a s x s') : GOk P L (T.add key ro a s x s' hk) := by
  refine ⟨hT.1, fun B hB ro1 a1 s1 x1 s1' e => ?_, hT.2.2⟩
  unfold GTab.add at e
  simp only at e
  split at e
  · rename_i he
    obtain ⟨rfl, rfl, rfl⟩ := he
    injection e with e; injection e with e1 e2; subst e1; subst e2
    exact h B hB
  · exact hT.2.1 B hB _ _ _ _ _ e
theorem loop_known {G : Nat} {T : GTab} {key : Nat} {ro : Option Nat} {a : Code} {s : St} {x : VX} {s' : St} {hk : loopKey a = key} : LoopRes P G (T.add key ro a s x s' hk) ro a s x s' := by
  refine (Evt.all fun _ => trivial).succ (p := fun _ => True) fun n _ => ?_
  unfold evC
  simp only [hook_loop]
  have : (T.add key ro a s x s' hk).loop ro a s = some (x, s') := by
    unfold GTab.add
    simp
  rw [this]
end
end Go.Proofs.Ytpaojoahbmlolaa
