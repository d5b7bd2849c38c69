/- Loops of the run with open numbers: their states by evaluation. -/
import Derived.Test.YtpaojoahbmlolaaEvX
namespace Go.Proofs.Ytpaojoahbmlolaa
open Go
set_option linter.unusedVariables false
/-- the state behind a round -/
def bodySt (r : Option (VX × St × List Prop)) : St := match r with
  | some (_, s, _) => s
  | none => ⟨.nil, ⟨.nil, 0, 0, 0⟩, []⟩
/-- the slots of a state -/
def jOf (s : St) : Nat → Value := fun i => s.tmps.at i
def noJ : Nat → Value := fun _ => undef
/-! states, built up -/
section
variable {α : Type}
def TV.fc : TV → (TV → α) → α
  | .nil, k => k .nil
  | .node o l r, k => match o with
    | none => l.fc fun l => r.fc fun r => k (.node none l r)
    | some v => l.fc fun l => r.fc fun r => k (.node (some v) l r)
theorem TV.fc_eq : ∀ (t : TV) (k : TV → α), t.fc k = k t
  | .nil, k => rfl
  | .node none l r, k => by unfold TV.fc; simp only [TV.fc_eq l, TV.fc_eq r]
  | .node (some v) l r, k => by unfold TV.fc; simp only [TV.fc_eq l, TV.fc_eq r]
def fcL : List Value → (List Value → α) → α
  | [], k => k []
  | v :: l, k => fcL l fun l => k (v :: l)
theorem fcL_eq : ∀ (l : List Value) (k : List Value → α), fcL l k = k l
  | [], k => rfl
  | v :: l, k => by unfold fcL; rw [fcL_eq l]
def VO.fc (o : VO) (k : VO → α) : α := match o with
  | .live (.cells c e fz) ex => fcL c.toList fun l => k (.live (.cells ⟨l⟩ e fz) ex)
  | o => k o
theorem VO.fc_eq (o : VO) (k : VO → α) : o.fc k = k o := by
  unfold VO.fc
  split
  · rw [fcL_eq]
  · rfl
def Tr.fc : Tr → (Tr → α) → α
  | .nil, k => k .nil
  | .node o l r, k => match o with
    | none => l.fc fun l => r.fc fun r => k (.node none l r)
    | some v => v.fc fun v => l.fc fun l => r.fc fun r => k (.node (some v) l r)
theorem Tr.fc_eq : ∀ (t : Tr) (k : Tr → α), t.fc k = k t
  | .nil, k => rfl
  | .node none l r, k => by unfold Tr.fc; simp only [Tr.fc_eq l, Tr.fc_eq r]
  | .node (some v) l r, k => by unfold Tr.fc; simp only [VO.fc_eq, Tr.fc_eq l, Tr.fc_eq r]
def St.fc (s : St) (k : St → α) : α := s.tmps.fc fun t => s.hs.heap.fc fun h => force s.hs.next fun n => force s.hs.rd fun rd => force s.hs.wr fun wr => k ⟨t, ⟨h, n, rd, wr⟩, s.defs⟩
theorem St.fc_eq (s : St) (k : St → α) : s.fc k = k s := by
  unfold St.fc
  simp only [TV.fc_eq, Tr.fc_eq, force_eq]
end
noncomputable def bodyF (P : Program) (G : Nat) (T : GTab) (fuel : Nat) (h : Hd) (s : St) (ans : List (Nat × Ans)) : Option (VX × St × List Prop) :=
  evO P G T (fun _ _ _ _ => none) (fun _ => none) fuel h.ro h.a s ⟨0, ans, []⟩ fun x s q => s.fc fun s => some (x, s, q.log)
theorem bodyF_eq (P : Program) (G : Nat) (T : GTab) (fuel : Nat) (h : Hd) (s : St) (ans : List (Nat × Ans)) : bodyF P G T fuel h s ans = bodyO P G T fuel h s ans := by
  unfold bodyF bodyO
  simp only [St.fc_eq]
theorem body_res {P : Program} {G : Nat} {T : GTab} {fuel : Nat} {h : Hd} {s : St} {ans : List (Nat × Ans)} {r : Option (VX × St × List Prop)} (e : bodyF P G T fuel h s ans = r) : bodyO P G T fuel h s ans = r := by
  rw [← bodyF_eq]; exact e
/-- with other values, built up -/
def St.updF (s : St) (u : List (Nat × Value)) (m : List (Nat × Nat × Value)) : St := (s.upd u m s.hs.rd s.hs.wr).fc fun s => s
theorem tdivP {a b : Int} (hb : 0 < b) : a.tdiv b = if 0 ≤ a then a / b else -((-a) / b) := by
  split
  · exact Int.tdiv_eq_ediv_of_nonneg (by assumption)
  · rw [show a.tdiv b = -((-a).tdiv b) by rw [Int.neg_tdiv]; omega, Int.tdiv_eq_ediv_of_nonneg (by omega)]
theorem tmodP {a b : Int} (hb : 0 < b) : a.tmod b = if 0 ≤ a then a % b else -((-a) % b) := by
  split
  · exact Int.tmod_eq_emod_of_nonneg (by assumption)
  · rw [show a.tmod b = -((-a).tmod b) by rw [Int.neg_tmod]; omega, Int.tmod_eq_emod_of_nonneg (by omega)]
theorem fdivP {a b : Int} (hb : 0 < b) : a.fdiv b = a / b := Int.fdiv_eq_ediv_of_nonneg _ (by omega)
theorem beqI {a b : Int} : ((a == b) = true) ↔ a = b := by simp
theorem beqIf {a b : Int} : ((a == b) = false) ↔ ¬ a = b := by simp
theorem bneI {a b : Int} : ((a != b) = true) ↔ ¬ a = b := by simp
theorem bneIf {a b : Int} : ((a != b) = false) ↔ a = b := by simp
theorem beqB {a b : Bool} : ((a == b) = true) ↔ ((a = true) ↔ (b = true)) := by cases a <;> cases b <;> simp
theorem beqBf {a b : Bool} : ((a == b) = false) ↔ ¬ ((a = true) ↔ (b = true)) := by cases a <;> cases b <;> simp
theorem bneB {a b : Bool} : ((a != b) = true) ↔ ¬ ((a = true) ↔ (b = true)) := by cases a <;> cases b <;> simp
theorem bneBf {a b : Bool} : ((a != b) = false) ↔ ((a = true) ↔ (b = true)) := by cases a <;> cases b <;> simp
/-- for simp: what a question says -/
theorem sx : (∀ (p : Prop) [Decidable p], (decide p = true) = p) ∧ (∀ (p : Prop) [Decidable p], (decide p = false) = ¬ p) ∧ (∀ a b : Int, ((a == b) = true) ↔ a = b) ∧ (∀ a b : Int, ((a == b) = false) ↔ ¬ a = b) ∧ (∀ a b : Int, ((a != b) = true) ↔ ¬ a = b) ∧ (∀ a b : Int, ((a != b) = false) ↔ a = b)
  ∧ (∀ a b : Bool, ((a == b) = true) ↔ ((a = true) ↔ (b = true))) ∧ (∀ a b : Bool, ((a == b) = false) ↔ ¬ ((a = true) ↔ (b = true))) ∧ (∀ a b : Bool, ((a != b) = true) ↔ ¬ ((a = true) ↔ (b = true))) ∧ (∀ a b : Bool, ((a != b) = false) ↔ ((a = true) ↔ (b = true)))
  ∧ (∀ a : Bool, ((!a) = true) ↔ a = false) ∧ (∀ a : Bool, ((!a) = false) ↔ a = true) ∧ (∀ a b : Bool, ((a && b) = true) ↔ (a = true ∧ b = true)) ∧ (∀ a b : Bool, ((a || b) = true) ↔ (a = true ∨ b = true)) ∧ (∀ a b : Bool, ((a && b) = false) ↔ (a = false ∨ b = false)) ∧ (∀ a b : Bool, ((a || b) = false) ↔ (a = false ∧ b = false))
  ∧ (∀ a b : Int, 0 < b → a.tdiv b = if 0 ≤ a then a / b else -((-a) / b)) ∧ (∀ a b : Int, 0 < b → a.tmod b = if 0 ≤ a then a % b else -((-a) % b)) ∧ (∀ a b : Int, 0 < b → a.fdiv b = a / b) :=
  ⟨fun _ _ => decide_eq_true_eq, fun _ _ => by simp, fun _ _ => beqI, fun _ _ => beqIf, fun _ _ => bneI, fun _ _ => bneIf, fun _ _ => beqB, fun _ _ => beqBf, fun _ _ => bneB, fun _ _ => bneBf, fun a => by cases a <;> simp, fun a => by cases a <;> simp, fun a b => by simp, fun a b => by simp, fun a b => by cases a <;> simp, fun a b => by cases a <;> cases b <;> simp, fun _ _ => tdivP, fun _ _ => tmodP, fun _ _ => fdivP⟩
theorem sy : (∀ p : Prop, (True ↔ p) = p) ∧ (∀ p : Prop, (p ↔ True) = p) ∧ (∀ p : Prop, (False ↔ p) = ¬ p) ∧ (∀ p : Prop, (p ↔ False) = ¬ p) ∧ (∀ p : Prop, (True ∧ p) = p) ∧ (∀ p : Prop, (p ∧ True) = p) ∧ (∀ p : Prop, (False ∧ p) = False) ∧ (∀ p : Prop, (p ∧ False) = False) ∧ (∀ p : Prop, (True ∨ p) = True) ∧ (∀ p : Prop, (p ∨ True) = True) ∧ (∀ p : Prop, (False ∨ p) = p) ∧ (∀ p : Prop, (p ∨ False) = p) ∧ ((¬ True) = False) ∧ ((¬ False) = True) ∧ ((false = true) = False) ∧ ((true = false) = False) := by simp
theorem bif_t {β : Type} {c : Bool} (h : c = true) (a b : β) : (bif c then a else b) = a := by rw [h]; rfl
theorem bif_f {β : Type} {c : Bool} (h : c = false) (a b : β) : (bif c then a else b) = b := by rw [h]; rfl
theorem bif_or {β : Type} {c : Bool} {a b r : β} (h : (bif c then a else b) = r) : (c = true ∧ a = r) ∨ (c = false ∧ b = r) := by
  cases c with
  | true => exact .inl ⟨rfl, h⟩
  | false => exact .inr ⟨rfl, h⟩
/-! tables -/
theorem GOk.none {P : Program} [NoCx P] {L : Vars} : GOk P L GTab.none := ⟨fun f args v h => (by cases h), fun _ _ => LoopsOk.none, fun f ds v bs h => (by cases h)⟩
theorem known0 {P : Program} [NoCx P] {L : Vars} {f : FuncId} (h : Known P L f [] (.bool true)) : ∀ args v, (match args with | [] => some (Value.bool true) | _ => none) = some v → Known P L f args v := fun args v e => by
  split at e
  · injection e with e; subst e; exact h
  · cases e
theorem GOk.of {P : Program} [NoCx P] {L : Vars} {T : Tab} (h : TabOk P L T) : GOk P L (GTab.of T) := ⟨(fun f args v e => by
  unfold GTab.tab GTab.of at e
  split at e
  · rename_i v' hv
    dsimp only at hv
    split at hv
    · rename_i w hw
      injection hv with hv; injection hv with _ hv; subst hv
      injection e with e; subst e
      exact h f args _ hw
    · cases hv
  · cases e), fun _ _ => LoopsOk.none, fun f ds v bs h => (by cases h)⟩
theorem GOk.fn {P : Program} [NoCx P] {L : Vars} {T : GTab} {f : FuncId} {k : List Value → Option (Bool × Value)} (h : ∀ args v, k args = some (true, v) → Known P L f args v) (hT : GOk P L T) : GOk P L (.fn f k T) := ⟨(fun g args v e => by
  unfold GTab.tab GTab.fn at e
  split at e
  · rename_i v' hv
    dsimp only at hv
    injection e with e; subst e
    split at hv
    · rename_i hg
      have := Nat.eq_of_beq_eq_true hg
      subst this
      exact h args _ hv
    · exact hT.1 g args v' (by unfold GTab.tab; rw [hv])
  · cases e), hT.2⟩
theorem GOk.fn1 {P : Program} [NoCx P] {L : Vars} {T : GTab} {f : FuncId} {k : List Value → Option Value} (h : ∀ args v, k args = some v → Known P L f args v) (hT : GOk P L T) : GOk P L (.fn1 f k T) := ⟨(fun g args v e => by
  unfold GTab.tab GTab.fn1 at e
  split at e
  · rename_i v' hv
    dsimp only at hv
    injection e with e; subst e
    split at hv
    · rename_i hg
      have := Nat.eq_of_beq_eq_true hg
      subst this
      split at hv
      · rename_i w hw
        injection hv with hv; injection hv with _ hv; subst hv
        exact h args _ hw
      · exact hT.1 f args v' (by unfold GTab.tab; rw [hv])
    · exact hT.1 g args v' (by unfold GTab.tab; rw [hv])
  · cases e), hT.2⟩
theorem GOk.fnD {P : Program} [NoCx P] {L : Vars} {T : GTab} {f : FuncId} {k : List D → Option (Value × Outs)} (h : ∀ ds v bs, k ds = some (v, bs) → KnownR P L f ds v bs) (hT : GOk P L T) : GOk P L (.fnD f k T) := ⟨hT.1, hT.2.1, fun g ds v bs e => by
  replace e : (match Nat.beq f g with | true => k ds | false => T.lookD g ds) = some (v, bs) := e
  split at e
  · rename_i hg
    have := Nat.eq_of_beq_eq_true hg
    subst this
    exact h ds v bs e
  · exact hT.2.2 g ds v bs e⟩
end Go.Proofs.Ytpaojoahbmlolaa
