/- All operations that are run as they stand. -/
import Derived.Test.YtpaojoahbmlolaaEvJ
namespace Go.Proofs.Ytpaojoahbmlolaa
open Go Go.RowKit
set_option linter.unusedSectionVars false
set_option linter.unusedVariables false
set_option linter.unusedSimpArgs false
set_option linter.unnecessarySimpa false
section
variable {P : Program} [NoCx P] {σ : Ren} {α β : Type} {R : Ren → α → β → Prop}

/-- what an operation hands back -/
def NR (s : Ren) : Next → Next → Prop
  | .value v, n => ∃ v', n = .value v' ∧ VRel s v v'
  | .skip, n => n = .skip
  | .enter f a, n => ∃ a', n = .enter f a' ∧ AR s a a'
  | _, _ => True

theorem val_rel {m m' : Sem Value} (h : SemRel P VR σ m m') : SemRel P NR σ (do pure (.value (← m)) : Sem Next) (do pure (.value (← m')) : Sem Next) := h.bnd fun _ v v' _ hv => .ret ⟨v', rfl, hv⟩
theorem unit_rel {m m' : Sem Unit} (h : SemRel P ER σ m m') : SemRel P NR σ (do m; pure .skip : Sem Next) (do m'; pure .skip : Sem Next) := h.bnd fun _ _ _ _ _ => .ret rfl

theorem args_rel {xs : Array Operand} {ρ ρ' : Operand → Value} (h : ∀ x ∈ xs, VRel σ (ρ x) (ρ' x)) : AR σ (xs.map ρ) (xs.map ρ') := by
  refine ⟨by simp, fun i v v' a b => ?_⟩
  simp only [Array.getElem?_map, Option.map_eq_some_iff] at a b
  obtain ⟨x, hx, rfl⟩ := a
  obtain ⟨y, hy, rfl⟩ := b
  rw [hx] at hy; injection hy with hy; subst hy
  exact h x (Array.mem_of_getElem? hx)
theorem opt_rel {x : Option Operand} {ρ ρ' : Operand → Value} (h : ∀ y, x = some y → VRel σ (ρ y) (ρ' y)) : OV σ (x.map ρ) (x.map ρ') := by
  cases x with
  | none => trivial
  | some y => exact h y rfl
theorem pl_rel (ps : Array (Nat × Operand)) {ρ ρ' : Operand → Value} (h : ∀ p ∈ ps.toList, VRel σ (ρ p.2) (ρ' p.2)) : PL σ (ps.map fun (i, x) => (i, ρ x)).toList (ps.map fun (i, x) => (i, ρ' x)).toList := by
  simp only [Array.toList_map]
  generalize ps.toList = l at *
  induction l with
  | nil => trivial
  | cons p l ih =>
    obtain ⟨i, x⟩ := p
    exact ⟨rfl, h (i, x) (by simp), ih fun q hq => h q (by simp [hq])⟩

theorem exec_rel (o : Oper) {ρ ρ' : Operand → Value} (hok : okOp P o.op = true) (hdy : okDyn ρ o.op = true) (h : ∀ x ∈ o.op.operands, VRel σ (ρ x) (ρ' x)) : SemRel P NR σ (execOp ρ o) (execOp ρ' o) := by
  obtain ⟨dst, op, type, pos, after, guard⟩ := o
  cases op <;> simp only [Op.operands] at h <;> (unfold execOp; dsimp only) <;> dsimp only [okOp] at hok <;> dsimp only [okDyn] at hdy <;> try (cases hok; done)
  case move x => exact .ret ⟨_, rfl, h x (by simp)⟩
  case assign x => exact .ret ⟨_, rfl, h x (by simp)⟩
  case pick c a b =>
    refine (asBool_rel (h c (by simp))).bnd fun s x y hs e => ?_
    obtain rfl : x = y := e
    cases x
    · exact .ret ⟨_, rfl, (h b (by simp)).mono hs⟩
    · exact .ret ⟨_, rfl, (h a (by simp)).mono hs⟩
  case alloc e => exact val_rel (alloc_rel hok)
  case box e x => exact val_rel (box_rel (h x (by simp)))
  case build t ps => exact val_rel (build_rel hok (pl_rel ps fun p hp => h p.2 (by simp; exact ⟨p.1, by simpa using hp⟩)))
  case buildSlice t n ps =>
    simp only [Bool.and_eq_true] at hok
    exact val_rel (buildSlice_rel hok.1 (Nat.le_of_ble_eq_true hok.2) (pl_rel ps fun p hp => h p.2 (by simp; exact ⟨p.1, by simpa using hp⟩)))
  case load t x => exact val_rel (loadAt_rel (h x (by simp)))
  case store t a x => exact unit_rel (storeAt_rel (h a (by simp)) (h x (by simp)))
  case unOp op t x => exact val_rel (unary_rel (h x (by simp)) (by simpa using hdy))
  case convert s d x => exact val_rel (convert_rel (h x (by simp)) hok)
  case makeInterface t x => exact val_rel (makeInterface_rel (h x (by simp)))
  case makeFunc fn a b => exact val_rel (makeFunc_rel hok (args_rel fun x hx => h x (by simp [hx])) (args_rel fun x hx => h x (by simp [hx])))
  case makeMap t r => exact val_rel (makeMap_rel (by
      cases r with
      | none => trivial
      | some r => exact h r (by simp)))
  case makeSlice t l c =>
    simp only [Bool.and_eq_true] at hok
    exact val_rel (makeSlice_rel hok.1 hok.2 (h l (by simp)) (h c (by simp)))
  case fieldAddr t x i => exact val_rel (fieldAt_rel (h x (by simp)))
  case field t x i => exact val_rel (field_rel (h x (by simp)))
  case indexAddr t x i => exact val_rel (indexAt_rel (h x (by simp)) (h i (by simp)))
  case index t x i => exact val_rel (index_rel (h x (by simp)) (h i (by simp)))
  case lookup t x i ok => exact val_rel (lookup_rel hok (h x (by simp)) (h i (by simp)))
  case mapUpdate t m k x => exact unit_rel (mapUpdate_rel (h m (by simp)) (h k (by simp)) hdy (h x (by simp)))
  case insert t m k x => exact unit_rel (mapUpdate_rel (h m (by simp)) (h k (by simp)) hdy (h x (by simp)))
  case mapEntry t m k => exact val_rel (mapEntry_rel hok (h m (by simp)) (h k (by simp)) hdy)
  case entryStore t m k x => exact unit_rel (entryStore_rel (h m (by simp)) (h k (by simp)) (h x (by simp)))
  case range t x =>
    split at hok
    · exact val_rel (range_rel ‹_› (h x (by simp)))
    · cases hok
  case next x b =>
    subst hok
    exact val_rel (next_rel (h x (by simp)))
  case typeAssert x t u ok => exact val_rel (typeAssert_rel hok (h x (by simp)))
  case extract x i => exact val_rel (extract_rel (h x (by simp)))
  case call c =>
    obtain ⟨cl, args, ts⟩ := c
    cases cl <;> try (cases hok; done)
    rename_i b
    have ha : AR σ (args.map ρ) (args.map ρ') := args_rel fun x hx => h x (by simp [Call.operands, hx])
    cases b <;> try (cases hok; done)
    case copy => exact val_rel (copy_rel ha)
    case clear =>
      refine val_rel (clear_rel (fun t ht => ?_) ha)
      simp only [okOp, ht] at hok
      exact hok
    case delete => exact val_rel (delete_rel ha)
    case len => exact val_rel (len_rel ha)
    case max => exact val_rel (max_rel ha)
    case min => exact val_rel (min_rel ha)

theorem bin_rel (o : Oper) {op : BinOp} {t t2 : TypeId} {x y : Operand} (ho : o.op = .binOp op t x y t2) {ρ ρ' : Operand → Value} (hok : okBin op (ρ x) (ρ y) = true) (h : ∀ x ∈ o.op.operands, VRel σ (ρ x) (ρ' x)) :
    SemRel P NR σ (execOp ρ o) (execOp ρ' o) := by
  rw [ho] at h
  simp only [Op.operands] at h
  unfold execOp
  rw [ho]
  exact val_rel ((eqGuard_rel (h x (by simp)) (h y (by simp))).bnd fun s _ _ hs _ => binOp_rel ((h x (by simp)).mono hs) ((h y (by simp)).mono hs) hok)
theorem sliceOp_rel (o : Oper) {t : TypeId} {x : Operand} {lo hi mx : Option Operand} (ho : o.op = .slice t x lo hi mx) {ρ ρ' : Operand → Value} (ht : P.underlying t = some .string ∨ ∃ n e, P.underlying t = some (.array n e) ∧ n < inf)
    (h : ∀ x ∈ o.op.operands, VRel σ (ρ x) (ρ' x)) : SemRel P NR σ (execOp ρ o) (execOp ρ' o) := by
  rw [ho] at h
  simp only [Op.operands] at h
  unfold execOp
  rw [ho]
  exact val_rel (sliceAt_rel (h x (by simp)) (opt_rel fun y hy => h y (by simp [hy])) (opt_rel fun y hy => h y (by simp [hy])) (opt_rel fun y hy => h y (by simp [hy])) ht)

theorem callFunc_rel {f : FuncId} {a a' : Array Value} (h : AR σ a a') : SemRel P NR σ (callFunc f a) (callFunc f a') := by
  unfold callFunc
  refine program_rel ?_
  cases P.funcs[f]? with
  | none => exact .dead dead_stuck
  | some fn =>
    dsimp only
    refine ite_rel (fun _ => .ret trivial) (fun _ => ite_rel (fun _ => .dead fun _ => rfl) (fun _ => .ret ⟨_, rfl, h⟩))
theorem callOp_rel (o : Oper) {f : Operand} {args : Array Operand} {ts : Array TypeId} (ho : o.op = .call { callee := .value f, args, argTypes := ts }) {ρ ρ' : Operand → Value} {g : FuncId} {a b : Array Value} (hf : ρ f = .func (.func g) a b)
    (h : ∀ x ∈ o.op.operands, VRel σ (ρ x) (ρ' x)) : SemRel P NR σ (execOp ρ o) (execOp ρ' o) := by
  rw [ho] at h
  simp only [Op.operands, Call.operands] at h
  have hv := h f (by simp)
  rw [hf] at hv
  have ha : AR σ (args.map ρ) (args.map ρ') := args_rel fun x hx => h x (by simp [hx])
  generalize hf' : ρ' f = fv at hv
  cases hv with
  | func fn hy h1 h2 h3 h4 =>
    unfold execOp
    rw [ho]
    dsimp only [resolve]
    rw [hf, hf']
    exact callFunc_rel ((AR.append ⟨h1, h2⟩ ha).append ⟨h3, h4⟩)
end
end Go.Proofs.Ytpaojoahbmlolaa
