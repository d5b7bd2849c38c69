/- One operation, and operations one after another. -/
import Derived.Test.YtcpjicpelcfokaaEvM
namespace Go.Proofs.Ytcpjicpelcfokaa
open Go Go.RowKit
set_option linter.unusedVariables false
set_option linter.unusedSimpArgs false
set_option linter.unnecessarySimpa false
section
variable {P : Program} {B : Nat}

/-- a call of the run: a step, and the real call does the same -/
def CallSound (P : Program) (B : Nat) (call : CallV) : Prop :=
  ∀ (f : FuncId) (args : Array Value) (s s' : HS) (v : Value), call f args s = some (v, s') → VStep s s' ∧
    ∀ (σ : Ren) (args' : Array Value) (H : Nat → Option VO) (w : World), AR σ args args' → Match P B σ H w → Sim s H → Agree s s' H → B ≤ w.heap.size →
      Calls P f args' w fun e w' => ∃ σ' v', e = .returned v' ∧ Ren.le σ σ' ∧ VRel σ' v v' ∧ Match P B σ' (upd H s') w' ∧ Below B w w'

theorem slow_step {call : CallV} (hc : CallSound P B call) {o : Oper} {s : St} {v : Value} {hs' : HS} (h : slowV P call o s = some (v, hs')) : VStep s.hs hs' := by
  unfold slowV at h
  split at h
  · cases h
  · split at h
    · split at h
      · split at h
        · injection h with h; injection h with h1 h2; subst h2; exact .refl _
        · cases h
      · split at h
        · rename_i hr; injection h with h; injection h with h1 h2; subst h2; exact runV_step _ _ _ _ hr
        · cases h
      · split at h
        · split at h
          · rename_i hr; injection h with h; injection h with h1 h2; subst h2; exact runV_step _ _ _ _ hr
          · cases h
        · cases h
      · cases h
    · split at h
      · split at h
        · exact append_step h
        · cases h
      · cases h
    · split at h
      · split at h
        · rename_i hr; injection h with h; injection h with h1 h2; subst h2; exact runV_step _ _ _ _ hr
        · cases h
      · cases h
    · split at h
      · injection h with h; injection h with h1 h2; subst h2; exact .refl _
      · injection h with h; injection h with h1 h2; subst h2; exact .refl _
      · cases h
    · split at h
      · split at h
        · rename_i hr; exact (runV_step _ _ _ _ hr).trans (hc _ _ _ _ _ h).1
        · cases h
      · cases h
    · split at h
      · cases h
      · split at h
        · rename_i hr; injection h with h; injection h with h1 h2; subst h2; exact runV_step _ _ _ _ hr
        · rename_i hr; injection h with h; injection h with h1 h2; subst h2; exact runV_step _ _ _ _ hr
        · cases h

theorem undef_rel {σ : Ren} : VRel σ undef undef := VRel.tuple rfl fun i v v' x => by simp at x

theorem operand_rel {σ : Ren} {o : Oper} {s : St} {a : Act} (hok : o.op.operands.toList.all okOperand = true) (ht : ∀ t, Operand.tmp t ∈ o.op.operands → VRel σ (s.tmps.at t) (a.tmps.getD t undef)) :
    ∀ x ∈ o.op.operands, VRel σ (evalV s.tmps x) (a.eval x) := by
  intro x hx
  have h := List.all_eq_true.1 hok x (Array.mem_toList_iff.2 hx)
  cases x with
  | tmp t => exact ht t hx
  | const v => exact flat_rel 50 v h
  | global g => cases h
  | func f => exact VRel.func (.func f) rfl rfl (fun i v v' x => by simp at x) rfl (fun i v v' x => by simp at x)

theorem Act.eval_tmp (a : Act) (t : Tmp) : a.eval (.tmp t) = a.tmps.getD t undef := rfl

/-- the law of one operation -/
theorem slow_sound {call : CallV} (hc : CallSound P B call) {o : Oper} {s : St} {v : Value} {hs' : HS} (h : slowV P call o s = some (v, hs')) {σ : Ren} {H : Nat → Option VO} {a : Act} {w : World}
    (ht : ∀ t, Operand.tmp t ∈ o.op.operands → VRel σ (s.tmps.at t) (a.tmps.getD t undef)) (hm : Match P B σ H w) (hs : Sim s.hs H) (ha : Agree s.hs hs' H) (hB : B ≤ w.heap.size)
    {K : Act → World → Prop} {Q : Exit → Act → World → Prop} (hk : ∀ σ' v' w', Ren.le σ σ' → VRel σ' v v' → Match P B σ' (upd H hs') w' → Below B w w' → K (a.put o.dst v') w') : o.wp P a w K Q := by
  have fin : ∀ {m m' : Sem Next}, SemRel P NR σ m m' → ∀ {v0 : Value} {h0 : HS}, (∃ n, runV P m s.hs = some (n, h0) ∧ (n = .value v0 ∨ (n = .skip ∧ v0 = undef))) → m' = execOp a.eval o → v0 = v → h0 = hs' → o.wp P a w K Q := by
    rintro m m' hrel v0 h0 ⟨n, hr, hn⟩ rfl rfl rfl
    obtain ⟨σ', b, w', h1, h2, h3, h4, h5⟩ := run_sound hrel s.hs h0 n hr H w hm hs ha hB
    unfold Oper.wp
    rw [h1]
    rcases hn with rfl | ⟨rfl, rfl⟩
    · obtain ⟨v', rfl, hv⟩ := h3
      exact hk σ' v' w' h2 hv h4 h5
    · have : b = .skip := h3
      subst this
      exact hk σ' undef w' h2 undef_rel h4 h5
  unfold slowV at h
  split at h
  · cases h
  · rename_i hok
    have hx := operand_rel hok ht
    split at h
    · rename_i t x lo hi mx ho
      split at h
      · rename_i e hte
        split at h
        · rename_i r hr
          injection h with h; injection h with h1 h2; subst h1; subst h2
          have hx2 := hx
          rw [ho] at hx2
          simp only [Op.operands] at hx2
          obtain ⟨r', g1, g2⟩ := slice_sound w hr (hx2 x (by simp)) (opt_rel fun y hy => hx2 y (by simp [hy])) (opt_rel fun y hy => hx2 y (by simp [hy])) (opt_rel fun y hy => hx2 y (by simp [hy]))
          have hrun : (execOp a.eval o).run P w = .ok (.value r') w := by
            unfold execOp
            rw [ho]
            simp only [Sem.run_bind, g1, Result.andThen_ok, Sem.run_pure]
          unfold Oper.wp
          rw [hrun]
          exact hk σ r' w (Ren.le_refl _) g2 (by rw [hs.upd]; exact hm) (Below.refl _ _)
        · cases h
      · rename_i hte
        split at h
        · rename_i r hs1 hr
          injection h with h; injection h with h1 h2
          exact fin (sliceOp_rel o ho (.inl hte) hx) ⟨_, hr, .inl rfl⟩ rfl h1 h2
        · cases h
      · rename_i n e hte
        split at h
        · rename_i hn
          split at h
          · rename_i r hs1 hr
            injection h with h; injection h with h1 h2
            exact fin (sliceOp_rel o ho (.inr ⟨n, e, hte, blt_iff.1 hn⟩) hx) ⟨_, hr, .inl rfl⟩ rfl h1 h2
          · cases h
        · cases h
      · cases h
    · rename_i args argTypes ho
      split at h
      · rename_i t t' x y e1 e2 e3 e4
        split at h
        · rename_i hsz
          simp only [Bool.and_eq_true] at hsz
          have z1 : args.size = 2 := Nat.eq_of_beq_eq_true hsz.1
          have z2 : argTypes.size = 2 := Nat.eq_of_beq_eq_true hsz.2
          have a1 : args = #[x, y] := by
            apply Array.ext
            · simp [z1]
            · intro i h1 h2
              have : i = 0 ∨ i = 1 := by omega
              rcases this with rfl | rfl
              · have := Array.getElem?_eq_some_iff.1 e3; simpa using this.2
              · have := Array.getElem?_eq_some_iff.1 e4; simpa using this.2
          have a2 : argTypes = #[t, t'] := by
            apply Array.ext
            · simp [z2]
            · intro i h1 h2
              have : i = 0 ∨ i = 1 := by omega
              rcases this with rfl | rfl
              · have := Array.getElem?_eq_some_iff.1 e1; simpa using this.2
              · have := Array.getElem?_eq_some_iff.1 e2; simpa using this.2
          subst a1; subst a2
          have hx2 := hx
          rw [ho] at hx2
          simp only [Op.operands, Call.operands] at hx2
          obtain ⟨σ', v', w', g1, g2, g3, g4, g5⟩ := append_sound (ty := o.type) h (hx2 x (by simp)) (hx2 y (by simp)) hm hs ha hB
          have hrun : (execOp a.eval o).run P w = .ok (.value v') w' := by
            unfold execOp
            rw [ho]
            simp only [resolve, invoke, builtin, Sem.run_bind, Sem.run_pure, Result.andThen_ok, List.map_toArray, List.map_cons, List.map_nil, g1]
          unfold Oper.wp
          rw [hrun]
          exact hk σ' v' w' g2 g3 g4 g5
        · cases h
      · cases h
    · rename_i op t x y t2 ho
      split at h
      · rename_i hb
        split at h
        · rename_i r hs1 hr
          injection h with h; injection h with h1 h2
          exact fin (bin_rel o ho hb hx) ⟨_, hr, .inl rfl⟩ rfl h1 h2
        · cases h
      · cases h
    · rename_i x ho
      have hx2 := hx
      rw [ho] at hx2
      have hxx := hx2 x (by simp [Op.operands])
      split at h
      · rename_i ad hv
        injection h with h; injection h with h1 h2; subst h1; subst h2
        rw [hv] at hxx
        generalize hfv : a.eval x = xv at hxx
        cases hxx with
        | ptr hh =>
          have hrun : (execOp a.eval o).run P w = .ok (.value (a.eval x)) w := by
            unfold execOp
            rw [ho]
            dsimp only
            rw [hfv]
            rfl
          unfold Oper.wp
          rw [hrun, hfv]
          exact hk σ _ w (Ren.le_refl _) (.ptr hh) (by rw [hs.upd]; exact hm) (Below.refl _ _)
      · rename_i g p q hv
        injection h with h; injection h with h1 h2; subst h1; subst h2
        rw [hv] at hxx
        generalize hfv : a.eval x = xv at hxx
        cases hxx with
        | func _ hy i1 i2 i3 i4 =>
          have hrun : (execOp a.eval o).run P w = .ok (.value (a.eval x)) w := by
            unfold execOp
            rw [ho]
            dsimp only
            rw [hfv]
            rfl
          unfold Oper.wp
          rw [hrun, hfv]
          exact hk σ _ w (Ren.le_refl _) (.func _ hy i1 i2 i3 i4) (by rw [hs.upd]; exact hm) (Below.refl _ _)
      · cases h
    · rename_i f args ts ho
      split at h
      · rename_i g p q hf
        split at h
        · rename_i fid fargs hs1 hr
          obtain ⟨hst, hcall⟩ := hc _ _ _ _ _ h
          have hst0 := runV_step _ _ _ _ hr
          obtain ⟨σ1, b, w1, h1, h2, h3, h4, h5⟩ := run_sound (callOp_rel o ho hf hx) s.hs hs1 _ hr H w hm hs (ha.first hst) hB
          obtain ⟨args', rfl, hargs⟩ := h3
          unfold Oper.wp
          rw [h1, Oper.upon_enter]
          have hB1 : B ≤ w1.heap.size := Nat.le_trans hB h5.size
          refine (hcall σ1 args' _ w1 hargs h4 (hs.step hst0) (ha.last hs hst0 hst) hB1).mono ?_
          rintro e w' ⟨σ', v', rfl, k2, k3, k4, k5⟩
          rw [upd_upd hst] at k4
          exact hk σ' v' w' (Ren.le_trans h2 k2) k3 k4 (h5.trans k5)
        · cases h
      · cases h
    · split at h
      · cases h
      · rename_i hop
        split at h
        · rename_i r hs1 hr
          injection h with h; injection h with h1 h2
          exact fin (exec_rel o hop hx) ⟨_, hr, .inl rfl⟩ rfl h1 h2
        · rename_i hs1 hr
          injection h with h; injection h with h1 h2
          exact fin (exec_rel o hop hx) ⟨_, hr, .inr ⟨rfl, rfl⟩⟩ rfl h1 h2
        · cases h

/-! the short way -/
theorem sameKind_eq {a b : IntKind} (h : sameKind a b = true) : a = b := by cases a <;> cases b <;> first | rfl | cases h
theorem fast_eq {call : CallV} {o : Oper} {s : St} {r : Value × HS} (hok : o.op.operands.toList.all okOperand = true) (h : fastV P call o s = some r) : slowV P call o s = some r := by
  unfold fastV at h
  unfold slowV
  rw [hok]
  split at h
  · rename_i x ho
    simp only [ho, okOp]
    have : execOp (evalV s.tmps) o = pure (.value (evalV s.tmps x)) := by unfold execOp; rw [ho]
    rw [this]; exact h
  · rename_i x ho
    simp only [ho, okOp]
    have : execOp (evalV s.tmps) o = pure (.value (evalV s.tmps x)) := by unfold execOp; rw [ho]
    rw [this]; exact h
  · rename_i c a b ho
    simp only [ho, okOp]
    have : execOp (evalV s.tmps) o = (do pure (.value (if ← asBool (evalV s.tmps c) then evalV s.tmps a else evalV s.tmps b))) := by unfold execOp; rw [ho]
    rw [this]
    split at h
    · rename_i hb; rw [hb]; exact h
    · rename_i hb; rw [hb]; exact h
    · cases h
  · rename_i op t x y t2 ho
    have : execOp (evalV s.tmps) o = (do pure (.value (← (do eqGuard op t x y (evalV s.tmps x) (evalV s.tmps y); binOp op t (evalV s.tmps x) (evalV s.tmps y))))) := by unfold execOp; rw [ho]
    simp only [ho]
    split at h
    · rename_i k a k' b h1 h2
      split at h
      · rename_i hk
        have := sameKind_eq hk
        subst this
        split at h
        · rename_i v hv
          have e : runV P (execOp (evalV s.tmps) o) s.hs = some (.value v, s.hs) := by
            have hg : eqGuard op t x y (.int k a) (.int k b) = (pure () : Sem Unit) := by unfold eqGuard; cases op <;> rfl
            have hb : binOp op t (.int k a) (.int k b) = (pure v : Sem Value) := by
              unfold intV at hv
              split at hv
              all_goals first
                | (cases hv; done)
                | (injection hv with hv; subst hv; unfold binOp; dsimp only; rw [if_neg (fun h => h rfl)]; rfl)
            rw [this, h1, h2, hg, hb]
            rfl
          have hb : okBin op (evalV s.tmps x) (evalV s.tmps y) = true := by rw [h1, h2]; unfold okBin; cases op <;> rfl
          rw [hb, e]
          exact h
        · cases h
      · cases h
    · cases h
  · rename_i x i ho
    simp only [ho, okOp]
    have : execOp (evalV s.tmps) o = (do pure (.value (← Instr.extract (evalV s.tmps x) i))) := by unfold execOp; rw [ho]
    rw [this]
    split at h
    · rename_i vs hv
      split at h
      · rename_i v hi
        rw [hv]
        simp only [Instr.extract, hi]
        exact h
      · cases h
    · cases h
  · rename_i t x ho
    simp only [ho, okOp]
    have : execOp (evalV s.tmps) o = (do pure (.value (← Instr.loadAt t (evalV s.tmps x)))) := by unfold execOp; rw [ho]
    rw [this]
    split at h
    · rename_i h1
      split at h
      · rename_i b off hv
        split at h
        · rename_i v hc
          rw [hv]
          unfold oneT at h1
          unfold cellV at hc
          split at hc
          · rename_i c e fz ex hg
            have ha : runV P (isAgg t) s.hs = some (false, s.hs) := by
              unfold isAgg underlying program
              simp only [bind, Sem.bind, runV]
              split at h1
              · cases h1
              · cases h1
              · rename_i d n1 n2 hd
                rw [hd]
                simp only [Sem.bind, pure]
                cases d <;> first | rfl | exact absurd rfl (n1 _) | exact absurd rfl (n2 _ _)
              · cases h1
            have hl : runV P (Instr.loadAt t (.pointer (some ⟨b, off, none⟩))) s.hs = some (v, s.hs.read b) := by
              unfold Instr.loadAt Instr.sureAddr
              simp only [bind, Sem.bind, pure]
              unfold loadVar
              show runV P ((isAgg t).bind _) s.hs = _
              rw [runV_bind_some, ha]
              simp only [Option.bind_some, Bool.false_eq_true, if_false, load, runV, hg, hc]
            have e : runV P (do pure (Next.value (← Instr.loadAt t (.pointer (some ⟨b, off, none⟩)))) : Sem Next) s.hs = some (Next.value v, s.hs.read b) := by
              show runV P ((Instr.loadAt t (.pointer (some ⟨b, off, none⟩))).bind fun v => (pure (Next.value v) : Sem Next)) s.hs = _
              rw [runV_bind_some, hl]; rfl
            rw [e]
            exact h
          · cases hc
        · cases h
      · cases h
    · cases h
  · rename_i x ho
    simp only [ho]
    exact h
  · rename_i t x i ho
    simp only [ho, okOp]
    have : execOp (evalV s.tmps) o = (do pure (.value (← Instr.fieldAt t (evalV s.tmps x) i))) := by unfold execOp; rw [ho]
    rw [this]
    split at h
    · rename_i off hf
      split at h
      · rename_i a hv
        rw [hv]
        unfold fieldV at hf
        split at hf
        · rename_i fs hu
          split at hf
          · rename_i f hfi
            split at hf
            · rename_i j hj
              split at hf
              · cases hf
              · rename_i hz
                injection hf with hf
                subst hf
                have hz' : ¬ j.size = 0 := fun e => by rw [e] at hz; cases hz
                have hp : runV P (Instr.fieldAt t (.pointer (some a)) i) s.hs = some (.pointer (some (a.add f.offset)), s.hs) := by
                  unfold Instr.fieldAt underlying program
                  simp only [bind, Sem.bind, runV, hu, pure, hfi, Instr.sureAddr]
                  unfold fieldPlace sizeOf typeInfo program
                  simp only [bind, Sem.bind, runV, hj, pure, if_neg hz']
                have e : runV P (do pure (Next.value (← Instr.fieldAt t (.pointer (some a)) i)) : Sem Next) s.hs = some (Next.value (.pointer (some (a.add f.offset))), s.hs) := by
                  show runV P ((Instr.fieldAt t (.pointer (some a)) i).bind fun v => (pure (Next.value v) : Sem Next)) s.hs = _
                  rw [runV_bind_some, hp]; rfl
                rw [e]
                exact h
            · cases hf
          · cases hf
        · cases hf
      · cases h
    · cases h
  · rename_i f args ts ho
    simp only [ho]
    split at h
    · rename_i g a b hv
      split at h
      · rename_i hcl
        have e : runV P (execOp (evalV s.tmps) o) s.hs = some (.enter g ((a ++ args.map (evalV s.tmps)) ++ b), s.hs) := by
          unfold execOp
          rw [ho]
          dsimp only [resolve]
          rw [hv]
          show runV P (callFunc g ((a ++ args.map (evalV s.tmps)) ++ b)) s.hs = _
          unfold callable at hcl
          unfold callFunc
          show runV P (match P.funcs[g]? with | none => _ | some fn => _) s.hs = _
          split at hcl
          · rename_i fn hfn
            rw [hfn]
            simp only [Bool.and_eq_true, Bool.not_eq_true'] at hcl
            simp only [hcl.1, hcl.2, Bool.false_eq_true, if_false]
            rfl
          · cases hcl
        rw [e]
        exact h
      · cases h
    · cases h
  · cases h
theorem oper_eq {call : CallV} {o : Oper} {s : St} {r : Value × HS} (h : operV P call o s = some r) : slowV P call o s = some r := by
  unfold operV at h
  split at h
  · cases h
  · rename_i hok
    split at h
    · rename_i hf
      injection h with h; subst h
      exact fast_eq hok hf
    · exact h
theorem oper_step {call : CallV} (hc : CallSound P B call) {o : Oper} {s : St} {v : Value} {hs' : HS} (h : operV P call o s = some (v, hs')) : VStep s.hs hs' := slow_step hc (oper_eq h)
theorem oper_sound {call : CallV} (hc : CallSound P B call) {o : Oper} {s : St} {v : Value} {hs' : HS} (h : operV P call o s = some (v, hs')) {σ : Ren} {H : Nat → Option VO} {a : Act} {w : World}
    (ht : ∀ t, Operand.tmp t ∈ o.op.operands → VRel σ (s.tmps.at t) (a.tmps.getD t undef)) (hm : Match P B σ H w) (hs : Sim s.hs H) (ha : Agree s.hs hs' H) (hB : B ≤ w.heap.size)
    {K : Act → World → Prop} {Q : Exit → Act → World → Prop} (hk : ∀ σ' v' w', Ren.le σ σ' → VRel σ' v v' → Match P B σ' (upd H hs') w' → Below B w w' → K (a.put o.dst v') w') : o.wp P a w K Q :=
  slow_sound hc (oper_eq h) ht hm hs ha hB hk

/-! operations one after another -/
/-- two slots -/
def SR (s : Ren) : Option Value → Option Value → Prop
  | some a, some b => VRel s a b
  | none, none => True
  | _, _ => False
theorem SR.mono {s t : Ren} (h : Ren.le s t) : ∀ {a b : Option Value}, SR s a b → SR t a b
  | some a, some b, k => VRel.mono h k
  | none, none, _ => trivial
  | some _, none, k => k.elim
  | none, some _, k => k.elim
theorem slot_of {σ : Ren} {x y : Option Value} (h : SR σ x y) : (x = none ∧ y = none) ∨ ∃ v v', x = some v ∧ y = some v' ∧ VRel σ v v' := by
  cases x with
  | none => cases y with
    | none => exact .inl ⟨rfl, rfl⟩
    | some _ => exact h.elim
  | some v => cases y with
    | none => exact h.elim
    | some v' => exact .inr ⟨v, v', rfl, rfl, h⟩
/-- all slots -/
def TR (s : Ren) (t : TV) (a : Array Value) : Prop := ∀ k, SR s (t.get k) (a[k]?)
theorem TR.mono {s u : Ren} (h : Ren.le s u) {t : TV} {a : Array Value} (k : TR s t a) : TR u t a := fun i => (k i).mono h
theorem SR.at {σ : Ren} {t : TV} {a : Array Value} {k : Nat} (h : SR σ (t.get k) (a[k]?)) : VRel σ (t.at k) (a.getD k undef) := by
  unfold TV.at
  rw [Array.getD_eq_getD_getElem?]
  rcases slot_of h with ⟨h1, h2⟩ | ⟨v, v', h1, h2, h3⟩
  · rw [h1, h2]; exact undef_rel
  · rw [h1, h2]; exact h3
theorem yielded_eq {ops : Array Oper} {σ : Ren} {t : TV} {t' : Array Value} {j : Nat} (h : ∀ d, ((ops[j]?).bind (·.dst)) = some d → SR σ (t.get d) (t'[d]?)) : yieldedT ops t j = yielded ops t' j := by
  unfold yieldedT yielded
  cases ho : ops[j]? with
  | none => rfl
  | some o =>
    simp only [Option.bind_some]
    cases hd : o.dst with
    | none => rfl
    | some d =>
      simp only [Option.bind_some]
      rcases slot_of (h d (by rw [ho]; exact hd)) with ⟨h1, h2⟩ | ⟨v, v', h1, h2, h3⟩
      · rw [h1, h2]
      · rw [h1, h2]; cases h3 <;> rfl
theorem wanted_eq {ops : Array Oper} {σ : Ren} {t : TV} {t' : Array Value} {o : Oper} (h : ∀ j b, o.guard = some (j, b) → ∀ d, ((ops[j]?).bind (·.dst)) = some d → SR σ (t.get d) (t'[d]?)) :
    Region.wanted o (yieldedT ops t) = Region.wanted o (yielded ops t') := by
  unfold Region.wanted
  cases hg : o.guard with
  | none => rfl
  | some jb =>
    obtain ⟨j, b⟩ := jb
    simp only
    rw [yielded_eq (σ := σ) (h j b hg)]
theorem TR.put {σ : Ren} {t : TV} {a : Act} (h : TR σ t a.tmps) (d : Option Tmp) {v v' : Value} (hv : VRel σ v v') : TR σ (putT t d v) (a.put d v').tmps := by
  cases d with
  | none => exact h
  | some d =>
    intro k
    show SR σ ((t.set d v).get k) ((a.tmps.setIfInBounds d v')[k]?)
    rw [TV.get_set, Array.getElem?_setIfInBounds]
    by_cases e : k = d
    · subst e
      rw [if_pos rfl, if_pos rfl]
      rcases slot_of (h k) with ⟨h1, h2⟩ | ⟨x, x', h1, h2, h3⟩
      · rw [h1, if_neg (by simpa using h2)]; trivial
      · rw [h1, if_pos (Array.getElem?_eq_some_iff.1 h2).1]; exact hv
    · rw [if_neg e, if_neg (Ne.symm e)]; exact h k
theorem put_defers (a : Act) (d : Option Tmp) (v : Value) : (a.put d v).defers = a.defers := by cases d <;> rfl

theorem runOps_sound {call : CallV} (hc : CallSound P B call) {ops : Array Oper} {Q : Exit → Act → World → Prop} : ∀ (l : List Nat) (s s' : St), runOps P call ops l s = some s' → VStep s.hs s'.hs ∧
    ∀ (σ : Ren) (H : Nat → Option VO) (a : Act) (w : World), Match P B σ H w → Sim s.hs H → TR σ s.tmps a.tmps → Agree s.hs s'.hs H → B ≤ w.heap.size →
      (∀ σ' a' w', Ren.le σ σ' → Match P B σ' (upd H s'.hs) w' → TR σ' s'.tmps a'.tmps → a'.defers = a.defers → Below B w w' → Q .normal a' w') → wpOps P ops Q l a w
  | [], s, s', h => by
    simp only [runOps] at h
    injection h with h; subst h
    exact ⟨.refl _, fun σ H a w hm hs ht ha hB hk => hk σ a w (Ren.le_refl _) (by rw [hs.upd]; exact hm) ht rfl (Below.refl _ _)⟩
  | i :: l, s, s', h => by
    simp only [runOps] at h
    split at h
    · rename_i s1 h1
      obtain ⟨ih1, ih2⟩ := runOps_sound hc (Q := Q) l s1 s' h
      unfold stepV at h1
      split at h1
      · cases h1
      · rename_i o ho
        split at h1
        · rename_i hw
          split at h1
          · rename_i v hs1 hop
            injection h1 with h1; subst h1
            have hst := oper_step hc hop
            refine ⟨hst.trans ih1, fun σ H a w hm hs ht ha hB hk => ?_⟩
            simp only [wpOps, ho]
            rw [if_pos (by rw [← wanted_eq (σ := σ) fun j b _ d _ => ht d]; exact hw)]
            refine .inl (oper_sound hc hop (fun t _ => (ht t).at) hm hs (ha.first ih1) hB fun σ1 v' w1 g1 g2 g3 g4 => ?_)
            refine ih2 σ1 _ _ w1 g3 (hs.step hst) ((ht.mono g1).put o.dst g2) (ha.last hs hst ih1) (Nat.le_trans hB g4.size) fun σ2 a2 w2 k1 k2 k3 k4 k5 => ?_
            rw [upd_upd ih1] at k2
            exact hk σ2 a2 w2 (Ren.le_trans g1 k1) k2 k3 (k4.trans (put_defers _ _ _)) (g4.trans k5)
          · cases h1
        · rename_i hw
          injection h1 with h1; subst h1
          refine ⟨ih1, fun σ H a w hm hs ht ha hB hk => ?_⟩
          simp only [wpOps, ho]
          rw [if_neg (by rw [← wanted_eq (σ := σ) fun j b _ d _ => ht d, hw]; simp)]
          refine ih2 σ _ _ w hm hs (ht.put o.dst undef_rel) ha hB fun σ2 a2 w2 k1 k2 k3 k4 k5 => ?_
          exact hk σ2 a2 w2 k1 k2 k3 (k4.trans (put_defers _ _ _)) k5
    · cases h
end
end Go.Proofs.Ytcpjicpelcfokaa
