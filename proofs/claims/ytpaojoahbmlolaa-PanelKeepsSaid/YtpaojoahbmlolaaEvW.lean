/- One operation with open numbers. -/
import Derived.Test.YtpaojoahbmlolaaEvV
namespace Go.Proofs.Ytpaojoahbmlolaa
open Go
set_option linter.unusedSectionVars false
set_option linter.unusedVariables false
set_option linter.unusedSimpArgs false
set_option linter.unnecessarySimpa false
section
variable {P : Program} [NoCx P] {α : Type}

/-- an operation that calls nothing of the program's -/
def quietO (P : Program) (ρ : Operand → Value) : Op → Bool
  | .call { callee := .value f, .. } => match ρ f with
    | .func (.func g) _ _ => !callable P g
    | _ => false
  | .call { callee := .invoke .., .. } => false
  | _ => true

theorem noCall_fast {call : CallV} {o : Oper} {s : St} (hq : quietO P (evalV s.tmps) o.op = true) : fastV P call o s = fastV P (noCall call.g) o s := by
  obtain ⟨dst, op, type, guard, after⟩ := o
  cases op
  case call c =>
    obtain ⟨callee, args, argTypes⟩ := c
    cases callee
    case value f =>
      simp only [quietO] at hq
      unfold fastV
      simp only
      generalize hf : evalV s.tmps f = fv at hq ⊢
      cases fv
      case func fn a b =>
        cases fn
        case func g =>
          simp only [Bool.not_eq_true'] at hq
          simp only [hq]
        all_goals rfl
      all_goals rfl
    all_goals rfl
  all_goals rfl
theorem noCall_slow {call : CallV} {o : Oper} {s : St} {r : Value × HS} (hq : quietO P (evalV s.tmps) o.op = true) (h : slowV P (noCall call.g) o s = some r) : slowV P call o s = some r := by
  obtain ⟨dst, op, type, guard, after⟩ := o
  cases op
  case call c =>
    obtain ⟨callee, args, argTypes⟩ := c
    cases callee
    case value f =>
      simp only [quietO] at hq
      unfold slowV at h ⊢
      simp only at h ⊢
      split at h
      · cases h
      · rename_i ho
        rw [show (noCall call.g).g = call.g from rfl] at ho
        simp only [ho]
        generalize hf : evalV s.tmps f = fv at hq h ⊢
        cases fv
        case func fn a b =>
          cases fn
          case func g =>
            simp only at h ⊢
            split at h
            · cases h
            · exact h
          case yield => cases hq
          all_goals cases h
        all_goals cases h
    case invoke => cases hq
    case builtin b =>
      cases b
      all_goals exact h
  all_goals exact h
/-- THE SAME in every run. -/
theorem noCall_oper {call : CallV} {o : Oper} {s : St} {r : Value × HS} (hq : quietO P (evalV s.tmps) o.op = true) (h : operV P (noCall call.g) o s = some r) : operV P call o s = some r := by
  unfold operV at h ⊢
  split at h
  · cases h
  · rename_i ho
    rw [show (noCall call.g).g = call.g from rfl] at ho
    simp only [ho]
    rw [noCall_fast hq]
    split at h
    · exact h
    · split at h
      · exact h
      · exact noCall_slow hq h
theorem plainO_of {g : Nat} {o : Oper} {s : St} {q : Qs} {k : Value → HS → TV → Qs → Option α} {r : α} (h : plainO P g o s q k = some r) : ∃ v hs, operV P (noCall g) o s = some (v, hs) ∧ k v hs s.tmps q = some r := by
  unfold plainO at h
  split at h
  · rename_i v hs ho
    exact ⟨v, hs, ho, h⟩
  · cases h
def FnOk (fo : Array Value → HS → Qs → (Value → HS → Qs → Option α) → Option α) (f : Nat → Array Value → HS → Option (Value × HS)) : Prop :=
  ∀ args hs q k r, fo args hs q k = some r → ∃ v hs' q', k v hs' q' = some r ∧ q.log <:+ q'.log ∧ (allP q'.log → Evt fun n => f n args hs = some (v, hs'))
structure CallOk (callo : CallO α) (call : Nat → CallV) : Prop where
  st : ∀ x, callo.st x = none
  g : ∀ n, callo.g = (call n).g
  fn : ∀ f, FnOk (callo.fn f) (fun n => (call n).fn f)
  rnd : ∀ l, FnOk (callo.rnd l) (fun n => (call n).rnd l)

theorem fast_slow {call : CallV} {o : Oper} {s : St} {r : Value × HS} (ho : o.op.operands.toList.all (okOperand call.g) = true) (hf : fastV P call o s = none) (hrw : rowV P o s = none) (h : slowV P call o s = some r) : operV P call o s = some r := by
  unfold operV
  simp only [ho, hf, hrw, h]
theorem fast_oper {call : CallV} {o : Oper} {s : St} {r : Value × HS} (ho : o.op.operands.toList.all (okOperand call.g) = true) (hf : fastV P call o s = some r) : operV P call o s = some r := by
  unfold operV
  simp only [ho, hf]

theorem pur_eqOp {op : BinOp} {neg : Bool} {t : TypeId} {x y : Operand} {vx vy : Value} {b : Bool} (hneg : isEq op = some neg) (hagg : isAgg2 vx vy = true) (hb : eqS P Op.maxDepth t vx vy = some b) (hgd : P.eqGuardType P.depth t = false) :
    Pur P (do eqGuard op t x y vx vy; binOp op t vx vy) (.bool (cond neg (!b) b)) := by
  cases vx <;> try (cases hagg)
  cases vy <;> try (cases hagg)
  rename_i xs ys
  refine Pur.bind (v := ()) ?_ ?_
  · unfold eqGuard
    have step : Pur P (do if (!(← program).eqGuardType (← program).depth t) = true then pure () else do
        let r ← Op.eqGuardIn Op.maxDepth t (.agg xs) (.agg ys)
        if r = true then unsupported (.noEntry "binop/eql: two nil values of an interface type with methods, in a part of a struct or an array") else pure () : Sem Unit) () := by
      refine Pur.bind (v := P) .program (Pur.bind (v := P) .program ?_)
      rw [hgd]
      exact .pure _
    cases op
    case eql => exact step
    case neq => exact step
    all_goals cases hneg
  · cases op <;> try (cases hneg)
    · exact (pur_equal _ _ _ _ _ hb).bind (.pure _)
    · exact (pur_equal _ _ _ _ _ hb).bind (.pure _)
theorem pur_divOp {op : BinOp} {dv : Bool} {t : TypeId} {x y : Operand} {kd : IntKind} {a b : Int} (hd : isDiv op = some dv) (hb : (b == 0) = false) :
    Pur P (do eqGuard op t x y (.int kd a) (.int kd b); binOp op t (.int kd a) (.int kd b)) (.int kd (cond dv (kd.wrap (a.tdiv b)) (a.tmod b))) := by
  have hb' : ¬ b = 0 := by simpa using hb
  cases op <;> try (cases hd)
  · refine Pur.bind (v := ()) (.pure _) ?_
    have e : binOp .quo t (.int kd a) (.int kd b) = (pure (.int kd (kd.wrap (a.tdiv b))) : Sem Value) := by
      simp [binOp, Op.intDiv, hb']
    rw [e]
    exact .pure _
  · refine Pur.bind (v := ()) (.pure _) ?_
    have e : binOp .rem t (.int kd a) (.int kd b) = (pure (.int kd (a.tmod b)) : Sem Value) := by
      simp [binOp, Op.intDiv, hb']
    rw [e]
    exact .pure _
theorem pur_shOp {op : BinOp} {left : Bool} {t : TypeId} {x y : Operand} {kd kd' : IntKind} {a b : Int} (hd : isShl op = some left) (hb : decide (b < 0) = false) :
    Pur P (do eqGuard op t x y (.int kd a) (.int kd' b); binOp op t (.int kd a) (.int kd' b)) (.int kd (cond left (kd.wrap (a * 2 ^ min b.toNat kd.bits)) (a.fdiv (2 ^ min b.toNat kd.bits)))) := by
  have hb' : ¬ b < 0 := of_decide_eq_false hb
  cases op <;> try (cases hd)
  · refine Pur.bind (v := ()) (.pure _) ?_
    have e : binOp .shl t (.int kd a) (.int kd' b) = (pure (.int kd (kd.wrap (a * 2 ^ min b.toNat kd.bits))) : Sem Value) := by
      simp only [binOp, Op.shift, if_neg hb']
    rw [e]
    exact .pure _
  · refine Pur.bind (v := ()) (.pure _) ?_
    have e : binOp .shr t (.int kd a) (.int kd' b) = (pure (.int kd (a.fdiv (2 ^ min b.toNat kd.bits))) : Sem Value) := by
      simp only [binOp, Op.shift, if_neg hb']
    rw [e]
    exact .pure _
theorem index_same {call : CallV} {o : Oper} {s : St} {op' : Op} {kd : IntKind} {z : Int} {ix : Operand} {r : Value × HS}
    (hop : (∃ t x ix', o.op = .indexAddr t x ix' ∧ (ix', op') = (ix, .indexAddr t x (.const (.int kd z)))) ∨ (∃ t x ix', o.op = .index t x ix' ∧ (ix', op') = (ix, .index t x (.const (.int kd z)))))
    (hz : evalV s.tmps ix = .int kd z) (ho : o.op.operands.toList.all (okOperand call.g) = true) (h : operV P call { o with op := op' } s = some r) : operV P call o s = some r := by
  obtain ⟨dst, op, type, pos, after, guard⟩ := o
  rcases hop with ⟨t, x, ix', h1, h2⟩ | ⟨t, x, ix', h1, h2⟩
  all_goals
    injection h2 with h2 h3
    subst h2; subst h3
    simp only at h1
    subst h1
    unfold operV at h ⊢
    split at h
    · cases h
    · rename_i ho2
      simp only [ho]
      unfold fastV rowV at h ⊢
      simp only at h ⊢
      unfold slowV at h ⊢
      simp only [ho2] at h
      simp only [ho]
      simp only [okOp] at h ⊢
      unfold execOp at h ⊢
      simp only at h ⊢
      rw [hz]
      exact h
theorem operO_of {callo : CallO α} {call : Nat → CallV} (hc : CallOk callo call) {o : Oper} {s : St} {q : Qs} {k : Value → HS → TV → Qs → Option α} {r : α} (h : operO P callo o s q k = some r) :
    ∃ v hs tm q', k v hs tm q' = some r ∧ q.log <:+ q'.log ∧ (allP q'.log → (Evt fun n => operV P (call n) o s = some (v, hs)) ∧ tm = s.tmps) := by
  have plain : ∀ (q' : Qs) (o' : Oper), quietO P (evalV s.tmps) o'.op = true → q.log <:+ q'.log → (allP q'.log → ∀ n v hs, operV P (call n) o' s = some (v, hs) → operV P (call n) o s = some (v, hs)) → plainO P callo.g o' s q' k = some r →
      ∃ v hs tm q', k v hs tm q' = some r ∧ q.log <:+ q'.log ∧ (allP q'.log → (Evt fun n => operV P (call n) o s = some (v, hs)) ∧ tm = s.tmps) := fun q' o' hq hs he hp => by
    obtain ⟨v, hs', h1, h2⟩ := plainO_of hp
    exact ⟨v, hs', s.tmps, q', h2, hs, fun ha => ⟨.all fun n => he ha n _ _ (noCall_oper hq (by rw [← hc.g n]; exact h1)), rfl⟩⟩
  unfold operO at h
  split at h
  · cases h
  · rename_i ho
    have ho' : ∀ n, o.op.operands.toList.all (okOperand (call n).g) = true := fun n => by rw [← hc.g n]; exact ho
    split at h
    · -- pick
      rename_i c a b hop
      split at h
      · rename_i x hx
        obtain ⟨b', q', h1, h2, h3⟩ := ask_of h
        cases b' with
        | true => refine ⟨_, _, _, q', h1, h2, fun ha => ?_⟩
                  have e := h3 ha
                  subst e
                  exact ⟨.all fun n => fast_oper (ho' n) (by unfold fastV; rw [hop]; simp only [hx]), setC_self hx⟩
        | false => refine ⟨_, _, _, q', h1, h2, fun ha => ?_⟩
                   have e := h3 ha
                   subst e
                   exact ⟨.all fun n => fast_oper (ho' n) (by unfold fastV; rw [hop]; simp only [hx]), setC_self hx⟩
      · cases h
    · -- a call
      rename_i f args _ hop
      split at h
      · rename_i g a b hf
        split at h
        · rename_i hcl
          obtain ⟨v, hs', q', h1, h2, h3⟩ := hc.fn _ _ _ _ _ _ h
          exact ⟨v, hs', _, q', h1, h2, fun ha => ⟨(h3 ha).mono fun n hn => fast_oper (ho' n) (by unfold fastV; rw [hop]; simp only [hf, hcl]; exact hn), rfl⟩⟩
        · rename_i hcl
          refine plain q o ?_ (List.suffix_refl _) (fun _ _ _ _ h => h) h
          rw [hop]; simp only [quietO, hf, hcl]; rfl
      · rename_i l a b hf
        obtain ⟨v, hs', q', h1, h2, h3⟩ := hc.rnd _ _ _ _ _ _ h
        refine ⟨v, hs', _, q', h1, h2, fun ha => ⟨(h3 ha).mono fun n hn => fast_slow (ho' n) ?_ (by unfold rowV; rw [hop]) ?_, rfl⟩⟩
        · unfold fastV; rw [hop]; simp only [hf]
        · unfold slowV; simp only [ho' n]; rw [hop]; simp only [hf]; exact hn
      · cases h
    · -- a method
      rename_i recv name args _ hop
      split at h
      · rename_i t v0 hf
        split at h
        · rename_i f hm
          split at h
          · rename_i hcl
            obtain ⟨v, hs', q', h1, h2, h3⟩ := hc.fn _ _ _ _ _ _ h
            refine ⟨v, hs', _, q', h1, h2, fun ha => ⟨(h3 ha).mono fun n hn => fast_slow (ho' n) ?_ (by unfold rowV; rw [hop]) ?_, rfl⟩⟩
            · unfold fastV; rw [hop]
            · unfold slowV; simp only [ho' n]; rw [hop]; simp only [hf, hm, hcl]; exact hn
          · cases h
        · cases h
      · cases h
    · -- two values
      rename_i op t x y bl hop
      split at h
      · rename_i neg hneg hagg
        split at h
        · rename_i b hb hgd
          refine ⟨_, _, _, q, h, List.suffix_refl _, fun _ => ⟨.all fun n => fast_slow (ho' n) ?_ (by unfold rowV; rw [hop]) ?_, rfl⟩⟩
          · unfold fastV; rw [hop]
            simp only
            generalize evalV s.tmps x = vx at hagg
            generalize evalV s.tmps y = vy at hagg
            cases vx <;> first | rfl | (cases vy <;> first | rfl | cases hagg)
          · have hx := pur_eqOp (op := op) (x := x) (y := y) hneg hagg hb hgd
            unfold slowV; simp only [ho' n]; rw [hop]; simp only
            have hbin : okBin op (evalV s.tmps x) (evalV s.tmps y) = true := by
              generalize evalV s.tmps x = vx at hagg
              generalize evalV s.tmps y = vy at hagg
              cases op <;> first | (cases hneg; done) | (cases vx <;> first | (cases hagg; done) | (cases vy <;> first | (cases hagg; done) | rfl))
            rw [hbin]
            simp only
            have he : runV P (execOp (evalV s.tmps) o) s.hs = some (.value (.bool (cond neg (!b) b)), s.hs) := by
              unfold execOp
              rw [hop]
              exact Pur.bind (f := fun v => (pure (.value v) : Sem Next)) hx (.pure _) s.hs
            rw [he]
        · cases h
      · split at h
        · rename_i dv kd a kd' b hd hx hy
          split at h
          · rename_i hk
            obtain ⟨b', q', h1, h2, h3⟩ := ask_of h
            cases b' with
            | true => cases h1
            | false =>
              have h1 : k (.int kd (cond dv (kd.wrap (a.tdiv b)) (a.tmod b))) s.hs s.tmps q' = some r := by cases dv <;> exact h1
              refine ⟨_, _, _, q', h1, h2, fun ha => ⟨.all fun n => fast_slow (ho' n) ?_ (by unfold rowV; rw [hop]) ?_, rfl⟩⟩
              · unfold fastV; rw [hop]
                simp only [hx, hy, hk]
                cases op <;> first | rfl | cases hd
              · have hkk : kd' = kd := by cases kd <;> cases kd' <;> first | rfl | cases hk
                subst hkk
                unfold slowV; simp only [ho' n]; rw [hop]; simp only
                have hbin : okBin op (evalV s.tmps x) (evalV s.tmps y) = true := by rw [hx, hy]; cases op <;> first | rfl | cases hd
                rw [hbin]
                simp only
                have he : runV P (execOp (evalV s.tmps) o) s.hs = some (.value (.int kd' (cond dv (kd'.wrap (a.tdiv b)) (a.tmod b))), s.hs) := by
                  unfold execOp
                  rw [hop]
                  simp only [hx, hy]
                  exact Pur.bind (f := fun v => (pure (.value v) : Sem Next)) (pur_divOp (x := x) (y := y) hd (h3 ha)) (.pure _) s.hs
                rw [he]
          · cases h
        · split at h
          · rename_i left kd a kd' b hd hx hy
            obtain ⟨b', q', h1, h2, h3⟩ := ask_of h
            cases b' with
            | true => cases h1
            | false =>
              have h1 : k (.int kd (cond left (kd.wrap (a * 2 ^ min b.toNat kd.bits)) (a.fdiv (2 ^ min b.toNat kd.bits)))) s.hs s.tmps q' = some r := by cases left <;> exact h1
              refine ⟨_, _, _, q', h1, h2, fun ha => ⟨.all fun n => fast_slow (ho' n) ?_ (by unfold rowV; rw [hop]) ?_, rfl⟩⟩
              · unfold fastV; rw [hop]
                simp only [hx, hy]
                cases op <;> first | (cases hd; done) | (cases sameKind kd kd' <;> rfl)
              · unfold slowV; simp only [ho' n]; rw [hop]; simp only
                have hbin : okBin op (evalV s.tmps x) (evalV s.tmps y) = true := by rw [hx, hy]; cases op <;> first | rfl | cases hd
                rw [hbin]
                simp only
                have he : runV P (execOp (evalV s.tmps) o) s.hs = some (.value (.int kd (cond left (kd.wrap (a * 2 ^ min b.toNat kd.bits)) (a.fdiv (2 ^ min b.toNat kd.bits)))), s.hs) := by
                  unfold execOp
                  rw [hop]
                  simp only [hx, hy]
                  exact Pur.bind (f := fun v => (pure (.value v) : Sem Next)) (pur_shOp (x := x) (y := y) hd (h3 ha)) (.pure _) s.hs
                rw [he]
          · exact plain q o (by rw [hop]; rfl) (List.suffix_refl _) (fun _ _ _ _ h => h) h
    · rename_i t x ix hop
      split at h
      · rename_i kd z hz
        obtain ⟨z', q', h1, h2, h3⟩ := askI_of h
        refine plain q' _ (by rfl) h2 ?_ h1
        intro ha n v hs hh
        have := h3 ha
        subst this
        exact index_same (by first | exact .inl ⟨_, _, _, hop, rfl⟩ | exact .inr ⟨_, _, _, hop, rfl⟩) hz (ho' n) hh
      · exact plain q o (by rw [hop]; rfl) (List.suffix_refl _) (fun _ _ _ _ h => h) h
    · rename_i t x ix hop
      split at h
      · rename_i kd z hz
        obtain ⟨z', q', h1, h2, h3⟩ := askI_of h
        refine plain q' _ (by rfl) h2 ?_ h1
        intro ha n v hs hh
        have := h3 ha
        subst this
        exact index_same (by first | exact .inl ⟨_, _, _, hop, rfl⟩ | exact .inr ⟨_, _, _, hop, rfl⟩) hz (ho' n) hh
      · exact plain q o (by rw [hop]; rfl) (List.suffix_refl _) (fun _ _ _ _ h => h) h
    · rename_i h1 h2 h3 h4 h5 h6
      refine plain q o ?_ (List.suffix_refl _) (fun _ _ _ _ h => h) h
      generalize o.op = op at h1 h2 h3 h4 h5 h6
      cases op
      case call c =>
        obtain ⟨callee, args, argTypes⟩ := c
        cases callee
        case value f => exact (h2 _ _ _ rfl).elim
        case invoke r n => exact (h3 _ _ _ _ rfl).elim
        all_goals rfl
      all_goals rfl
end
end Go.Proofs.Ytpaojoahbmlolaa
