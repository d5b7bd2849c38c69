/- THE LAW of the run with open numbers. -/
import Derived.Test.YtpaojoahbmlolaaEvW1
namespace Go.Proofs.Ytpaojoahbmlolaa
open Go Go.RowKit
set_option linter.unusedSectionVars false
set_option linter.unusedVariables false
set_option linter.unusedSimpArgs false
set_option linter.unnecessarySimpa false
theorem wrapU64 (x : Int) : IntKind.u64.wrap x = x % 18446744073709551616 := by
  simp [IntKind.wrap, IntKind.bits, IntKind.signed]
section
variable {P : Program} [NoCx P] {α : Type}

theorem wantO_of {ops : Array Oper} {o : Oper} {s : St} {q : Qs} {k : Bool → St → Qs → Option α} {r : α} (h : wantO ops o s q k = some r) :
    ∃ b s' q', k b s' q' = some r ∧ q.log <:+ q'.log ∧ (allP q'.log → Region.wanted o (yieldedT ops s.tmps) = b ∧ s' = s) := by
  unfold wantO at h
  unfold Region.wanted
  split at h
  · rename_i hg
    exact ⟨_, _, _, h, List.suffix_refl _, fun _ => ⟨by rw [hg], rfl⟩⟩
  · rename_i j want hg
    rw [hg]
    simp only
    unfold yieldedT
    split at h
    · rename_i oj hj
      rw [hj]
      split at h
      · rename_i d hd
        simp only [hd]
        split at h
        · rename_i b hb
          simp only [hb]
          obtain ⟨b', q', h1, h2, h3⟩ := ask_of h
          cases b' with
          | true => exact ⟨_, _, _, h1, h2, fun ha => by have e := h3 ha; subst e; exact ⟨by cases want <;> rfl, settle_self hb⟩⟩
          | false => exact ⟨_, _, _, h1, h2, fun ha => by have e := h3 ha; subst e; exact ⟨by cases want <;> rfl, settle_self hb⟩⟩
        · rename_i hb
          refine ⟨_, _, _, h, List.suffix_refl _, fun _ => ⟨?_, rfl⟩⟩
          split
          · rename_i b hb2; exact absurd hb2 (hb b)
          · rfl
      · rename_i hd
        simp only [hd]
        exact ⟨_, _, _, h, List.suffix_refl _, fun _ => ⟨rfl, rfl⟩⟩
    · rename_i hj
      rw [hj]
      exact ⟨_, _, _, h, List.suffix_refl _, fun _ => ⟨rfl, rfl⟩⟩

theorem stepO_of {callo : CallO α} {call : Nat → CallV} (hc : CallOk callo call) {ops : Array Oper} {i : Nat} {s : St} {q : Qs} {k : St → Qs → Option α} {r : α} (h : stepO P callo ops i s q k = some r) :
    ∃ s' q', k s' q' = some r ∧ q.log <:+ q'.log ∧ (allP q'.log → Evt fun n => stepV P (call n) ops i s = some s') := by
  unfold stepO at h
  unfold stepV
  split at h
  · cases h
  · rename_i o ho
    rw [ho]
    simp only
    obtain ⟨b, s1, q1, h1, h2, h3⟩ := wantO_of h
    cases b with
    | true =>
      obtain ⟨v, hs, tm, q2, g1, g2, g3⟩ := operQ_of hc h1
      refine ⟨_, _, g1, h2.trans g2, fun ha => ?_⟩
      obtain ⟨e1, e2⟩ := h3 (allP_suffix g2 ha)
      obtain ⟨e3, e4⟩ := g3 ha
      subst e2; subst e4
      rw [e1]
      exact e3.mono fun n e3 => by simp only [e3]
    | false =>
      refine ⟨_, _, h1, h2, fun ha => .all fun n => ?_⟩
      obtain ⟨e1, e2⟩ := h3 ha
      subst e2
      rw [e1]

theorem stepDO_of {callo : CallO α} {call : Nat → CallV} (hc : CallOk callo call) {ro : Option Nat} {ops : Array Oper} {i : Nat} {s : St} {q : Qs} {k : St → Qs → Option α} {r : α} (h : stepDO P callo ro ops i s q k = some r) :
    ∃ s' q', k s' q' = some r ∧ q.log <:+ q'.log ∧ (allP q'.log → Evt fun n => stepD P (call n) ro ops i s = some s') := by
  unfold stepDO at h
  unfold stepD
  split at h
  · cases h
  · rename_i o ho
    rw [ho]
    simp only
    split at h
    · rename_i hd
      obtain ⟨s', q', h1, h2, h3⟩ := stepO_of hc h
      exact ⟨s', q', h1, h2, fun ha => (h3 ha).mono fun n hn => by rw [hd]; exact hn⟩
    · rename_i hd
      rw [hd]
      cases ro with
      | some x => cases h
      | none =>
        obtain ⟨b, s1, q1, h1, h2, h3⟩ := wantO_of h
        cases b with
        | true =>
          simp only at h1
          split at h1
          · rename_i s' hs
            refine ⟨s', q1, h1, h2, fun ha => .all fun n => ?_⟩
            obtain ⟨e1, e2⟩ := h3 ha
            subst e2
            rw [e1]
            simp only
            rw [← hs]
            unfold deferV
            rw [show (noCall callo.g).g = (call n).g from hc.g n]
          · cases h1
        | false => cases h1

theorem runOpsO_of {callo : CallO α} {call : Nat → CallV} (hc : CallOk callo call) {ro : Option Nat} {ops : Array Oper} : ∀ (l : List Nat) {s : St} {q : Qs} {k : St → Qs → Option α} {r : α}, runOpsO P callo ro ops l s q k = some r →
    ∃ s' q', k s' q' = some r ∧ q.log <:+ q'.log ∧ (allP q'.log → Evt fun n => runOps P (call n) ro ops l s = some s')
  | [], s, q, k, r, h => ⟨s, q, h, List.suffix_refl _, fun _ => .all fun _ => rfl⟩
  | i :: l, s, q, k, r, h => by
    unfold runOpsO at h
    split at h
    · cases h
    rename_i hoj
    obtain ⟨s1, q1, h1, h2, h3⟩ := stepDO_of hc h
    obtain ⟨s2, q2, g1, g2, g3⟩ := runOpsO_of hc l h1
    refine ⟨s2, q2, g1, h2.trans g2, fun ha => ?_⟩
    refine (h3 (allP_suffix g2 ha)).mono2 (g3 ha) fun n e1 e2 => ?_
    unfold runOps
    rw [hoj, e1]
    exact e2
theorem runMarksO_of {callo : CallO α} {call : Nat → CallV} (hc : CallOk callo call) {ops : Array Oper} : ∀ (l : List Nat) {s : St} {m : List (Nat × Nat)} {q : Qs} {k : St → List (Nat × Nat) → Qs → Option α} {r : α}, runMarksO P callo ops l s m q k = some r →
    ∃ s' m' q', k s' m' q' = some r ∧ q.log <:+ q'.log ∧ (allP q'.log → Evt fun n => runMarks P (call n) ops l s m = some (s', m'))
  | [], s, m, q, k, r, h => ⟨s, m, q, h, List.suffix_refl _, fun _ => .all fun _ => rfl⟩
  | i :: l, s, m, q, k, r, h => by
    unfold runMarksO at h
    split at h
    · cases h
    rename_i hoj
    obtain ⟨s1, q1, h1, h2, h3⟩ := stepO_of hc h
    obtain ⟨s2, m2, q2, g1, g2, g3⟩ := runMarksO_of hc l h1
    refine ⟨s2, m2, q2, g1, h2.trans g2, fun ha => ?_⟩
    refine (h3 (allP_suffix g2 ha)).mono2 (g3 ha) fun n e1 e2 => ?_
    unfold runMarks
    rw [hoj, e1]
    exact e2
theorem drawO_of {callo : CallO α} {call : Nat → CallV} (hc : CallOk callo call) {ops : Array Oper} {s : St} {q : Qs} {k : St → Qs → Option α} {r : α} (h : drawO P callo ops s q k = some r) :
    ∃ s' q', k s' q' = some r ∧ q.log <:+ q'.log ∧ (allP q'.log → Evt fun n => drawV P (call n) ops s = some s') := by
  unfold drawO at h
  unfold drawV
  split at h
  · rename_i anc ha
    rw [ha]
    simp only
    obtain ⟨s1, m1, q1, h1, h2, h3⟩ := runMarksO_of hc _ h
    split at h1
    · rename_i hd
      refine ⟨_, _, h1, h2, fun ha => (h3 ha).mono fun n hn => ?_⟩
      rw [hn]
      simp only [hd]
    · cases h1
  · cases h

/-- code, run so and so -/
def EvOk (evo : EvO α) (ev : Nat → EvV) : Prop := ∀ ro c s q k r, evo ro c s q k = some r → ∃ x s' q', k x s' q' = some r ∧ q.log <:+ q'.log ∧ (allP q'.log → Evt fun n => ev n ro c s = some (x, s'))
theorem endO_of {fn : Func} {tmps : TV} {hs : HS} {q : Qs} {k : Value → HS → Qs → Option α} {r : α} (h : endO P fn tmps hs q k = some r) : ∃ v hs', resultsV P fn tmps hs = some (v, hs') ∧ k v hs' q = some r := by
  unfold endO at h
  split at h
  · rename_i v hs' hv
    exact ⟨v, hs', hv, h⟩
  · cases h
theorem lateO_of {evo : EvO α} {ev : Nat → EvV} (he : EvOk evo ev) (f : FuncId) : FnOk (lateO P evo f) (fun n => lateWith P (ev n) f) := by
  intro args hs q k r h
  unfold lateO at h
  unfold lateWith
  split at h
  · rename_i fn hfn
    rw [hfn]; simp only
    split at h
    · rename_i c hb
      rw [hb]; simp only
      split at h
      · rename_i hlt
        rw [hlt]; simp only
        obtain ⟨x, s1, q1, h1, h2, h3⟩ := he _ _ _ _ _ _ h
        cases x with
        | normal =>
          simp only at h1
          split at h1
          · rename_i hd
            obtain ⟨v, hs', g1, g2⟩ := endO_of h1
            refine ⟨v, hs', q1, g2, h2, fun ha => (h3 ha).mono fun n hn => ?_⟩
            rw [hn]; simp only [hd]; exact g1
          · cases h1
        | ret =>
          simp only at h1
          split at h1
          · rename_i hd
            obtain ⟨v, hs', g1, g2⟩ := endO_of h1
            refine ⟨v, hs', q1, g2, h2, fun ha => (h3 ha).mono fun n hn => ?_⟩
            rw [hn]; simp only [hd]; exact g1
          · cases h1
        | exit id => cases h1
      · cases h
    · cases h
  · cases h
theorem leaveO_of {evo : EvO α} {ev : Nat → EvV} (he : EvOk evo ev) : ∀ (ds : List Deferred) {hs : HS} {q : Qs} {k : HS → Qs → Option α} {r : α}, leaveO P evo ds hs q k = some r →
    ∃ hs' q', k hs' q' = some r ∧ q.log <:+ q'.log ∧ (allP q'.log → Evt fun n => leaveV P (ev n) ds hs = some hs')
  | [], hs, q, k, r, h => ⟨hs, q, h, List.suffix_refl _, fun _ => .all fun _ => rfl⟩
  | d :: ds, hs, q, k, r, h => by
    unfold leaveO at h
    unfold leaveV
    split at h
    · rename_i rr ht
      rw [ht]; simp only
      split at h
      · rename_i hs' hr
        rw [hr]; simp only
        exact leaveO_of he ds h
      · cases h
    · rename_i g cap ht
      rw [ht]; simp only
      split at h
      · rename_i hcl
        rw [hcl]; simp only
        obtain ⟨v, hs1, q1, h1, h2, h3⟩ := lateO_of he g _ _ _ _ _ h
        obtain ⟨hs2, q2, g1, g2, g3⟩ := leaveO_of he ds h1
        refine ⟨hs2, q2, g1, h2.trans g2, fun ha => (h3 (allP_suffix g2 ha)).mono2 (g3 ha) fun n e1 e2 => ?_⟩
        have e3 : lateWith P (ev n) g (d.args ++ cap) hs = some (v, hs1) := e1
        rw [e3]
        exact e2
      · cases h
    · cases h
theorem callO_of {evo : EvO α} {ev : Nat → EvV} (he : EvOk evo ev) (f : FuncId) : FnOk (callO P evo f) (fun n => callWith P (ev n) f) := by
  intro args hs q k r h
  unfold callO at h
  unfold callWith
  split at h
  · rename_i fn hfn
    rw [hfn]; simp only
    split at h
    · rename_i c hb
      rw [hb]; simp only
      split at h
      · rename_i hlt
        rw [hlt]; simp only
        obtain ⟨x, s1, q1, h1, h2, h3⟩ := he _ _ _ _ _ _ h
        cases x with
        | normal =>
          obtain ⟨hs2, q2, f1, f2, f3⟩ := leaveO_of he _ h1
          obtain ⟨v, hs', g1, g2⟩ := endO_of f1
          refine ⟨v, hs', q2, g2, h2.trans f2, fun ha => (h3 (allP_suffix f2 ha)).mono2 (f3 ha) fun n e1 e2 => ?_⟩
          rw [e1]; simp only [e2]; exact g1
        | ret =>
          obtain ⟨hs2, q2, f1, f2, f3⟩ := leaveO_of he _ h1
          obtain ⟨v, hs', g1, g2⟩ := endO_of f1
          refine ⟨v, hs', q2, g2, h2.trans f2, fun ha => (h3 (allP_suffix f2 ha)).mono2 (f3 ha) fun n e1 e2 => ?_⟩
          rw [e1]; simp only [e2]; exact g1
        | exit id => cases h1
      · cases h
    · cases h
  · cases h
theorem markO_of {l : Nat} {ok : LoopState → Bool} {st : LoopState} {j : Option (Option Code)} {hs : HS} {k : HS → Option α} {r : α} (h : markO l ok st j hs k = some r) : ∃ hs', markLoop l ok st j hs = some hs' ∧ k hs' = some r := by
  unfold markO at h
  split at h
  · rename_i hs' hm
    exact ⟨hs', hm, h⟩
  · cases h
theorem roundO_of {evo : EvO α} {ev : Nat → EvV} (he : EvOk evo ev) (l : Nat) : FnOk (roundO P evo l) (fun n => roundWith P (ev n) l) := by
  intro args hs q k r h
  unfold roundO at h
  unfold roundWith
  dsimp only
  split at h
  · rename_i st pe t ps asg bd d hl
    rw [hl]; simp only
    split at h
    · cases h
    · rename_i hsz
      rw [hsz]; simp only
      obtain ⟨x, s1, q1, h1, h2, h3⟩ := he _ _ _ _ _ _ h
      cases x with
      | normal =>
        obtain ⟨hs2, m1, m2⟩ := markO_of h1
        obtain ⟨x2, s3, q3, g1, g2, g3⟩ := he _ _ _ _ _ _ m2
        cases x2 with
        | normal =>
          obtain ⟨hs4, n1, n2⟩ := markO_of g1
          refine ⟨_, _, _, n2, h2.trans g2, fun ha => (h3 (allP_suffix g2 ha)).mono2 (g3 ha) fun n e1 e2 => ?_⟩
          rw [e1]; simp only [m1, e2, n1]
        | exit id =>
          obtain ⟨hs4, n1, n2⟩ := markO_of g1
          refine ⟨_, _, _, n2, h2.trans g2, fun ha => (h3 (allP_suffix g2 ha)).mono2 (g3 ha) fun n e1 e2 => ?_⟩
          rw [e1]; simp only [m1, e2, n1]
        | ret =>
          obtain ⟨hs4, n1, n2⟩ := markO_of g1
          refine ⟨_, _, _, n2, h2.trans g2, fun ha => (h3 (allP_suffix g2 ha)).mono2 (g3 ha) fun n e1 e2 => ?_⟩
          rw [e1]; simp only [m1, e2, n1]
      | exit id => cases h1
      | ret => cases h1
  · cases h
theorem tabD_of {T : GTab} {callo : CallO α} {call : Nat → CallV} (hc : CallOk callo call) (f : FuncId) : FnOk (tabD T callo f) (fun n => callD T.lookD (call n).fn f) := by
  intro args hs q k r h
  unfold tabD at h
  split at h
  · rename_i hk
    have hno : ∀ n, callD T.lookD (call n).fn f args hs = (call n).fn f args hs := fun n => by
      unfold callD
      split
      · rename_i ds s1 _
        rw [T.outD f ds hk]
      · rfl
    obtain ⟨v, hs', q', h1, h2, h3⟩ := hc.fn f args hs q k r h
    exact ⟨v, hs', q', h1, h2, fun ha => (h3 ha).mono fun n e => by show callD T.lookD (call n).fn f args hs = _; rw [hno n]; exact e⟩
  · split at h
    · rename_i ds hs1 hrd
      obtain ⟨v, bs, q', h1, h2, h3⟩ := askD_of hc.st h
      try dsimp only at h1
      split at h1
      · rename_i hs2 v' hp hv
        refine ⟨v', hs2, q', h1, h2, fun ha => .all fun n => ?_⟩
        unfold callD
        simp only [hrd, h3 ha, hp, hv]
      · cases h1
    · cases h
theorem tabO_of {T : GTab} {callo : CallO α} {call : Nat → CallV} (hc : CallOk callo call) : CallOk (tabO T callo) (fun n => tabC T (call n)) := by
  refine ⟨hc.st, hc.g, fun f args hs q k r h => ?_, hc.rnd⟩
  have hd := tabD_of (T := T) hc f
  unfold tabO at h
  unfold tabC callT callF
  simp only at h ⊢
  split at h
  · rename_i b v hv
    obtain ⟨b', q', h1, h2, h3⟩ := ask_of h
    cases b' with
    | true =>
      refine ⟨v, hs, q', h1, h2, fun ha => .all fun n => ?_⟩
      have e := h3 ha
      subst e
      have hv' : T.tab f args.toList = some v := by unfold GTab.tab; rw [hv]
      rw [hv']
    | false =>
      obtain ⟨v1, hs1, q1, g1, g2, g3⟩ := hd args hs q' k r h1
      refine ⟨v1, hs1, q1, g1, h2.trans g2, fun ha => ?_⟩
      have e := h3 (allP_suffix g2 ha)
      subst e
      have hv' : T.tab f args.toList = none := by unfold GTab.tab; rw [hv]
      rw [hv']
      exact g3 ha
  · rename_i hv
    have hv' : T.tab f args.toList = none := by unfold GTab.tab; rw [hv]
    rw [hv']
    exact hd args hs q k r h
theorem evO_of {G : Nat} {T : GTab} {hk : Option Nat → Code → St → Qs → Option α} {st : Stop → Option α} (hhk : ∀ ro a s q, hk ro a s q = none) (hst : ∀ x, st x = none) : ∀ (f : Nat), EvOk (α := α) (evO P G T hk st f) (fun n => evC P G T.hook n)
  | 0 => fun ro c s q k r h => by unfold evO at h; cases h
  | f + 1 => fun ro c s q k r h => by
    have ih := evO_of (G := G) (T := T) hhk hst f
    have hcall : CallOk (tabO T ⟨st, G, callO P (evO P G T hk st f), roundO P (evO P G T hk st f)⟩) (fun n => tabC T ⟨G, callWith P (evC P G T.hook n), roundWith P (evC P G T.hook n)⟩) :=
      tabO_of ⟨hst, fun n => rfl, fun g => callO_of ih g, fun l => roundO_of (P := P) ih l⟩
    unfold evO at h
    split at h
    · exact ⟨_, _, _, h, List.suffix_refl _, fun _ => (Evt.all fun _ => trivial).succ fun n _ => rfl⟩
    · exact ⟨_, _, _, h, List.suffix_refl _, fun _ => (Evt.all fun _ => trivial).succ fun n _ => rfl⟩
    · obtain ⟨s', q', h1, h2, h3⟩ := runOpsO_of hcall _ h
      exact ⟨_, _, _, h1, h2, fun ha => (h3 ha).succ fun n e1 => by dsimp only at e1 ⊢; unfold evC; simp only [hook_call, hook_loop, e1]⟩
    · obtain ⟨s', q', h1, h2, h3⟩ := drawO_of hcall h
      exact ⟨_, _, _, h1, h2, fun ha => (h3 ha).succ fun n e1 => by dsimp only at e1 ⊢; unfold evC; simp only [hook_call, hook_loop, e1]⟩
    · obtain ⟨x, s', q', h1, h2, h3⟩ := ih _ _ _ _ _ _ h
      cases x with
      | normal =>
        obtain ⟨x2, s2, q2, g1, g2, g3⟩ := ih _ _ _ _ _ _ h1
        exact ⟨_, _, _, g1, h2.trans g2, fun ha => ((h3 (allP_suffix g2 ha)).and (g3 ha)).succ fun n e => by dsimp only at e ⊢; unfold evC; simp only [hook_call, hook_loop, e.1, e.2]⟩
      | exit i => exact ⟨_, _, _, h1, h2, fun ha => (h3 ha).succ fun n e1 => by dsimp only at e1 ⊢; unfold evC; simp only [hook_call, hook_loop, e1]⟩
      | ret => exact ⟨_, _, _, h1, h2, fun ha => (h3 ha).succ fun n e1 => by dsimp only at e1 ⊢; unfold evC; simp only [hook_call, hook_loop, e1]⟩
    · split at h
      · rename_i x hx
        obtain ⟨b', q', h1, h2, h3⟩ := ask_of h
        cases b' with
        | true =>
          obtain ⟨x2, s2, q2, g1, g2, g3⟩ := ih _ _ _ _ _ _ h1
          refine ⟨_, _, _, g1, h2.trans g2, fun ha => ?_⟩
          have e := h3 (allP_suffix g2 ha)
          subst e
          have := g3 ha
          rw [setC_self hx] at this
          exact this.succ fun n e1 => by dsimp only; unfold evC; simp only [hx]; exact e1
        | false =>
          obtain ⟨x2, s2, q2, g1, g2, g3⟩ := ih _ _ _ _ _ _ h1
          refine ⟨_, _, _, g1, h2.trans g2, fun ha => ?_⟩
          have e := h3 (allP_suffix g2 ha)
          subst e
          have := g3 ha
          rw [setC_self hx] at this
          exact this.succ fun n e1 => by dsimp only; unfold evC; simp only [hx]; exact e1
      · cases h
    · obtain ⟨x, s', q', h1, h2, h3⟩ := ih _ _ _ _ _ _ h
      cases x with
      | normal => exact ⟨_, _, _, h1, h2, fun ha => (h3 ha).succ fun n e1 => by dsimp only at e1 ⊢; unfold evC; simp only [hook_call, hook_loop, e1]⟩
      | exit i =>
        simp only at h1
        split at h1
        · rename_i hi
          exact ⟨_, _, _, h1, h2, fun ha => (h3 ha).succ fun n e1 => by dsimp only at e1 ⊢; unfold evC; simp only [hook_call, hook_loop, e1, hi]⟩
        · rename_i hi
          exact ⟨_, _, _, h1, h2, fun ha => (h3 ha).succ fun n e1 => by dsimp only at e1 ⊢; unfold evC; simp only [hook_call, hook_loop, e1, hi]⟩
      | ret => exact ⟨_, _, _, h1, h2, fun ha => (h3 ha).succ fun n e1 => by dsimp only at e1 ⊢; unfold evC; simp only [hook_call, hook_loop, e1]⟩
    · rename_i a
      have key : ∀ {q : Qs} {go : Qs → Option α}, (∀ q, go q = some r → ∃ x s' q', k x s' q' = some r ∧ q.log <:+ q'.log ∧ (allP q'.log → Evt fun n => evC P G T.hook n ro (.loop a) s = some (x, s'))) → loopO P G T hk ro a s q k go = some r →
          ∃ x s' q', k x s' q' = some r ∧ q.log <:+ q'.log ∧ (allP q'.log → Evt fun n => evC P G T.hook n ro (.loop a) s = some (x, s')) := fun {q} {go} hgo h => by
        unfold loopO at h
        split at h
        · rw [force_eq] at h; exact hgo ⟨Nat.add q.n 1, [], q.log⟩ h
        · split at h
          · split at h
            · rw [force_eq] at h
              exact ⟨_, _, _, h, List.suffix_cons _ _, fun k => k.1⟩
            · rw [hhk] at h; cases h
            · cases h
          · rw [force_eq] at h; exact hgo ⟨Nat.add q.n 1, _, q.log⟩ h
      split at h
      · rename_i hkey
        have hout : ∀ _ : Nat, T.loop ro a s = none := fun _ => T.out ro a s hkey
        refine key (fun q h => ?_) h
        obtain ⟨x, s', q', h1, h2, h3⟩ := ih _ _ _ _ _ _ h
        cases x with
        | normal =>
          obtain ⟨x2, s2, q2, g1, g2, g3⟩ := ih _ _ _ _ _ _ h1
          exact ⟨_, _, _, g1, h2.trans g2, fun ha => ((h3 (allP_suffix g2 ha)).and (g3 ha)).succ fun n e => by dsimp only at e ⊢; unfold evC; simp only [hook_call, hook_loop, hout n, e.1, e.2]⟩
        | exit i => exact ⟨_, _, _, h1, h2, fun ha => (h3 ha).succ fun n e1 => by dsimp only at e1 ⊢; unfold evC; simp only [hook_call, hook_loop, hout n, e1]⟩
        | ret => exact ⟨_, _, _, h1, h2, fun ha => (h3 ha).succ fun n e1 => by dsimp only at e1 ⊢; unfold evC; simp only [hook_call, hook_loop, hout n, e1]⟩
      · exact key (fun q h => by cases h) h
    · exact ⟨_, _, _, h, List.suffix_refl _, fun _ => (Evt.all fun _ => trivial).succ fun n _ => rfl⟩
    · obtain ⟨x, s', q', h1, h2, h3⟩ := ih _ _ _ _ _ _ h
      exact ⟨_, _, _, h1, h2, fun ha => (h3 ha).succ fun n e1 => by dsimp only; unfold evC; exact e1⟩
    · exact ⟨_, _, _, h, List.suffix_refl _, fun _ => (Evt.all fun _ => trivial).succ fun n _ => rfl⟩
    · rename_i g ps asg bd
      split at h
      · cases h
      · rename_i hok
        split at h
        · rename_i gf a b hg
          split at h
          · cases h
          · rename_i hcl
            split at h
            · rename_i l mk hs1 hen
              obtain ⟨v, hs2, q2, h1, h2, h3⟩ := hcall.fn _ _ _ _ _ _ h
              split at h1
              · rename_i x hx
                obtain ⟨hs3, m1, m2⟩ := markO_of h1
                refine ⟨_, _, _, m2, h2, fun ha => (h3 ha).succ fun n e1 => ?_⟩
                dsimp only
                unfold evC
                simp only [hook_call, hok, hg, hcl, hen]
                simp only at e1
                simp only [e1, hx, m1]
              · cases h1
            · cases h
        · cases h
    · cases h

/-- the calls and loops of a table are so -/
def GOk (P : Program) (L : Vars) (T : GTab) : Prop := TabOk P L T.tab ∧ (∀ B : Bd, B.L = L → LoopsOk P B T.loop) ∧ TabDOk P L T.lookD
theorem tabC_sound {B : Bd} {T : GTab} (hT : GOk P B.L T) {call : CallV} (hc : CallSound P B call) : CallSound P B (tabC T call) := tab_sound hT.1 (callD_sound hT.2.2 hc)
/-- THE LAW: a call with open arguments, its questions answered, if the answers hold. -/
theorem open_res (hmix : P.follows .mixedOrders = true) {L : Vars} {T : GTab} (hT : GOk P L T) {fuel : Nat} {f : FuncId} {args : List Value} {ans : List (Nat × Ans)} {v : Value} {log : List Prop}
    (h : outO P L T fuel f args ans = some (v, log)) (hl : allP log) (h2 : (args.all (flatV 20) && flatV 20 v && flatL L) = true) : Known P L f args v := by
  simp only [Bool.and_eq_true] at h2
  obtain ⟨⟨h2, h3⟩, h4⟩ := h2
  unfold outO at h
  split at h
  · rename_i hs hst0
    obtain ⟨v1, hs1, q1, g1, g2, g3⟩ := callO_of (evO_of (fun _ _ _ _ => rfl) (fun _ => rfl) fuel) f _ _ _ _ _ h
    injection g1 with g1; injection g1 with e1 e2
    subst e1; subst e2
    obtain ⟨F, g4⟩ := g3 hl
    refine ⟨h2, h3, fun w hl2 => ?_⟩
    have hB : Ok ⟨w.heap.size, L, hl2.1⟩ w := ⟨Nat.le_refl _, hl2⟩
    obtain ⟨hst, hk⟩ := call_sound (B := ⟨w.heap.size, L, hl2.1⟩) (ev_both (B := ⟨w.heap.size, L, hl2.1⟩) hmix (W := T.hook) (fun call hc => tabC_sound hT hc) (hT.2.1 _ rfl) F).1 f args.toArray hs hs1 _ (g4 F (Nat.le_refl _))
    have ha : AR (ren0 L) args.toArray args.toArray := ⟨rfl, fun i v v' x y => by
      rw [x] at y; injection y with y; subst y
      exact flat_rel 20 _ (List.all_eq_true.1 h2 _ (by simpa using Array.mem_of_getElem? x))⟩
    refine (hk (ren0 L) args.toArray _ w ha (start_match hst0 h4 hl2) (start_sim hst0) ⟨fun i _ => rfl, fun i e _ => (start_sim hst0).new i e⟩ hB).mono ?_
    rintro e w' ⟨σ', v', rfl, _, hv, _, hb⟩
    exact ⟨by rw [flat_eq 20 _ _ h3 hv], hb⟩
  · cases h
/-- THE LAW: a call with lists, its questions answered, if the answers hold. -/
theorem open_resD (hmix : P.follows .mixedOrders = true) {L : Vars} {T : GTab} (hT : GOk P L T) {fuel : Nat} {f : FuncId} {ds : List D} {es : List TypeId} {ans : List (Nat × Ans)} {v : Value} {bs : Outs} {log : List Prop}
    (h : outD P L T fuel f ds es ans = some (v, bs, log)) (hl : allP log) (h2 : flatL L = true) : KnownR P L f ds v bs := by
  unfold outD at h
  split at h
  · rename_i vs hs hst0
    obtain ⟨v1, hs1, q1, g1, g2, g3⟩ := callO_of (evO_of (fun _ _ _ _ => rfl) (fun _ => rfl) fuel) f _ _ _ _ _ h
    try dsimp only at g1
    split at g1
    · rename_i u p hpk
      injection g1 with g1; injection g1 with e1 e2; injection e2 with e2 e3
      subst e1; subst e2; subst e3
      obtain ⟨F, g4⟩ := g3 hl
      have hvs : VStep hs hs1 := (call_sound (B := ⟨L.length, L, Nat.le_refl _⟩) (ev_both (B := ⟨L.length, L, Nat.le_refl _⟩) hmix (W := T.hook) (fun call hc => tabC_sound hT hc) (hT.2.1 _ rfl) F).1 f vs.toArray hs hs1 _ (g4 F (Nat.le_refl _))).1
      refine known_pack hst0 h2 hpk hvs fun w hl2 σ args' H ha hm hs' hag hB => ?_
      exact (call_sound (B := ⟨w.heap.size, L, hl2.1⟩) (ev_both (B := ⟨w.heap.size, L, hl2.1⟩) hmix (W := T.hook) (fun call hc => tabC_sound hT hc) (hT.2.1 _ rfl) F).1 f vs.toArray hs hs1 _ (g4 F (Nat.le_refl _))).2 σ args' H w ha hm hs' hag hB
    · cases g1
  · cases h
/-! loops -/
theorem body_of {G : Nat} {T : GTab} {fuel : Nat} {h : Hd} {s s' : St} {x : VX} {ans : List (Nat × Ans)} {log : List Prop} (he : bodyO P G T fuel h s ans = some (x, s', log)) (hl : allP log) :
    Evt fun n => evC P G T.hook n h.ro h.a s = some (x, s') := by
  unfold bodyO at he
  obtain ⟨x1, s1, q1, g1, g2, g3⟩ := evO_of (fun _ _ _ _ => rfl) (fun _ => rfl) fuel _ _ _ _ _ _ he
  injection g1 with g1; injection g1 with e1 e2; injection e2 with e2 e3
  subst e1; subst e2; subst e3
  exact g3 hl
/-- one more round -/
theorem loop_next {G : Nat} {T : GTab} {fuel : Nat} {h : Hd} {s s1 s' : St} {x : VX} {ans : List (Nat × Ans)} {log : List Prop} (he : bodyO P G T fuel h s ans = some (.normal, s1, log)) (hl : allP log)
    (hr : LoopRes P G T h.ro h.a s1 x s') (hk : T.keys (loopKey h.a) = false := by first | rfl | kernel_rfl) : LoopRes P G T h.ro h.a s x s' :=
  ((body_of he hl).and hr).succ fun n e => by
    unfold evC
    simp only [hook_loop, T.out h.ro h.a s hk, e.1, e.2]
/-- the last round -/
theorem loop_exit {G : Nat} {T : GTab} {fuel : Nat} {h : Hd} {s s' : St} {i : Nat} {ans : List (Nat × Ans)} {log : List Prop} (he : bodyO P G T fuel h s ans = some (.exit i, s', log)) (hl : allP log) (hk : T.keys (loopKey h.a) = false := by first | rfl | kernel_rfl) : LoopRes P G T h.ro h.a s (.exit i) s' :=
  (body_of he hl).succ fun n e => by
    unfold evC
    simp only [hook_loop, T.out h.ro h.a s hk, e]
theorem loop_ret {G : Nat} {T : GTab} {fuel : Nat} {h : Hd} {s s' : St} {ans : List (Nat × Ans)} {log : List Prop} (he : bodyO P G T fuel h s ans = some (.ret, s', log)) (hl : allP log) (hk : T.keys (loopKey h.a) = false := by first | rfl | kernel_rfl) : LoopRes P G T h.ro h.a s .ret s' :=
  (body_of he hl).succ fun n e => by
    unfold evC
    simp only [hook_loop, T.out h.ro h.a s hk, e]
end
end Go.Proofs.Ytpaojoahbmlolaa
