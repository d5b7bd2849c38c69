/- Code, calls, loops over functions, run and real. -/
import Derived.Test.YtpaojoahbmlolaaEvQ
import Derived.RangeFuncNested
namespace Go.Proofs.Ytpaojoahbmlolaa
open Go Go.RowKit
set_option linter.unusedSectionVars false
set_option linter.unusedVariables false
set_option linter.unusedSimpArgs false
set_option linter.unnecessarySimpa false
section
variable {P : Program} [NoCx P] {B : Bd}

theorem wpIn_scope_straight {F : Fence} {n : Nat} {P : Program} {Q : Exit → Act → World → Prop} {a : Act} {w : World} {c : Code} (h : c.wpIn F n P (Exit.noGoto Q) a w) : (Code.scope c).wpIn F n P Q a w := by
  intro b k cs hro hb hr
  have h0 : (lone (b.atR a (.code (.scope c) :: k)) cs w).fenced P F := fenced_calm hb hr rfl
  have s1 : step P (lone (b.atR a (.code (.scope c) :: k)) cs w) = .next (lone (b.atR a (.code c :: .inScope c :: k)) cs w) := step_lone_go (by simp [stepG, stepG.exec, Frame.atR])
  have s2 : ∀ a w, step P (lone (b.atR a (.inScope c :: k)) cs w) = .next (lone (b.atR a k) cs w) := fun a w => step_lone_go (by simp [stepG, stepG.exec, Frame.atR])
  obtain ⟨e, a₁, w₁, hq, harr⟩ := h b (.inScope c :: k) cs hro hb hr
  have hx : ∀ id, exitTo id (.inScope c :: k) = exitTo id k := fun id => by simp [exitTo]
  cases e with
  | normal => exact ⟨.normal, a₁, w₁, hq, .head h0 s1 (StepsIn.trans harr (.one (fenced_calm hb hr rfl) (s2 _ _)))⟩
  | exit id => exact ⟨.exit id, a₁, w₁, hq, fun k' hk => .head h0 s1 (harr.1 k' (by rw [hx]; exact hk)), fun hr' hk => let ⟨k₁, h1, h2⟩ := harr.2 hr' (by rw [hx]; exact hk); ⟨k₁, h1, .head h0 s1 h2⟩⟩
  | goto l => exact hq.elim
  | ret => exact ⟨.ret, a₁, w₁, hq, fun hr' => let ⟨t, h1⟩ := harr.1 hr'; ⟨t, .head h0 s1 h1⟩, fun hr' => let ⟨t, h1⟩ := harr.2 hr'; ⟨t, .head h0 s1 h1⟩⟩
  | panic ch => exact ⟨_, a₁, w₁, hq, .of_steps (.one h0 s1) harr⟩
  | outgrown => exact ⟨_, a₁, w₁, hq, .of_steps (.one h0 s1) harr⟩

def VX.out : VX → Exit
  | .normal => .normal
  | .exit id => .exit id
  | .ret => .ret

def CodeSound (P : Program) (B : Bd) (ev : EvV) : Prop :=
  ∀ (ro : Option Nat) (c : Code) (s s' : St) (x : VX), ev ro c s = some (x, s') → VStep s.hs s'.hs ∧
    ∀ (σ : Ren) (ro' : Option Nat) (H : Nat → Option VO) (a : Act) (w : World) (Q : Exit → Act → World → Prop), RoR σ ro ro' → Match P B σ H w → Sim s.hs H → TR σ s.tmps a.tmps → DL σ s.defs a.defers → Agree s.hs s'.hs H → Ok B w →
      (∀ σ' a' w', Ren.le σ σ' → Match P B σ' (upd H s'.hs) w' → TR σ' s'.tmps a'.tmps → DL σ' s'.defs a'.defers → Below B.b w w' → Q x.out a' w') → c.wpIn (fz ro') 0 P Q a w

theorem start_rel {σ : Ren} {args args' : Array Value} {n : Nat} (hargs : AR σ args args') (hsz : Nat.max args.size n < 1000000) : TR σ (startT args n) (args' ++ Array.replicate (n - args'.size) undef) := by
  intro k
  unfold startT
  have hmk : ∀ j, (TV.mk 30 (Nat.max args.size n) undef).get j = if j < Nat.max args.size n then some undef else none := fun j => TV.get_mk 30 _ undef j (by omega)
  have hle1 : args.size ≤ Nat.max args.size n := Nat.le_max_left _ _
  have hle2 : n ≤ Nat.max args.size n := Nat.le_max_right _ _
  have hmx : Nat.max args.size n = args.size ∨ Nat.max args.size n = n := by
    show max args.size n = _ ∨ max args.size n = _
    omega
  rw [TV.get_puts _ _ _ _ (fun i hi => by rw [hmk, if_pos (by simp at hi; omega)]; simp), hmk, if_neg (Nat.not_lt_zero k)]
  simp only [Nat.zero_add, Array.length_toList, Nat.sub_zero, Array.getElem?_toList]
  rw [Array.getElem?_append, ← hargs.1]
  by_cases e : k < args.size
  · rw [if_pos e, if_pos e]
    have e1 : args[k]? = some args[k] := by simp [e]
    obtain ⟨v', e2, e3⟩ := hargs.get e1
    rw [e1, e2]; exact Or.inr e3
  · rw [if_neg e, if_neg e, Array.getElem?_replicate]
    by_cases e2 : k < Nat.max args.size n
    · rw [if_pos e2, if_pos (by omega)]; exact Or.inr undef_rel
    · rw [if_neg e2, if_neg (by omega)]; trivial

/-- a call that was put off -/
theorem late_sound {ev : EvV} (h : CodeSound P B ev) (f : FuncId) (args : Array Value) (s s' : HS) (v0 : Value) (hr : lateWith P ev f args s = some (v0, s')) : VStep s s' ∧
    ∀ (σ : Ren) (args' : Array Value) (H : Nat → Option VO) (w : World) (u : FrameMode), AR σ args args' → Match P B σ H w → Sim s H → Agree s s' H → Ok B w → CallsDIn Fence.wide 0 P f args' u w (fun e u' w' => u' = u ∧ After P B σ H w s' v0 e w') := by
  unfold lateWith at hr
  split at hr
  · rename_i fn hf
    split at hr
    · rename_i c hb
      split at hr
      rotate_left
      · cases hr
      rename_i hsz
      have hsz := blt_iff.1 hsz
      have both : ∀ (x : VX) (s1 : St), ev none c ⟨startT args fn.ntmps, s, []⟩ = some (x, s1) → (x = .normal ∨ x = .ret) → s1.defs = [] → resultsV P fn s1.tmps s1.hs = some (v0, s') →
          VStep s s' ∧ ∀ (σ : Ren) (args' : Array Value) (H : Nat → Option VO) (w : World) (u : FrameMode), AR σ args args' → Match P B σ H w → Sim s H → Agree s s' H → Ok B w →
            CallsDIn Fence.wide 0 P f args' u w (fun e u' w' => u' = u ∧ After P B σ H w s' v0 e w') := by
        intro x s1 he hx hd hres
        obtain ⟨hjr, hres⟩ := resultsV_some hres
        obtain ⟨h1, h2⟩ := h _ _ _ _ _ he
        have hst := runV_step _ _ _ _ hres
        refine ⟨h1.trans hst, fun σ args' H w u hargs hm hs ha hB => callsDIn_of_wp hf hb trivial ?_⟩
        have hrep := start_rel (n := fn.ntmps) hargs hsz
        refine h2 σ none H _ w _ trivial hm hs hrep trivial (ha.first hst) hB fun σ1 a1 w1 g1 g2 g3 g4 g5 => ?_
        have hB1 := hB.step g5
        obtain ⟨σ2, v', w2, k1, k2, k3, k4, k5⟩ := run_sound (results_rel g3 hjr) s1.hs s' v0 hres _ w1 g2 (hs.step h1) (ha.last hs h1 hst) hB1
        have := pres_results fn a1.tmps w1 w2 v' k1
        subst this
        rw [upd_upd hst] at k4
        have hdd : a1.defers = [] := by
          rw [hd] at g4
          generalize a1.defers = dd at g4
          cases dd with
          | nil => rfl
          | cons => exact g4.elim
        have fin : a1.defers = [] ∧ ∃ v, (results fn a1.tmps).run P w2 = .ok v w2 ∧ After P B σ H w s' v0 (.returned v) w2 := ⟨hdd, v', k1, σ2, v', rfl, Ren.le_trans g1 k2, k3, k4, g5⟩
        rcases hx with rfl | rfl
        · exact fin
        · exact fin
      split at hr
      · rename_i s1 he
        split at hr
        · rename_i hd; exact both _ s1 he (.inl rfl) hd hr
        · cases hr
      · rename_i s1 he
        split at hr
        · rename_i hd; exact both _ s1 he (.inr rfl) hd hr
        · cases hr
      · cases hr
    · cases hr
  · cases hr

theorem run_callable {g : FuncId} (h : callable P g = true) (args : Array Value) (w : World) : (callFunc g args).run P w = .ok (.enter g args) w := by
  unfold callable at h
  split at h
  · rename_i fn hfn
    simp only [Bool.and_eq_true, Bool.not_eq_true'] at h
    unfold callFunc
    simp only [Sem.run_bind, run_program, Result.andThen_ok, hfn, h.1, h.2, Bool.false_eq_true, if_false, Sem.run_pure]
  · cases h

theorem take_rel {σ : Ren} {r r' κ : Nat} (h : σ r = some (r', κ)) : SemRel P (fun _ a b => a = [] ∧ b = []) σ (Instr.takeDeferred r) (Instr.takeDeferred r') := by
  unfold Instr.takeDeferred
  refine .getObj h fun o o' ho hc => ?_
  cases ho with
  | cells => cases hc
  | map => exact .dead dead_stuck
  | stringIter => exact .dead dead_stuck
  | deferred => exact .setObj h (fun κ => .gone) (.pure ⟨rfl, rfl⟩)
  | gone => exact .dead dead_stuck

/-- the calls that were put off, one after another -/
theorem leave_sound {ev : EvV} (h : CodeSound P B ev) {fn : Func} {tmps : Array Value} {R : Ending → World → Prop} : ∀ (ds : List Deferred) (s s' : HS), leaveV P ev ds s = some s' → VStep s s' ∧
    ∀ (σ : Ren) (ds' : List Deferred) (H : Nat → Option VO) (w : World), DL σ ds ds' → Match P B σ H w → Sim s H → Agree s s' H → Ok B w →
      (∀ σ' w', Ren.le σ σ' → Match P B σ' (upd H s') w' → Below B.b w w' → ∃ v, (results fn tmps).run P w' = .ok v w' ∧ R (.returned v) w') → LeavesInM Fence.wide 0 P fn tmps R ds' .returning w
  | [], s, s', hr => by
    simp only [leaveV] at hr
    injection hr with hr; subst hr
    refine ⟨.refl _, fun σ ds' H w hd hm hs ha hB hk => ?_⟩
    cases ds' with
    | cons => exact hd.elim
    | nil => exact hk σ w (Ren.le_refl _) (by rw [hs.upd]; exact hm) (Below.refl _ _)
  | d :: ds, s, s', hr => by
    obtain ⟨tg, dargs⟩ := d
    cases tg with
    | collected r =>
      simp only [leaveV] at hr
      split at hr
      · rename_i s1 h1
        obtain ⟨i1, i2⟩ := leave_sound h ds s1 s' hr
        have hst := runV_step _ _ _ _ h1
        refine ⟨hst.trans i1, fun σ ds' H w hd hm hs ha hB hk => ?_⟩
        cases ds' with
        | nil => exact hd.elim
        | cons d' ds' =>
          obtain ⟨hd1, hd2⟩ := hd
          cases hd1 with
          | mark hl =>
            obtain ⟨σ1, b, w1, g1, g2, g3, g4, g5⟩ := run_sound (take_rel hl) s s1 [] h1 H w hm hs (ha.first i1) hB
            obtain ⟨_, rfl⟩ := g3
            refine ⟨by simp, .inl ⟨_, w1, rfl, g1, ?_⟩⟩
            refine i2 σ1 ds' _ w1 (hd2.mono g2) g4 (hs.step hst) (ha.last hs hst i1) (hB.step g5) fun σ2 w2 k1 k2 k3 => ?_
            rw [upd_upd i1] at k2
            exact hk σ2 w2 (Ren.le_trans g2 k1) k2 (g5.trans k3)
      · cases hr
    | fn fv cap =>
      cases fv with
      | func g =>
        simp only [leaveV] at hr
        split at hr
        · rename_i hcl
          split at hr
          · rename_i v s1 h1
            obtain ⟨i1, i2⟩ := leave_sound h ds s1 s' hr
            obtain ⟨hst, hcall⟩ := late_sound h _ _ _ _ _ h1
            refine ⟨hst.trans i1, fun σ ds' H w hd hm hs ha hB hk => ?_⟩
            cases ds' with
            | nil => exact hd.elim
            | cons d' ds' =>
              obtain ⟨hd1, hd2⟩ := hd
              cases hd1 with
              | fn hc hargs =>
                rename_i cap' dargs'
                refine ⟨by simp, .inr ⟨(by intro h; cases h), .func g, cap', g, dargs' ++ cap', rfl, ?_, fun _ _ => trivial, ?_⟩⟩
                · exact run_callable hcl _ w
                · refine (hcall σ _ H w .returning (hargs.append hc) hm hs (ha.first i1) hB).mono ?_
                  rintro e u' w' ⟨rfl, σ1, v', rfl, k2, k3, k4, k5⟩
                  show LeavesInM Fence.wide 0 P fn tmps R ds' (settle .returning) w'
                  refine i2 σ1 ds' _ w' (hd2.mono k2) k4 (hs.step hst) (ha.last hs hst i1) (hB.step k5) fun σ2 w2 j1 j2 j3 => ?_
                  rw [upd_upd i1] at j2
                  exact hk σ2 w2 (Ren.le_trans k2 j1) j2 (k5.trans j3)
          · cases hr
        · cases hr
      | method => simp [leaveV] at hr
      | methodOf => simp [leaveV] at hr
      | via => simp [leaveV] at hr
      | yield => simp [leaveV] at hr
    | nil => simp [leaveV] at hr
    | builtin => simp [leaveV] at hr
    | coroexit => simp [leaveV] at hr

theorem call_sound {ev : EvV} (h : CodeSound P B ev) (f : FuncId) (args : Array Value) (s s' : HS) (v0 : Value) (hr : callWith P ev f args s = some (v0, s')) : VStep s s' ∧
    ∀ (σ : Ren) (args' : Array Value) (H : Nat → Option VO) (w : World), AR σ args args' → Match P B σ H w → Sim s H → Agree s s' H → Ok B w → Calls P f args' w (After P B σ H w s' v0) := by
  unfold callWith at hr
  split at hr
  · rename_i fn hf
    split at hr
    · rename_i c hb
      split at hr
      rotate_left
      · cases hr
      rename_i hsz
      have hsz := blt_iff.1 hsz
      have both : ∀ (x : VX) (s1 : St) (s2 : HS), ev none c ⟨startT args fn.ntmps, s, []⟩ = some (x, s1) → (x = .normal ∨ x = .ret) → leaveV P ev s1.defs s1.hs = some s2 → resultsV P fn s1.tmps s2 = some (v0, s') →
          VStep s s' ∧ ∀ (σ : Ren) (args' : Array Value) (H : Nat → Option VO) (w : World), AR σ args args' → Match P B σ H w → Sim s H → Agree s s' H → Ok B w → Calls P f args' w (After P B σ H w s' v0) := by
        intro x s1 s2 he hx hlv hres
        obtain ⟨hjr, hres⟩ := resultsV_some hres
        obtain ⟨h1, h2⟩ := h _ _ _ _ _ he
        have hst := runV_step _ _ _ _ hres
        have hlst := fun fn tmps R => leave_sound h (fn := fn) (tmps := tmps) (R := R) _ _ _ hlv
        have hl1 := (hlst fn #[] (fun _ _ => True)).1
        refine ⟨(h1.trans hl1).trans hst, fun σ args' H w hargs hm hs ha hB => (callsIn_wide (n := 0)).1 (callsIn_of_wp_marks hf hb trivial ?_)⟩
        have hrep := start_rel (n := fn.ntmps) hargs hsz
        refine h2 σ none H _ w _ trivial hm hs hrep trivial (ha.first (hl1.trans hst)) hB fun σ1 a1 w1 g1 g2 g3 g4 g5 => ?_
        have hB1 := hB.step g5
        have ha1 := ha.last hs h1 (hl1.trans hst)
        have fin : LeavesInM Fence.wide 0 P fn a1.tmps (After P B σ H w s' v0) a1.defers .returning w1 := by
          refine (hlst fn a1.tmps _).2 σ1 a1.defers _ w1 g4 g2 (hs.step h1) (ha1.first hst) hB1 fun σ2 w2 j1 j2 j3 => ?_
          have hs2 := (hs.step h1).step hl1
          obtain ⟨σ3, v', w3, k1, k2, k3, k4, k5⟩ := run_sound (results_rel (g3.mono j1) hjr) s2 s' v0 hres _ w2 j2 hs2 (ha1.last (hs.step h1) hl1 hst) (hB1.step j3)
          have := pres_results fn a1.tmps w2 w3 v' k1
          subst this
          rw [upd_upd hst, upd_upd (hl1.trans hst)] at k4
          exact ⟨v', k1, σ3, v', rfl, Ren.le_trans g1 (Ren.le_trans j1 k2), k3, k4, g5.trans j3⟩
        rcases hx with rfl | rfl
        · exact fin
        · exact fin
      split at hr
      · rename_i s1 he
        split at hr
        · rename_i s2 hl; exact both _ s1 s2 he (.inl rfl) hl hr
        · cases hr
      · rename_i s1 he
        split at hr
        · rename_i s2 hl; exact both _ s1 s2 he (.inr rfl) hl hr
        · cases hr
      · cases hr
    · cases hr
  · cases hr

/-! loops over functions -/
theorem loop_at {σ : Ren} {H : Nat → Option VO} {w : World} (hm : Match P B σ H w) {l l' κ : Nat} (hl : σ l = some (l', κ)) {st : LoopState} {pe : Option Code} {t : TV} {ps : Array Tmp} {asg bd : Code} {d : Nat} (hH : H l = some (.loop st pe t ps asg bd d)) :
    ∃ fn t' d' κ', w.heap[l']? = some (.loop { state := st, pending := pe, fn, tmps := t', params := ps, assign := asg, body := bd, defers := d' }) ∧ TR σ t t' ∧ σ d = some (d', κ') := by
  obtain ⟨o', h1, h2⟩ := hm.objX l l' κ _ hl hH rfl
  cases h2 with
  | loop ht hd => exact ⟨_, _, _, _, h1, ht, hd⟩
theorem mark_step {l : Nat} {ok : LoopState → Bool} {st : LoopState} {jump : Option (Option Code)} {s s' : HS} (h : markLoop l ok st jump s = some s') : VStep s s' := by
  unfold markLoop at h
  split at h
  · split at h
    · exact VStep.put h (by simp_all)
    · cases h
  · cases h
theorem mark_sound {l : Nat} {ok : LoopState → Bool} {st : LoopState} {jump : Option (Option Code)} {s s' : HS} (h : markLoop l ok st jump s = some s') {σ : Ren} {H : Nat → Option VO} {w : World} {l' κ : Nat}
    (hl : σ l = some (l', κ)) (hm : Match P B σ H w) (hs : Sim s H) (ha : Agree s s' H) : ∃ (r : Loop) (st0 : LoopState) (pe : Option Code) (t : TV) (ps : Array Tmp) (asg bd : Code) (d : Nat), s.heap.get l = some (.loop st0 pe t ps asg bd d) ∧ w.heap[l']? = some (.loop r) ∧ ok r.state = true ∧ r.pending = pe ∧
      Match P B σ (upd H s') (w.putObj l' (.loop { r with state := st, pending := match jump with | some j => j | none => r.pending })) ∧ Below B.b w (w.putObj l' (.loop { r with state := st, pending := match jump with | some j => j | none => r.pending })) := by
  unfold markLoop at h
  split at h
  · rename_i st0 pe t ps asg bd d hg
    split at h
    · rename_i hok
      have hH : H l = _ := (ha.rd l (by rw [(put_spec h).2.2.1]; simp)).trans hg
      obtain ⟨fn, t', d', κ', h1, h2, h3⟩ := loop_at hm hl hH
      obtain ⟨u1, u2⟩ := upd_put hs h
      have hlt := hm.ltA hl hH rfl
      have hold := hm.old l l' κ _ hl hH rfl
      refine ⟨_, st0, pe, t, ps, asg, bd, d, hg, h1, hok, rfl, ?_, ?_⟩
      · cases jump <;> exact hm.putX hl hH rfl u1 rfl u2 (World.putObj_heap_same hlt) (.loop h2 h3) World.putObj_size (fun k hk => World.putObj_heap_other hk)
      · exact ⟨rfl, rfl, rfl, by simp, fun k hk => World.putObj_heap_other (by omega)⟩
    · cases h
  · cases h

theorem enter_step {ro : Option Nat} {t : TV} {ps : Array Tmp} {asg bd : Code} {s s' : HS} {l : Nat} {mk : List Deferred} (h : enterV ro t ps asg bd s = some (l, mk, s')) : VStep s s' := by
  unfold enterV at h
  split at h
  · split at h
    · rename_i s1 h1
      split at h
      · rename_i s2 h2
        injection h with h; injection h with e1 h; injection h with e2 e3; subst e3
        exact (VStep.new h1).trans (VStep.new h2)
      · cases h
    · cases h
  · split at h
    · split at h
      · rename_i s2 h2
        injection h with h; injection h with e1 h; injection h with e2 e3; subst e3
        exact (VStep.read _ _).trans (VStep.new h2)
      · cases h
    · cases h
theorem enter_sound {ro : Option Nat} {t : TV} {ps : Array Tmp} {asg bd : Code} {s s' : HS} {l : Nat} {mk : List Deferred} (h : enterV ro t ps asg bd s = some (l, mk, s')) {σ : Ren} {ro' : Option Nat} {H : Nat → Option VO} {w : World} {t' : Array Value} (fn : FuncId)
    (hro : RoR σ ro ro') (hm : Match P B σ H w) (hs : Sim s H) (ha : Agree s s' H) (hB : Ok B w) (ht : TR σ t t') :
    ∃ σ' l' κ mk' w', (Instr.enterLoop fn t' ps asg bd ro').run P w = .ok (l', mk') w' ∧ Ren.le σ σ' ∧ σ' l = some (l', κ) ∧ DL σ' mk mk' ∧ Match P B σ' (upd H s') w' ∧ Below B.b w w' := by
  unfold enterV at h
  split at h
  · cases ro' with
    | some _ => exact hro.elim
    | none =>
      split at h
      · rename_i s1 h1
        split at h
        · rename_i s2 h2
          injection h with h; injection h with e1 h; injection h with e2 e3; subst e1; subst e2; subst e3
          have v1 := VStep.new h1
          have v2 := VStep.new h2
          obtain ⟨u1, u2⟩ := upd_new hs h1
          have hn : H s.next = none := ha.new s.next (Nat.le_refl _) (by have := (new_spec h1).1; have := v2.next; omega)
          have hσ := (hm.dom _).2 hn
          have hm1 : Match P B (Ren.ext σ s.next (w.heap.size, 0)) (upd H s1) (w.alloc (.deferred (some []))) := hm.new hn u1 u2 rfl hB.size .deferred
          have hb1 : Below B.b w (w.alloc (.deferred (some []))) := (Below.refl B.b w).alloc hB.size _
          have hle := Ren.le_ext (w.heap.size, 0) hσ
          have hs1 := hs.step v1
          have ha1 := ha.last hs v1 v2
          obtain ⟨p1, p2⟩ := upd_new hs1 h2
          have hn1 : upd H s1 s1.next = none := ha1.new s1.next (Nat.le_refl _) (by have := (new_spec h2).1; omega)
          have hσ1 := (hm1.dom _).2 hn1
          have hdd : Ren.ext σ s.next (w.heap.size, 0) s.next = some (w.heap.size, 0) := by simp [Ren.ext]
          have hm2 := hm1.newX (κ := 0) (w' := (w.alloc (.deferred (some []))).alloc (.loop { state := .ready, pending := none, fn, tmps := t', params := ps, assign := asg, body := bd, defers := w.heap.size })) (o' := .loop { state := .ready, pending := none, fn, tmps := t', params := ps, assign := asg, body := bd, defers := w.heap.size }) hn1 p1 rfl p2 rfl (hB.step hb1).size (.loop (ht.mono hle) hdd)
          rw [upd_upd v2] at hm2
          have hle2 := Ren.le_ext ((w.alloc (.deferred (some []))).heap.size, 0) hσ1
          refine ⟨_, (w.alloc (.deferred (some []))).heap.size, 0, [{ target := .collected w.heap.size, args := #[] }], _, ?_, Ren.le_trans hle hle2, by simp [Ren.ext], ⟨.mark (hle2 _ _ hdd), trivial⟩, hm2, hb1.trans ((Below.refl B.b _).alloc (hB.step hb1).size _)⟩
          have := run_enterLoop_outer (P := P) (w := w) fn t' ps asg bd
          rw [this]
          simp
        · cases h
      · cases h
  · rename_i l0
    cases ro' with
    | none => exact hro.elim
    | some l0' =>
      obtain ⟨κ0, hl0⟩ := hro
      split at h
      · rename_i st0 pe0 t0 ps0 as0 bd0 d hg
        split at h
        · rename_i s2 h2
          injection h with h; injection h with e1 h; injection h with e2 e3; subst e1; subst e2; subst e3
          have v1 := VStep.read s l0
          have v2 := VStep.new h2
          have hH : H l0 = _ := (ha.rd l0 (v2.rd l0 (by rw [read_eq]; exact lor_rd l0))).trans hg
          obtain ⟨fn0, t0', d', κ', q1, q2, q3⟩ := loop_at hm hl0 hH
          have hs1 : Sim (s.read l0) H := by rw [read_eq]; exact ⟨hs.wr, hs.new⟩
          have ha1 : Agree (s.read l0) s2 H := by rw [read_eq]; exact ⟨fun i e => ha.rd i e, fun i e f => ha.new i e f⟩
          obtain ⟨p1, p2⟩ := upd_new hs1 h2
          have hnx : (s.read l0).next = s.next := by rw [read_eq]
          have hn1 : H (s.read l0).next = none := ha1.new _ (Nat.le_refl _) (by have := (new_spec h2).1; omega)
          have hσ1 := (hm.dom _).2 hn1
          have hm2 := hm.newX (κ := 0) (w' := w.alloc (.loop { state := .ready, pending := none, fn, tmps := t', params := ps, assign := asg, body := bd, defers := d' })) (o' := .loop { state := .ready, pending := none, fn, tmps := t', params := ps, assign := asg, body := bd, defers := d' }) hn1 p1 rfl p2 rfl hB.size (.loop ht q3)
          refine ⟨_, w.heap.size, 0, _, _, run_enterLoop_inner (P := P) q1 fn t' ps asg bd, Ren.le_ext _ hσ1, by simp [Ren.ext, hnx], trivial, hm2, (Below.refl B.b w).alloc hB.size _⟩
        · cases h
      · cases h

theorem sets_rel {σ : Ren} : ∀ (ps : List Tmp) (vs vs' : List Value) (t : TV) (t' : Array Value), TR σ t t' → LR σ vs vs' → TR σ (t.sets ps vs) ((ps.zip vs').foldl (fun tmps (p, v) => tmps.setIfInBounds p v) t')
  | [], vs, vs', t, t', ht, hv => by simpa [TV.sets] using ht
  | p :: ps, [], [], t, t', ht, hv => by simpa [TV.sets] using ht
  | p :: ps, v :: vs, v' :: vs', t, t', ht, hv => by
    simp only [TV.sets, List.zip_cons_cons, List.foldl_cons]
    exact sets_rel ps vs vs' _ _ (TR.put (a := { tmps := t', defers := [] }) ht (some p) hv.1) hv.2
  | _ :: _, [], _ :: _, _, _, _, k => k.elim
  | _ :: _, _ :: _, [], _, _, _, k => k.elim

theorem round_sound {ev : EvV} (h : CodeSound P B ev) (l : Nat) (args : Array Value) (s s' : HS) (v0 : Value) (hr : roundWith P ev l args s = some (v0, s')) : VStep s s' ∧
    ∀ (σ : Ren) (l' κ : Nat) (args' : Array Value) (H : Nat → Option VO) (w : World), σ l = some (l', κ) → AR σ args args' → Match P B σ H w → Sim s H → Agree s s' H → Ok B w →
      ∃ fn tmps asg bd, (Instr.yield l' args').run P w = .ok (.round l' fn tmps asg bd) w ∧ RoundIn Fence.wide 0 P l' fn tmps asg bd w (After P B σ H w s' v0) := by
  unfold roundWith at hr
  split at hr
  · rename_i st0 pe0 t ps asg bd d hg
    split at hr
    · cases hr
    · rename_i hsz
      have hsz := Nat.eq_of_beq_eq_true hsz
      split at hr
      · rename_i s1 he1
        obtain ⟨i1, i2⟩ := h _ _ _ _ _ he1
        split at hr
        · rename_i hs2 hmk
          have hmv := mark_step hmk
          -- the end of a round, whichever
          have fin : ∀ (x : VX) (s3 : St) (st : LoopState) (jump : Option Code) (s4 : HS) (b : Bool), ev (some l) bd ⟨s1.tmps, hs2, s1.defs⟩ = some (x, s3) → markLoop l anyState st (some jump) s3.hs = some s4 → (x, st, jump, b) ∈ [(VX.normal, LoopState.ready, (none : Option Code), true), (.ret, .done, some .ret, false)] ∨ (∃ id, x = .exit id ∧ st = .done ∧ jump = some (.exit id) ∧ b = false) → .bool b = v0 → s4 = s' →
              VStep s s' ∧ ∀ (σ : Ren) (l' κ : Nat) (args' : Array Value) (H : Nat → Option VO) (w : World), σ l = some (l', κ) → AR σ args args' → Match P B σ H w → Sim s H → Agree s s' H → Ok B w →
                ∃ fn tmps asg bd, (Instr.yield l' args').run P w = .ok (.round l' fn tmps asg bd) w ∧ RoundIn Fence.wide 0 P l' fn tmps asg bd w (After P B σ H w s' v0) := by
            rintro x s3 st jump s4 b he2 hmk2 hcase rfl rfl
            obtain ⟨j1, j2⟩ := h _ _ _ _ _ he2
            have hmv2 := mark_step hmk2
            have v0' : VStep s (s.read l) := VStep.read s l
            refine ⟨(((v0'.trans i1).trans hmv).trans j1).trans hmv2, fun σ l' κ args' H w hl hargs hm hs ha hB => ?_⟩
            have hH : H l = _ := (ha.rd l ((((i1.trans hmv).trans j1).trans hmv2).rd l (by rw [read_eq]; exact lor_rd l))).trans hg
            obtain ⟨fn, t', d', κ', q1, q2, q3⟩ := loop_at hm hl hH
            have hps : args'.size = ps.size := by rw [← hargs.1]; exact hsz
            refine ⟨fn, _, asg, bd, run_yield q1 (by simpa using hps), roundIn_of_wpIn trivial ?_⟩
            have hs1 : Sim (s.read l) H := by rw [read_eq]; exact ⟨hs.wr, hs.new⟩
            have ha1 : Agree (s.read l) s4 H := by rw [read_eq]; exact ⟨fun i e => ha.rd i e, fun i e f => ha.new i e f⟩
            have htr : TR σ (t.sets ps.toList args.toList) ((ps.zip args').foldl (fun tmps (x : Tmp × Value) => tmps.setIfInBounds x.1 x.2) t') := by
              have := sets_rel ps.toList args.toList args'.toList t t' q2 hargs.list
              rw [← Array.foldl_toList, Array.toList_zip]
              exact this
            refine i2 σ (some l') H _ w _ ⟨κ, hl⟩ hm hs1 htr trivial (ha1.first ((hmv.trans j1).trans hmv2)) hB fun σ1 a1 w1 g1 g2 g3 g4 g5 => ?_
            have hs2' := hs1.step i1
            have ha2 := ha1.last hs1 i1 ((hmv.trans j1).trans hmv2)
            obtain ⟨r, st1, pe1, t1, ps1, as1, bd1, d1, _, r1, r2, r3, r4, r5⟩ := mark_sound hmk (g1 _ _ hl) g2 hs2' (ha2.first (j1.trans hmv2))
            rw [upd_upd hmv] at r4
            have hrd : r.state = .ready := by
              generalize r.state = rs at r2
              cases rs <;> first | rfl | cases r2
            refine ⟨_, run_beginRound r1 hrd, ?_⟩
            have hs3 := hs2'.step hmv
            have ha3 := ha2.last hs2' hmv (j1.trans hmv2)
            rw [upd_upd hmv] at hs3 ha3
            have hB1 := hB.step g5
            refine j2 σ1 (some l') _ a1 _ _ ⟨κ, g1 _ _ hl⟩ r4 hs3 g3 g4 (ha3.first hmv2) (hB1.step r5) fun σ2 a2 w2 k1 k2 k3 k4 k5 => ?_
            have hs4 := hs3.step j1
            have ha4 := ha3.last hs3 j1 hmv2
            obtain ⟨r', st2, pe2, t2, ps2, as2, bd2, d2, _, z1, z2, z3, z4, z5⟩ := mark_sound hmk2 (k1 _ _ (g1 _ _ hl)) k2 hs4 ha4
            have hfin : Match P B σ2 (upd H s4) (w2.putObj l' (.loop { r' with state := st, pending := jump })) := by
              have : upd H s4 = upd (upd (upd (upd H s1.hs) hs2) s3.hs) s4 := by
                rw [upd_upd hmv2, upd_upd (j1.trans hmv2), upd_upd ((hmv.trans j1).trans hmv2)]
              rw [this]
              rw [upd_upd hmv]
              exact z4
            have hbel : Below B.b w (w2.putObj l' (.loop { r' with state := st, pending := jump })) := g5.trans (r5.trans (k5.trans z5))
            have hAft : ∀ b', b' = b → After P B σ H w s4 (.bool b) (.returned (.bool b')) (w2.putObj l' (.loop { r' with state := st, pending := jump })) := fun b' e => ⟨σ2, _, rfl, Ren.le_trans g1 k1, by subst e; exact .bool _, hfin, hbel⟩
            rcases hcase with hcase | ⟨id, rfl, rfl, rfl, rfl⟩
            · simp only [List.mem_cons, Prod.mk.injEq, List.not_mem_nil, or_false] at hcase
              rcases hcase with ⟨rfl, rfl, rfl, rfl⟩ | ⟨rfl, rfl, rfl, rfl⟩
              · exact ⟨_, _, run_endRound none z1, hAft _ rfl⟩
              · exact ⟨_, _, run_endRound (some .ret) z1, hAft _ rfl⟩
            · exact ⟨_, _, run_endRound (some (.exit id)) z1, hAft _ rfl⟩
          split at hr
          · rename_i s3 he2
            split at hr
            · rename_i s4 hmk2
              injection hr with hr; injection hr with e1 e2
              exact fin .normal s3 .ready none s4 true he2 hmk2 (.inl (by simp)) e1 e2
            · cases hr
          · rename_i id s3 he2
            split at hr
            · rename_i s4 hmk2
              injection hr with hr; injection hr with e1 e2
              exact fin (.exit id) s3 .done (some (.exit id)) s4 false he2 hmk2 (.inr ⟨id, rfl, rfl, rfl, rfl⟩) e1 e2
            · cases hr
          · rename_i s3 he2
            split at hr
            · rename_i s4 hmk2
              injection hr with hr; injection hr with e1 e2
              exact fin .ret s3 .done (some .ret) s4 false he2 hmk2 (.inl (by simp)) e1 e2
            · cases hr
          · cases hr
        · cases hr
      · cases hr
  · cases hr

theorem dl_append {σ : Ren} : ∀ {a a' b b' : List Deferred}, DL σ a a' → DL σ b b' → DL σ (a ++ b) (a' ++ b')
  | [], [], _, _, _, k => k
  | _ :: _, _ :: _, _, _, h, k => ⟨h.1, dl_append h.2 k⟩
  | [], _ :: _, _, _, h, _ => h.elim
  | _ :: _, [], _, _, h, _ => h.elim
/-! equal -/
theorem eqI_eq {a b : Int} (h : eqI a b = true) : a = b := by
  cases a <;> cases b <;> first | (rw [Nat.eq_of_beq_eq_true h]; done) | cases h
theorem eqB_eq : ∀ {l m : List UInt8}, eqB l m = true → l = m
  | [], [], _ => rfl
  | a :: l, b :: m, h => by
    simp only [eqB, Bool.and_eq_true] at h
    have h1 := Nat.eq_of_beq_eq_true h.1
    rw [UInt8.toNat_inj.1 h1, eqB_eq h.2]
  | [], _ :: _, h => by cases h
  | _ :: _, [], h => by cases h
theorem eqL_eq {f : Value → Value → Bool} (hf : ∀ a b, f a b = true → a = b) : ∀ {l m : List Value}, eqL f l m = true → l = m
  | [], [], _ => rfl
  | a :: l, b :: m, h => by
    simp only [eqL, Bool.and_eq_true] at h
    rw [hf _ _ h.1, eqL_eq hf h.2]
  | [], _ :: _, h => by cases h
  | _ :: _, [], h => by cases h
theorem eqN_eq {a b : Option Nat} (h : eqN a b = true) : a = b := by
  unfold eqN at h
  split at h
  · rw [Nat.eq_of_beq_eq_true h]
  · rfl
  · cases h
theorem eqAddr_eq {a b : Option Addr} (h : eqAddr a b = true) : a = b := by
  unfold eqAddr at h
  split at h
  · rename_i a b
    simp only [Bool.and_eq_true] at h
    obtain ⟨⟨h1, h2⟩, h3⟩ := h
    obtain ⟨x, y, z⟩ := a
    obtain ⟨x', y', z'⟩ := b
    simp only at h1 h2 h3
    rw [Nat.eq_of_beq_eq_true h1, Nat.eq_of_beq_eq_true h2, eqN_eq h3]
  · rfl
  · cases h
theorem eqFn_eq {a b : Fn} (h : eqFn a b = true) : a = b := by
  unfold eqFn at h
  split at h
  · rw [Nat.eq_of_beq_eq_true h]
  · rw [Nat.eq_of_beq_eq_true h]
  · cases h
theorem eqW_eq : ∀ (n : Nat) (a b : Value), eqW n a b = true → a = b
  | 0, a, b, h => by cases h
  | n + 1, a, b, h => by
    unfold eqW at h
    split at h
    · simp only [Bool.and_eq_true] at h
      rw [sameKind_eq h.1, eqI_eq h.2]
    · split at h
      · rfl
      · rfl
      · cases h
    · rename_i x y
      have := eqB_eq h
      have e : x.data = y.data := Array.toList_inj.1 this
      obtain ⟨x⟩ := x
      obtain ⟨y⟩ := y
      rw [show x = y from e]
    · rw [eqAddr_eq h]
    · simp only [Bool.and_eq_true] at h
      rw [eqAddr_eq h.1.1, Nat.eq_of_beq_eq_true h.1.2, Nat.eq_of_beq_eq_true h.2]
    · rw [eqN_eq h]
    · rfl
    · rfl
    · simp only [Bool.and_eq_true] at h
      rw [Nat.eq_of_beq_eq_true h.1, eqW_eq n _ _ h.2]
    · simp only [Bool.and_eq_true] at h
      rw [eqFn_eq h.1.1, Array.toList_inj.1 (eqL_eq (eqW_eq n) h.1.2), Array.toList_inj.1 (eqL_eq (eqW_eq n) h.2)]
    · rw [Array.toList_inj.1 (eqL_eq (eqW_eq n) h)]
    · rw [Array.toList_inj.1 (eqL_eq (eqW_eq n) h)]
    · cases h
theorem eqTV_eq : ∀ (a b : TV), eqTV a b = true → a = b
  | .nil, .nil, _ => rfl
  | .node o l r, .node o' l' r', h => by
    simp only [eqTV, Bool.and_eq_true] at h
    obtain ⟨⟨h1, h2⟩, h3⟩ := h
    have : o = o' := by
      split at h1
      · rw [eqW_eq 20 _ _ h1]
      · rfl
      · cases h1
    rw [this, eqTV_eq _ _ h2, eqTV_eq _ _ h3]
  | .nil, .node .., h => by cases h
  | .node .., .nil, h => by cases h
theorem eqEs_eq : ∀ (a b : List MapEntry), eqEs a b = true → a = b
  | [], [], _ => rfl
  | a :: l, b :: m, h => by
    simp only [eqEs, Bool.and_eq_true] at h
    obtain ⟨⟨⟨h1, h2⟩, h3⟩, h4⟩ := h
    obtain ⟨x, y, z⟩ := a
    obtain ⟨x', y', z'⟩ := b
    simp only at h1 h2 h3
    rw [eqW_eq 20 _ _ h1, eqW_eq 20 _ _ h2, Nat.eq_of_beq_eq_true h3, eqEs_eq _ _ h4]
  | [], _ :: _, h => by cases h
  | _ :: _, [], h => by cases h
theorem eqBool_eq {a b : Bool} (h : eqBool a b = true) : a = b := by cases a <;> cases b <;> first | rfl | cases h
theorem eqVO_eq {a b : Option VO} (h : eqVO a b = true) : a = b := by
  unfold eqVO at h
  split at h
  · rename_i c e f x c' e' f' x'
    simp only [Bool.and_eq_true] at h
    obtain ⟨⟨⟨⟨h1, h2⟩, h3⟩, h4⟩, h5⟩ := h
    obtain ⟨f1, f2⟩ := f
    obtain ⟨g1, g2⟩ := f'
    simp only at h3 h4
    rw [Array.toList_inj.1 (eqL_eq (eqW_eq 20) h1), Nat.eq_of_beq_eq_true h2, Nat.eq_of_beq_eq_true h3, Nat.eq_of_beq_eq_true h4, eqBool_eq h5]
  · simp only [Bool.and_eq_true] at h
    rw [Array.toList_inj.1 (eqEs_eq _ _ h.1.1), Nat.eq_of_beq_eq_true h.1.2, eqBool_eq h.2]
  · rfl
  · rfl
  · cases h

theorem orders_mem (ops : Array Oper) : ∀ (f t : Nat) (listed : Array Bool) (acc : List Nat), Region.linearise.go .any ops f t listed acc ∈ ordersR ops f listed acc
  | 0, t, listed, acc => by simp [Region.linearise.go, ordersR]
  | f + 1, t, listed, acc => by
    simp only [Region.linearise.go]
    change (match (Region.ready .any ops listed)[t % (Region.ready .any ops listed).length]? with
      | some i => Region.linearise.go .any ops f (t / (Region.ready .any ops listed).length) (listed.setIfInBounds i true) (i :: acc)
      | none => acc.reverse) ∈ _
    unfold ordersR
    cases hr : Region.ready .any ops listed with
    | nil => simp
    | cons x xs =>
      simp only
      cases hi : (x :: xs)[t % (x :: xs).length]? with
      | none =>
        have hlt : t % (x :: xs).length < (x :: xs).length := Nat.mod_lt _ (by simp)
        rw [List.getElem?_eq_getElem hlt] at hi; cases hi
      | some i =>
        simp only
        exact List.mem_flatMap.2 ⟨i, List.mem_of_getElem? hi, orders_mem ops f _ _ _⟩

theorem drawAll_sound {call : CallV} (hmix : P.follows .mixedOrders = true) (hc : CallSound P B call) {ro : Option Nat} {ops : Array Oper} {id : Nat} {s s' : St} (h : drawAll P call ro ops s = some s') : VStep s.hs s'.hs ∧
    s'.defs = s.defs ∧ ∀ (σ : Ren) (ro' : Option Nat) (H : Nat → Option VO) (a : Act) (w : World) (Q : Exit → Act → World → Prop), RoR σ ro ro' → Match P B σ H w → Sim s.hs H → TR σ s.tmps a.tmps → DL σ s.defs a.defers → Agree s.hs s'.hs H → Ok B w →
      (∀ σ' a' w', Ren.le σ σ' → Match P B σ' (upd H s'.hs) w' → TR σ' s'.tmps a'.tmps → DL σ' s'.defs a'.defers → Below B.b w w' → Q .normal a' w') → (Code.region id ops true).wpIn (fz ro') 0 P Q a w := by
  unfold drawAll at h
  split at h
  · cases h
  · rename_i hnd
    simp only [Bool.and_eq_true] at hnd
    split at h
    · cases h
    · rename_i l ls hol
      split at h
      · cases h
      · rename_i s1 h1
        split at h
        rotate_left
        · cases h
        rename_i hall
        injection h with h
        obtain ⟨z, hz⟩ : ∃ z : St, z = { s with hs := { s.hs with rd := 0, wr := 0 } } := ⟨_, rfl⟩
        rw [← hz] at h1 hall
        have lor_t : ∀ (a b i : Nat), (Nat.lor a b).testBit i = (a.testBit i || b.testBit i) := fun a b i => Nat.testBit_or a b i
        have hz1 : z.hs.heap = s.hs.heap ∧ z.hs.next = s.hs.next ∧ (∀ i, z.hs.wr.testBit i = false) ∧ (∀ i, z.hs.rd.testBit i = false) ∧ z.tmps = s.tmps ∧ z.defs = s.defs := by subst hz; exact ⟨rfl, rfl, fun i => by simp, fun i => by simp, rfl, rfl⟩
        obtain ⟨z1, z2, z3, z4, z5, z6⟩ := hz1
        -- every order
        have every : ∀ m, m ∈ l :: ls → ∃ s2, runOps P call ro ops m z = some s2 ∧ s2.hs.next = s1.hs.next ∧ s2.hs.rd = s1.hs.rd ∧ s2.hs.wr = s1.hs.wr ∧ s2.tmps = s1.tmps ∧ ∀ k, s1.hs.wr.testBit k = true → k < s1.hs.next → s2.hs.heap.get k = s1.hs.heap.get k := by
          intro m hm
          cases hm with
          | head => exact ⟨s1, h1, rfl, rfl, rfl, rfl, fun _ _ _ => rfl⟩
          | tail _ hm =>
            have := List.all_eq_true.1 hall m hm
            split at this
            · rename_i s2 h2
              unfold eqSt at this
              simp only [Bool.and_eq_true] at this
              obtain ⟨⟨⟨⟨e1, e2⟩, e3⟩, e4⟩, e5⟩ := this
              refine ⟨s2, h2, (Nat.eq_of_beq_eq_true e1).symm, (Nat.eq_of_beq_eq_true e2).symm, (Nat.eq_of_beq_eq_true e3).symm, (eqTV_eq _ _ e4).symm, fun k hk hlt => ?_⟩
              have := List.all_eq_true.1 e5 k (List.mem_range.2 hlt)
              rw [hk] at this
              exact (eqVO_eq this).symm
            · cases this
        obtain ⟨v1, _⟩ := runOps_sound (Q := fun _ _ _ => True) hc _ _ _ h1
        have hdefs : ∀ (m : List Nat) (s0 s2 : St), runOps P call ro ops m s0 = some s2 → s2.defs = s0.defs := by
          intro m
          induction m with
          | nil => intro s0 s2 e; simp only [runOps] at e; injection e with e; rw [e]
          | cons i m ih =>
            intro s0 s2 e
            simp only [runOps] at e
            split at e
            · cases e
            split at e
            · rename_i s3 e3
              rw [ih _ _ e]
              unfold stepD at e3
              split at e3
              · cases e3
              · rename_i o ho
                have hno : isDefer o.op = false := by
                  have := List.all_eq_true.1 hnd.2 o (by simpa using Array.mem_of_getElem? ho)
                  simpa using this
                rw [hno] at e3
                simp only at e3
                unfold stepV at e3
                rw [ho] at e3
                simp only at e3
                split at e3
                · split at e3
                  · injection e3 with e3; rw [← e3]
                  · cases e3
                · injection e3 with e3; rw [← e3]
            · cases e
        have hnx : s.hs.next ≤ s1.hs.next := by rw [← z2]; exact v1.next
        have hstep : VStep s.hs s'.hs := by
          rw [← h]
          refine ⟨hnx, fun i e => by simp only [lor_t, e, Bool.true_or], fun i e => by simp only [lor_t, e, Bool.true_or], fun i e => ?_, fun i a b => ?_, fun hf i hi => ?_⟩
          · simp only [lor_t, Bool.or_eq_false_iff] at e
            rw [← z1]; exact v1.keep i e.2
          · simp only [lor_t]
            rw [v1.made i (by rw [z2]; exact a) b]; simp
          · exact v1.fresh (by rw [z1, z2]; exact hf) i hi
        refine ⟨hstep, by rw [← h], fun σ ro' H a w Q hro hm hs ht hd ha hB hk => wpIn_region_draw fun t => ?_⟩
        have hsched : Region.schedule (P.follows .mixedOrders) ops t ∈ l :: ls := by
          rw [hmix, ← hol]
          exact orders_mem ops ops.size t _ []
        obtain ⟨s2, e1, e2, e3, e4, e5, e6⟩ := every _ hsched
        obtain ⟨v2, hsnd⟩ := runOps_sound (Q := Q) hc _ _ _ e1
        have hdr : Below B.b w { w with drawn := w.drawn + 1 } := ⟨rfl, rfl, rfl, Nat.le_refl _, fun _ _ => rfl⟩
        refine hsnd σ ro' H a _ hro (hm.grow rfl) ⟨(fun i e => by rw [z3] at e; cases e), fun i e => by rw [z1]; exact hs.new i (by rw [← z2]; exact e)⟩ (by rw [z5]; exact ht) (by rw [z6]; exact hd) ⟨fun i e => ?_, fun i e f => ?_⟩ (hB.step hdr) fun σ' a' w' k1 k2 k3 k4 k5 => ?_
        · rw [z1]
          refine ha.rd i ?_
          rw [← h]
          simp only [lor_t]
          rw [← e3, e]; simp
        · refine ha.new i (by rw [← z2]; exact e) ?_
          rw [← h]
          show i < s1.hs.next
          rw [← e2]; exact f
        · refine hk σ' a' w' k1 ?_ (by rw [← h]; show TR σ' s1.tmps a'.tmps; rw [← e5]; exact k3) (by rw [← h]; show DL σ' s.defs a'.defers; rw [← z6, ← hdefs _ _ _ e1]; exact k4) (hdr.trans k5)
          have : upd H s'.hs = upd H s2.hs := by
            funext i
            have hw : s'.hs.wr.testBit i = (s.hs.wr.testBit i || s1.hs.wr.testBit i) := by rw [← h]; exact lor_t _ _ i
            have hh : s'.hs.heap.get i = s1.hs.heap.get i := by rw [← h]
            cases h1w : s1.hs.wr.testBit i with
            | true =>
              rw [upd_at (by rw [hw, h1w]; simp), upd_at (by rw [e4]; exact h1w), hh]
              have hlt : i < s1.hs.next ∨ ¬ i < s1.hs.next := Decidable.em _
              rcases hlt with hlt | hlt
              · exact (e6 i h1w hlt).symm
              · have f1 := v1.fresh (fun j hj => by rw [z1]; exact hs.new j (by rw [← z2]; exact hj)) i (Nat.not_lt.1 hlt)
                have f2 := v2.fresh (fun j hj => by rw [z1]; exact hs.new j (by rw [← z2]; exact hj)) i (by rw [e2]; exact Nat.not_lt.1 hlt)
                rw [f1, f2]
            | false =>
              rw [upd_else (s := s2.hs) (by rw [e4]; exact h1w)]
              cases h2w : s.hs.wr.testBit i with
              | true =>
                rw [upd_at (by rw [hw, h2w]; simp), hh, v1.keep i h1w, z1]
                exact (hs.wr i h2w).symm
              | false => rw [upd_else (by rw [hw, h1w, h2w]; rfl)]
          rw [this]; exact k2

theorem env_sound {ev : EvV} (h : CodeSound P B ev) : CallSound P B ⟨B.g, callWith P ev, roundWith P ev⟩ := ⟨rfl, call_sound h, round_sound h⟩

/-- a loop: so many rounds -/
def LoopSound (P : Program) (B : Bd) (ev : EvV) : Prop :=
  ∀ (ro : Option Nat) (c : Code) (s s' : St) (x : VX), ev ro (.loop c) s = some (x, s') → ∃ n, ∀ (σ : Ren) (ro' : Option Nat) (H : Nat → Option VO) (a : Act) (w : World) (Q : Exit → Act → World → Prop), RoR σ ro ro' → Match P B σ H w → Sim s.hs H → TR σ s.tmps a.tmps → DL σ s.defs a.defers → Agree s.hs s'.hs H → Ok B w →
      (∀ σ' a' w', Ren.le σ σ' → Match P B σ' (upd H s'.hs) w' → TR σ' s'.tmps a'.tmps → DL σ' s'.defs a'.defers → Below B.b w w' → Q x.out a' w') → Code.roundsIn (fz ro') 0 P c Q n a w

/-- a loop of which it is known how it ends -/
def LoopOk (P : Program) (B : Bd) (ro : Option Nat) (c : Code) (s : St) (x : VX) (s' : St) : Prop := VStep s.hs s'.hs ∧ ∃ n, ∀ (σ : Ren) (ro' : Option Nat) (H : Nat → Option VO) (a : Act) (w : World) (Q : Exit → Act → World → Prop), RoR σ ro ro' → Match P B σ H w → Sim s.hs H → TR σ s.tmps a.tmps → DL σ s.defs a.defers → Agree s.hs s'.hs H → Ok B w →
      (∀ σ' a' w', Ren.le σ σ' → Match P B σ' (upd H s'.hs) w' → TR σ' s'.tmps a'.tmps → DL σ' s'.defs a'.defers → Below B.b w w' → Q x.out a' w') → Code.roundsIn (fz ro') 0 P c Q n a w
def LoopsOk (P : Program) (B : Bd) (O : Option Nat → Code → St → Option (VX × St)) : Prop := ∀ ro c s x s', O ro c s = some (x, s') → LoopOk P B ro c s x s'
theorem LoopsOk.none : LoopsOk P B noLoops := fun ro c s x s' h => by cases h
theorem loop_sound {W : Hook} {f : Nat} (hO : LoopsOk P B W.loop) (ih : CodeSound P B (evC P B.g W f)) (il : LoopSound P B (evC P B.g W f)) : LoopSound P B (evC P B.g W (f + 1)) := by
  intro ro c1 s s' x h
  unfold evC at h
  simp only at h
  cases ho : W.loop ro c1 s with
  | some r => rw [ho] at h; injection h with h; subst h; exact (hO _ _ _ _ _ ho).2
  | none =>
  rw [ho] at h
  simp only at h
  cases he : evC P B.g W f ro c1 s with
  | none => rw [he] at h; cases h
  | some p =>
    obtain ⟨x1, s1⟩ := p
    rw [he] at h
    obtain ⟨q1, q2⟩ := ih _ _ _ _ _ he
    cases x1 with
    | normal =>
      obtain ⟨g1, _⟩ := ih _ _ _ _ _ h
      obtain ⟨n, g2⟩ := il _ _ _ _ _ h
      refine ⟨n + 1, fun σ ro' H a w Q hro hm hs ht hd ha hB hk => ?_⟩
      rw [roundsIn_succ]
      refine q2 σ ro' H a w _ hro hm hs ht hd (ha.first g1) hB fun σ' a' w' k1 k2 k3 k4 k5 => ?_
      refine g2 σ' ro' _ a' w' Q (hro.mono k1) k2 (hs.step q1) k3 k4 (ha.last hs q1 g1) (hB.step k5) fun σ2 a2 w2 j1 j2 j3 j4 j5 => ?_
      rw [upd_upd g1] at j2
      exact hk σ2 a2 w2 (Ren.le_trans k1 j1) j2 j3 j4 (k5.trans j5)
    | exit id =>
      injection h with h; injection h with e1 e2; subst e1; subst e2
      refine ⟨1, fun σ ro' H a w Q hro hm hs ht hd ha hB hk => ?_⟩
      rw [roundsIn_succ]
      exact q2 σ ro' H a w _ hro hm hs ht hd ha hB hk
    | ret =>
      injection h with h; injection h with e1 e2; subst e1; subst e2
      refine ⟨1, fun σ ro' H a w Q hro hm hs ht hd ha hB hk => ?_⟩
      rw [roundsIn_succ]
      exact q2 σ ro' H a w _ hro hm hs ht hd ha hB hk

theorem ev_both (hmix : P.follows .mixedOrders = true) {W : Hook} (hW : ∀ call, CallSound P B call → CallSound P B (W.call call)) (hO : LoopsOk P B W.loop) : ∀ f, CodeSound P B (evC P B.g W f) ∧ LoopSound P B (evC P B.g W f)
  | 0 => ⟨(fun ro c s s' x h => by simp [evC] at h), (fun ro c s s' x h => by simp [evC] at h)⟩
  | f + 1 => by
    obtain ⟨ih, il⟩ := ev_both hmix hW hO f
    refine ⟨?_, loop_sound hO ih il⟩
    have hc := hW _ (env_sound ih)
    intro ro c s s' x h
    have stay : ∀ {x0 : VX}, some (x0, s) = some (x, s') → (∀ {ro' : Option Nat} {Q : Exit → Act → World → Prop} {a : Act} {w : World}, Q x0.out a w → c.wpIn (fz ro') 0 P Q a w) → VStep s.hs s'.hs ∧
        ∀ (σ : Ren) (ro' : Option Nat) (H : Nat → Option VO) (a : Act) (w : World) (Q : Exit → Act → World → Prop), RoR σ ro ro' → Match P B σ H w → Sim s.hs H → TR σ s.tmps a.tmps → DL σ s.defs a.defers → Agree s.hs s'.hs H → Ok B w →
          (∀ σ' a' w', Ren.le σ σ' → Match P B σ' (upd H s'.hs) w' → TR σ' s'.tmps a'.tmps → DL σ' s'.defs a'.defers → Below B.b w w' → Q x.out a' w') → c.wpIn (fz ro') 0 P Q a w := by
      intro x0 e hw
      injection e with e; injection e with e1 e2; subst e1; subst e2
      exact ⟨.refl _, fun σ ro' H a w Q hro hm hs ht hd ha hB hk => hw (hk σ a w (Ren.le_refl _) (by rw [hs.upd]; exact hm) ht hd (Below.refl _ _))⟩
    -- one piece of code, then what stands behind it
    have chain : ∀ {c1 : Code} {s1 : St} {x1 : VX}, evC P B.g W f ro c1 s = some (x1, s1) → (VStep s1.hs s'.hs) → ∀ (σ : Ren) (ro' : Option Nat) (H : Nat → Option VO) (a : Act) (w : World) (Q1 : Exit → Act → World → Prop), RoR σ ro ro' → Match P B σ H w → Sim s.hs H → TR σ s.tmps a.tmps → DL σ s.defs a.defers → Agree s.hs s'.hs H → Ok B w →
        (∀ σ' a' w', Ren.le σ σ' → Match P B σ' (upd H s1.hs) w' → Sim s1.hs (upd H s1.hs) → TR σ' s1.tmps a'.tmps → DL σ' s1.defs a'.defers → Agree s1.hs s'.hs (upd H s1.hs) → Ok B w' → Below B.b w w' → Q1 x1.out a' w') → c1.wpIn (fz ro') 0 P Q1 a w := by
      intro c1 s1 x1 he hst σ ro' H a w Q1 hro hm hs ht hd ha hB hk
      obtain ⟨h1, h2⟩ := ih _ _ _ _ _ he
      exact h2 σ ro' H a w Q1 hro hm hs ht hd (ha.first hst) hB fun σ' a' w' g1 g2 g3 g4 g5 => hk σ' a' w' g1 g2 (hs.step h1) g3 g4 (ha.last hs h1 hst) (hB.step g5) g5
    have heval : ∀ {oc : Operand} {b : Bool} {σ : Ren} {a : Act}, evalV s.tmps oc = .bool b → TR σ s.tmps a.tmps → a.eval oc = .bool b := by
      intro oc b σ a he ht
      cases oc with
      | tmp t =>
        have he : s.tmps.at t = .bool b := he
        have := (ht t).at (by rw [he]; rfl)
        rw [he] at this
        generalize hx : a.tmps.getD t undef = x at this
        cases this
        exact hx
      | const v => exact he
      | global g => cases he
      | func g => cases he
    unfold evC at h
    split at h
    · exact stay h fun hq => wpIn_skip hq
    · exact stay h fun hq => wpIn_label hq
    · split at h
      · rename_i s1 hr
        injection h with h; injection h with e1 e2; subst e1; subst e2
        exact ⟨(runOps_sound (Q := fun _ _ _ => True) hc _ _ _ hr).1, fun σ ro' H a w Q hro hm hs ht hd ha hB hk => wpIn_region ((runOps_sound hc _ _ _ hr).2 σ ro' H a w hro hm hs ht hd ha hB hk)⟩
      · cases h
    · split at h
      · rename_i s1 hr
        injection h with h; injection h with e1 e2; subst e1; subst e2
        obtain ⟨h1, h2, h3⟩ := draw_sound hmix hc hr
        exact ⟨h1, fun σ ro' H a w Q hro hm hs ht hd ha hB hk => h3 σ ro' H a w Q hm hs ht ha hB fun σ' a' w' k1 k2 k3 k4 k5 => hk σ' a' w' k1 k2 k3 (by rw [h2, k4]; exact hd.mono k1) k5⟩
      · split at h
        · rename_i s1 hr
          injection h with h; injection h with e1 e2; subst e1; subst e2
          obtain ⟨h1, h2, h3⟩ := drawAll_sound hmix hc hr
          exact ⟨h1, fun σ ro' H a w Q hro hm hs ht hd ha hB hk => h3 σ ro' H a w Q hro hm hs ht hd ha hB hk⟩
        · cases h
    · rename_i c1 c2
      cases he : evC P B.g W f ro c1 s with
      | none => rw [he] at h; cases h
      | some p =>
        obtain ⟨x1, s1⟩ := p
        rw [he] at h
        cases x1 with
        | normal =>
          obtain ⟨g1, g2⟩ := ih _ _ _ _ _ h
          refine ⟨(ih _ _ _ _ _ he).1.trans g1, fun σ ro' H a w Q hro hm hs ht hd ha hB hk => wpIn_seq (chain he g1 σ ro' H a w _ hro hm hs ht hd ha hB fun σ' a' w' k1 k2 k3 k4 k5 k6 k7 k8 => ?_)⟩
          refine g2 σ' ro' _ a' w' Q (hro.mono k1) k2 k3 k4 k5 k6 k7 fun σ2 a2 w2 j1 j2 j3 j4 j5 => ?_
          rw [upd_upd g1] at j2
          exact hk σ2 a2 w2 (Ren.le_trans k1 j1) j2 j3 j4 (k8.trans j5)
        | exit id =>
          injection h with h; injection h with e1 e2; subst e1; subst e2
          exact ⟨(ih _ _ _ _ _ he).1, fun σ ro' H a w Q hro hm hs ht hd ha hB hk => wpIn_seq ((ih _ _ _ _ _ he).2 σ ro' H a w _ hro hm hs ht hd ha hB hk)⟩
        | ret =>
          injection h with h; injection h with e1 e2; subst e1; subst e2
          exact ⟨(ih _ _ _ _ _ he).1, fun σ ro' H a w Q hro hm hs ht hd ha hB hk => wpIn_seq ((ih _ _ _ _ _ he).2 σ ro' H a w _ hro hm hs ht hd ha hB hk)⟩
    · rename_i oc c1 c2
      split at h
      · rename_i he
        obtain ⟨g1, g2⟩ := ih _ _ _ _ _ h
        exact ⟨g1, fun σ ro' H a w Q hro hm hs ht hd ha hB hk => wpIn_cond_true (heval he ht) (g2 σ ro' H a w Q hro hm hs ht hd ha hB hk)⟩
      · rename_i he
        obtain ⟨g1, g2⟩ := ih _ _ _ _ _ h
        exact ⟨g1, fun σ ro' H a w Q hro hm hs ht hd ha hB hk => wpIn_cond_false (heval he ht) (g2 σ ro' H a w Q hro hm hs ht hd ha hB hk)⟩
      · cases h
    · rename_i id c1
      cases he : evC P B.g W f ro c1 s with
      | none => rw [he] at h; cases h
      | some p =>
        obtain ⟨x1, s1⟩ := p
        rw [he] at h
        obtain ⟨g1, g2⟩ := ih _ _ _ _ _ he
        cases x1 with
        | normal =>
          injection h with h; injection h with e1 e2; subst e1; subst e2
          exact ⟨g1, fun σ ro' H a w Q hro hm hs ht hd ha hB hk => wpIn_block (g2 σ ro' H a w _ hro hm hs ht hd ha hB hk)⟩
        | exit i =>
          simp only at h
          split at h
          · rename_i hi
            injection h with h; injection h with e1 e2; subst e1; subst e2
            have := Nat.eq_of_beq_eq_true hi
            subst this
            refine ⟨g1, fun σ ro' H a w Q hro hm hs ht hd ha hB hk => wpIn_block (g2 σ ro' H a w _ hro hm hs ht hd ha hB fun σ' a' w' k1 k2 k3 k4 k5 => ?_)⟩
            show (if i = i then Q .normal a' w' else Q (.exit i) a' w')
            rw [if_pos rfl]
            exact hk σ' a' w' k1 k2 k3 k4 k5
          · rename_i hi
            injection h with h; injection h with e1 e2; subst e1; subst e2
            refine ⟨g1, fun σ ro' H a w Q hro hm hs ht hd ha hB hk => wpIn_block (g2 σ ro' H a w _ hro hm hs ht hd ha hB fun σ' a' w' k1 k2 k3 k4 k5 => ?_)⟩
            show (if i = id then Q .normal a' w' else Q (.exit i) a' w')
            rw [if_neg (fun e => by rw [e, Nat.beq_refl] at hi; cases hi)]
            exact hk σ' a' w' k1 k2 k3 k4 k5
        | ret =>
          injection h with h; injection h with e1 e2; subst e1; subst e2
          exact ⟨g1, fun σ ro' H a w Q hro hm hs ht hd ha hB hk => wpIn_block (g2 σ ro' H a w _ hro hm hs ht hd ha hB hk)⟩
    · rename_i c1
      have hloop : evC P B.g W (f + 1) ro (.loop c1) s = some (x, s') := by unfold evC; exact h
      obtain ⟨n, g2⟩ := loop_sound hO ih il _ _ _ _ _ hloop
      refine ⟨?_, fun σ ro' H a w Q hro hm hs ht hd ha hB hk => wpIn_loop_rounds n (g2 σ ro' H a w Q hro hm hs ht hd ha hB hk)⟩
      cases ho : W.loop ro c1 s with
      | some r => rw [ho] at h; simp only at h; injection h with h; subst h; exact (hO _ _ _ _ _ ho).1
      | none =>
      rw [ho] at h
      simp only at h
      cases he : evC P B.g W f ro c1 s with
      | none => rw [he] at h; cases h
      | some p =>
        obtain ⟨x1, s1⟩ := p
        rw [he] at h
        cases x1 with
        | normal => exact (ih _ _ _ _ _ he).1.trans (ih _ _ _ _ _ h).1
        | exit id =>
          injection h with h; injection h with e1 e2; subst e1; subst e2
          exact (ih _ _ _ _ _ he).1
        | ret =>
          injection h with h; injection h with e1 e2; subst e1; subst e2
          exact (ih _ _ _ _ _ he).1
    · exact stay h fun hq => wpIn_exit hq
    · obtain ⟨g1, g2⟩ := ih _ _ _ _ _ h
      refine ⟨g1, fun σ ro' H a w Q hro hm hs ht hd ha hB hk => wpIn_scope_straight (g2 σ ro' H a w _ hro hm hs ht hd ha hB fun σ' a' w' k1 k2 k3 k4 k5 => ?_)⟩
      cases x <;> exact hk σ' a' w' k1 k2 k3 k4 k5
    · exact stay h fun hq => wpIn_ret hq
    · -- a loop over a function
      rename_i g ps asg bd
      split at h
      · cases h
      · rename_i hok
        split at h
        · rename_i gf p q hg
          split at h
          · cases h
          · rename_i hcl
            split at h
            · rename_i l mk hs1 hen
              have hv1 := enter_step hen
              split at h
              · rename_i rv hs2 hcall
                obtain ⟨hv2, hcs⟩ := hc.fn _ _ _ _ _ hcall
                split at h
                · rename_i px hpx
                  split at h
                  · rename_i hs3 hmk
                    have hv3 := mark_step hmk
                    injection h with h; injection h with e1 e2; subst e1; subst e2
                    refine ⟨(hv1.trans hv2).trans hv3, fun σ ro' H a w Q hro hm hs ht hd ha hB hk => ?_⟩
                    refine wpIn_rangeFunc fun fn _ => ?_
                    rw [fz_round]
                    obtain ⟨σ1, l', κ, mk', w1, q1, q2, q3, q4, q5, q6⟩ := enter_sound (P := P) hen (t' := a.tmps) fn hro hm hs (ha.first (hv2.trans hv3)) hB ht
                    have hgv : VRel σ1 (evalV s.tmps g) (a.eval g) := by
                      cases g with
                      | tmp t => exact ((ht t).at (by rw [show s.tmps.at t = _ from hg]; rfl)).mono q2
                      | const v => exact flat_rel 50 v hok
                      | global x => exact .ptr (q2 _ _ (hm.low x (blt_iff.1 hok)))
                      | func x => exact VRel.func (.func x) rfl rfl (fun i v v' x => by simp at x) rfl (fun i v v' x => by simp at x)
                    rw [hg] at hgv
                    generalize hfv : a.eval g = fv at hgv
                    cases hgv with
                    | func _ hy i1 i2 i3 i4 =>
                      rename_i p' q'
                      have hyl : VRel σ1 (.func (.yield l) #[] #[]) (.func (.yield l') #[] #[]) := .yield q3
                      have hargs : AR σ1 ((p ++ #[.func (.yield l) #[] #[]]) ++ q) ((p' ++ #[.func (.yield l') #[] #[]]) ++ q') := (AR.append ⟨i1, i2⟩ (AR.single hyl)).append ⟨i3, i4⟩
                      refine ⟨l', mk', w1, { target := .fn (.func gf) q', args := p' ++ #[.func (.yield l') #[] #[]] }, w1, gf, _, w1, q1, ?_, fun _ _ => fz_fn ro' _, run_callable (by simpa using hcl) _ w1, fz_depth ro', ?_⟩
                      · simp only [resolve, hfv]
                        simp [Deferred.ofValue, Act.eval, Sem.run_pure]
                      · have hs1' := hs.step hv1
                        have ha1 := ha.last hs hv1 (hv2.trans hv3)
                        have hB1 := hB.step q6
                        refine fz_calls ((hcs σ1 _ _ w1 hargs q5 hs1' (ha1.first hv3) hB1).mono ?_)
                        rintro e w2 ⟨σ2, v', rfl, k2, k3, k4, k5⟩
                        have hs2' := hs1'.step hv2
                        have ha2 := ha1.last hs1' hv2 hv3
                        obtain ⟨r, st2, pe2, t2, ps2, as2, bd2, d2, z0, z1, z2, z3, z4, z5⟩ := mark_sound hmk (k2 _ _ q3) k4 hs2' ha2
                        have hnb : r.state ≠ .busy := fun e => by rw [e] at z2; cases z2
                        have hrun := run_endLoop (P := P) z1 hnb
                        rw [upd_upd hv3, upd_upd (hv2.trans hv3)] at z4
                        have hk' := hk σ2 { a with defers := mk' ++ a.defers } _ (Ren.le_trans q2 k2) z4 (ht.mono (Ren.le_trans q2 k2)) (dl_append (q4.mono k2) (hd.mono (Ren.le_trans q2 k2))) (q6.trans (k5.trans z5))
                        refine ⟨r.pending, _, hrun, ?_⟩
                        unfold pendV at hpx
                        rw [z0] at hpx
                        simp only at hpx
                        rw [← z3] at hpx
                        generalize r.pending = pe at hpx hk'
                        split at hpx
                        · injection hpx with hpx; subst hpx; exact hk'
                        · injection hpx with hpx; subst hpx; exact wpIn_ret hk'
                        · injection hpx with hpx; subst hpx; exact wpIn_exit hk'
                        · cases hpx
                  · cases h
                · cases h
              · cases h
            · cases h
        · cases h
    · cases h
end
end Go.Proofs.Ytpaojoahbmlolaa
