/- The operations, run and real: comparisons. -/
import Derived.Test.YtpaojoahbmlolaaEvF
namespace Go.Proofs.Ytpaojoahbmlolaa
open Go Go.RowKit
set_option linter.unusedSectionVars false
set_option linter.unusedVariables false
set_option linter.unusedSimpArgs false
set_option linter.unnecessarySimpa false
section
variable {P : Program} [NoCx P] {σ : Ren} {α β : Type} {R : Ren → α → β → Prop}
theorem sr_right {m : Sem α} {u : Sem β} (h : ∀ v, v = u → SemRel P R σ m v) : SemRel P R σ m u := h u rfl

theorem forIn_rel {γ δ : Type} (f f' : γ → δ → Sem (ForInStep δ)) : ∀ (l : List γ) (σ : Ren), (∀ x s b, Ren.le σ s → SemRel P ER s (f x b) (f' x b)) → ∀ b, SemRel P ER σ (forIn l b f) (forIn l b f')
  | [], σ, h, b => by rw [List.forIn_nil, List.forIn_nil]; exact .ret rfl
  | x :: l, σ, h, b => by
    rw [List.forIn_cons, List.forIn_cons]
    refine (h x σ b (Ren.le_refl _)).bnd fun s u v hs e => ?_
    obtain rfl : u = v := e
    cases u with
    | done b => exact .ret rfl
    | yield b => exact forIn_rel f f' l s (fun x s2 b hs2 => h x s2 b (Ren.le_trans hs hs2)) b

theorem sameAddr_rel {a a' b b' : Addr} (h : PR σ a a') (k : PR σ b b') : SemRel P ER σ (sameAddr a b) (sameAddr a' b') := by
  unfold sameAddr
  obtain ⟨κ, h1, h2, h3⟩ := h
  obtain ⟨κ2, k1, k2, k3⟩ := k
  obtain ⟨ab, ao, ap⟩ := a
  obtain ⟨bb, bo, bp⟩ := b
  obtain ⟨ab', ao', ap'⟩ := a'
  obtain ⟨bb', bo', bp'⟩ := b'
  simp only at h1 h2 h3 k1 k2 k3
  subst h2; subst h3; subst k2; subst k3
  by_cases e : ab = bb
  · subst e
    rw [h1] at k1
    injection k1 with k1; injection k1 with k1 k2
    subst k1
    simp only [beq_self_eq_true, if_true]
    refine .ret ?_
    show (_ == _) = (_ == _)
    rw [Bool.eq_iff_iff]
    simp only [beq_iff_eq, Addr.mk.injEq, true_and]
  · refine .dead fun x => ?_
    have : (ab == bb) = false := by simpa using e
    simp only [this, Bool.false_eq_true, if_false]
    rfl

theorem program_rel {f : Program → Sem α} {f' : Program → Sem β} (h : SemRel P R σ (f P) (f' P)) : SemRel P R σ (program >>= f) (program >>= f') := .program h

theorem equalIn_rel : ∀ (d : Nat) {σ : Ren} (t : TypeId) {x x' y y' : Value}, VRel σ x x' → VRel σ y y' → SemRel P ER σ (Op.equalIn d t x y) (Op.equalIn d t x' y')
  | 0, σ, t, x, x', y, y', hx, hy => .dead fun _ => rfl
  | d + 1, σ, t, x, x', y, y', hx, hy => by
    unfold Op.equalIn
    refine underlying_any.bnd fun s ty ty' hs e => ?_
    obtain ⟨rfl, hu⟩ := e
    replace hx := hx.mono hs
    replace hy := hy.mono hs
    refine sr_right fun u hr => ?_
    split
    · cases hx; cases hy; subst hr; exact .ret rfl
    · cases hx; cases hy; subst hr; dsimp only
      split
      · exact .ret rfl
      · exact .dead dead_stuck
    · cases hx; cases hy; subst hr; exact .ret rfl
    · cases hx; cases hy; subst hr; exact .ret rfl
    · exact .dead fun _ => rfl
    · exact .dead fun _ => rfl
    · exact .dead fun _ => rfl
    · cases hx
    · exact absurd hu (NoCx.h _ _)
    · cases hx; cases hy; subst hr; exact .ret rfl
    · cases hx; cases hy <;> (subst hr; exact .ret rfl)
    · cases hx <;> cases hy <;> (subst hr; first | exact .ret rfl | (exfalso; simp_all; done))
    · cases hx with | ptr h => ?_
      cases hy with | ptr k => ?_
      subst hr; dsimp only
      refine sizeOf_any.bnd fun s2 a b hs2 e => ?_
      obtain ⟨rfl, _⟩ := e
      by_cases h0 : a ≠ 0
      · rw [if_pos h0, if_pos h0]
        exact sameAddr_rel ⟨_, hs2 _ _ h, rfl, rfl⟩ ⟨_, hs2 _ _ k, rfl, rfl⟩
      · rw [if_neg h0, if_neg h0]
        split
        · rename_i he
          have he := eq_of_beq he
          injection he with e1 e2 e3
          subst e1; subst e2; subst e3
          rw [h] at k
          injection k with k; injection k with k _
          subst k
          simp only [beq_self_eq_true, if_true]
          exact .ret rfl
        · exact .dead fun _ => rfl
    · cases hx <;> cases hy <;> (subst hr; dsimp only [samePointer])
      all_goals first | exact .ret rfl | exact sameAddr_rel ⟨_, by assumption, rfl, rfl⟩ ⟨_, by assumption, rfl, rfl⟩
    · cases hx
    · cases hx; cases hy; subst hr; exact .ret rfl
    · cases hx; cases hy; subst hr; exact .ret rfl
    · cases hx; cases hy; subst hr; exact .ret rfl
    · cases hx; cases hy; subst hr; dsimp only
      rename_i h _ k
      split
      · exact .ret rfl
      · refine typeInfo_any.bnd fun s2 a b hs2 e => ?_
        obtain ⟨rfl, _⟩ := e
        by_cases hc : (!a.comparable) = true
        · rw [if_pos hc]
          refine .dead (dead_after fun p => dead_after fun p2 x => ?_)
          split
          · exact dead_bind _ dead_unsupported x
          · exact dead_after (fun _ => dead_runtimePanic) x
        · rw [if_neg hc, if_neg hc]
          exact equalIn_rel d _ (h.mono hs2) (k.mono hs2)
    · cases hx; cases hy; subst hr; dsimp only
      rename_i h1 h2 _ k1 k2
      refine program_rel ?_
      by_cases hc : P.stoodInHeld t = true
      · rw [if_pos hc]; exact .dead (dead_bind _ dead_unsupported)
      · rw [if_neg hc, if_neg hc]
        simp only [← Array.forIn_toList]
        refine SemRel.bnd (S := ER) (forIn_rel _ _ _ _ (fun f s2 b hs2 => ?_) _) fun s3 a b hs3 e => ?_
        · split
          · have hx2 : AR s2 _ _ := AR.mono hs2 ⟨h1, h2⟩
            have hy2 : AR s2 _ _ := AR.mono hs2 ⟨k1, k2⟩
            refine (part_rel hx2).bnd fun s4 v v' hs4 hv => ?_
            refine (part_rel (hy2.mono hs4)).bnd fun s5 q q' hs5 hq => ?_
            refine (equalIn_rel d _ (hv.mono hs5) hq).bnd fun s6 a b hs6 e => ?_
            obtain rfl : a = b := e
            split <;> exact .ret rfl
          · exact .ret rfl
        · obtain rfl : a = b := e
          split <;> exact .ret rfl
    · cases hx; cases hy; subst hr; dsimp only
      rename_i h1 h2 _ k1 k2
      refine sizeOf_any.bnd fun s2 a b hs2 e => ?_
      obtain ⟨rfl, _⟩ := e
      simp only [Std.Legacy.Range.forIn_eq_forIn_range']
      refine SemRel.bnd (S := ER) (forIn_rel _ _ _ _ (fun f s3 b hs3 => ?_) _) fun s3 a b hs3 e => ?_
      · have hx2 : AR s3 _ _ := AR.mono (Ren.le_trans hs2 hs3) ⟨h1, h2⟩
        have hy2 : AR s3 _ _ := AR.mono (Ren.le_trans hs2 hs3) ⟨k1, k2⟩
        refine (part_rel hx2).bnd fun s4 v v' hs4 hv => ?_
        refine (part_rel (hy2.mono hs4)).bnd fun s5 q q' hs5 hq => ?_
        refine (equalIn_rel d _ (hv.mono hs5) hq).bnd fun s6 a b hs6 e => ?_
        obtain rfl : a = b := e
        split <;> exact .ret rfl
      · obtain rfl : a = b := e
        split <;> exact .ret rfl
    · cases hx; cases hy <;> (subst hr; exact .ret rfl)
    · cases hx <;> cases hy <;> (subst hr; first | exact .ret rfl | (exfalso; simp_all; done))
    · cases hx; cases hy
      all_goals (subst hr; exact .ret rfl)
    · cases hx
      all_goals cases hy
      all_goals (subst hr; first | exact .ret rfl | (exfalso; simp_all; done))
    · cases hx; cases hy; subst hr; exact .ret rfl
    · cases hx
      all_goals cases hy
      all_goals (subst hr; exact .ret rfl)
    · cases hx
      all_goals cases hy
      all_goals (subst hr; exact .ret rfl)
    · exact .dead fun _ => rfl
end
end Go.Proofs.Ytpaojoahbmlolaa
