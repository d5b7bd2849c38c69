/- The operations, run and real: arithmetic, maps, builtins. -/
import Derived.Test.YtpaojoahbmlolaaEvG
namespace Go.Proofs.Ytpaojoahbmlolaa
open Go Go.RowKit
set_option linter.unusedSectionVars false
set_option linter.unusedVariables false
set_option linter.unusedSimpArgs false
set_option linter.unnecessarySimpa false
section
variable {P : Program} [NoCx P] {σ : Ren} {α β : Type} {R : Ren → α → β → Prop}

/-- an operation that makes a flat value, or panics -/
theorem intArith_rel {op : BinOp} {k : IntKind} {a b : Int} : SemRel P VR σ (Op.intArith op k a b) (Op.intArith op k a b) := by
  unfold Op.intArith; split <;> first | exact .ret (.int _ _) | exact .dead dead_stuck
theorem intDiv_rel {op : BinOp} {k : IntKind} {a b : Int} : SemRel P VR σ (Op.intDiv op k a b) (Op.intDiv op k a b) := by
  unfold Op.intDiv; split
  · exact .dead dead_runtimePanic
  · split <;> first | exact .ret (.int _ _) | exact .dead dead_stuck
theorem intBits_rel {op : BinOp} {k : IntKind} {a b : Int} : SemRel P VR σ (Op.intBits op k a b) (Op.intBits op k a b) := by
  unfold Op.intBits; split <;> first | exact .ret (.int _ _) | exact .dead dead_stuck
theorem intCmp_rel {op : BinOp} {a b : Int} : SemRel P VR σ (Op.intCmp op a b) (Op.intCmp op a b) := by
  unfold Op.intCmp; split <;> first | exact .ret (.bool _) | exact .dead dead_stuck
theorem shift_rel {op : BinOp} {k k' : IntKind} {a b : Int} : SemRel P VR σ (Op.shift op k a k' b) (Op.shift op k a k' b) := by
  unfold Op.shift; split
  · exact .dead dead_runtimePanic
  · dsimp only; split <;> first | exact .ret (.int _ _) | exact .dead dead_stuck
theorem stringOp_rel {op : BinOp} {a b : ByteArray} : SemRel P VR σ (Op.stringOp op a b) (Op.stringOp op a b) := by
  unfold Op.stringOp; dsimp only
  split
  · split
    · exact .dead dead_unsupported
    · exact .ret (.string _)
  all_goals first | exact .ret (.bool _) | exact .dead dead_stuck
theorem unary_rel {op : UnOp} {x x' : Value} (h : VRel σ x x') (hn : isHandle x = false) : SemRel P VR σ (Op.unary op x) (Op.unary op x') := by
  unfold Op.unary
  refine sr_right fun u hr => ?_
  split <;> cases h <;> subst hr
  all_goals first | (cases hn; done) | exact intArith_rel | exact intBits_rel | exact .ret (.bool _) | exact .dead dead_unsupported | exact .dead dead_stuck

theorem eqGuardIn_rel : ∀ (d : Nat) {σ : Ren} (t : TypeId) {x x' y y' : Value}, VRel σ x x' → VRel σ y y' → SemRel P ER σ (Op.eqGuardIn d t x y) (Op.eqGuardIn d t x' y')
  | 0, σ, t, x, x', y, y', hx, hy => .dead fun _ => rfl
  | d + 1, σ, t, x, x', y, y', hx, hy => by
    unfold Op.eqGuardIn
    refine underlying_any.bnd fun s ty ty' hs e => ?_
    obtain ⟨rfl, hu⟩ := e
    replace hx := hx.mono hs
    replace hy := hy.mono hs
    refine sr_right fun u hr => ?_
    split
    · cases hx; cases hy; subst hr; exact .ret rfl
    · cases hx with | agg h1 h2 => ?_
      cases hy with | agg k1 k2 => ?_
      subst hr; dsimp only
      simp only [← Array.forIn_toList]
      refine SemRel.bnd (S := ER) (forIn_rel _ _ _ _ (fun f s2 b hs2 => ?_) _) fun s3 a b hs3 e => ?_
      · split
        · have hx2 : AR s2 _ _ := AR.mono hs2 ⟨h1, h2⟩
          have hy2 : AR s2 _ _ := AR.mono hs2 ⟨k1, k2⟩
          refine (part_rel hx2).bnd fun s4 v v' hs4 hv => ?_
          refine (part_rel (hy2.mono hs4)).bnd fun s5 q q' hs5 hq => ?_
          refine (eqGuardIn_rel d _ (hv.mono hs5) hq).bnd fun s6 a b hs6 e => ?_
          obtain rfl : a = b := e
          split <;> exact .ret rfl
        · exact .ret rfl
      · obtain rfl : a = b := e
        split <;> exact .ret rfl
    · cases hx with | agg h1 h2 => ?_
      cases hy with | agg k1 k2 => ?_
      subst hr; dsimp only
      refine sizeOf_any.bnd fun s2 a b hs2 e => ?_
      obtain ⟨rfl, _⟩ := e
      simp only [Std.Legacy.Range.forIn_eq_forIn_range']
      refine SemRel.bnd (S := ER) (forIn_rel _ _ _ _ (fun f s3 b hs3 => ?_) _) fun s3 a b hs3 e => ?_
      · have hx2 : AR s3 _ _ := AR.mono (Ren.le_trans hs2 hs3) ⟨h1, h2⟩
        have hy2 : AR s3 _ _ := AR.mono (Ren.le_trans hs2 hs3) ⟨k1, k2⟩
        refine (part_rel hx2).bnd fun s4 v v' hs4 hv => ?_
        refine (part_rel (hy2.mono hs4)).bnd fun s5 q q' hs5 hq => ?_
        refine (eqGuardIn_rel d _ (hv.mono hs5) hq).bnd fun s6 a b hs6 e => ?_
        obtain rfl : a = b := e
        split <;> exact .ret rfl
      · obtain rfl : a = b := e
        split <;> exact .ret rfl
    · rename_i n1 n2 n3
      subst hr
      split
      · cases hx; cases hy; exact (n1 _ rfl rfl rfl).elim
      · cases hx; cases hy; exact (n2 _ _ _ rfl rfl rfl).elim
      · cases hx; cases hy; exact (n3 _ _ _ _ rfl rfl rfl).elim
      · exact .ret rfl

theorem ite_rel {c : Prop} [Decidable c] {m n : Sem α} {m' n' : Sem β} (h1 : c → SemRel P R σ m m') (h2 : ¬ c → SemRel P R σ n n') : SemRel P R σ (if c then m else n) (if c then m' else n') := by
  split
  · exact h1 ‹_›
  · exact h2 ‹_›

theorem eqGuard_rel {op : BinOp} {t : TypeId} {x y : Operand} {a a' b b' : Value} (h : VRel σ a a') (k : VRel σ b b') : SemRel P ER σ (eqGuard op t x y a b) (eqGuard op t x y a' b') := by
  unfold eqGuard
  refine ite_rel (fun _ => .ret rfl) (fun _ => ?_)
  · refine sr_right fun u hr => ?_
    split
    · cases h; cases k; subst hr; dsimp only
      refine ite_rel (fun _ => .ret rfl) (fun _ => ?_)
      · refine (eqGuardIn_rel _ _ .nilIface .nilIface).bnd fun s2 a b hs e => ?_
        obtain rfl : a = b := e
        split
        · exact .dead dead_unsupported
        · exact .ret rfl
    · cases h with | agg h1 h2 => ?_
      cases k with | agg k1 k2 => ?_
      subst hr; dsimp only
      refine program_rel (program_rel ?_)
      refine ite_rel (fun _ => .ret rfl) (fun _ => ?_)
      · refine (eqGuardIn_rel _ _ (.agg h1 h2) (.agg k1 k2)).bnd fun s2 a b hs e => ?_
        obtain rfl : a = b := e
        split
        · exact .dead dead_unsupported
        · exact .ret rfl
    · rename_i n1 n2
      subst hr
      split
      · cases h; cases k; exact (n1 rfl rfl).elim
      · cases h; cases k; exact (n2 _ _ rfl rfl).elim
      · exact .ret rfl
end
end Go.Proofs.Ytpaojoahbmlolaa
