/- Layer 13: DriveParts, out of its contract. -/
import Derived.Test.YtkmooakeilkdiaaOgW
namespace Go.Proofs.Ytkmooakeilkdiaa
open Go Go.RowKit
set_option linter.unusedVariables false
def In64 (n : Int) : Prop := -9223372036854775808 ≤ n ∧ n ≤ 9223372036854775807
theorem fr_b (a : Int) : 0 ≤ frO a ∧ frO a ≤ 399 := by unfold frO; omega
theorem sp_b (n : Int) : 1 ≤ spO n ∧ spO n ≤ 20 := by unfold spO; omega
theorem br_b (n : Int) : 0 ≤ brO n ∧ brO n ≤ 5 := by unfold brO; omega
theorem goes_ok (a b n : Int) : DOk (frO a) (frO b) 0 (gQ (frO a) (frO b) (brO n)) (gL (frO a) (frO b) (brO n)) (spO n) (brO n) := by
  have h1 := fr_b a
  have h2 := fr_b b
  have h3 := sp_b n
  have h4 := br_b n
  unfold gQ gL
  refine ⟨by omega, by omega, by omega, by omega, by omega, by omega, by omega, by omega, by omega, by omega, by split <;> omega, by split <;> omega, ?_⟩
  by_cases c : frO b = frO a
  · rw [if_pos c, if_pos c]; exact .inl ⟨rfl, c.symm, rfl, rfl⟩
  · rw [if_neg c, if_neg c]
    by_cases d : brO n = 0
    · rw [if_pos d]; exact .inr (.inr (.inl ⟨rfl, fun e => c e.symm, d, .inl rfl⟩))
    · rw [if_neg d]; exact .inr (.inl ⟨rfl, fun e => c e.symm, rfl, by omega⟩)
/-- the drive that begins -/
noncomputable def x0 (a b n : Int) : X4 := (frO a, 0, gQ (frO a) (frO b) (brO n), gL (frO a) (frO b) (brO n))
theorem x0_ok (a b n : Int) : okX (frO b) (spO n) (brO n) (x0 a b n) := goes_ok a b n
theorem nG_of {n : Int} (h : 0 ≤ n ∧ n ≤ 200000) : nG n = true := by unfold nG; exact decide_eq_true h
theorem paA_go {a b n one two : Int} (ho : 0 ≤ one % 60 ∧ one % 60 ≤ 59) : ∀ (k i : Nat) (x : X4), (i : Int) + k = one % 60 → okX (frO b) (spO n) (brO n) x → paA_f a b n one two (k + 1) (i : Int) x.1 x.2.1 x.2.2.1 x.2.2.2 = some (0, (one % 60, (dN (frO b) (spO n) (brO n) k x).1, (dN (frO b) (spO n) (brO n) k x).2.1, (dN (frO b) (spO n) (brO n) k x).2.2.1, (dN (frO b) (spO n) (brO n) k x).2.2.2)) := by
  intro k
  induction k with
  | zero =>
    intro i x h hx
    have hs : sG x.1 (frO b) x.2.1 x.2.2.1 x.2.2.2 (spO n) (brO n) = true := sG_iff.2 hx
    rw [paA_f, hs, decide_eq_true (by omega), Bool.and_self, cond_true, decide_eq_false (by omega), cond_false]
    simp only [dN]
    rw [show (i : Int) = one % 60 by omega]
  | succ k ih =>
    intro i x h hx
    have hs : sG x.1 (frO b) x.2.1 x.2.2.1 x.2.2.2 (spO n) (brO n) = true := sG_iff.2 hx
    rw [paA_f, hs, decide_eq_true (by omega), Bool.and_self, cond_true, decide_eq_true (by omega), cond_true, w8 (by omega), show (i : Int) + 1 = ((i + 1 : Nat) : Int) by omega]
    exact ih (i + 1) (dX (frO b) (spO n) (brO n) x) (by omega) (dX_ok hx)
theorem mN_two {g s k : Int} {i j : Nat} (hi : i ≤ 59) (hj : j ≤ 59) (x y : X4) : -100000000 ≤ mN g s k i x + mN g s k j y ∧ mN g s k i x + mN g s k j y ≤ 100000000 := by
  have := mN_b (g := g) (s := s) (k := k) i x
  have := mN_b (g := g) (s := s) (k := k) j y
  omega
theorem parts_law (a b n one two : Int) : Known Try.prog [] 7 [.int .i64 a, .int .i64 b, .int .i64 n, .int .i64 one, .int .i64 two] (.bool true) := by
  have ho : 0 ≤ one % 60 ∧ one % 60 ≤ 59 := by omega
  have ht : 0 ≤ two % 60 ∧ two % 60 ≤ 59 := by omega
  have h1 := fr_b a
  have h2 := fr_b b
  have h3 := sp_b n
  have h4 := br_b n
  have hx := x0_ok a b n
  have hx1 := dN_ok (one % 60).toNat hx
  have ew : IntKind.i64.wrap (one % 60 + two % 60) = one % 60 + two % 60 := w8 (by omega)
  have eN : (IntKind.i64.wrap (one % 60 + two % 60)).toNat = (one % 60).toNat + (two % 60).toNat := by rw [ew]; omega
  have ad := dN_add (g := frO b) (s := spO n) (k := brO n) (one % 60).toNat (two % 60).toNat (x0 a b n)
  have g1 : atG (frO a) = true := by unfold atG; exact decide_eq_true (by omega)
  have g2 : goG (frO a) (frO a) 0 0 0 (frO b) (brO n) = true := by unfold goG; exact decide_eq_true (by omega)
  have g3 : (sG (frO a) (frO b) 0 (gQ (frO a) (frO b) (brO n)) (gL (frO a) (frO b) (brO n)) (spO n) (brO n) && nG (one % 60)) = true := (Bool.and_eq_true _ _).mpr ⟨sG_iff.2 hx, nG_of (by omega)⟩
  have g5 : (sG (frO a) (frO b) 0 (gQ (frO a) (frO b) (brO n)) (gL (frO a) (frO b) (brO n)) (spO n) (brO n) && nG (IntKind.i64.wrap (one % 60 + two % 60))) = true := (Bool.and_eq_true _ _).mpr ⟨sG_iff.2 hx, nG_of (by rw [ew]; omega)⟩
  have b1 := mN_b (g := frO b) (s := spO n) (k := brO n) (one % 60).toNat (x0 a b n)
  have b2 := mN_b (g := frO b) (s := spO n) (k := brO n) (two % 60).toNat (dN (frO b) (spO n) (brO n) (one % 60).toNat (x0 a b n))
  have hg := paA_go (a := a) (b := b) (n := n) (two := two) ho (one % 60).toNat 0 (x0 a b n) (by omega) hx
  have g4 : (sG (rP (frO b) (spO n) (brO n) (one % 60) (frO a) 0 (gQ (frO a) (frO b) (brO n)) (gL (frO a) (frO b) (brO n))) (frO b) (rV (frO b) (spO n) (brO n) (one % 60) (frO a) 0 (gQ (frO a) (frO b) (brO n)) (gL (frO a) (frO b) (brO n))) (rQ (frO b) (spO n) (brO n) (one % 60) (frO a) 0 (gQ (frO a) (frO b) (brO n)) (gL (frO a) (frO b) (brO n))) (rL (frO b) (spO n) (brO n) (one % 60) (frO a) 0 (gQ (frO a) (frO b) (brO n)) (gL (frO a) (frO b) (brO n))) (spO n) (brO n) && nG (two % 60)) = true := (Bool.and_eq_true _ _).mpr ⟨sG_iff.2 hx1, nG_of (by omega)⟩
  have m0 := (by unfold rP rV rQ rL; rw [eN]; exact (congrArg (fun x : X4 => x.1) ad.1).symm : rP (frO b) (spO n) (brO n) (two % 60) (rP (frO b) (spO n) (brO n) (one % 60) (frO a) 0 (gQ (frO a) (frO b) (brO n)) (gL (frO a) (frO b) (brO n))) (rV (frO b) (spO n) (brO n) (one % 60) (frO a) 0 (gQ (frO a) (frO b) (brO n)) (gL (frO a) (frO b) (brO n))) (rQ (frO b) (spO n) (brO n) (one % 60) (frO a) 0 (gQ (frO a) (frO b) (brO n)) (gL (frO a) (frO b) (brO n))) (rL (frO b) (spO n) (brO n) (one % 60) (frO a) 0 (gQ (frO a) (frO b) (brO n)) (gL (frO a) (frO b) (brO n))) = rP (frO b) (spO n) (brO n) (IntKind.i64.wrap (one % 60 + two % 60)) (frO a) 0 (gQ (frO a) (frO b) (brO n)) (gL (frO a) (frO b) (brO n)))
  have m1 := (by unfold rP rV rQ rL; rw [eN]; exact (congrArg (fun x : X4 => x.2.1) ad.1).symm : rV (frO b) (spO n) (brO n) (two % 60) (rP (frO b) (spO n) (brO n) (one % 60) (frO a) 0 (gQ (frO a) (frO b) (brO n)) (gL (frO a) (frO b) (brO n))) (rV (frO b) (spO n) (brO n) (one % 60) (frO a) 0 (gQ (frO a) (frO b) (brO n)) (gL (frO a) (frO b) (brO n))) (rQ (frO b) (spO n) (brO n) (one % 60) (frO a) 0 (gQ (frO a) (frO b) (brO n)) (gL (frO a) (frO b) (brO n))) (rL (frO b) (spO n) (brO n) (one % 60) (frO a) 0 (gQ (frO a) (frO b) (brO n)) (gL (frO a) (frO b) (brO n))) = rV (frO b) (spO n) (brO n) (IntKind.i64.wrap (one % 60 + two % 60)) (frO a) 0 (gQ (frO a) (frO b) (brO n)) (gL (frO a) (frO b) (brO n)))
  have m2 := (by unfold rP rV rQ rL; rw [eN]; exact (congrArg (fun x : X4 => x.2.2.1) ad.1).symm : rQ (frO b) (spO n) (brO n) (two % 60) (rP (frO b) (spO n) (brO n) (one % 60) (frO a) 0 (gQ (frO a) (frO b) (brO n)) (gL (frO a) (frO b) (brO n))) (rV (frO b) (spO n) (brO n) (one % 60) (frO a) 0 (gQ (frO a) (frO b) (brO n)) (gL (frO a) (frO b) (brO n))) (rQ (frO b) (spO n) (brO n) (one % 60) (frO a) 0 (gQ (frO a) (frO b) (brO n)) (gL (frO a) (frO b) (brO n))) (rL (frO b) (spO n) (brO n) (one % 60) (frO a) 0 (gQ (frO a) (frO b) (brO n)) (gL (frO a) (frO b) (brO n))) = rQ (frO b) (spO n) (brO n) (IntKind.i64.wrap (one % 60 + two % 60)) (frO a) 0 (gQ (frO a) (frO b) (brO n)) (gL (frO a) (frO b) (brO n)))
  have m3 := (by unfold rP rV rQ rL; rw [eN]; exact (congrArg (fun x : X4 => x.2.2.2) ad.1).symm : rL (frO b) (spO n) (brO n) (two % 60) (rP (frO b) (spO n) (brO n) (one % 60) (frO a) 0 (gQ (frO a) (frO b) (brO n)) (gL (frO a) (frO b) (brO n))) (rV (frO b) (spO n) (brO n) (one % 60) (frO a) 0 (gQ (frO a) (frO b) (brO n)) (gL (frO a) (frO b) (brO n))) (rQ (frO b) (spO n) (brO n) (one % 60) (frO a) 0 (gQ (frO a) (frO b) (brO n)) (gL (frO a) (frO b) (brO n))) (rL (frO b) (spO n) (brO n) (one % 60) (frO a) 0 (gQ (frO a) (frO b) (brO n)) (gL (frO a) (frO b) (brO n))) = rL (frO b) (spO n) (brO n) (IntKind.i64.wrap (one % 60 + two % 60)) (frO a) 0 (gQ (frO a) (frO b) (brO n)) (gL (frO a) (frO b) (brO n)))
  have m5 : IntKind.i64.wrap (rM (frO b) (spO n) (brO n) (one % 60) (frO a) 0 (gQ (frO a) (frO b) (brO n)) (gL (frO a) (frO b) (brO n)) + rM (frO b) (spO n) (brO n) (two % 60) (rP (frO b) (spO n) (brO n) (one % 60) (frO a) 0 (gQ (frO a) (frO b) (brO n)) (gL (frO a) (frO b) (brO n))) (rV (frO b) (spO n) (brO n) (one % 60) (frO a) 0 (gQ (frO a) (frO b) (brO n)) (gL (frO a) (frO b) (brO n))) (rQ (frO b) (spO n) (brO n) (one % 60) (frO a) 0 (gQ (frO a) (frO b) (brO n)) (gL (frO a) (frO b) (brO n))) (rL (frO b) (spO n) (brO n) (one % 60) (frO a) 0 (gQ (frO a) (frO b) (brO n)) (gL (frO a) (frO b) (brO n)))) = rM (frO b) (spO n) (brO n) (IntKind.i64.wrap (one % 60 + two % 60)) (frO a) 0 (gQ (frO a) (frO b) (brO n)) (gL (frO a) (frO b) (brO n)) := by
    unfold rM rP rV rQ rL; rw [eN]
    refine (w8 ?_).trans ad.2.symm
    exact mN_two (by omega) (by omega) _ _
  have lo := paA_ok a b n one two ho ht g1 g2 g3 g4 g5 m0 m1 m2 m3 m5 _ _ _ hg
  dsimp only at lo
  have r : Known Try.prog [] 7 [.int .i64 a, .int .i64 b, .int .i64 n, .int .i64 one, .int .i64 two] (.bool (pa1_c0 a b n one two (one % 60) (dN (frO b) (spO n) (brO n) (one % 60).toNat (x0 a b n)).1 (dN (frO b) (spO n) (brO n) (one % 60).toNat (x0 a b n)).2.1 (dN (frO b) (spO n) (brO n) (one % 60).toNat (x0 a b n)).2.2.1 (dN (frO b) (spO n) (brO n) (one % 60).toNat (x0 a b n)).2.2.2)) := by
    apply pa1 a b n one two _ _ _ _ _ ho ht g1 g2 g3 g4 g5 m0 m1 m2 m3 m5
    all_goals first | exact lo | assumption | (rw [m0, m1, m2, m3]; simp; done) | (rw [m5]; simp; done)
  have e : pa1_c0 a b n one two (one % 60) (dN (frO b) (spO n) (brO n) (one % 60).toNat (x0 a b n)).1 (dN (frO b) (spO n) (brO n) (one % 60).toNat (x0 a b n)).2.1 (dN (frO b) (spO n) (brO n) (one % 60).toNat (x0 a b n)).2.2.1 (dN (frO b) (spO n) (brO n) (one % 60).toNat (x0 a b n)).2.2.2 = true := by
    unfold pa1_c0 rP rV rQ rL x0
    simp
  rw [e] at r
  exact r
theorem driveParts_true (a b n one two : Int) (w : World) (_ : In64 a) (_ : In64 b) (_ : In64 n) (_ : In64 one) (_ : In64 two) :
    Calls Try.prog 7 #[.int .i64 a, .int .i64 b, .int .i64 n, .int .i64 one, .int .i64 two] w fun e w' => e = .returned (.bool true) ∧ Below w.heap.size w w' :=
  (parts_law a b n one two).2.2 w (LaidL.nil w)
end Go.Proofs.Ytkmooakeilkdiaa
