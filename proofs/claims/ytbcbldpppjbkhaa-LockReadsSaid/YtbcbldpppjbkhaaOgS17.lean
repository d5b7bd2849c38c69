/- Layer 17: LockReads. -/
import Derived.Test.YtbcbldpppjbkhaaQR17
import Derived.Test.YtbcbldpppjbkhaaKnLockKnown
import Derived.Test.YtbcbldpppjbkhaaFrL
import Derived.ProofKit
import Derived.IntWalk
namespace Go.Proofs.Ytbcbldpppjbkhaa
open Go Go.RowKit
set_option linter.unusedVariables false
set_option linter.unusedSimpArgs false
set_option linter.unnecessarySimpa false
set_option maxHeartbeats 8000000
set_option maxRecDepth 100000
attribute [local irreducible] prO
theorem prP (s : ByteArray) (hs : s.size ≤ 100) : KnownR Try.prog [] 37 [.val (.string s)] (.tuple #[.agg #[.bool (prO s).1, .complex .f64 0 (prO s).2.1.length], .agg #[.int .i64 (prO s).2.2.1, .int .i64 (prO s).2.2.2]]) ([(rowA gB (prO s).2.1, 4)]) := parse_p s hs
noncomputable def prP_A (p : ByteArray × Unit) : List D := match p with
  | (s, _) => [.val (.string s)]
noncomputable def prP_C (p : ByteArray × Unit) : Prop := match p with
  | (s, _) => (s.size ≤ 100) ∧ True
noncomputable def prP_R (p : ByteArray × Unit) : Value × Outs := match p with
  | (s, _) => (.tuple #[.agg #[.bool (prO s).1, .complex .f64 0 (prO s).2.1.length], .agg #[.int .i64 (prO s).2.2.1, .int .i64 (prO s).2.2.2]], [(rowA gB (prO s).2.1, 4)])
theorem prP_inj : ∀ p q, prP_C p → prP_C q → prP_A p = prP_A q → prP_R p = prP_R q := by
  rintro ⟨s, _⟩ ⟨s', _⟩ _ _ e
  simp only [prP_A, List.cons.injEq, D.list.injEq, D.val.injEq, D.agg.injEq, Value.int.injEq, Value.bool.injEq, Value.string.injEq, Value.agg.injEq, Array.mk.injEq, and_true, true_and, gI_inj, gB_inj, gB_inj] at e
  simp_all
noncomputable def prP_k : List D → Option (Value × Outs) := fnP prP_A prP_C prP_R
theorem prP_n (s : ByteArray)   (hs : s.size ≤ 100) : KnownR Try.prog [] 37 [.val (.string s)] (.tuple #[.agg #[.bool (prO s).1, .complex .f64 0 (prO s).2.1.length], .agg #[.int .i64 (prO s).2.2.1, .int .i64 (prO s).2.2.2]]) ([(rowA gB (prO s).2.1, 4)]) := by
  skip
  exact prP _ hs
theorem prP_ok : ∀ ds v bs, prP_k ds = some (v, bs) → KnownR Try.prog [] 37 ds v bs := fnP_ok (by
  rintro ⟨s, _⟩ ⟨hs, _⟩
  exact prP_n _  hs)
theorem prP_at (s : ByteArray)   (hs : s.size ≤ 100) : prP_k [.val (.string s)] = some (.tuple #[.agg #[.bool (prO s).1, .complex .f64 0 (prO s).2.1.length], .agg #[.int .i64 (prO s).2.2.1, .int .i64 (prO s).2.2.2]], [(rowA gB (prO s).2.1, 4)]) := fnP_at (p := (s, ())) prP_inj ⟨hs, trivial⟩ rfl rfl
theorem prQ (s : ByteArray) (hs : s.size ≤ 100) : KnownR Try.prog [] 38 [.val (.string s)] (.tuple #[.agg #[.bool (prO s).1, .complex .f64 0 (prO s).2.1.length], .agg #[.int .i64 (prO s).2.2.1, .int .i64 (prO s).2.2.2]]) ([(rowA gB (prO s).2.1, 4)]) := parse_r s hs
noncomputable def prQ_A (p : ByteArray × Unit) : List D := match p with
  | (s, _) => [.val (.string s)]
noncomputable def prQ_C (p : ByteArray × Unit) : Prop := match p with
  | (s, _) => (s.size ≤ 100) ∧ True
noncomputable def prQ_R (p : ByteArray × Unit) : Value × Outs := match p with
  | (s, _) => (.tuple #[.agg #[.bool (prO s).1, .complex .f64 0 (prO s).2.1.length], .agg #[.int .i64 (prO s).2.2.1, .int .i64 (prO s).2.2.2]], [(rowA gB (prO s).2.1, 4)])
theorem prQ_inj : ∀ p q, prQ_C p → prQ_C q → prQ_A p = prQ_A q → prQ_R p = prQ_R q := by
  rintro ⟨s, _⟩ ⟨s', _⟩ _ _ e
  simp only [prQ_A, List.cons.injEq, D.list.injEq, D.val.injEq, D.agg.injEq, Value.int.injEq, Value.bool.injEq, Value.string.injEq, Value.agg.injEq, Array.mk.injEq, and_true, true_and, gI_inj, gB_inj, gB_inj] at e
  simp_all
noncomputable def prQ_k : List D → Option (Value × Outs) := fnP prQ_A prQ_C prQ_R
theorem prQ_n (s : ByteArray)   (hs : s.size ≤ 100) : KnownR Try.prog [] 38 [.val (.string s)] (.tuple #[.agg #[.bool (prO s).1, .complex .f64 0 (prO s).2.1.length], .agg #[.int .i64 (prO s).2.2.1, .int .i64 (prO s).2.2.2]]) ([(rowA gB (prO s).2.1, 4)]) := by
  skip
  exact prQ _ hs
theorem prQ_ok : ∀ ds v bs, prQ_k ds = some (v, bs) → KnownR Try.prog [] 38 ds v bs := fnP_ok (by
  rintro ⟨s, _⟩ ⟨hs, _⟩
  exact prQ_n _  hs)
theorem prQ_at (s : ByteArray)   (hs : s.size ≤ 100) : prQ_k [.val (.string s)] = some (.tuple #[.agg #[.bool (prO s).1, .complex .f64 0 (prO s).2.1.length], .agg #[.int .i64 (prO s).2.2.1, .int .i64 (prO s).2.2.2]], [(rowA gB (prO s).2.1, 4)]) := fnP_at (p := (s, ())) prQ_inj ⟨hs, trivial⟩ rfl rfl
theorem sbD (x : List Bool) (hx : (x.length : Int) ≤ 128) : KnownR Try.prog [] 45 [.list (rowA gB x) x.length, .list (rowA gB x) x.length] (.bool true) ([]) := sb_is x hx
noncomputable def sbD_A (p : List Bool × Nat × Nat × Unit) : List D := match p with
  | (x, nn0, nn1, _) => [.list (rowA gB x) nn0, .list (rowA gB x) nn1]
noncomputable def sbD_C (p : List Bool × Nat × Nat × Unit) : Prop := match p with
  | (x, nn0, nn1, _) => (nn0 = x.length) ∧ (nn1 = x.length) ∧ ((x.length : Int) ≤ 128) ∧ True
noncomputable def sbD_R (p : List Bool × Nat × Nat × Unit) : Value × Outs := match p with
  | (x, nn0, nn1, _) => (.bool true, [])
theorem sbD_inj : ∀ p q, sbD_C p → sbD_C q → sbD_A p = sbD_A q → sbD_R p = sbD_R q := by
  rintro ⟨x, nn0, nn1, _⟩ ⟨x', nn0', nn1', _⟩ _ _ e
  simp only [sbD_A, List.cons.injEq, D.list.injEq, D.val.injEq, D.agg.injEq, Value.int.injEq, Value.bool.injEq, Value.string.injEq, Value.agg.injEq, Array.mk.injEq, and_true, true_and, gI_inj, gB_inj, gB_inj] at e
  simp_all
noncomputable def sbD_k : List D → Option (Value × Outs) := fnP sbD_A sbD_C sbD_R
theorem sbD_n (x : List Bool) (nn0 : Nat) (nn1 : Nat) (hn0 : nn0 = x.length) (hn1 : nn1 = x.length) (hx : (x.length : Int) ≤ 128) : KnownR Try.prog [] 45 [.list (rowA gB x) nn0, .list (rowA gB x) nn1] (.bool true) ([]) := by
  subst hn0; subst hn1; skip
  exact sbD _ hx
theorem sbD_ok : ∀ ds v bs, sbD_k ds = some (v, bs) → KnownR Try.prog [] 45 ds v bs := fnP_ok (by
  rintro ⟨x, nn0, nn1, _⟩ ⟨hn0, hn1, hx, _⟩
  exact sbD_n _ _ _ hn0 hn1 hx)
theorem sbD_at (x : List Bool) (nn0 : Nat) (nn1 : Nat) (hn0 : nn0 = x.length) (hn1 : nn1 = x.length) (hx : (x.length : Int) ≤ 128) : sbD_k [.list (rowA gB x) nn0, .list (rowA gB x) nn1] = some (.bool true, []) := fnP_at (p := (x, nn0, nn1, ())) sbD_inj ⟨hn0, hn1, hx, trivial⟩ rfl rfl
noncomputable def tabRd : GTab := (GTab.fnD 37 prP_k (GTab.fnD 38 prQ_k (GTab.fnD 45 sbD_k (GTab.fn1 21 (fun l => match l with | [] => some (.bool true) | _ => none) GTab.none))))
theorem tabRd_ok : GOk Try.prog [] tabRd := (GOk.fnD prP_ok (GOk.fnD prQ_ok (GOk.fnD sbD_ok (GOk.fn1 (known0 knLockKnown_e0) GOk.none))))
noncomputable def lawR_b2 (s : ByteArray) : Bool := (prO s).snd.snd.fst == (prO s).snd.snd.fst && (prO s).snd.snd.snd == (prO s).snd.snd.snd
theorem lawR_p0 (s : ByteArray) (hs : s.size ≤ 100) (hz : ((prO s).2.1.length : Int) ≤ 128) (hq0 : (decide ((↑s.size : Int) > (100 : Int))) = false) (hq1 : ((prO s).fst == (prO s).fst) = true) (hq2 : (lawR_b2 s) = true) : KnownR Try.prog [] 6 [.val (.string s)] (.bool (true)) [] :=
  knownR_eq (v := Value.bool true) (bs := []) (open_resD mix tabRd_ok (T := tabRd) (fuel := 3000) (es := []) (ans := [(0, .b 0), (1, .outs (Value.tuple #[Value.agg #[Value.bool (prO s).fst, Value.complex FloatKind.f64 (0 : Nat) (prO s).snd.fst.length], Value.agg #[Value.int IntKind.i64 (prO s).snd.snd.fst, Value.int IntKind.i64 (prO s).snd.snd.snd]]) ([(rowA gB (prO s).snd.fst, (4 : TypeId))])), (2, .outs (Value.tuple #[Value.agg #[Value.bool (prO s).fst, Value.complex FloatKind.f64 (0 : Nat) (prO s).snd.fst.length], Value.agg #[Value.int IntKind.i64 (prO s).snd.snd.fst, Value.int IntKind.i64 (prO s).snd.snd.snd]]) ([(rowA gB (prO s).snd.fst, (4 : TypeId))])), (3, .b 1), (8, .outs (Value.bool true) ([])), (14, .b 1)]) (log := [(lawR_b2 s) = true, (GTab.lookD (tabRd) ((45 : Nat)) ([D.list (rowA gB (prO s).snd.fst) (prO s).snd.fst.length, D.list (rowA gB (prO s).snd.fst) (prO s).snd.fst.length])) = some (Value.bool true, []), ((prO s).fst == (prO s).fst) = true, (GTab.lookD (tabRd) ((38 : Nat)) ([D.val (Value.string s)])) = some (Value.tuple #[Value.agg #[Value.bool (prO s).fst, Value.complex FloatKind.f64 (0 : Nat) (prO s).snd.fst.length], Value.agg #[Value.int IntKind.i64 (prO s).snd.snd.fst, Value.int IntKind.i64 (prO s).snd.snd.snd]], [(rowA gB (prO s).snd.fst, (4 : TypeId))]), (GTab.lookD (tabRd) ((37 : Nat)) ([D.val (Value.string s)])) = some (Value.tuple #[Value.agg #[Value.bool (prO s).fst, Value.complex FloatKind.f64 (0 : Nat) (prO s).snd.fst.length], Value.agg #[Value.int IntKind.i64 (prO s).snd.snd.fst, Value.int IntKind.i64 (prO s).snd.snd.snd]], [(rowA gB (prO s).snd.fst, (4 : TypeId))]), (decide ((↑s.size : Int) > (100 : Int))) = false]) (by kernel_rfl) ⟨hq2, (sbD_at ((prO s).snd.fst) ((prO s).snd.fst.length) ((prO s).snd.fst.length) (by first | rfl | assumption | omega | (simp; done) | (simp_all; done) | (simp_all; omega)) (by first | rfl | assumption | omega | (simp; done) | (simp_all; done) | (simp_all; omega)) (by first | rfl | assumption | omega | (simp; done) | (simp_all; done) | (simp_all; omega))), hq1, (prQ_at (s) (by first | rfl | assumption | omega | (simp; done) | (simp_all; done) | (simp_all; omega))), (prP_at (s) (by first | rfl | assumption | omega | (simp; done) | (simp_all; done) | (simp_all; omega))), hq0, trivial⟩ (by kernel_rfl)) (by first | rfl | (simp; done) | (simp_all; done)) (by first | rfl | (simp [rowA_nil]; done) | (simp only [rowA_eq]; rfl) | (simp_all [rowA_nil]; done))
set_option maxHeartbeats 8000000 in
theorem lawR (s : ByteArray) (hs : s.size ≤ 100) (hz : ((prO s).2.1.length : Int) ≤ 128) : KnownR Try.prog [] 6 [.val (.string s)] (.bool (true)) [] := by
  have hq0 : (decide ((↑s.size : Int) > (100 : Int))) = false := by
    rcases Bool.eq_false_or_eq_true (decide ((↑s.size : Int) > (100 : Int))) with h | h
    · exfalso; (try simp only [lawR_b2] at *); (first | (simp_all only [Bool.and_eq_true, Bool.not_eq_true', Bool.false_eq_true, Bool.true_eq_false, reduceCtorEq]; done) | (simp only [sx, sy, eq_self, ne_eq, IntKind.wrap_i64, wrapU64, Int.reduceLT] at * <;> first | contradiction | omega) | omega | ((try simp only [sx, sy, eq_self, ne_eq, IntKind.wrap_i64, wrapU64, Int.reduceLT] at *) <;> omega) | (simp_all; done))
    · exact h
  have hq1 : ((prO s).fst == (prO s).fst) = true := by
    rcases Bool.eq_false_or_eq_true ((prO s).fst == (prO s).fst) with h | h
    · exact h
    · exfalso; (try simp only [lawR_b2] at *); (first | (simp_all only [Bool.and_eq_true, Bool.not_eq_true', Bool.false_eq_true, Bool.true_eq_false, reduceCtorEq]; done) | (simp only [sx, sy, eq_self, ne_eq, IntKind.wrap_i64, wrapU64, Int.reduceLT] at * <;> first | contradiction | omega) | omega | ((try simp only [sx, sy, eq_self, ne_eq, IntKind.wrap_i64, wrapU64, Int.reduceLT] at *) <;> omega) | (simp_all; done))
  have hq2 : (lawR_b2 s) = true := by
    rcases Bool.eq_false_or_eq_true (lawR_b2 s) with h | h
    · exact h
    · exfalso; (try simp only [lawR_b2] at *); (first | (simp_all only [Bool.and_eq_true, Bool.not_eq_true', Bool.false_eq_true, Bool.true_eq_false, reduceCtorEq]; done) | (simp only [sx, sy, eq_self, ne_eq, IntKind.wrap_i64, wrapU64, Int.reduceLT] at * <;> first | contradiction | omega) | omega | ((try simp only [sx, sy, eq_self, ne_eq, IntKind.wrap_i64, wrapU64, Int.reduceLT] at *) <;> omega) | (simp_all; done))
  exact lawR_p0 s hs hz hq0 hq1 hq2

theorem lawRE_p0 (s : ByteArray) (hs : ¬ s.size ≤ 100) (hq0 : (decide ((↑s.size : Int) > (100 : Int))) = true) : KnownR Try.prog [] 6 [.val (.string s)] (.bool (true)) [] :=
  knownR_eq (v := Value.bool true) (bs := []) (open_resD mix tabRd_ok (T := tabRd) (fuel := 3000) (es := []) (ans := [(0, .b 1)]) (log := [(decide ((↑s.size : Int) > (100 : Int))) = true]) (by kernel_rfl) ⟨hq0, trivial⟩ (by kernel_rfl)) (by first | rfl | (simp; done) | (simp_all; done)) (by first | rfl | (simp [rowA_nil]; done) | (simp only [rowA_eq]; rfl) | (simp_all [rowA_nil]; done))
set_option maxHeartbeats 8000000 in
theorem lawRE (s : ByteArray) (hs : ¬ s.size ≤ 100) : KnownR Try.prog [] 6 [.val (.string s)] (.bool (true)) [] := by
  have hq0 : (decide ((↑s.size : Int) > (100 : Int))) = true := by
    rcases Bool.eq_false_or_eq_true (decide ((↑s.size : Int) > (100 : Int))) with h | h
    · exact h
    · exfalso; (first | (simp_all only [Bool.and_eq_true, Bool.not_eq_true', Bool.false_eq_true, Bool.true_eq_false, reduceCtorEq]; done) | (simp only [sx, sy, eq_self, ne_eq, IntKind.wrap_i64, wrapU64, Int.reduceLT] at * <;> first | contradiction | omega) | omega | ((try simp only [sx, sy, eq_self, ne_eq, IntKind.wrap_i64, wrapU64, Int.reduceLT] at *) <;> omega) | (simp_all; done))
  exact lawRE_p0 s hs hq0

def In64 (n : Int) : Prop := -9223372036854775808 ≤ n ∧ n ≤ 9223372036854775807
theorem lockReads_true (s : ByteArray) (w : World) :
    Calls Try.prog 6 #[.string s] w fun e w' => e = .returned (.bool true) ∧ Below w.heap.size w w' := by
  by_cases hs : s.size ≤ 100
  · exact knownR_law (lawR s hs (prO_len s)) (LaidL.nil w) (.cons (.val rfl) .nil)
  · exact knownR_law (lawRE s hs) (LaidL.nil w) (.cons (.val rfl) .nil)
end Go.Proofs.Ytbcbldpppjbkhaa
