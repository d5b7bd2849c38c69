import Derived.Test.YtaogbagopdlkmaaOgD
import Derived.ProofKit
import Derived.IntWalk
set_option linter.unnecessarySimpa false
set_option linter.unusedSimpArgs false
set_option linter.unusedVariables false
namespace Go.Proofs.Ytaogbagopdlkmaa
open Go Go.RowKit
set_option maxHeartbeats 8000000
set_option maxRecDepth 100000
attribute [local irreducible] ckX trN slN
theorem rkD (m d t s c : Int) (hs : s ≤ 9223372036854775807) (hcc : c ≤ 9223372036854775807) : KnownR Try.prog [] 15 [.val (.agg #[.int .i64 m, .int .i64 d, .int .i64 t, .int .i64 s, .int .i64 c])] (.int .i64 (ckX m d t s c)) ([]) := rcheck_is m d t s c hs hcc
noncomputable def rkD_A (p : Int × Int × Int × Int × Int × Unit) : List D := match p with
 | (m, d, t, s, c, _) => [.val (.agg #[.int .i64 m, .int .i64 d, .int .i64 t, .int .i64 s, .int .i64 c])]
noncomputable def rkD_C (p : Int × Int × Int × Int × Int × Unit) : Prop := match p with
 | (m, d, t, s, c, _) => (s ≤ 9223372036854775807) ∧ (c ≤ 9223372036854775807) ∧ True
noncomputable def rkD_R (p : Int × Int × Int × Int × Int × Unit) : Value × Outs := match p with
 | (m, d, t, s, c, _) => (.int .i64 (ckX m d t s c), [])
noncomputable def rkD_k : List D → Option (Value × Outs) := fnP rkD_A rkD_C rkD_R
theorem rkD_n (m d t s c : Int)   (hs : s ≤ 9223372036854775807) (hcc : c ≤ 9223372036854775807) : KnownR Try.prog [] 15 [.val (.agg #[.int .i64 m, .int .i64 d, .int .i64 t, .int .i64 s, .int .i64 c])] (.int .i64 (ckX m d t s c)) ([]) := by
 skip
 exact rkD _ _ _ _ _ hs hcc
theorem rkD_ok : ∀ ds v bs, rkD_k ds = some (v, bs) → KnownR Try.prog [] 15 ds v bs := fnP_ok (by
 rintro ⟨m, d, t, s, c, _⟩ ⟨hs, hcc, _⟩
 exact rkD_n _ _ _ _ _  hs hcc)
noncomputable def tabR : GTab := (GTab.fnD 15 rkD_k (GTab.fnD 14 pkD_k (GTab.fnD 37 ptD_k (GTab.fnD 39 psD_k GTab.none))))
theorem tabR_ok : GOk Try.prog [] tabR := (GOk.fnD rkD_ok (GOk.fnD pkD_ok (GOk.fnD ptD_ok (GOk.fnD psD_ok GOk.none))))
noncomputable def pnE_c1 (m d t s c : Int) : Int := (ckX m d t s c)
theorem pnE_p0 (m d t s c : Int) (hE : ¬ ckX m d t s c = 0) (hq0 : (ckX m d t s c != (0 : Int)) = true) : KnownR Try.prog [] 10 [.val (.agg #[.int .i64 m, .int .i64 d, .int .i64 t, .int .i64 s, .int .i64 c])] (.tuple #[(.int .i64 ((0 : Int))), (.int .i64 (ckX m d t s c))]) [] :=
 knownR_eq (v := Value.tuple { toList := [Value.int IntKind.i64 (0 : Int), Value.int IntKind.i64 (ckX m d t s c)] }) (bs := []) (open_resD mix tabR_ok (T := tabR) (fuel := 3000) (es := []) (ans := [(0, .outs (Value.int IntKind.i64 (ckX m d t s c)) ([])), (1, .b 1)]) (log := [(ckX m d t s c != (0 : Int)) = true, (GTab.lookD (tabR) ((14 : Nat)) ([D.val (Value.agg { toList := [Value.int IntKind.i64 m, Value.int IntKind.i64 d, Value.int IntKind.i64 t, Value.int IntKind.i64 s, Value.int IntKind.i64 c] })])) = some (Value.int IntKind.i64 (ckX m d t s c), [])]) (by kernel_rfl) ⟨hq0, (pkD_at (m) (d) (t) (s) (c)), trivial⟩ (by kernel_rfl)) (by first | rfl | (simp; done) | (simp_all; done)) (by first | rfl | (simp [rowA_nil]; done) | (simp only [rowA_eq]; rfl) | (simp_all [rowA_nil]; done))
set_option maxHeartbeats 8000000 in
theorem pnE (m d t s c : Int) (hE : ¬ ckX m d t s c = 0) : KnownR Try.prog [] 10 [.val (.agg #[.int .i64 m, .int .i64 d, .int .i64 t, .int .i64 s, .int .i64 c])] (.tuple #[(.int .i64 ((0 : Int))), (.int .i64 (pnE_c1 m d t s c))]) [] := by
 have hq0 : (ckX m d t s c != (0 : Int)) = true := by
  rcases Bool.eq_false_or_eq_true (ckX m d t s c != (0 : Int)) with h | h
  ·exact h
  ·exfalso; (first | (simp_all only [Bool.and_eq_true, Bool.not_eq_true', Bool.false_eq_true, Bool.true_eq_false, reduceCtorEq]; done) | (simp only [sx, sy, eq_self, ne_eq, IntKind.wrap_i64, wrapU64, Int.reduceLT] at * <;> first | with_reducible contradiction | omega) | omega | ((try simp only [sx, sy, eq_self, ne_eq, IntKind.wrap_i64, wrapU64, Int.reduceLT] at *) <;> omega) | (simp_all; done))
 have e1 : pnE_c1 m d t s c = (ckX m d t s c) := rfl; rw [e1]; exact pnE_p0 m d t s c hE hq0
noncomputable def pnT_c0 (m d t s c : Int) : Int := (trN m t s)
theorem pnT_p0 (m d t s c : Int) (hc : ckX m d t s c = 0) (hm : 1 ≤ m ∧ m ≤ 200000) (ht : 2 ≤ t ∧ t ≤ 400000) (hq0 : (ckX m d t s c != (0 : Int)) = false) : KnownR Try.prog [] 10 [.val (.agg #[.int .i64 m, .int .i64 d, .int .i64 t, .int .i64 s, .int .i64 c])] (.tuple #[(.int .i64 (trN m t s)), (.int .i64 ((0 : Int)))]) [] :=
 knownR_eq (v := Value.tuple { toList := [Value.int IntKind.i64 (trN m t s), Value.int IntKind.i64 (0 : Int)] }) (bs := []) (open_resD mix tabR_ok (T := tabR) (fuel := 3000) (es := []) (ans := [(0, .outs (Value.int IntKind.i64 (ckX m d t s c)) ([])), (1, .b 0), (2, .outs (Value.int IntKind.i64 (trN m t s)) ([]))]) (log := [(GTab.lookD (tabR) ((37 : Nat)) ([D.val (Value.agg { toList := [Value.int IntKind.i64 m, Value.int IntKind.i64 d, Value.int IntKind.i64 t, Value.int IntKind.i64 s, Value.int IntKind.i64 c] })])) = some (Value.int IntKind.i64 (trN m t s), []), (ckX m d t s c != (0 : Int)) = false, (GTab.lookD (tabR) ((14 : Nat)) ([D.val (Value.agg { toList := [Value.int IntKind.i64 m, Value.int IntKind.i64 d, Value.int IntKind.i64 t, Value.int IntKind.i64 s, Value.int IntKind.i64 c] })])) = some (Value.int IntKind.i64 (ckX m d t s c), [])]) (by kernel_rfl) ⟨(ptD_at (m) (d) (t) (s) (c) (by first | rfl | assumption | omega | (simp; done) | (simp_all; done) | (simp_all; omega)) (by first | rfl | assumption | omega | (simp; done) | (simp_all; done) | (simp_all; omega))), hq0, (pkD_at (m) (d) (t) (s) (c)), trivial⟩ (by kernel_rfl)) (by first | rfl | (simp; done) | (simp_all; done)) (by first | rfl | (simp [rowA_nil]; done) | (simp only [rowA_eq]; rfl) | (simp_all [rowA_nil]; done))
set_option maxHeartbeats 8000000 in
theorem pnT (m d t s c : Int) (hc : ckX m d t s c = 0) (hm : 1 ≤ m ∧ m ≤ 200000) (ht : 2 ≤ t ∧ t ≤ 400000) : KnownR Try.prog [] 10 [.val (.agg #[.int .i64 m, .int .i64 d, .int .i64 t, .int .i64 s, .int .i64 c])] (.tuple #[(.int .i64 (pnT_c0 m d t s c)), (.int .i64 ((0 : Int)))]) [] := by
 have hq0 : (ckX m d t s c != (0 : Int)) = false := by
  rcases Bool.eq_false_or_eq_true (ckX m d t s c != (0 : Int)) with h | h
  ·exfalso; (first | (simp_all only [Bool.and_eq_true, Bool.not_eq_true', Bool.false_eq_true, Bool.true_eq_false, reduceCtorEq]; done) | (simp only [sx, sy, eq_self, ne_eq, IntKind.wrap_i64, wrapU64, Int.reduceLT] at * <;> first | with_reducible contradiction | omega) | omega | ((try simp only [sx, sy, eq_self, ne_eq, IntKind.wrap_i64, wrapU64, Int.reduceLT] at *) <;> omega) | (simp_all; done))
  ·exact h
 have e0 : pnT_c0 m d t s c = (trN m t s) := rfl; rw [e0]; exact pnT_p0 m d t s c hc hm ht hq0
noncomputable def plE_c1 (m d t s c : Int) : Int := (ckX m d t s c)
theorem plE_p0 (m d t s c : Int) (hE : ¬ ckX m d t s c = 0) (hq0 : (ckX m d t s c != (0 : Int)) = true) : KnownR Try.prog [] 12 [.val (.agg #[.int .i64 m, .int .i64 d, .int .i64 t, .int .i64 s, .int .i64 c])] (.tuple #[(.int .i64 ((0 : Int))), (.int .i64 (ckX m d t s c))]) [] :=
 knownR_eq (v := Value.tuple { toList := [Value.int IntKind.i64 (0 : Int), Value.int IntKind.i64 (ckX m d t s c)] }) (bs := []) (open_resD mix tabR_ok (T := tabR) (fuel := 3000) (es := []) (ans := [(0, .outs (Value.int IntKind.i64 (ckX m d t s c)) ([])), (1, .b 1)]) (log := [(ckX m d t s c != (0 : Int)) = true, (GTab.lookD (tabR) ((14 : Nat)) ([D.val (Value.agg { toList := [Value.int IntKind.i64 m, Value.int IntKind.i64 d, Value.int IntKind.i64 t, Value.int IntKind.i64 s, Value.int IntKind.i64 c] })])) = some (Value.int IntKind.i64 (ckX m d t s c), [])]) (by kernel_rfl) ⟨hq0, (pkD_at (m) (d) (t) (s) (c)), trivial⟩ (by kernel_rfl)) (by first | rfl | (simp; done) | (simp_all; done)) (by first | rfl | (simp [rowA_nil]; done) | (simp only [rowA_eq]; rfl) | (simp_all [rowA_nil]; done))
set_option maxHeartbeats 8000000 in
theorem plE (m d t s c : Int) (hE : ¬ ckX m d t s c = 0) : KnownR Try.prog [] 12 [.val (.agg #[.int .i64 m, .int .i64 d, .int .i64 t, .int .i64 s, .int .i64 c])] (.tuple #[(.int .i64 ((0 : Int))), (.int .i64 (plE_c1 m d t s c))]) [] := by
 have hq0 : (ckX m d t s c != (0 : Int)) = true := by
  rcases Bool.eq_false_or_eq_true (ckX m d t s c != (0 : Int)) with h | h
  ·exact h
  ·exfalso; (first | (simp_all only [Bool.and_eq_true, Bool.not_eq_true', Bool.false_eq_true, Bool.true_eq_false, reduceCtorEq]; done) | (simp only [sx, sy, eq_self, ne_eq, IntKind.wrap_i64, wrapU64, Int.reduceLT] at * <;> first | with_reducible contradiction | omega) | omega | ((try simp only [sx, sy, eq_self, ne_eq, IntKind.wrap_i64, wrapU64, Int.reduceLT] at *) <;> omega) | (simp_all; done))
 have e1 : plE_c1 m d t s c = (ckX m d t s c) := rfl; rw [e1]; exact plE_p0 m d t s c hE hq0
noncomputable def plS_c0 (m d t s c : Int) : Int := (slN s c)
theorem plS_p0 (m d t s c : Int) (hc : ckX m d t s c = 0) (hS : 1 ≤ s ∧ s ≤ 10000000) (hq0 : (ckX m d t s c != (0 : Int)) = false) : KnownR Try.prog [] 12 [.val (.agg #[.int .i64 m, .int .i64 d, .int .i64 t, .int .i64 s, .int .i64 c])] (.tuple #[(.int .i64 (slN s c)), (.int .i64 ((0 : Int)))]) [] :=
 knownR_eq (v := Value.tuple { toList := [Value.int IntKind.i64 (slN s c), Value.int IntKind.i64 (0 : Int)] }) (bs := []) (open_resD mix tabR_ok (T := tabR) (fuel := 3000) (es := []) (ans := [(0, .outs (Value.int IntKind.i64 (ckX m d t s c)) ([])), (1, .b 0), (2, .outs (Value.int IntKind.i64 (slN s c)) ([]))]) (log := [(GTab.lookD (tabR) ((39 : Nat)) ([D.val (Value.agg { toList := [Value.int IntKind.i64 m, Value.int IntKind.i64 d, Value.int IntKind.i64 t, Value.int IntKind.i64 s, Value.int IntKind.i64 c] })])) = some (Value.int IntKind.i64 (slN s c), []), (ckX m d t s c != (0 : Int)) = false, (GTab.lookD (tabR) ((14 : Nat)) ([D.val (Value.agg { toList := [Value.int IntKind.i64 m, Value.int IntKind.i64 d, Value.int IntKind.i64 t, Value.int IntKind.i64 s, Value.int IntKind.i64 c] })])) = some (Value.int IntKind.i64 (ckX m d t s c), [])]) (by kernel_rfl) ⟨(psD_at (m) (d) (t) (s) (c) (by first | rfl | assumption | omega | (simp; done) | (simp_all; done) | (simp_all; omega))), hq0, (pkD_at (m) (d) (t) (s) (c)), trivial⟩ (by kernel_rfl)) (by first | rfl | (simp; done) | (simp_all; done)) (by first | rfl | (simp [rowA_nil]; done) | (simp only [rowA_eq]; rfl) | (simp_all [rowA_nil]; done))
set_option maxHeartbeats 8000000 in
theorem plS (m d t s c : Int) (hc : ckX m d t s c = 0) (hS : 1 ≤ s ∧ s ≤ 10000000) : KnownR Try.prog [] 12 [.val (.agg #[.int .i64 m, .int .i64 d, .int .i64 t, .int .i64 s, .int .i64 c])] (.tuple #[(.int .i64 (plS_c0 m d t s c)), (.int .i64 ((0 : Int)))]) [] := by
 have hq0 : (ckX m d t s c != (0 : Int)) = false := by
  rcases Bool.eq_false_or_eq_true (ckX m d t s c != (0 : Int)) with h | h
  ·exfalso; (first | (simp_all only [Bool.and_eq_true, Bool.not_eq_true', Bool.false_eq_true, Bool.true_eq_false, reduceCtorEq]; done) | (simp only [sx, sy, eq_self, ne_eq, IntKind.wrap_i64, wrapU64, Int.reduceLT] at * <;> first | with_reducible contradiction | omega) | omega | ((try simp only [sx, sy, eq_self, ne_eq, IntKind.wrap_i64, wrapU64, Int.reduceLT] at *) <;> omega) | (simp_all; done))
  ·exact h
 have e0 : plS_c0 m d t s c = (slN s c) := rfl; rw [e0]; exact plS_p0 m d t s c hc hS hq0
end Go.Proofs.Ytaogbagopdlkmaa
