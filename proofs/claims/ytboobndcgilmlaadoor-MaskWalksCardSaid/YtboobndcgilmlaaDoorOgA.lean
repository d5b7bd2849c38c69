/- Layer 2: the functions of the program on single floors. -/
import Derived.Test.YtboobndcgilmlaaDoorMA
import Derived.ProofKit
import Derived.IntWalk
namespace Go.Proofs.YtboobndcgilmlaaDoor
open Go Go.RowKit
set_option linter.unusedVariables false
set_option linter.unusedSimpArgs false
set_option linter.unnecessarySimpa false
set_option maxHeartbeats 8000000
set_option maxRecDepth 100000
attribute [local irreducible] tzI lenI
theorem qTz (x : Int) (hg : (decide (0 < x ∧ x < 18446744073709551616)) = true) : Known Tryd.prog knMaskKnownL 51 [.int .u64 x] (.int .i64 (tzI x)) := tz_known (of_decide_eq_true hg)
noncomputable def qTz_k : List Value → Option (Bool × Value)
  | [.int .u64 x] => some (decide (0 < x ∧ x < 18446744073709551616), .int .i64 (tzI x))
  | _ => none
theorem qTz_ok : ∀ args v, qTz_k args = some (true, v) → Known Tryd.prog knMaskKnownL 51 args v := by
  intro args v h
  unfold qTz_k at h
  split at h
  · injection h with h; injection h with hg h; subst h; exact qTz _ hg
  · cases h
theorem qLen (x : Int) (hg : (decide (0 < x ∧ x < 18446744073709551616)) = true) : Known Tryd.prog knMaskKnownL 39 [.int .u64 x] (.int .i64 (lenI x)) := len_known (have h := of_decide_eq_true hg; ⟨by omega, h.2⟩)
noncomputable def qLen_k : List Value → Option (Bool × Value)
  | [.int .u64 x] => some (decide (0 < x ∧ x < 18446744073709551616), .int .i64 (lenI x))
  | _ => none
theorem qLen_ok : ∀ args v, qLen_k args = some (true, v) → Known Tryd.prog knMaskKnownL 39 args v := by
  intro args v h
  unfold qLen_k at h
  split at h
  · injection h with h; injection h with hg h; subst h; exact qLen _ hg
  · cases h
noncomputable def tabA : GTab := (GTab.fn 51 qTz_k (GTab.fn 39 qLen_k GTab.none))
theorem tabA_ok : GOk Tryd.prog knMaskKnownL tabA := (GOk.fn qTz_ok (GOk.fn qLen_ok GOk.none))
noncomputable def mod_c0 (n m : Int) : Int := (bif (decide (m < (1 : Int))) then ((0 : Int)) else (bif (decide (n.tmod m < (0 : Int))) then (IntKind.i64.wrap (n.tmod m + m)) else (n.tmod m)))
theorem mod_p0 (n m : Int)  (hq0 : (decide (m < (1 : Int))) = true) : Known Tryd.prog knMaskKnownL 35 [.int .i64 n, .int .i64 m] (.int .i64 ((0 : Int))) :=
  open_res mix GOk.none (T := GTab.none) (fuel := 3000) (ans := [(0, .b 1)]) (log := [(decide (m < (1 : Int))) = true]) (by kernel_rfl) ⟨hq0, trivial⟩ (by kernel_rfl)
theorem mod_p1 (n m : Int)  (hq0 : (decide (m < (1 : Int))) = false) (hq1 : (m == (0 : Int)) = false) (hq2 : (decide (n.tmod m < (0 : Int))) = true) : Known Tryd.prog knMaskKnownL 35 [.int .i64 n, .int .i64 m] (.int .i64 (IntKind.i64.wrap (n.tmod m + m))) :=
  open_res mix GOk.none (T := GTab.none) (fuel := 3000) (ans := [(0, .b 0), (1, .b 0), (2, .b 1)]) (log := [(decide (n.tmod m < (0 : Int))) = true, (m == (0 : Int)) = false, (decide (m < (1 : Int))) = false]) (by kernel_rfl) ⟨hq2, hq1, hq0, trivial⟩ (by kernel_rfl)
theorem mod_p2 (n m : Int)  (hq0 : (decide (m < (1 : Int))) = false) (hq1 : (m == (0 : Int)) = false) (hq2 : (decide (n.tmod m < (0 : Int))) = false) : Known Tryd.prog knMaskKnownL 35 [.int .i64 n, .int .i64 m] (.int .i64 (n.tmod m)) :=
  open_res mix GOk.none (T := GTab.none) (fuel := 3000) (ans := [(0, .b 0), (1, .b 0), (2, .b 0)]) (log := [(decide (n.tmod m < (0 : Int))) = false, (m == (0 : Int)) = false, (decide (m < (1 : Int))) = false]) (by kernel_rfl) ⟨hq2, hq1, hq0, trivial⟩ (by kernel_rfl)
set_option maxHeartbeats 8000000 in
theorem mod (n m : Int)  : Known Tryd.prog knMaskKnownL 35 [.int .i64 n, .int .i64 m] (.int .i64 (mod_c0 n m)) := by
  rcases Bool.eq_false_or_eq_true (decide (m < (1 : Int))) with hq0 | hq0
  ·
    have e0 : mod_c0 n m = ((0 : Int)) := ((bif_t hq0 _ _).trans rfl); rw [e0]; exact mod_p0 n m hq0
  ·
    have hq1 : (m == (0 : Int)) = false := by
      rcases Bool.eq_false_or_eq_true (m == (0 : Int)) with h | h
      · exfalso; (first | (simp_all only [Bool.and_eq_true, Bool.not_eq_true', Bool.false_eq_true, Bool.true_eq_false, reduceCtorEq]; done) | (simp only [sx, sy, eq_self, ne_eq, IntKind.wrap_i64, wrapU64, Int.reduceLT] at * <;> first | contradiction | omega) | omega | ((try simp only [sx, sy, eq_self, ne_eq, IntKind.wrap_i64, wrapU64, Int.reduceLT] at *) <;> omega) | (simp_all; done))
      · exact h
    rcases Bool.eq_false_or_eq_true (decide (n.tmod m < (0 : Int))) with hq2 | hq2
    ·
      have e0 : mod_c0 n m = (IntKind.i64.wrap (n.tmod m + m)) := ((bif_f hq0 _ _).trans ((bif_t hq2 _ _).trans rfl)); rw [e0]; exact mod_p1 n m hq0 hq1 hq2
    ·
      have e0 : mod_c0 n m = (n.tmod m) := ((bif_f hq0 _ _).trans ((bif_f hq2 _ _).trans rfl)); rw [e0]; exact mod_p2 n m hq0 hq1 hq2
noncomputable def mod_k : List Value → Option Value
  | [.int .i64 n, .int .i64 m] => some (.int .i64 (mod_c0 n m))
  | _ => none
theorem mod_ok : ∀ args v, mod_k args = some v → Known Tryd.prog knMaskKnownL 35 args v := by
  intro args v h
  unfold mod_k at h
  split at h
  · injection h with h; subst h; exact mod _ _
  · cases h

noncomputable def haP_c0 (m f : Int) : Bool := (bif (decide (f ≥ (0 : Int))) then (bif (decide (f < (64 : Int))) then (IntKind.u64.wrap (↑(BitVec.ofInt (64 : Nat) (m.fdiv ((2 : Int) ^ min (IntKind.u64.wrap f).toNat (64 : Nat))) &&& BitVec.ofInt (64 : Nat) (1 : Int)).toNat : Int) == (1 : Int)) else (false)) else (false))
theorem haP_p0 (m f : Int) (h1 : 0 ≤ m ∧ m < 18446744073709551616) (hq0 : (decide (f ≥ (0 : Int))) = true) (hq1 : (decide (f < (64 : Int))) = true) (hq2 : (decide (IntKind.u64.wrap f < (0 : Int))) = false) : Known Tryd.prog knMaskKnownL 17 [.int .u64 m, .int .i64 f] (.bool (IntKind.u64.wrap (↑(BitVec.ofInt (64 : Nat) (m.fdiv ((2 : Int) ^ min (IntKind.u64.wrap f).toNat (64 : Nat))) &&& BitVec.ofInt (64 : Nat) (1 : Int)).toNat : Int) == (1 : Int))) :=
  open_res mix tabA_ok (T := tabA) (fuel := 3000) (ans := [(0, .b 1), (3, .b 1), (7, .b 0)]) (log := [(decide (IntKind.u64.wrap f < (0 : Int))) = false, (decide (f < (64 : Int))) = true, (decide (f ≥ (0 : Int))) = true]) (by kernel_rfl) ⟨hq2, hq1, hq0, trivial⟩ (by kernel_rfl)
theorem haP_p1 (m f : Int) (h1 : 0 ≤ m ∧ m < 18446744073709551616) (hq0 : (decide (f ≥ (0 : Int))) = true) (hq1 : (decide (f < (64 : Int))) = false) : Known Tryd.prog knMaskKnownL 17 [.int .u64 m, .int .i64 f] (.bool (false)) :=
  open_res mix tabA_ok (T := tabA) (fuel := 3000) (ans := [(0, .b 1), (3, .b 0)]) (log := [(decide (f < (64 : Int))) = false, (decide (f ≥ (0 : Int))) = true]) (by kernel_rfl) ⟨hq1, hq0, trivial⟩ (by kernel_rfl)
theorem haP_p2 (m f : Int) (h1 : 0 ≤ m ∧ m < 18446744073709551616) (hq0 : (decide (f ≥ (0 : Int))) = false) : Known Tryd.prog knMaskKnownL 17 [.int .u64 m, .int .i64 f] (.bool (false)) :=
  open_res mix tabA_ok (T := tabA) (fuel := 3000) (ans := [(0, .b 0)]) (log := [(decide (f ≥ (0 : Int))) = false]) (by kernel_rfl) ⟨hq0, trivial⟩ (by kernel_rfl)
set_option maxHeartbeats 8000000 in
theorem haP (m f : Int) (h1 : 0 ≤ m ∧ m < 18446744073709551616) : Known Tryd.prog knMaskKnownL 17 [.int .u64 m, .int .i64 f] (.bool (haP_c0 m f)) := by
  rcases Bool.eq_false_or_eq_true (decide (f ≥ (0 : Int))) with hq0 | hq0
  ·
    rcases Bool.eq_false_or_eq_true (decide (f < (64 : Int))) with hq1 | hq1
    ·
      have hq2 : (decide (IntKind.u64.wrap f < (0 : Int))) = false := by
        rcases Bool.eq_false_or_eq_true (decide (IntKind.u64.wrap f < (0 : Int))) with h | h
        · exfalso; (first | (simp_all only [Bool.and_eq_true, Bool.not_eq_true', Bool.false_eq_true, Bool.true_eq_false, reduceCtorEq]; done) | (simp only [sx, sy, eq_self, ne_eq, IntKind.wrap_i64, wrapU64, Int.reduceLT] at * <;> first | contradiction | omega) | omega | ((try simp only [sx, sy, eq_self, ne_eq, IntKind.wrap_i64, wrapU64, Int.reduceLT] at *) <;> omega) | (simp_all; done))
        · exact h
      have e0 : haP_c0 m f = (IntKind.u64.wrap (↑(BitVec.ofInt (64 : Nat) (m.fdiv ((2 : Int) ^ min (IntKind.u64.wrap f).toNat (64 : Nat))) &&& BitVec.ofInt (64 : Nat) (1 : Int)).toNat : Int) == (1 : Int)) := ((bif_t hq0 _ _).trans ((bif_t hq1 _ _).trans rfl)); rw [e0]; exact haP_p0 m f h1 hq0 hq1 hq2
    ·
      have e0 : haP_c0 m f = (false) := ((bif_t hq0 _ _).trans ((bif_f hq1 _ _).trans rfl)); rw [e0]; exact haP_p1 m f h1 hq0 hq1
  ·
    have e0 : haP_c0 m f = (false) := ((bif_f hq0 _ _).trans rfl); rw [e0]; exact haP_p2 m f h1 hq0

noncomputable def puP_c0 (m a b : Int) (c : Bool) : Int := (bif (decide (a < (0 : Int))) then ((0 : Int)) else (bif (decide (a > b)) then ((0 : Int)) else (bif (!decide (b < (64 : Int))) then ((0 : Int)) else (bif (c) then (IntKind.u64.wrap (↑(BitVec.ofInt (64 : Nat) m ||| BitVec.ofInt (64 : Nat) (IntKind.u64.wrap (IntKind.u64.wrap ((2 : Int) * (2 : Int) ^ min (IntKind.u64.wrap b).toNat (64 : Nat)) - IntKind.u64.wrap ((1 : Int) * (2 : Int) ^ min (IntKind.u64.wrap a).toNat (64 : Nat))))).toNat : Int)) else (IntKind.u64.wrap (↑(BitVec.ofInt (64 : Nat) m &&& ~~~BitVec.ofInt (64 : Nat) (IntKind.u64.wrap (IntKind.u64.wrap ((2 : Int) * (2 : Int) ^ min (IntKind.u64.wrap b).toNat (64 : Nat)) - IntKind.u64.wrap ((1 : Int) * (2 : Int) ^ min (IntKind.u64.wrap a).toNat (64 : Nat))))).toNat : Int))))))
noncomputable def puP_c1 (m a b : Int) (c : Bool) : Int := (bif (decide (a < (0 : Int))) then ((2 : Int)) else (bif (decide (a > b)) then ((2 : Int)) else (bif (!decide (b < (64 : Int))) then ((2 : Int)) else ((0 : Int)))))
theorem puP_p0 (m a b : Int) (c : Bool) (h1 : 0 ≤ m ∧ m < 18446744073709551616) (hq0 : (decide (a < (0 : Int))) = true) : Known Tryd.prog knMaskKnownL 25 [.int .u64 m, .int .i64 a, .int .i64 b, .bool c] (.tuple #[(.int .u64 ((0 : Int))), (.int .i64 ((2 : Int)))]) :=
  open_res mix tabA_ok (T := tabA) (fuel := 3000) (ans := [(0, .b 1)]) (log := [(decide (a < (0 : Int))) = true]) (by kernel_rfl) ⟨hq0, trivial⟩ (by kernel_rfl)
theorem puP_p1 (m a b : Int) (c : Bool) (h1 : 0 ≤ m ∧ m < 18446744073709551616) (hq0 : (decide (a < (0 : Int))) = false) (hq1 : (decide (a > b)) = true) : Known Tryd.prog knMaskKnownL 25 [.int .u64 m, .int .i64 a, .int .i64 b, .bool c] (.tuple #[(.int .u64 ((0 : Int))), (.int .i64 ((2 : Int)))]) :=
  open_res mix tabA_ok (T := tabA) (fuel := 3000) (ans := [(0, .b 0), (4, .b 1)]) (log := [(decide (a > b)) = true, (decide (a < (0 : Int))) = false]) (by kernel_rfl) ⟨hq1, hq0, trivial⟩ (by kernel_rfl)
theorem puP_p2 (m a b : Int) (c : Bool) (h1 : 0 ≤ m ∧ m < 18446744073709551616) (hq0 : (decide (a < (0 : Int))) = false) (hq1 : (decide (a > b)) = false) (hq2 : (decide (b ≥ (0 : Int))) = true) (hq3 : (!decide (b < (64 : Int))) = true) : Known Tryd.prog knMaskKnownL 25 [.int .u64 m, .int .i64 a, .int .i64 b, .bool c] (.tuple #[(.int .u64 ((0 : Int))), (.int .i64 ((2 : Int)))]) :=
  open_res mix tabA_ok (T := tabA) (fuel := 3000) (ans := [(0, .b 0), (4, .b 0), (6, .b 1), (11, .b 1)]) (log := [(!decide (b < (64 : Int))) = true, (decide (b ≥ (0 : Int))) = true, (decide (a > b)) = false, (decide (a < (0 : Int))) = false]) (by kernel_rfl) ⟨hq3, hq2, hq1, hq0, trivial⟩ (by kernel_rfl)
theorem puP_p3 (m a b : Int) (c : Bool) (h1 : 0 ≤ m ∧ m < 18446744073709551616) (hq0 : (decide (a < (0 : Int))) = false) (hq1 : (decide (a > b)) = false) (hq2 : (decide (b ≥ (0 : Int))) = true) (hq3 : (!decide (b < (64 : Int))) = false) (hq4 : (c) = true) (hq5 : (decide (IntKind.u64.wrap b < (0 : Int))) = false) (hq6 : (decide (IntKind.u64.wrap a < (0 : Int))) = false) : Known Tryd.prog knMaskKnownL 25 [.int .u64 m, .int .i64 a, .int .i64 b, .bool c] (.tuple #[(.int .u64 (IntKind.u64.wrap (↑(BitVec.ofInt (64 : Nat) m ||| BitVec.ofInt (64 : Nat) (IntKind.u64.wrap (IntKind.u64.wrap ((2 : Int) * (2 : Int) ^ min (IntKind.u64.wrap b).toNat (64 : Nat)) - IntKind.u64.wrap ((1 : Int) * (2 : Int) ^ min (IntKind.u64.wrap a).toNat (64 : Nat))))).toNat : Int))), (.int .i64 ((0 : Int)))]) :=
  open_res mix tabA_ok (T := tabA) (fuel := 3000) (ans := [(0, .b 0), (4, .b 0), (6, .b 1), (11, .b 0), (12, .b 1), (13, .b 0), (14, .b 0)]) (log := [(decide (IntKind.u64.wrap a < (0 : Int))) = false, (decide (IntKind.u64.wrap b < (0 : Int))) = false, (c) = true, (!decide (b < (64 : Int))) = false, (decide (b ≥ (0 : Int))) = true, (decide (a > b)) = false, (decide (a < (0 : Int))) = false]) (by kernel_rfl) ⟨hq6, hq5, hq4, hq3, hq2, hq1, hq0, trivial⟩ (by kernel_rfl)
theorem puP_p4 (m a b : Int) (c : Bool) (h1 : 0 ≤ m ∧ m < 18446744073709551616) (hq0 : (decide (a < (0 : Int))) = false) (hq1 : (decide (a > b)) = false) (hq2 : (decide (b ≥ (0 : Int))) = true) (hq3 : (!decide (b < (64 : Int))) = false) (hq4 : (c) = false) (hq5 : (decide (IntKind.u64.wrap b < (0 : Int))) = false) (hq6 : (decide (IntKind.u64.wrap a < (0 : Int))) = false) : Known Tryd.prog knMaskKnownL 25 [.int .u64 m, .int .i64 a, .int .i64 b, .bool c] (.tuple #[(.int .u64 (IntKind.u64.wrap (↑(BitVec.ofInt (64 : Nat) m &&& ~~~BitVec.ofInt (64 : Nat) (IntKind.u64.wrap (IntKind.u64.wrap ((2 : Int) * (2 : Int) ^ min (IntKind.u64.wrap b).toNat (64 : Nat)) - IntKind.u64.wrap ((1 : Int) * (2 : Int) ^ min (IntKind.u64.wrap a).toNat (64 : Nat))))).toNat : Int))), (.int .i64 ((0 : Int)))]) :=
  open_res mix tabA_ok (T := tabA) (fuel := 3000) (ans := [(0, .b 0), (4, .b 0), (6, .b 1), (11, .b 0), (12, .b 0), (13, .b 0), (14, .b 0)]) (log := [(decide (IntKind.u64.wrap a < (0 : Int))) = false, (decide (IntKind.u64.wrap b < (0 : Int))) = false, (c) = false, (!decide (b < (64 : Int))) = false, (decide (b ≥ (0 : Int))) = true, (decide (a > b)) = false, (decide (a < (0 : Int))) = false]) (by kernel_rfl) ⟨hq6, hq5, hq4, hq3, hq2, hq1, hq0, trivial⟩ (by kernel_rfl)
set_option maxHeartbeats 8000000 in
theorem puP (m a b : Int) (c : Bool) (h1 : 0 ≤ m ∧ m < 18446744073709551616) : Known Tryd.prog knMaskKnownL 25 [.int .u64 m, .int .i64 a, .int .i64 b, .bool c] (.tuple #[(.int .u64 (puP_c0 m a b c)), (.int .i64 (puP_c1 m a b c))]) := by
  rcases Bool.eq_false_or_eq_true (decide (a < (0 : Int))) with hq0 | hq0
  ·
    have e0 : puP_c0 m a b c = ((0 : Int)) := ((bif_t hq0 _ _).trans rfl); rw [e0]; have e1 : puP_c1 m a b c = ((2 : Int)) := ((bif_t hq0 _ _).trans rfl); rw [e1]; exact puP_p0 m a b c h1 hq0
  ·
    rcases Bool.eq_false_or_eq_true (decide (a > b)) with hq1 | hq1
    ·
      have e0 : puP_c0 m a b c = ((0 : Int)) := ((bif_f hq0 _ _).trans ((bif_t hq1 _ _).trans rfl)); rw [e0]; have e1 : puP_c1 m a b c = ((2 : Int)) := ((bif_f hq0 _ _).trans ((bif_t hq1 _ _).trans rfl)); rw [e1]; exact puP_p1 m a b c h1 hq0 hq1
    ·
      have hq2 : (decide (b ≥ (0 : Int))) = true := by
        rcases Bool.eq_false_or_eq_true (decide (b ≥ (0 : Int))) with h | h
        · exact h
        · exfalso; (first | (simp_all only [Bool.and_eq_true, Bool.not_eq_true', Bool.false_eq_true, Bool.true_eq_false, reduceCtorEq]; done) | (simp only [sx, sy, eq_self, ne_eq, IntKind.wrap_i64, wrapU64, Int.reduceLT] at * <;> first | contradiction | omega) | omega | ((try simp only [sx, sy, eq_self, ne_eq, IntKind.wrap_i64, wrapU64, Int.reduceLT] at *) <;> omega) | (simp_all; done))
      rcases Bool.eq_false_or_eq_true (!decide (b < (64 : Int))) with hq3 | hq3
      ·
        have e0 : puP_c0 m a b c = ((0 : Int)) := ((bif_f hq0 _ _).trans ((bif_f hq1 _ _).trans ((bif_t hq3 _ _).trans rfl))); rw [e0]; have e1 : puP_c1 m a b c = ((2 : Int)) := ((bif_f hq0 _ _).trans ((bif_f hq1 _ _).trans ((bif_t hq3 _ _).trans rfl))); rw [e1]; exact puP_p2 m a b c h1 hq0 hq1 hq2 hq3
      ·
        rcases Bool.eq_false_or_eq_true (c) with hq4 | hq4
        ·
          have hq5 : (decide (IntKind.u64.wrap b < (0 : Int))) = false := by
            rcases Bool.eq_false_or_eq_true (decide (IntKind.u64.wrap b < (0 : Int))) with h | h
            · exfalso; (first | (simp_all only [Bool.and_eq_true, Bool.not_eq_true', Bool.false_eq_true, Bool.true_eq_false, reduceCtorEq]; done) | (simp only [sx, sy, eq_self, ne_eq, IntKind.wrap_i64, wrapU64, Int.reduceLT] at * <;> first | contradiction | omega) | omega | ((try simp only [sx, sy, eq_self, ne_eq, IntKind.wrap_i64, wrapU64, Int.reduceLT] at *) <;> omega) | (simp_all; done))
            · exact h
          have hq6 : (decide (IntKind.u64.wrap a < (0 : Int))) = false := by
            rcases Bool.eq_false_or_eq_true (decide (IntKind.u64.wrap a < (0 : Int))) with h | h
            · exfalso; (first | (simp_all only [Bool.and_eq_true, Bool.not_eq_true', Bool.false_eq_true, Bool.true_eq_false, reduceCtorEq]; done) | (simp only [sx, sy, eq_self, ne_eq, IntKind.wrap_i64, wrapU64, Int.reduceLT] at * <;> first | contradiction | omega) | omega | ((try simp only [sx, sy, eq_self, ne_eq, IntKind.wrap_i64, wrapU64, Int.reduceLT] at *) <;> omega) | (simp_all; done))
            · exact h
          have e0 : puP_c0 m a b c = (IntKind.u64.wrap (↑(BitVec.ofInt (64 : Nat) m ||| BitVec.ofInt (64 : Nat) (IntKind.u64.wrap (IntKind.u64.wrap ((2 : Int) * (2 : Int) ^ min (IntKind.u64.wrap b).toNat (64 : Nat)) - IntKind.u64.wrap ((1 : Int) * (2 : Int) ^ min (IntKind.u64.wrap a).toNat (64 : Nat))))).toNat : Int)) := ((bif_f hq0 _ _).trans ((bif_f hq1 _ _).trans ((bif_f hq3 _ _).trans ((bif_t hq4 _ _).trans rfl)))); rw [e0]; have e1 : puP_c1 m a b c = ((0 : Int)) := ((bif_f hq0 _ _).trans ((bif_f hq1 _ _).trans ((bif_f hq3 _ _).trans rfl))); rw [e1]; exact puP_p3 m a b c h1 hq0 hq1 hq2 hq3 hq4 hq5 hq6
        ·
          have hq5 : (decide (IntKind.u64.wrap b < (0 : Int))) = false := by
            rcases Bool.eq_false_or_eq_true (decide (IntKind.u64.wrap b < (0 : Int))) with h | h
            · exfalso; (first | (simp_all only [Bool.and_eq_true, Bool.not_eq_true', Bool.false_eq_true, Bool.true_eq_false, reduceCtorEq]; done) | (simp only [sx, sy, eq_self, ne_eq, IntKind.wrap_i64, wrapU64, Int.reduceLT] at * <;> first | contradiction | omega) | omega | ((try simp only [sx, sy, eq_self, ne_eq, IntKind.wrap_i64, wrapU64, Int.reduceLT] at *) <;> omega) | (simp_all; done))
            · exact h
          have hq6 : (decide (IntKind.u64.wrap a < (0 : Int))) = false := by
            rcases Bool.eq_false_or_eq_true (decide (IntKind.u64.wrap a < (0 : Int))) with h | h
            · exfalso; (first | (simp_all only [Bool.and_eq_true, Bool.not_eq_true', Bool.false_eq_true, Bool.true_eq_false, reduceCtorEq]; done) | (simp only [sx, sy, eq_self, ne_eq, IntKind.wrap_i64, wrapU64, Int.reduceLT] at * <;> first | contradiction | omega) | omega | ((try simp only [sx, sy, eq_self, ne_eq, IntKind.wrap_i64, wrapU64, Int.reduceLT] at *) <;> omega) | (simp_all; done))
            · exact h
          have e0 : puP_c0 m a b c = (IntKind.u64.wrap (↑(BitVec.ofInt (64 : Nat) m &&& ~~~BitVec.ofInt (64 : Nat) (IntKind.u64.wrap (IntKind.u64.wrap ((2 : Int) * (2 : Int) ^ min (IntKind.u64.wrap b).toNat (64 : Nat)) - IntKind.u64.wrap ((1 : Int) * (2 : Int) ^ min (IntKind.u64.wrap a).toNat (64 : Nat))))).toNat : Int)) := ((bif_f hq0 _ _).trans ((bif_f hq1 _ _).trans ((bif_f hq3 _ _).trans ((bif_f hq4 _ _).trans rfl)))); rw [e0]; have e1 : puP_c1 m a b c = ((0 : Int)) := ((bif_f hq0 _ _).trans ((bif_f hq1 _ _).trans ((bif_f hq3 _ _).trans rfl))); rw [e1]; exact puP_p4 m a b c h1 hq0 hq1 hq2 hq3 hq4 hq5 hq6

noncomputable def beP_b3 (m f : Int) : Bool := IntKind.u64.wrap (↑(BitVec.ofInt (64 : Nat) m &&& BitVec.ofInt (64 : Nat) (IntKind.u64.wrap (IntKind.u64.wrap ((1 : Int) * (2 : Int) ^ min (IntKind.u64.wrap f).toNat (64 : Nat)) - (1 : Int)))).toNat : Int) == (0 : Int)
noncomputable def beP_b4 (m f : Int) : Bool := decide ((0 : Int) < IntKind.u64.wrap (↑(BitVec.ofInt (64 : Nat) m &&& BitVec.ofInt (64 : Nat) (IntKind.u64.wrap (IntKind.u64.wrap ((1 : Int) * (2 : Int) ^ min (IntKind.u64.wrap f).toNat (64 : Nat)) - (1 : Int)))).toNat : Int) ∧ IntKind.u64.wrap (↑(BitVec.ofInt (64 : Nat) m &&& BitVec.ofInt (64 : Nat) (IntKind.u64.wrap (IntKind.u64.wrap ((1 : Int) * (2 : Int) ^ min (IntKind.u64.wrap f).toNat (64 : Nat)) - (1 : Int)))).toNat : Int) < (18446744073709551616 : Int))
noncomputable def beP_c0 (m f : Int) : Int := (bif (decide (f ≥ (0 : Int))) then (bif (!decide (f < (64 : Int))) then ((0 : Int)) else (bif (IntKind.u64.wrap (↑(BitVec.ofInt (64 : Nat) m &&& BitVec.ofInt (64 : Nat) (IntKind.u64.wrap (IntKind.u64.wrap ((1 : Int) * (2 : Int) ^ min (IntKind.u64.wrap f).toNat (64 : Nat)) - (1 : Int)))).toNat : Int) == (0 : Int)) then ((0 : Int)) else (IntKind.i64.wrap (lenI (IntKind.u64.wrap (↑(BitVec.ofInt (64 : Nat) m &&& BitVec.ofInt (64 : Nat) (IntKind.u64.wrap (IntKind.u64.wrap ((1 : Int) * (2 : Int) ^ min (IntKind.u64.wrap f).toNat (64 : Nat)) - (1 : Int)))).toNat : Int)) - (1 : Int))))) else ((0 : Int)))
noncomputable def beP_c1 (m f : Int) : Int := (bif (decide (f ≥ (0 : Int))) then (bif (!decide (f < (64 : Int))) then ((2 : Int)) else (bif (IntKind.u64.wrap (↑(BitVec.ofInt (64 : Nat) m &&& BitVec.ofInt (64 : Nat) (IntKind.u64.wrap (IntKind.u64.wrap ((1 : Int) * (2 : Int) ^ min (IntKind.u64.wrap f).toNat (64 : Nat)) - (1 : Int)))).toNat : Int) == (0 : Int)) then ((6 : Int)) else ((0 : Int)))) else ((2 : Int)))
theorem beP_p0 (m f : Int) (h1 : 0 ≤ m ∧ m < 18446744073709551616) (hq0 : (decide (f ≥ (0 : Int))) = true) (hq1 : (!decide (f < (64 : Int))) = true) : Known Tryd.prog knMaskKnownL 13 [.int .u64 m, .int .i64 f] (.tuple #[(.int .i64 ((0 : Int))), (.int .i64 ((2 : Int)))]) :=
  open_res mix tabA_ok (T := tabA) (fuel := 3000) (ans := [(0, .b 1), (3, .b 1)]) (log := [(!decide (f < (64 : Int))) = true, (decide (f ≥ (0 : Int))) = true]) (by kernel_rfl) ⟨hq1, hq0, trivial⟩ (by kernel_rfl)
theorem beP_p1 (m f : Int) (h1 : 0 ≤ m ∧ m < 18446744073709551616) (hq0 : (decide (f ≥ (0 : Int))) = true) (hq1 : (!decide (f < (64 : Int))) = false) (hq2 : (decide (IntKind.u64.wrap f < (0 : Int))) = false) (hq3 : (beP_b3 m f) = true) : Known Tryd.prog knMaskKnownL 13 [.int .u64 m, .int .i64 f] (.tuple #[(.int .i64 ((0 : Int))), (.int .i64 ((6 : Int)))]) :=
  open_res mix tabA_ok (T := tabA) (fuel := 3000) (ans := [(0, .b 1), (3, .b 0), (4, .b 0), (5, .b 1)]) (log := [(beP_b3 m f) = true, (decide (IntKind.u64.wrap f < (0 : Int))) = false, (!decide (f < (64 : Int))) = false, (decide (f ≥ (0 : Int))) = true]) (by kernel_rfl) ⟨hq3, hq2, hq1, hq0, trivial⟩ (by kernel_rfl)
theorem beP_p2 (m f : Int) (h1 : 0 ≤ m ∧ m < 18446744073709551616) (hq0 : (decide (f ≥ (0 : Int))) = true) (hq1 : (!decide (f < (64 : Int))) = false) (hq2 : (decide (IntKind.u64.wrap f < (0 : Int))) = false) (hq3 : (beP_b3 m f) = false) (hq4 : (beP_b4 m f) = true) : Known Tryd.prog knMaskKnownL 13 [.int .u64 m, .int .i64 f] (.tuple #[(.int .i64 (IntKind.i64.wrap (lenI (IntKind.u64.wrap (↑(BitVec.ofInt (64 : Nat) m &&& BitVec.ofInt (64 : Nat) (IntKind.u64.wrap (IntKind.u64.wrap ((1 : Int) * (2 : Int) ^ min (IntKind.u64.wrap f).toNat (64 : Nat)) - (1 : Int)))).toNat : Int)) - (1 : Int)))), (.int .i64 ((0 : Int)))]) :=
  open_res mix tabA_ok (T := tabA) (fuel := 3000) (ans := [(0, .b 1), (3, .b 0), (4, .b 0), (5, .b 0), (6, .b 1)]) (log := [(beP_b4 m f) = true, (beP_b3 m f) = false, (decide (IntKind.u64.wrap f < (0 : Int))) = false, (!decide (f < (64 : Int))) = false, (decide (f ≥ (0 : Int))) = true]) (by kernel_rfl) ⟨hq4, hq3, hq2, hq1, hq0, trivial⟩ (by kernel_rfl)
theorem beP_p3 (m f : Int) (h1 : 0 ≤ m ∧ m < 18446744073709551616) (hq0 : (decide (f ≥ (0 : Int))) = false) : Known Tryd.prog knMaskKnownL 13 [.int .u64 m, .int .i64 f] (.tuple #[(.int .i64 ((0 : Int))), (.int .i64 ((2 : Int)))]) :=
  open_res mix tabA_ok (T := tabA) (fuel := 3000) (ans := [(0, .b 0)]) (log := [(decide (f ≥ (0 : Int))) = false]) (by kernel_rfl) ⟨hq0, trivial⟩ (by kernel_rfl)
set_option maxHeartbeats 8000000 in
theorem beP (m f : Int) (h1 : 0 ≤ m ∧ m < 18446744073709551616) : Known Tryd.prog knMaskKnownL 13 [.int .u64 m, .int .i64 f] (.tuple #[(.int .i64 (beP_c0 m f)), (.int .i64 (beP_c1 m f))]) := by
  rcases Bool.eq_false_or_eq_true (decide (f ≥ (0 : Int))) with hq0 | hq0
  ·
    rcases Bool.eq_false_or_eq_true (!decide (f < (64 : Int))) with hq1 | hq1
    ·
      have e0 : beP_c0 m f = ((0 : Int)) := ((bif_t hq0 _ _).trans ((bif_t hq1 _ _).trans rfl)); rw [e0]; have e1 : beP_c1 m f = ((2 : Int)) := ((bif_t hq0 _ _).trans ((bif_t hq1 _ _).trans rfl)); rw [e1]; exact beP_p0 m f h1 hq0 hq1
    ·
      have hq2 : (decide (IntKind.u64.wrap f < (0 : Int))) = false := by
        rcases Bool.eq_false_or_eq_true (decide (IntKind.u64.wrap f < (0 : Int))) with h | h
        · exfalso; (try simp only [beP_b3, beP_b4] at *); (first | (simp_all only [Bool.and_eq_true, Bool.not_eq_true', Bool.false_eq_true, Bool.true_eq_false, reduceCtorEq]; done) | (simp only [sx, sy, eq_self, ne_eq, IntKind.wrap_i64, wrapU64, Int.reduceLT] at * <;> first | contradiction | omega) | omega | ((try simp only [sx, sy, eq_self, ne_eq, IntKind.wrap_i64, wrapU64, Int.reduceLT] at *) <;> omega) | (simp_all; done))
        · exact h
      rcases Bool.eq_false_or_eq_true (beP_b3 m f) with hq3 | hq3
      ·
        have e0 : beP_c0 m f = ((0 : Int)) := ((bif_t hq0 _ _).trans ((bif_f hq1 _ _).trans ((bif_t hq3 _ _).trans rfl))); rw [e0]; have e1 : beP_c1 m f = ((6 : Int)) := ((bif_t hq0 _ _).trans ((bif_f hq1 _ _).trans ((bif_t hq3 _ _).trans rfl))); rw [e1]; exact beP_p1 m f h1 hq0 hq1 hq2 hq3
      ·
        have hq4 : (beP_b4 m f) = true := by
          rcases Bool.eq_false_or_eq_true (beP_b4 m f) with h | h
          · exact h
          · exfalso; (try simp only [beP_b3, beP_b4] at *); (first | (simp_all only [Bool.and_eq_true, Bool.not_eq_true', Bool.false_eq_true, Bool.true_eq_false, reduceCtorEq]; done) | (simp only [sx, sy, eq_self, ne_eq, IntKind.wrap_i64, wrapU64, Int.reduceLT] at * <;> first | contradiction | omega) | omega | ((try simp only [sx, sy, eq_self, ne_eq, IntKind.wrap_i64, wrapU64, Int.reduceLT] at *) <;> omega) | (simp_all; done))
        have e0 : beP_c0 m f = (IntKind.i64.wrap (lenI (IntKind.u64.wrap (↑(BitVec.ofInt (64 : Nat) m &&& BitVec.ofInt (64 : Nat) (IntKind.u64.wrap (IntKind.u64.wrap ((1 : Int) * (2 : Int) ^ min (IntKind.u64.wrap f).toNat (64 : Nat)) - (1 : Int)))).toNat : Int)) - (1 : Int))) := ((bif_t hq0 _ _).trans ((bif_f hq1 _ _).trans ((bif_f hq3 _ _).trans rfl))); rw [e0]; have e1 : beP_c1 m f = ((0 : Int)) := ((bif_t hq0 _ _).trans ((bif_f hq1 _ _).trans ((bif_f hq3 _ _).trans rfl))); rw [e1]; exact beP_p2 m f h1 hq0 hq1 hq2 hq3 hq4
  ·
    have e0 : beP_c0 m f = ((0 : Int)) := ((bif_f hq0 _ _).trans rfl); rw [e0]; have e1 : beP_c1 m f = ((2 : Int)) := ((bif_f hq0 _ _).trans rfl); rw [e1]; exact beP_p3 m f h1 hq0

noncomputable def abP_b3 (m f : Int) : Bool := IntKind.u64.wrap (↑(BitVec.ofInt (64 : Nat) m &&& ~~~BitVec.ofInt (64 : Nat) (IntKind.u64.wrap (IntKind.u64.wrap ((2 : Int) * (2 : Int) ^ min (IntKind.u64.wrap f).toNat (64 : Nat)) - (1 : Int)))).toNat : Int) != (0 : Int)
noncomputable def abP_b4 (m f : Int) : Bool := decide ((0 : Int) < IntKind.u64.wrap (↑(BitVec.ofInt (64 : Nat) m &&& ~~~BitVec.ofInt (64 : Nat) (IntKind.u64.wrap (IntKind.u64.wrap ((2 : Int) * (2 : Int) ^ min (IntKind.u64.wrap f).toNat (64 : Nat)) - (1 : Int)))).toNat : Int) ∧ IntKind.u64.wrap (↑(BitVec.ofInt (64 : Nat) m &&& ~~~BitVec.ofInt (64 : Nat) (IntKind.u64.wrap (IntKind.u64.wrap ((2 : Int) * (2 : Int) ^ min (IntKind.u64.wrap f).toNat (64 : Nat)) - (1 : Int)))).toNat : Int) < (18446744073709551616 : Int))
noncomputable def abP_c0 (m f : Int) : Int := (bif (decide (f ≥ (0 : Int))) then (bif (!decide (f < (64 : Int))) then ((0 : Int)) else (bif (IntKind.u64.wrap (↑(BitVec.ofInt (64 : Nat) m &&& ~~~BitVec.ofInt (64 : Nat) (IntKind.u64.wrap (IntKind.u64.wrap ((2 : Int) * (2 : Int) ^ min (IntKind.u64.wrap f).toNat (64 : Nat)) - (1 : Int)))).toNat : Int) != (0 : Int)) then (tzI (IntKind.u64.wrap (↑(BitVec.ofInt (64 : Nat) m &&& ~~~BitVec.ofInt (64 : Nat) (IntKind.u64.wrap (IntKind.u64.wrap ((2 : Int) * (2 : Int) ^ min (IntKind.u64.wrap f).toNat (64 : Nat)) - (1 : Int)))).toNat : Int))) else ((0 : Int)))) else ((0 : Int)))
noncomputable def abP_c1 (m f : Int) : Int := (bif (decide (f ≥ (0 : Int))) then (bif (!decide (f < (64 : Int))) then ((2 : Int)) else (bif (IntKind.u64.wrap (↑(BitVec.ofInt (64 : Nat) m &&& ~~~BitVec.ofInt (64 : Nat) (IntKind.u64.wrap (IntKind.u64.wrap ((2 : Int) * (2 : Int) ^ min (IntKind.u64.wrap f).toNat (64 : Nat)) - (1 : Int)))).toNat : Int) != (0 : Int)) then ((0 : Int)) else ((6 : Int)))) else ((2 : Int)))
theorem abP_p0 (m f : Int) (h1 : 0 ≤ m ∧ m < 18446744073709551616) (hq0 : (decide (f ≥ (0 : Int))) = true) (hq1 : (!decide (f < (64 : Int))) = true) : Known Tryd.prog knMaskKnownL 11 [.int .u64 m, .int .i64 f] (.tuple #[(.int .i64 ((0 : Int))), (.int .i64 ((2 : Int)))]) :=
  open_res mix tabA_ok (T := tabA) (fuel := 3000) (ans := [(0, .b 1), (3, .b 1)]) (log := [(!decide (f < (64 : Int))) = true, (decide (f ≥ (0 : Int))) = true]) (by kernel_rfl) ⟨hq1, hq0, trivial⟩ (by kernel_rfl)
theorem abP_p1 (m f : Int) (h1 : 0 ≤ m ∧ m < 18446744073709551616) (hq0 : (decide (f ≥ (0 : Int))) = true) (hq1 : (!decide (f < (64 : Int))) = false) (hq2 : (decide (IntKind.u64.wrap f < (0 : Int))) = false) (hq3 : (abP_b3 m f) = true) (hq4 : (abP_b4 m f) = true) : Known Tryd.prog knMaskKnownL 11 [.int .u64 m, .int .i64 f] (.tuple #[(.int .i64 (tzI (IntKind.u64.wrap (↑(BitVec.ofInt (64 : Nat) m &&& ~~~BitVec.ofInt (64 : Nat) (IntKind.u64.wrap (IntKind.u64.wrap ((2 : Int) * (2 : Int) ^ min (IntKind.u64.wrap f).toNat (64 : Nat)) - (1 : Int)))).toNat : Int)))), (.int .i64 ((0 : Int)))]) :=
  open_res mix tabA_ok (T := tabA) (fuel := 3000) (ans := [(0, .b 1), (3, .b 0), (4, .b 0), (7, .b 1), (8, .b 1)]) (log := [(abP_b4 m f) = true, (abP_b3 m f) = true, (decide (IntKind.u64.wrap f < (0 : Int))) = false, (!decide (f < (64 : Int))) = false, (decide (f ≥ (0 : Int))) = true]) (by kernel_rfl) ⟨hq4, hq3, hq2, hq1, hq0, trivial⟩ (by kernel_rfl)
theorem abP_p2 (m f : Int) (h1 : 0 ≤ m ∧ m < 18446744073709551616) (hq0 : (decide (f ≥ (0 : Int))) = true) (hq1 : (!decide (f < (64 : Int))) = false) (hq2 : (decide (IntKind.u64.wrap f < (0 : Int))) = false) (hq3 : (abP_b3 m f) = false) : Known Tryd.prog knMaskKnownL 11 [.int .u64 m, .int .i64 f] (.tuple #[(.int .i64 ((0 : Int))), (.int .i64 ((6 : Int)))]) :=
  open_res mix tabA_ok (T := tabA) (fuel := 3000) (ans := [(0, .b 1), (3, .b 0), (4, .b 0), (7, .b 0)]) (log := [(abP_b3 m f) = false, (decide (IntKind.u64.wrap f < (0 : Int))) = false, (!decide (f < (64 : Int))) = false, (decide (f ≥ (0 : Int))) = true]) (by kernel_rfl) ⟨hq3, hq2, hq1, hq0, trivial⟩ (by kernel_rfl)
theorem abP_p3 (m f : Int) (h1 : 0 ≤ m ∧ m < 18446744073709551616) (hq0 : (decide (f ≥ (0 : Int))) = false) : Known Tryd.prog knMaskKnownL 11 [.int .u64 m, .int .i64 f] (.tuple #[(.int .i64 ((0 : Int))), (.int .i64 ((2 : Int)))]) :=
  open_res mix tabA_ok (T := tabA) (fuel := 3000) (ans := [(0, .b 0)]) (log := [(decide (f ≥ (0 : Int))) = false]) (by kernel_rfl) ⟨hq0, trivial⟩ (by kernel_rfl)
set_option maxHeartbeats 8000000 in
theorem abP (m f : Int) (h1 : 0 ≤ m ∧ m < 18446744073709551616) : Known Tryd.prog knMaskKnownL 11 [.int .u64 m, .int .i64 f] (.tuple #[(.int .i64 (abP_c0 m f)), (.int .i64 (abP_c1 m f))]) := by
  rcases Bool.eq_false_or_eq_true (decide (f ≥ (0 : Int))) with hq0 | hq0
  ·
    rcases Bool.eq_false_or_eq_true (!decide (f < (64 : Int))) with hq1 | hq1
    ·
      have e0 : abP_c0 m f = ((0 : Int)) := ((bif_t hq0 _ _).trans ((bif_t hq1 _ _).trans rfl)); rw [e0]; have e1 : abP_c1 m f = ((2 : Int)) := ((bif_t hq0 _ _).trans ((bif_t hq1 _ _).trans rfl)); rw [e1]; exact abP_p0 m f h1 hq0 hq1
    ·
      have hq2 : (decide (IntKind.u64.wrap f < (0 : Int))) = false := by
        rcases Bool.eq_false_or_eq_true (decide (IntKind.u64.wrap f < (0 : Int))) with h | h
        · exfalso; (try simp only [abP_b3, abP_b4] at *); (first | (simp_all only [Bool.and_eq_true, Bool.not_eq_true', Bool.false_eq_true, Bool.true_eq_false, reduceCtorEq]; done) | (simp only [sx, sy, eq_self, ne_eq, IntKind.wrap_i64, wrapU64, Int.reduceLT] at * <;> first | contradiction | omega) | omega | ((try simp only [sx, sy, eq_self, ne_eq, IntKind.wrap_i64, wrapU64, Int.reduceLT] at *) <;> omega) | (simp_all; done))
        · exact h
      rcases Bool.eq_false_or_eq_true (abP_b3 m f) with hq3 | hq3
      ·
        have hq4 : (abP_b4 m f) = true := by
          rcases Bool.eq_false_or_eq_true (abP_b4 m f) with h | h
          · exact h
          · exfalso; (try simp only [abP_b3, abP_b4] at *); (first | (simp_all only [Bool.and_eq_true, Bool.not_eq_true', Bool.false_eq_true, Bool.true_eq_false, reduceCtorEq]; done) | (simp only [sx, sy, eq_self, ne_eq, IntKind.wrap_i64, wrapU64, Int.reduceLT] at * <;> first | contradiction | omega) | omega | ((try simp only [sx, sy, eq_self, ne_eq, IntKind.wrap_i64, wrapU64, Int.reduceLT] at *) <;> omega) | (simp_all; done))
        have e0 : abP_c0 m f = (tzI (IntKind.u64.wrap (↑(BitVec.ofInt (64 : Nat) m &&& ~~~BitVec.ofInt (64 : Nat) (IntKind.u64.wrap (IntKind.u64.wrap ((2 : Int) * (2 : Int) ^ min (IntKind.u64.wrap f).toNat (64 : Nat)) - (1 : Int)))).toNat : Int))) := ((bif_t hq0 _ _).trans ((bif_f hq1 _ _).trans ((bif_t hq3 _ _).trans rfl))); rw [e0]; have e1 : abP_c1 m f = ((0 : Int)) := ((bif_t hq0 _ _).trans ((bif_f hq1 _ _).trans ((bif_t hq3 _ _).trans rfl))); rw [e1]; exact abP_p1 m f h1 hq0 hq1 hq2 hq3 hq4
      ·
        have e0 : abP_c0 m f = ((0 : Int)) := ((bif_t hq0 _ _).trans ((bif_f hq1 _ _).trans ((bif_f hq3 _ _).trans rfl))); rw [e0]; have e1 : abP_c1 m f = ((6 : Int)) := ((bif_t hq0 _ _).trans ((bif_f hq1 _ _).trans ((bif_f hq3 _ _).trans rfl))); rw [e1]; exact abP_p2 m f h1 hq0 hq1 hq2 hq3
  ·
    have e0 : abP_c0 m f = ((0 : Int)) := ((bif_f hq0 _ _).trans rfl); rw [e0]; have e1 : abP_c1 m f = ((2 : Int)) := ((bif_f hq0 _ _).trans rfl); rw [e1]; exact abP_p3 m f h1 hq0

end Go.Proofs.YtboobndcgilmlaaDoor
