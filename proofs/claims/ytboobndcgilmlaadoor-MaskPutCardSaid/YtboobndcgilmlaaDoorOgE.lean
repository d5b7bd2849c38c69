/- Layer 2: MaskPuts. -/
import Derived.Test.YtboobndcgilmlaaDoorMF
import Derived.ProofKit
import Derived.IntWalk
namespace Go.Proofs.YtboobndcgilmlaaDoor
open Go Go.RowKit
set_option linter.unusedVariables false
set_option linter.unusedSimpArgs false
set_option linter.unnecessarySimpa false
set_option maxHeartbeats 8000000
set_option maxRecDepth 100000
attribute [local irreducible] puV puE alV alE
theorem qPu (m a b : Int) (c : Bool) (hg : (isW m) = true) : Known Tryd.prog knMaskKnownL 25 [.int .u64 m, .int .i64 a, .int .i64 b, .bool c] (.tuple #[.int .u64 (puV m a b c), .int .i64 (puE m a b c)]) := put_k hg a b c
noncomputable def qPu_k : List Value → Option (Bool × Value)
  | [.int .u64 m, .int .i64 a, .int .i64 b, .bool c] => some (isW m, .tuple #[.int .u64 (puV m a b c), .int .i64 (puE m a b c)])
  | _ => none
theorem qPu_ok : ∀ args v, qPu_k args = some (true, v) → Known Tryd.prog knMaskKnownL 25 args v := by
  intro args v h
  unfold qPu_k at h
  split at h
  · injection h with h; injection h with hg h; subst h; exact qPu _ _ _ _ hg
  · cases h
theorem qRpu (m a b : Int) (c : Bool) (hg : (isW m) = true) : Known Tryd.prog knMaskKnownL 26 [.int .u64 m, .int .i64 a, .int .i64 b, .bool c] (.tuple #[.int .u64 (puV m a b c), .int .i64 (puE m a b c)]) := rput_k hg a b c
noncomputable def qRpu_k : List Value → Option (Bool × Value)
  | [.int .u64 m, .int .i64 a, .int .i64 b, .bool c] => some (isW m, .tuple #[.int .u64 (puV m a b c), .int .i64 (puE m a b c)])
  | _ => none
theorem qRpu_ok : ∀ args v, qRpu_k args = some (true, v) → Known Tryd.prog knMaskKnownL 26 args v := by
  intro args v h
  unfold qRpu_k at h
  split at h
  · injection h with h; injection h with hg h; subst h; exact qRpu _ _ _ _ hg
  · cases h
theorem qAl (n : Int) : Known Tryd.prog knMaskKnownL 27 [.int .i64 n] (.tuple #[.int .u64 (alV n), .int .i64 (alE n)]) := all_k n
noncomputable def qAl_k : List Value → Option Value
  | [.int .i64 n] => some (.tuple #[.int .u64 (alV n), .int .i64 (alE n)])
  | _ => none
theorem qAl_ok : ∀ args v, qAl_k args = some v → Known Tryd.prog knMaskKnownL 27 args v := by
  intro args v h
  unfold qAl_k at h
  split at h
  · injection h with h; subst h; exact qAl _
  · cases h
theorem qRal (n : Int) : Known Tryd.prog knMaskKnownL 28 [.int .i64 n] (.tuple #[.int .u64 (alV n), .int .i64 (alE n)]) := rall_k n
noncomputable def qRal_k : List Value → Option Value
  | [.int .i64 n] => some (.tuple #[.int .u64 (alV n), .int .i64 (alE n)])
  | _ => none
theorem qRal_ok : ∀ args v, qRal_k args = some v → Known Tryd.prog knMaskKnownL 28 args v := by
  intro args v h
  unfold qRal_k at h
  split at h
  · injection h with h; subst h; exact qRal _
  · cases h
noncomputable def tabPu : GTab := (GTab.fn 25 qPu_k (GTab.fn 26 qRpu_k (GTab.fn1 27 qAl_k (GTab.fn1 28 qRal_k (GTab.fn1 24 (fun l => match l with | [] => some (.bool true) | _ => none) GTab.none)))))
theorem tabPu_ok : GOk Tryd.prog knMaskKnownL tabPu := (GOk.fn qPu_ok (GOk.fn qRpu_ok (GOk.fn1 qAl_ok (GOk.fn1 qRal_ok (GOk.fn1 (known0 knMaskKnown_e0) GOk.none)))))
theorem pus_p0 (m a b : Int) (c : Bool) (hw : isW m = true) (hq0 : (isW m) = true) (hq1 : (puV m a b c == puV m a b c) = true) (hq2 : (puE m a b c == puE m a b c) = true) (hq3 : (alV b == alV b) = true) (hq4 : (alE b == alE b) = true) : Known Tryd.prog knMaskKnownL 4 [.int .u64 m, .int .i64 a, .int .i64 b, .bool c] (.bool (true)) :=
  open_res mix tabPu_ok (T := tabPu) (fuel := 3000) (ans := [(0, .b 1), (1, .b 1), (4, .b 1), (8, .b 1), (12, .b 1), (16, .b 1)]) (log := [(alE b == alE b) = true, (alV b == alV b) = true, (puE m a b c == puE m a b c) = true, (puV m a b c == puV m a b c) = true, (isW m) = true, (isW m) = true]) (by kernel_rfl) ⟨hq4, hq3, hq2, hq1, hq0, hq0, trivial⟩ (by kernel_rfl)
set_option maxHeartbeats 8000000 in
theorem pus (m a b : Int) (c : Bool) (hw : isW m = true) : Known Tryd.prog knMaskKnownL 4 [.int .u64 m, .int .i64 a, .int .i64 b, .bool c] (.bool (true)) := by
  have hq0 : (isW m) = true := by
    rcases Bool.eq_false_or_eq_true (isW m) with h | h
    · exact h
    · exfalso; (first | (simp_all only [Bool.and_eq_true, Bool.not_eq_true', Bool.false_eq_true, Bool.true_eq_false, reduceCtorEq]; done) | (simp only [sx, sy, eq_self, ne_eq, IntKind.wrap_i64, wrapU64, Int.reduceLT] at * <;> first | contradiction | omega) | omega | ((try simp only [sx, sy, eq_self, ne_eq, IntKind.wrap_i64, wrapU64, Int.reduceLT] at *) <;> omega) | (simp_all; done))
  have hq1 : (puV m a b c == puV m a b c) = true := by
    rcases Bool.eq_false_or_eq_true (puV m a b c == puV m a b c) with h | h
    · exact h
    · exfalso; (first | (simp_all only [Bool.and_eq_true, Bool.not_eq_true', Bool.false_eq_true, Bool.true_eq_false, reduceCtorEq]; done) | (simp only [sx, sy, eq_self, ne_eq, IntKind.wrap_i64, wrapU64, Int.reduceLT] at * <;> first | contradiction | omega) | omega | ((try simp only [sx, sy, eq_self, ne_eq, IntKind.wrap_i64, wrapU64, Int.reduceLT] at *) <;> omega) | (simp_all; done))
  have hq2 : (puE m a b c == puE m a b c) = true := by
    rcases Bool.eq_false_or_eq_true (puE m a b c == puE m a b c) with h | h
    · exact h
    · exfalso; (first | (simp_all only [Bool.and_eq_true, Bool.not_eq_true', Bool.false_eq_true, Bool.true_eq_false, reduceCtorEq]; done) | (simp only [sx, sy, eq_self, ne_eq, IntKind.wrap_i64, wrapU64, Int.reduceLT] at * <;> first | contradiction | omega) | omega | ((try simp only [sx, sy, eq_self, ne_eq, IntKind.wrap_i64, wrapU64, Int.reduceLT] at *) <;> omega) | (simp_all; done))
  have hq3 : (alV b == alV b) = true := by
    rcases Bool.eq_false_or_eq_true (alV b == alV b) with h | h
    · exact h
    · exfalso; (first | (simp_all only [Bool.and_eq_true, Bool.not_eq_true', Bool.false_eq_true, Bool.true_eq_false, reduceCtorEq]; done) | (simp only [sx, sy, eq_self, ne_eq, IntKind.wrap_i64, wrapU64, Int.reduceLT] at * <;> first | contradiction | omega) | omega | ((try simp only [sx, sy, eq_self, ne_eq, IntKind.wrap_i64, wrapU64, Int.reduceLT] at *) <;> omega) | (simp_all; done))
  have hq4 : (alE b == alE b) = true := by
    rcases Bool.eq_false_or_eq_true (alE b == alE b) with h | h
    · exact h
    · exfalso; (first | (simp_all only [Bool.and_eq_true, Bool.not_eq_true', Bool.false_eq_true, Bool.true_eq_false, reduceCtorEq]; done) | (simp only [sx, sy, eq_self, ne_eq, IntKind.wrap_i64, wrapU64, Int.reduceLT] at * <;> first | contradiction | omega) | omega | ((try simp only [sx, sy, eq_self, ne_eq, IntKind.wrap_i64, wrapU64, Int.reduceLT] at *) <;> omega) | (simp_all; done))
  exact pus_p0 m a b c hw hq0 hq1 hq2 hq3 hq4

end Go.Proofs.YtboobndcgilmlaaDoor
