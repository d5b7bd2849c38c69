import Derived.Test.YtbhmgchkgbenmaaOgE
import Derived.Test.YtbhmgchkgbenmaaOgF
set_option linter.unnecessarySimpa false
set_option linter.unusedSimpArgs false
set_option linter.unusedVariables false
namespace Go.Proofs.Ytbhmgchkgbenmaa
open Go Go.RowKit
noncomputable def pJmp_c0 (p s : Int) (m b : Bool) (d p' s' : Int) (m' b' : Bool) (d' : Int) : Bool := (bif (decide (p < p')) then (bif (IntKind.u64.wrap (IntKind.u64.wrap p' - IntKind.u64.wrap p) != IntKind.u64.wrap s') then (true) else (bif (s' != (0 : Int)) then (bif (decide (s < s')) then (decide (IntKind.u64.wrap (IntKind.u64.wrap s' - IntKind.u64.wrap s) > (1 : Int))) else (decide (IntKind.u64.wrap (IntKind.u64.wrap s - IntKind.u64.wrap s') > (1 : Int)))) else (false))) else (bif (IntKind.u64.wrap (IntKind.u64.wrap p - IntKind.u64.wrap p') != IntKind.u64.wrap s') then (true) else (bif (s' != (0 : Int)) then (bif (decide (s < s')) then (decide (IntKind.u64.wrap (IntKind.u64.wrap s' - IntKind.u64.wrap s) > (1 : Int))) else (decide (IntKind.u64.wrap (IntKind.u64.wrap s - IntKind.u64.wrap s') > (1 : Int)))) else (false))))
theorem pJmp_p0 (p s : Int) (m b : Bool) (d p' s' : Int) (m' b' : Bool) (d' : Int)  (hq0 : (decide (p < p')) = true) (hq1 : (IntKind.u64.wrap (IntKind.u64.wrap p' - IntKind.u64.wrap p) != IntKind.u64.wrap s') = true) : Known Try.prog [] 40 [.agg #[.int .i64 p, .int .i64 s, .bool m, .bool b, .int .i64 d], .agg #[.int .i64 p', .int .i64 s', .bool m', .bool b', .int .i64 d']] (.bool (true)) :=
 open_res mix GOk.none (T := GTab.none) (fuel := 3000) (ans := [(0, .b 1), (1, .b 1)]) (log := [(IntKind.u64.wrap (IntKind.u64.wrap p' - IntKind.u64.wrap p) != IntKind.u64.wrap s') = true, (decide (p < p')) = true]) (by kernel_rfl) ⟨hq1, hq0, trivial⟩ (by kernel_rfl)
theorem pJmp_p1 (p s : Int) (m b : Bool) (d p' s' : Int) (m' b' : Bool) (d' : Int)  (hq0 : (decide (p < p')) = true) (hq1 : (IntKind.u64.wrap (IntKind.u64.wrap p' - IntKind.u64.wrap p) != IntKind.u64.wrap s') = false) (hq2 : (s' != (0 : Int)) = true) (hq3 : (decide (s < s')) = true) : Known Try.prog [] 40 [.agg #[.int .i64 p, .int .i64 s, .bool m, .bool b, .int .i64 d], .agg #[.int .i64 p', .int .i64 s', .bool m', .bool b', .int .i64 d']] (.bool (decide (IntKind.u64.wrap (IntKind.u64.wrap s' - IntKind.u64.wrap s) > (1 : Int)))) :=
 open_res mix GOk.none (T := GTab.none) (fuel := 3000) (ans := [(0, .b 1), (1, .b 0), (5, .b 1), (10, .b 1)]) (log := [(decide (s < s')) = true, (s' != (0 : Int)) = true, (IntKind.u64.wrap (IntKind.u64.wrap p' - IntKind.u64.wrap p) != IntKind.u64.wrap s') = false, (decide (p < p')) = true]) (by kernel_rfl) ⟨hq3, hq2, hq1, hq0, trivial⟩ (by kernel_rfl)
theorem pJmp_p2 (p s : Int) (m b : Bool) (d p' s' : Int) (m' b' : Bool) (d' : Int)  (hq0 : (decide (p < p')) = true) (hq1 : (IntKind.u64.wrap (IntKind.u64.wrap p' - IntKind.u64.wrap p) != IntKind.u64.wrap s') = false) (hq2 : (s' != (0 : Int)) = true) (hq3 : (decide (s < s')) = false) : Known Try.prog [] 40 [.agg #[.int .i64 p, .int .i64 s, .bool m, .bool b, .int .i64 d], .agg #[.int .i64 p', .int .i64 s', .bool m', .bool b', .int .i64 d']] (.bool (decide (IntKind.u64.wrap (IntKind.u64.wrap s - IntKind.u64.wrap s') > (1 : Int)))) :=
 open_res mix GOk.none (T := GTab.none) (fuel := 3000) (ans := [(0, .b 1), (1, .b 0), (5, .b 1), (10, .b 0)]) (log := [(decide (s < s')) = false, (s' != (0 : Int)) = true, (IntKind.u64.wrap (IntKind.u64.wrap p' - IntKind.u64.wrap p) != IntKind.u64.wrap s') = false, (decide (p < p')) = true]) (by kernel_rfl) ⟨hq3, hq2, hq1, hq0, trivial⟩ (by kernel_rfl)
theorem pJmp_p3 (p s : Int) (m b : Bool) (d p' s' : Int) (m' b' : Bool) (d' : Int)  (hq0 : (decide (p < p')) = true) (hq1 : (IntKind.u64.wrap (IntKind.u64.wrap p' - IntKind.u64.wrap p) != IntKind.u64.wrap s') = false) (hq2 : (s' != (0 : Int)) = false) : Known Try.prog [] 40 [.agg #[.int .i64 p, .int .i64 s, .bool m, .bool b, .int .i64 d], .agg #[.int .i64 p', .int .i64 s', .bool m', .bool b', .int .i64 d']] (.bool (false)) :=
 open_res mix GOk.none (T := GTab.none) (fuel := 3000) (ans := [(0, .b 1), (1, .b 0), (5, .b 0)]) (log := [(s' != (0 : Int)) = false, (IntKind.u64.wrap (IntKind.u64.wrap p' - IntKind.u64.wrap p) != IntKind.u64.wrap s') = false, (decide (p < p')) = true]) (by kernel_rfl) ⟨hq2, hq1, hq0, trivial⟩ (by kernel_rfl)
theorem pJmp_p4 (p s : Int) (m b : Bool) (d p' s' : Int) (m' b' : Bool) (d' : Int)  (hq0 : (decide (p < p')) = false) (hq4 : (IntKind.u64.wrap (IntKind.u64.wrap p - IntKind.u64.wrap p') != IntKind.u64.wrap s') = true) : Known Try.prog [] 40 [.agg #[.int .i64 p, .int .i64 s, .bool m, .bool b, .int .i64 d], .agg #[.int .i64 p', .int .i64 s', .bool m', .bool b', .int .i64 d']] (.bool (true)) :=
 open_res mix GOk.none (T := GTab.none) (fuel := 3000) (ans := [(0, .b 0), (1, .b 1)]) (log := [(IntKind.u64.wrap (IntKind.u64.wrap p - IntKind.u64.wrap p') != IntKind.u64.wrap s') = true, (decide (p < p')) = false]) (by kernel_rfl) ⟨hq4, hq0, trivial⟩ (by kernel_rfl)
theorem pJmp_p5 (p s : Int) (m b : Bool) (d p' s' : Int) (m' b' : Bool) (d' : Int)  (hq0 : (decide (p < p')) = false) (hq4 : (IntKind.u64.wrap (IntKind.u64.wrap p - IntKind.u64.wrap p') != IntKind.u64.wrap s') = false) (hq2 : (s' != (0 : Int)) = true) (hq3 : (decide (s < s')) = true) : Known Try.prog [] 40 [.agg #[.int .i64 p, .int .i64 s, .bool m, .bool b, .int .i64 d], .agg #[.int .i64 p', .int .i64 s', .bool m', .bool b', .int .i64 d']] (.bool (decide (IntKind.u64.wrap (IntKind.u64.wrap s' - IntKind.u64.wrap s) > (1 : Int)))) :=
 open_res mix GOk.none (T := GTab.none) (fuel := 3000) (ans := [(0, .b 0), (1, .b 0), (5, .b 1), (10, .b 1)]) (log := [(decide (s < s')) = true, (s' != (0 : Int)) = true, (IntKind.u64.wrap (IntKind.u64.wrap p - IntKind.u64.wrap p') != IntKind.u64.wrap s') = false, (decide (p < p')) = false]) (by kernel_rfl) ⟨hq3, hq2, hq4, hq0, trivial⟩ (by kernel_rfl)
theorem pJmp_p6 (p s : Int) (m b : Bool) (d p' s' : Int) (m' b' : Bool) (d' : Int)  (hq0 : (decide (p < p')) = false) (hq4 : (IntKind.u64.wrap (IntKind.u64.wrap p - IntKind.u64.wrap p') != IntKind.u64.wrap s') = false) (hq2 : (s' != (0 : Int)) = true) (hq3 : (decide (s < s')) = false) : Known Try.prog [] 40 [.agg #[.int .i64 p, .int .i64 s, .bool m, .bool b, .int .i64 d], .agg #[.int .i64 p', .int .i64 s', .bool m', .bool b', .int .i64 d']] (.bool (decide (IntKind.u64.wrap (IntKind.u64.wrap s - IntKind.u64.wrap s') > (1 : Int)))) :=
 open_res mix GOk.none (T := GTab.none) (fuel := 3000) (ans := [(0, .b 0), (1, .b 0), (5, .b 1), (10, .b 0)]) (log := [(decide (s < s')) = false, (s' != (0 : Int)) = true, (IntKind.u64.wrap (IntKind.u64.wrap p - IntKind.u64.wrap p') != IntKind.u64.wrap s') = false, (decide (p < p')) = false]) (by kernel_rfl) ⟨hq3, hq2, hq4, hq0, trivial⟩ (by kernel_rfl)
theorem pJmp_p7 (p s : Int) (m b : Bool) (d p' s' : Int) (m' b' : Bool) (d' : Int)  (hq0 : (decide (p < p')) = false) (hq4 : (IntKind.u64.wrap (IntKind.u64.wrap p - IntKind.u64.wrap p') != IntKind.u64.wrap s') = false) (hq2 : (s' != (0 : Int)) = false) : Known Try.prog [] 40 [.agg #[.int .i64 p, .int .i64 s, .bool m, .bool b, .int .i64 d], .agg #[.int .i64 p', .int .i64 s', .bool m', .bool b', .int .i64 d']] (.bool (false)) :=
 open_res mix GOk.none (T := GTab.none) (fuel := 3000) (ans := [(0, .b 0), (1, .b 0), (5, .b 0)]) (log := [(s' != (0 : Int)) = false, (IntKind.u64.wrap (IntKind.u64.wrap p - IntKind.u64.wrap p') != IntKind.u64.wrap s') = false, (decide (p < p')) = false]) (by kernel_rfl) ⟨hq2, hq4, hq0, trivial⟩ (by kernel_rfl)
set_option maxHeartbeats 8000000 in
theorem pJmp (p s : Int) (m b : Bool) (d p' s' : Int) (m' b' : Bool) (d' : Int)  : Known Try.prog [] 40 [.agg #[.int .i64 p, .int .i64 s, .bool m, .bool b, .int .i64 d], .agg #[.int .i64 p', .int .i64 s', .bool m', .bool b', .int .i64 d']] (.bool (pJmp_c0 p s m b d p' s' m' b' d')) := by
 rcases Bool.eq_false_or_eq_true (decide (p < p')) with hq0 | hq0
 ·
  rcases Bool.eq_false_or_eq_true (IntKind.u64.wrap (IntKind.u64.wrap p' - IntKind.u64.wrap p) != IntKind.u64.wrap s') with hq1 | hq1
  ·
   have e0 : pJmp_c0 p s m b d p' s' m' b' d' = (true) := ((bif_t hq0 _ _).trans ((bif_t hq1 _ _).trans rfl)); rw [e0]; exact pJmp_p0 p s m b d p' s' m' b' d' hq0 hq1
  ·
   rcases Bool.eq_false_or_eq_true (s' != (0 : Int)) with hq2 | hq2
   ·
    rcases Bool.eq_false_or_eq_true (decide (s < s')) with hq3 | hq3
    ·
     have e0 : pJmp_c0 p s m b d p' s' m' b' d' = (decide (IntKind.u64.wrap (IntKind.u64.wrap s' - IntKind.u64.wrap s) > (1 : Int))) := ((bif_t hq0 _ _).trans ((bif_f hq1 _ _).trans ((bif_t hq2 _ _).trans ((bif_t hq3 _ _).trans rfl)))); rw [e0]; exact pJmp_p1 p s m b d p' s' m' b' d' hq0 hq1 hq2 hq3
    ·
     have e0 : pJmp_c0 p s m b d p' s' m' b' d' = (decide (IntKind.u64.wrap (IntKind.u64.wrap s - IntKind.u64.wrap s') > (1 : Int))) := ((bif_t hq0 _ _).trans ((bif_f hq1 _ _).trans ((bif_t hq2 _ _).trans ((bif_f hq3 _ _).trans rfl)))); rw [e0]; exact pJmp_p2 p s m b d p' s' m' b' d' hq0 hq1 hq2 hq3
   ·
    have e0 : pJmp_c0 p s m b d p' s' m' b' d' = (false) := ((bif_t hq0 _ _).trans ((bif_f hq1 _ _).trans ((bif_f hq2 _ _).trans rfl))); rw [e0]; exact pJmp_p3 p s m b d p' s' m' b' d' hq0 hq1 hq2
 ·
  rcases Bool.eq_false_or_eq_true (IntKind.u64.wrap (IntKind.u64.wrap p - IntKind.u64.wrap p') != IntKind.u64.wrap s') with hq4 | hq4
  ·
   have e0 : pJmp_c0 p s m b d p' s' m' b' d' = (true) := ((bif_f hq0 _ _).trans ((bif_t hq4 _ _).trans rfl)); rw [e0]; exact pJmp_p4 p s m b d p' s' m' b' d' hq0 hq4
  ·
   rcases Bool.eq_false_or_eq_true (s' != (0 : Int)) with hq2 | hq2
   ·
    rcases Bool.eq_false_or_eq_true (decide (s < s')) with hq3 | hq3
    ·
     have e0 : pJmp_c0 p s m b d p' s' m' b' d' = (decide (IntKind.u64.wrap (IntKind.u64.wrap s' - IntKind.u64.wrap s) > (1 : Int))) := ((bif_f hq0 _ _).trans ((bif_f hq4 _ _).trans ((bif_t hq2 _ _).trans ((bif_t hq3 _ _).trans rfl)))); rw [e0]; exact pJmp_p5 p s m b d p' s' m' b' d' hq0 hq4 hq2 hq3
    ·
     have e0 : pJmp_c0 p s m b d p' s' m' b' d' = (decide (IntKind.u64.wrap (IntKind.u64.wrap s - IntKind.u64.wrap s') > (1 : Int))) := ((bif_f hq0 _ _).trans ((bif_f hq4 _ _).trans ((bif_t hq2 _ _).trans ((bif_f hq3 _ _).trans rfl)))); rw [e0]; exact pJmp_p6 p s m b d p' s' m' b' d' hq0 hq4 hq2 hq3
   ·
    have e0 : pJmp_c0 p s m b d p' s' m' b' d' = (false) := ((bif_f hq0 _ _).trans ((bif_f hq4 _ _).trans ((bif_f hq2 _ _).trans rfl))); rw [e0]; exact pJmp_p7 p s m b d p' s' m' b' d' hq0 hq4 hq2
noncomputable def pJmp_k : List Value → Option Value
 | [.agg ⟨[.int .i64 p, .int .i64 s, .bool m, .bool b, .int .i64 d]⟩, .agg ⟨[.int .i64 p', .int .i64 s', .bool m', .bool b', .int .i64 d']⟩] => some (.bool (pJmp_c0 p s m b d p' s' m' b' d'))
 | _ => none
theorem pJmp_ok : ∀ args v, pJmp_k args = some v → Known Try.prog [] 40 args v := by
 intro args v h
 unfold pJmp_k at h
 split at h
 ·injection h with h; subst h; exact pJmp _ _ _ _ _ _ _ _ _ _
 ·cases h
noncomputable def rJmp_c0 (p s : Int) (m b : Bool) (d p' s' : Int) (m' b' : Bool) (d' : Int) : Bool := (bif (decide (s' > IntKind.i64.wrap (s + (1 : Int)))) then (true) else (bif (decide (s' < IntKind.i64.wrap (s - (1 : Int)))) then (bif (IntKind.u64.wrap (IntKind.u64.wrap (if p' > p then p' else p) - IntKind.u64.wrap (if p' < p then p' else p)) != IntKind.u64.wrap s') then (true) else (s' != (0 : Int))) else (bif (IntKind.u64.wrap (IntKind.u64.wrap (if p' > p then p' else p) - IntKind.u64.wrap (if p' < p then p' else p)) != IntKind.u64.wrap s') then (true) else (false))))
theorem rJmp_p0 (p s : Int) (m b : Bool) (d p' s' : Int) (m' b' : Bool) (d' : Int)  (hq0 : (decide (s' > IntKind.i64.wrap (s + (1 : Int)))) = true) (hq1 : (IntKind.u64.wrap (IntKind.u64.wrap (if p' > p then p' else p) - IntKind.u64.wrap (if p' < p then p' else p)) != IntKind.u64.wrap s') = true) : Known Try.prog [] 41 [.agg #[.int .i64 p, .int .i64 s, .bool m, .bool b, .int .i64 d], .agg #[.int .i64 p', .int .i64 s', .bool m', .bool b', .int .i64 d']] (.bool (true)) :=
 open_res mix GOk.none (T := GTab.none) (fuel := 3000) (ans := [(0, .b 1), (9, .b 1)]) (log := [(IntKind.u64.wrap (IntKind.u64.wrap (if p' > p then p' else p) - IntKind.u64.wrap (if p' < p then p' else p)) != IntKind.u64.wrap s') = true, (decide (s' > IntKind.i64.wrap (s + (1 : Int)))) = true]) (by kernel_rfl) ⟨hq1, hq0, trivial⟩ (by kernel_rfl)
theorem rJmp_p1 (p s : Int) (m b : Bool) (d p' s' : Int) (m' b' : Bool) (d' : Int)  (hq0 : (decide (s' > IntKind.i64.wrap (s + (1 : Int)))) = true) (hq1 : (IntKind.u64.wrap (IntKind.u64.wrap (if p' > p then p' else p) - IntKind.u64.wrap (if p' < p then p' else p)) != IntKind.u64.wrap s') = false) : Known Try.prog [] 41 [.agg #[.int .i64 p, .int .i64 s, .bool m, .bool b, .int .i64 d], .agg #[.int .i64 p', .int .i64 s', .bool m', .bool b', .int .i64 d']] (.bool (true)) :=
 open_res mix GOk.none (T := GTab.none) (fuel := 3000) (ans := [(0, .b 1), (9, .b 0)]) (log := [(IntKind.u64.wrap (IntKind.u64.wrap (if p' > p then p' else p) - IntKind.u64.wrap (if p' < p then p' else p)) != IntKind.u64.wrap s') = false, (decide (s' > IntKind.i64.wrap (s + (1 : Int)))) = true]) (by kernel_rfl) ⟨hq1, hq0, trivial⟩ (by kernel_rfl)
theorem rJmp_p2 (p s : Int) (m b : Bool) (d p' s' : Int) (m' b' : Bool) (d' : Int)  (hq0 : (decide (s' > IntKind.i64.wrap (s + (1 : Int)))) = false) (hq2 : (decide (s' < IntKind.i64.wrap (s - (1 : Int)))) = true) (hq1 : (IntKind.u64.wrap (IntKind.u64.wrap (if p' > p then p' else p) - IntKind.u64.wrap (if p' < p then p' else p)) != IntKind.u64.wrap s') = true) : Known Try.prog [] 41 [.agg #[.int .i64 p, .int .i64 s, .bool m, .bool b, .int .i64 d], .agg #[.int .i64 p', .int .i64 s', .bool m', .bool b', .int .i64 d']] (.bool (true)) :=
 open_res mix GOk.none (T := GTab.none) (fuel := 3000) (ans := [(0, .b 0), (7, .b 1), (13, .b 1)]) (log := [(IntKind.u64.wrap (IntKind.u64.wrap (if p' > p then p' else p) - IntKind.u64.wrap (if p' < p then p' else p)) != IntKind.u64.wrap s') = true, (decide (s' < IntKind.i64.wrap (s - (1 : Int)))) = true, (decide (s' > IntKind.i64.wrap (s + (1 : Int)))) = false]) (by kernel_rfl) ⟨hq1, hq2, hq0, trivial⟩ (by kernel_rfl)
theorem rJmp_p3 (p s : Int) (m b : Bool) (d p' s' : Int) (m' b' : Bool) (d' : Int)  (hq0 : (decide (s' > IntKind.i64.wrap (s + (1 : Int)))) = false) (hq2 : (decide (s' < IntKind.i64.wrap (s - (1 : Int)))) = true) (hq1 : (IntKind.u64.wrap (IntKind.u64.wrap (if p' > p then p' else p) - IntKind.u64.wrap (if p' < p then p' else p)) != IntKind.u64.wrap s') = false) : Known Try.prog [] 41 [.agg #[.int .i64 p, .int .i64 s, .bool m, .bool b, .int .i64 d], .agg #[.int .i64 p', .int .i64 s', .bool m', .bool b', .int .i64 d']] (.bool (s' != (0 : Int))) :=
 open_res mix GOk.none (T := GTab.none) (fuel := 3000) (ans := [(0, .b 0), (7, .b 1), (13, .b 0)]) (log := [(IntKind.u64.wrap (IntKind.u64.wrap (if p' > p then p' else p) - IntKind.u64.wrap (if p' < p then p' else p)) != IntKind.u64.wrap s') = false, (decide (s' < IntKind.i64.wrap (s - (1 : Int)))) = true, (decide (s' > IntKind.i64.wrap (s + (1 : Int)))) = false]) (by kernel_rfl) ⟨hq1, hq2, hq0, trivial⟩ (by kernel_rfl)
theorem rJmp_p4 (p s : Int) (m b : Bool) (d p' s' : Int) (m' b' : Bool) (d' : Int)  (hq0 : (decide (s' > IntKind.i64.wrap (s + (1 : Int)))) = false) (hq2 : (decide (s' < IntKind.i64.wrap (s - (1 : Int)))) = false) (hq1 : (IntKind.u64.wrap (IntKind.u64.wrap (if p' > p then p' else p) - IntKind.u64.wrap (if p' < p then p' else p)) != IntKind.u64.wrap s') = true) : Known Try.prog [] 41 [.agg #[.int .i64 p, .int .i64 s, .bool m, .bool b, .int .i64 d], .agg #[.int .i64 p', .int .i64 s', .bool m', .bool b', .int .i64 d']] (.bool (true)) :=
 open_res mix GOk.none (T := GTab.none) (fuel := 3000) (ans := [(0, .b 0), (7, .b 0), (13, .b 1)]) (log := [(IntKind.u64.wrap (IntKind.u64.wrap (if p' > p then p' else p) - IntKind.u64.wrap (if p' < p then p' else p)) != IntKind.u64.wrap s') = true, (decide (s' < IntKind.i64.wrap (s - (1 : Int)))) = false, (decide (s' > IntKind.i64.wrap (s + (1 : Int)))) = false]) (by kernel_rfl) ⟨hq1, hq2, hq0, trivial⟩ (by kernel_rfl)
theorem rJmp_p5 (p s : Int) (m b : Bool) (d p' s' : Int) (m' b' : Bool) (d' : Int)  (hq0 : (decide (s' > IntKind.i64.wrap (s + (1 : Int)))) = false) (hq2 : (decide (s' < IntKind.i64.wrap (s - (1 : Int)))) = false) (hq1 : (IntKind.u64.wrap (IntKind.u64.wrap (if p' > p then p' else p) - IntKind.u64.wrap (if p' < p then p' else p)) != IntKind.u64.wrap s') = false) : Known Try.prog [] 41 [.agg #[.int .i64 p, .int .i64 s, .bool m, .bool b, .int .i64 d], .agg #[.int .i64 p', .int .i64 s', .bool m', .bool b', .int .i64 d']] (.bool (false)) :=
 open_res mix GOk.none (T := GTab.none) (fuel := 3000) (ans := [(0, .b 0), (7, .b 0), (13, .b 0)]) (log := [(IntKind.u64.wrap (IntKind.u64.wrap (if p' > p then p' else p) - IntKind.u64.wrap (if p' < p then p' else p)) != IntKind.u64.wrap s') = false, (decide (s' < IntKind.i64.wrap (s - (1 : Int)))) = false, (decide (s' > IntKind.i64.wrap (s + (1 : Int)))) = false]) (by kernel_rfl) ⟨hq1, hq2, hq0, trivial⟩ (by kernel_rfl)
set_option maxHeartbeats 8000000 in
theorem rJmp (p s : Int) (m b : Bool) (d p' s' : Int) (m' b' : Bool) (d' : Int)  : Known Try.prog [] 41 [.agg #[.int .i64 p, .int .i64 s, .bool m, .bool b, .int .i64 d], .agg #[.int .i64 p', .int .i64 s', .bool m', .bool b', .int .i64 d']] (.bool (rJmp_c0 p s m b d p' s' m' b' d')) := by
 rcases Bool.eq_false_or_eq_true (decide (s' > IntKind.i64.wrap (s + (1 : Int)))) with hq0 | hq0
 ·
  rcases Bool.eq_false_or_eq_true (IntKind.u64.wrap (IntKind.u64.wrap (if p' > p then p' else p) - IntKind.u64.wrap (if p' < p then p' else p)) != IntKind.u64.wrap s') with hq1 | hq1
  ·
   have e0 : rJmp_c0 p s m b d p' s' m' b' d' = (true) := ((bif_t hq0 _ _).trans rfl); rw [e0]; exact rJmp_p0 p s m b d p' s' m' b' d' hq0 hq1
  ·
   have e0 : rJmp_c0 p s m b d p' s' m' b' d' = (true) := ((bif_t hq0 _ _).trans rfl); rw [e0]; exact rJmp_p1 p s m b d p' s' m' b' d' hq0 hq1
 ·
  rcases Bool.eq_false_or_eq_true (decide (s' < IntKind.i64.wrap (s - (1 : Int)))) with hq2 | hq2
  ·
   rcases Bool.eq_false_or_eq_true (IntKind.u64.wrap (IntKind.u64.wrap (if p' > p then p' else p) - IntKind.u64.wrap (if p' < p then p' else p)) != IntKind.u64.wrap s') with hq1 | hq1
   ·
    have e0 : rJmp_c0 p s m b d p' s' m' b' d' = (true) := ((bif_f hq0 _ _).trans ((bif_t hq2 _ _).trans ((bif_t hq1 _ _).trans rfl))); rw [e0]; exact rJmp_p2 p s m b d p' s' m' b' d' hq0 hq2 hq1
   ·
    have e0 : rJmp_c0 p s m b d p' s' m' b' d' = (s' != (0 : Int)) := ((bif_f hq0 _ _).trans ((bif_t hq2 _ _).trans ((bif_f hq1 _ _).trans rfl))); rw [e0]; exact rJmp_p3 p s m b d p' s' m' b' d' hq0 hq2 hq1
  ·
   rcases Bool.eq_false_or_eq_true (IntKind.u64.wrap (IntKind.u64.wrap (if p' > p then p' else p) - IntKind.u64.wrap (if p' < p then p' else p)) != IntKind.u64.wrap s') with hq1 | hq1
   ·
    have e0 : rJmp_c0 p s m b d p' s' m' b' d' = (true) := ((bif_f hq0 _ _).trans ((bif_f hq2 _ _).trans ((bif_t hq1 _ _).trans rfl))); rw [e0]; exact rJmp_p4 p s m b d p' s' m' b' d' hq0 hq2 hq1
   ·
    have e0 : rJmp_c0 p s m b d p' s' m' b' d' = (false) := ((bif_f hq0 _ _).trans ((bif_f hq2 _ _).trans ((bif_f hq1 _ _).trans rfl))); rw [e0]; exact rJmp_p5 p s m b d p' s' m' b' d' hq0 hq2 hq1
noncomputable def rJmp_k : List Value → Option Value
 | [.agg ⟨[.int .i64 p, .int .i64 s, .bool m, .bool b, .int .i64 d]⟩, .agg ⟨[.int .i64 p', .int .i64 s', .bool m', .bool b', .int .i64 d']⟩] => some (.bool (rJmp_c0 p s m b d p' s' m' b' d'))
 | _ => none
theorem rJmp_ok : ∀ args v, rJmp_k args = some v → Known Try.prog [] 41 args v := by
 intro args v h
 unfold rJmp_k at h
 split at h
 ·injection h with h; subst h; exact rJmp _ _ _ _ _ _ _ _ _ _
 ·cases h
noncomputable def caE_c0 (xs : List Mv) (caA_z0 : Int)  : Int := (pChk_c0 (el xs caA_z0).fst (el xs caA_z0).snd.fst (el xs caA_z0).snd.snd.fst (el xs caA_z0).snd.snd.snd.fst (el xs caA_z0).snd.snd.snd.snd)
theorem caE_p0 (xs : List Mv) (caA_z0 : Int)  (hx : xs.length ≤ 10000) (caA_k0 : (decide ((↑xs.length : Int) > (10000 : Int))) = false) (caA_l : ∀ B : Bd, B.L = [] → LoopOk Try.prog B (caA_hd xs).ro (caA_hd xs).a (caA_hd xs).s (caA_X 0) (caA_E 0 xs caA_z0 )) : KnownR Try.prog [] 43 [.list (rowA gM xs) xs.length] (.int .i64 (pChk_c0 (el xs caA_z0).fst (el xs caA_z0).snd.fst (el xs caA_z0).snd.snd.fst (el xs caA_z0).snd.snd.snd.fst (el xs caA_z0).snd.snd.snd.snd)) [] :=
 knownR_eq (v := Value.int IntKind.i64 (pChk_c0 (el xs caA_z0).fst (el xs caA_z0).snd.fst (el xs caA_z0).snd.snd.fst (el xs caA_z0).snd.snd.snd.fst (el xs caA_z0).snd.snd.snd.snd)) (bs := []) (open_resD mix (GOk.add tabK_ok caA_l) (T := (GTab.add tabK 5 (caA_hd xs).ro (caA_hd xs).a (caA_hd xs).s (caA_X 0) (caA_E 0 xs caA_z0 ) (by kernel_rfl))) (fuel := 3000) (es := []) (ans := [(0, .b 0), (1, .loop (caA_X 0) (caA_E 0 xs caA_z0 )), ]) (log := [LoopRes Try.prog ([] : Vars).length (GTab.add tabK 5 (caA_hd xs).ro (caA_hd xs).a (caA_hd xs).s (caA_X 0) (caA_E 0 xs caA_z0 ) (by kernel_rfl)) (caA_hd xs).ro (caA_hd xs).a (caA_hd xs).s (caA_X 0) (caA_E 0 xs caA_z0 ), (decide ((↑xs.length : Int) > (10000 : Int))) = false]) (by kernel_rfl) ⟨loop_known, caA_k0, trivial⟩ (by kernel_rfl)) (by first | rfl | simp) (by first | rfl | simp [rowA_nil])
set_option maxHeartbeats 8000000 in
theorem caE (xs : List Mv) (caA_z0 : Int)  (hx : xs.length ≤ 10000) (caA_k0 : (decide ((↑xs.length : Int) > (10000 : Int))) = false) (caA_l : ∀ B : Bd, B.L = [] → LoopOk Try.prog B (caA_hd xs).ro (caA_hd xs).a (caA_hd xs).s (caA_X 0) (caA_E 0 xs caA_z0 )) : KnownR Try.prog [] 43 [.list (rowA gM xs) xs.length] (.int .i64 (caE_c0 xs caA_z0)) [] := by
 have e0 : caE_c0 xs caA_z0 = (pChk_c0 (el xs caA_z0).fst (el xs caA_z0).snd.fst (el xs caA_z0).snd.snd.fst (el xs caA_z0).snd.snd.snd.fst (el xs caA_z0).snd.snd.snd.snd) := rfl; rw [e0]; exact caE_p0 xs caA_z0 hx caA_k0 caA_l
theorem caF_p0 (xs : List Mv) (caA_z0 : Int)  (hx : xs.length ≤ 10000) (caA_k0 : (decide ((↑xs.length : Int) > (10000 : Int))) = false) (caA_l : ∀ B : Bd, B.L = [] → LoopOk Try.prog B (caA_hd xs).ro (caA_hd xs).a (caA_hd xs).s (caA_X 1) (caA_E 1 xs caA_z0 )) : KnownR Try.prog [] 43 [.list (rowA gM xs) xs.length] (.int .i64 ((0 : Int))) [] :=
 knownR_eq (v := Value.int IntKind.i64 (0 : Int)) (bs := []) (open_resD mix (GOk.add tabK_ok caA_l) (T := (GTab.add tabK 5 (caA_hd xs).ro (caA_hd xs).a (caA_hd xs).s (caA_X 1) (caA_E 1 xs caA_z0 ) (by kernel_rfl))) (fuel := 3000) (es := []) (ans := [(0, .b 0), (1, .loop (caA_X 1) (caA_E 1 xs caA_z0 )), ]) (log := [LoopRes Try.prog ([] : Vars).length (GTab.add tabK 5 (caA_hd xs).ro (caA_hd xs).a (caA_hd xs).s (caA_X 1) (caA_E 1 xs caA_z0 ) (by kernel_rfl)) (caA_hd xs).ro (caA_hd xs).a (caA_hd xs).s (caA_X 1) (caA_E 1 xs caA_z0 ), (decide ((↑xs.length : Int) > (10000 : Int))) = false]) (by kernel_rfl) ⟨loop_known, caA_k0, trivial⟩ (by kernel_rfl)) (by first | rfl | simp) (by first | rfl | simp [rowA_nil])
set_option maxHeartbeats 8000000 in
theorem caF (xs : List Mv) (caA_z0 : Int)  (hx : xs.length ≤ 10000) (caA_k0 : (decide ((↑xs.length : Int) > (10000 : Int))) = false) (caA_l : ∀ B : Bd, B.L = [] → LoopOk Try.prog B (caA_hd xs).ro (caA_hd xs).a (caA_hd xs).s (caA_X 1) (caA_E 1 xs caA_z0 )) : KnownR Try.prog [] 43 [.list (rowA gM xs) xs.length] (.int .i64 ((0 : Int))) [] := by
 exact caF_p0 xs caA_z0 hx caA_k0 caA_l
theorem caL_p0 (xs : List Mv) (hx : 10000 < xs.length) (hq0 : (decide ((↑xs.length : Int) > (10000 : Int))) = true) : KnownR Try.prog [] 43 [.list (rowA gM xs) xs.length] (.int .i64 ((4 : Int))) [] :=
 knownR_eq (v := Value.int IntKind.i64 (4 : Int)) (bs := []) (open_resD mix tabK_ok (T := tabK) (fuel := 3000) (es := []) (ans := [(0, .b 1)]) (log := [(decide ((↑xs.length : Int) > (10000 : Int))) = true]) (by kernel_rfl) ⟨hq0, trivial⟩ (by kernel_rfl)) (by first | rfl | simp) (by first | rfl | simp [rowA_nil])
set_option maxHeartbeats 8000000 in
theorem caL (xs : List Mv) (hx : 10000 < xs.length) : KnownR Try.prog [] 43 [.list (rowA gM xs) xs.length] (.int .i64 ((4 : Int))) [] := by
 have hq0 : (decide ((↑xs.length : Int) > (10000 : Int))) = true := by
  rcases Bool.eq_false_or_eq_true (decide ((↑xs.length : Int) > (10000 : Int))) with h | h
  ·exact h
  ·exfalso; (first | (simp_all only [Bool.and_eq_true, Bool.not_eq_true', Bool.false_eq_true, Bool.true_eq_false, reduceCtorEq]; done) | (simp_all; done) | (simp only [sx, sy, eq_self, ne_eq, IntKind.wrap_i64, wrapU64, Int.reduceLT] at * <;> first | contradiction | omega))
 exact caL_p0 xs hx hq0
noncomputable def raE_c0 (xs : List Mv) (h s : Int) (raA_z0 : Int)  : Int := (rChk_c0 (el xs raA_z0).fst (el xs raA_z0).snd.fst (el xs raA_z0).snd.snd.fst (el xs raA_z0).snd.snd.snd.fst (el xs raA_z0).snd.snd.snd.snd)
theorem raE_p0 (xs : List Mv) (h s : Int) (raA_z0 : Int)  (hx : xs.length ≤ 10000) (hh : h = 0 ∧ s = 1) (raA_k0 : (decide ((↑xs.length : Int) > (10000 : Int))) = false) (raA_l : ∀ B : Bd, B.L = [] → LoopOk Try.prog B (raA_hd xs h s).ro (raA_hd xs h s).a (raA_hd xs h s).s (raA_X 0) (raA_E 0 xs h s raA_z0 )) : KnownR Try.prog [] 35 [.list (rowA gM xs) xs.length, .val (.int .i64 h), .val (.int .i64 s)] (.int .i64 (rChk_c0 (el xs raA_z0).fst (el xs raA_z0).snd.fst (el xs raA_z0).snd.snd.fst (el xs raA_z0).snd.snd.snd.fst (el xs raA_z0).snd.snd.snd.snd)) [] :=
 knownR_eq (v := Value.int IntKind.i64 (rChk_c0 (el xs raA_z0).fst (el xs raA_z0).snd.fst (el xs raA_z0).snd.snd.fst (el xs raA_z0).snd.snd.snd.fst (el xs raA_z0).snd.snd.snd.snd)) (bs := []) (open_resD mix (GOk.add tabK_ok raA_l) (T := (GTab.add tabK 5 (raA_hd xs h s).ro (raA_hd xs h s).a (raA_hd xs h s).s (raA_X 0) (raA_E 0 xs h s raA_z0 ) (by kernel_rfl))) (fuel := 3000) (es := []) (ans := [(0, .b 0), (1, .loop (raA_X 0) (raA_E 0 xs h s raA_z0 )), ]) (log := [LoopRes Try.prog ([] : Vars).length (GTab.add tabK 5 (raA_hd xs h s).ro (raA_hd xs h s).a (raA_hd xs h s).s (raA_X 0) (raA_E 0 xs h s raA_z0 ) (by kernel_rfl)) (raA_hd xs h s).ro (raA_hd xs h s).a (raA_hd xs h s).s (raA_X 0) (raA_E 0 xs h s raA_z0 ), (decide ((↑xs.length : Int) > (10000 : Int))) = false]) (by kernel_rfl) ⟨loop_known, raA_k0, trivial⟩ (by kernel_rfl)) (by first | rfl | simp) (by first | rfl | simp [rowA_nil])
set_option maxHeartbeats 8000000 in
theorem raE (xs : List Mv) (h s : Int) (raA_z0 : Int)  (hx : xs.length ≤ 10000) (hh : h = 0 ∧ s = 1) (raA_k0 : (decide ((↑xs.length : Int) > (10000 : Int))) = false) (raA_l : ∀ B : Bd, B.L = [] → LoopOk Try.prog B (raA_hd xs h s).ro (raA_hd xs h s).a (raA_hd xs h s).s (raA_X 0) (raA_E 0 xs h s raA_z0 )) : KnownR Try.prog [] 35 [.list (rowA gM xs) xs.length, .val (.int .i64 h), .val (.int .i64 s)] (.int .i64 (raE_c0 xs h s raA_z0)) [] := by
 have e0 : raE_c0 xs h s raA_z0 = (rChk_c0 (el xs raA_z0).fst (el xs raA_z0).snd.fst (el xs raA_z0).snd.snd.fst (el xs raA_z0).snd.snd.snd.fst (el xs raA_z0).snd.snd.snd.snd) := rfl; rw [e0]; exact raE_p0 xs h s raA_z0 hx hh raA_k0 raA_l
theorem raF_p0 (xs : List Mv) (h s : Int) (raA_z0 : Int)  (hx : xs.length ≤ 10000) (hh : h = 0 ∧ s = 1) (raA_k0 : (decide ((↑xs.length : Int) > (10000 : Int))) = false) (raA_l : ∀ B : Bd, B.L = [] → LoopOk Try.prog B (raA_hd xs h s).ro (raA_hd xs h s).a (raA_hd xs h s).s (raA_X 1) (raA_E 1 xs h s raA_z0 )) (hq0 : (decide (h < (0 : Int))) = false) (hq1 : (decide (h > (63000 : Int))) = false) (hq2 : (decide (s < (1 : Int))) = false) (hq3 : (decide (s > (20 : Int))) = false) : KnownR Try.prog [] 35 [.list (rowA gM xs) xs.length, .val (.int .i64 h), .val (.int .i64 s)] (.int .i64 ((0 : Int))) [] :=
 knownR_eq (v := Value.int IntKind.i64 (0 : Int)) (bs := []) (open_resD mix (GOk.add tabK_ok raA_l) (T := (GTab.add tabK 5 (raA_hd xs h s).ro (raA_hd xs h s).a (raA_hd xs h s).s (raA_X 1) (raA_E 1 xs h s raA_z0 ) (by kernel_rfl))) (fuel := 3000) (es := []) (ans := [(0, .b 0), (1, .loop (raA_X 1) (raA_E 1 xs h s raA_z0 )), (2, .b 0), (5, .b 0), (8, .b 0), (11, .b 0)]) (log := [(decide (s > (20 : Int))) = false, (decide (s < (1 : Int))) = false, (decide (h > (63000 : Int))) = false, (decide (h < (0 : Int))) = false, LoopRes Try.prog ([] : Vars).length (GTab.add tabK 5 (raA_hd xs h s).ro (raA_hd xs h s).a (raA_hd xs h s).s (raA_X 1) (raA_E 1 xs h s raA_z0 ) (by kernel_rfl)) (raA_hd xs h s).ro (raA_hd xs h s).a (raA_hd xs h s).s (raA_X 1) (raA_E 1 xs h s raA_z0 ), (decide ((↑xs.length : Int) > (10000 : Int))) = false]) (by kernel_rfl) ⟨hq3, hq2, hq1, hq0, loop_known, raA_k0, trivial⟩ (by kernel_rfl)) (by first | rfl | simp) (by first | rfl | simp [rowA_nil])
set_option maxHeartbeats 8000000 in
theorem raF (xs : List Mv) (h s : Int) (raA_z0 : Int)  (hx : xs.length ≤ 10000) (hh : h = 0 ∧ s = 1) (raA_k0 : (decide ((↑xs.length : Int) > (10000 : Int))) = false) (raA_l : ∀ B : Bd, B.L = [] → LoopOk Try.prog B (raA_hd xs h s).ro (raA_hd xs h s).a (raA_hd xs h s).s (raA_X 1) (raA_E 1 xs h s raA_z0 )) : KnownR Try.prog [] 35 [.list (rowA gM xs) xs.length, .val (.int .i64 h), .val (.int .i64 s)] (.int .i64 ((0 : Int))) [] := by
 have hq0 : (decide (h < (0 : Int))) = false := by
  rcases Bool.eq_false_or_eq_true (decide (h < (0 : Int))) with h | h
  ·exfalso; (first | (simp_all only [Bool.and_eq_true, Bool.not_eq_true', Bool.false_eq_true, Bool.true_eq_false, reduceCtorEq]; done) | (simp_all; done) | (simp only [sx, sy, eq_self, ne_eq, IntKind.wrap_i64, wrapU64, Int.reduceLT] at * <;> first | contradiction | omega))
  ·exact h
 have hq1 : (decide (h > (63000 : Int))) = false := by
  rcases Bool.eq_false_or_eq_true (decide (h > (63000 : Int))) with h | h
  ·exfalso; (first | (simp_all only [Bool.and_eq_true, Bool.not_eq_true', Bool.false_eq_true, Bool.true_eq_false, reduceCtorEq]; done) | (simp_all; done) | (simp only [sx, sy, eq_self, ne_eq, IntKind.wrap_i64, wrapU64, Int.reduceLT] at * <;> first | contradiction | omega))
  ·exact h
 have hq2 : (decide (s < (1 : Int))) = false := by
  rcases Bool.eq_false_or_eq_true (decide (s < (1 : Int))) with h | h
  ·exfalso; (first | (simp_all only [Bool.and_eq_true, Bool.not_eq_true', Bool.false_eq_true, Bool.true_eq_false, reduceCtorEq]; done) | (simp_all; done) | (simp only [sx, sy, eq_self, ne_eq, IntKind.wrap_i64, wrapU64, Int.reduceLT] at * <;> first | contradiction | omega))
  ·exact h
 have hq3 : (decide (s > (20 : Int))) = false := by
  rcases Bool.eq_false_or_eq_true (decide (s > (20 : Int))) with h | h
  ·exfalso; (first | (simp_all only [Bool.and_eq_true, Bool.not_eq_true', Bool.false_eq_true, Bool.true_eq_false, reduceCtorEq]; done) | (simp_all; done) | (simp only [sx, sy, eq_self, ne_eq, IntKind.wrap_i64, wrapU64, Int.reduceLT] at * <;> first | contradiction | omega))
  ·exact h
 exact raF_p0 xs h s raA_z0 hx hh raA_k0 raA_l hq0 hq1 hq2 hq3
theorem raL_p0 (xs : List Mv) (h s : Int) (hx : 10000 < xs.length) (hq0 : (decide ((↑xs.length : Int) > (10000 : Int))) = true) : KnownR Try.prog [] 35 [.list (rowA gM xs) xs.length, .val (.int .i64 h), .val (.int .i64 s)] (.int .i64 ((4 : Int))) [] :=
 knownR_eq (v := Value.int IntKind.i64 (4 : Int)) (bs := []) (open_resD mix tabK_ok (T := tabK) (fuel := 3000) (es := []) (ans := [(0, .b 1)]) (log := [(decide ((↑xs.length : Int) > (10000 : Int))) = true]) (by kernel_rfl) ⟨hq0, trivial⟩ (by kernel_rfl)) (by first | rfl | simp) (by first | rfl | simp [rowA_nil])
set_option maxHeartbeats 8000000 in
theorem raL (xs : List Mv) (h s : Int) (hx : 10000 < xs.length) : KnownR Try.prog [] 35 [.list (rowA gM xs) xs.length, .val (.int .i64 h), .val (.int .i64 s)] (.int .i64 ((4 : Int))) [] := by
 have hq0 : (decide ((↑xs.length : Int) > (10000 : Int))) = true := by
  rcases Bool.eq_false_or_eq_true (decide ((↑xs.length : Int) > (10000 : Int))) with h | h
  ·exact h
  ·exfalso; (first | (simp_all only [Bool.and_eq_true, Bool.not_eq_true', Bool.false_eq_true, Bool.true_eq_false, reduceCtorEq]; done) | (simp_all; done) | (simp only [sx, sy, eq_self, ne_eq, IntKind.wrap_i64, wrapU64, Int.reduceLT] at * <;> first | contradiction | omega))
 exact raL_p0 xs h s hx hq0
theorem siE_p0 (xs ys : List Int) (siA_z0 : Int)  (hx : xs.length ≤ 20000) (hy : xs.length = ys.length) (siA_k0 : ((↑xs.length : Int) != (↑ys.length : Int)) = false) (siA_l : ∀ B : Bd, B.L = [] → LoopOk Try.prog B (siA_hd xs ys).ro (siA_hd xs ys).a (siA_hd xs ys).s (siA_X 0) (siA_E 0 xs ys siA_z0 )) : KnownR Try.prog [] 17 [.list (rowA gI xs) xs.length, .list (rowA gI ys) ys.length] (.bool (false)) [] :=
 knownR_eq (v := Value.bool false) (bs := []) (open_resD mix (GOk.add GOk.none siA_l) (T := (GTab.add GTab.none 5 (siA_hd xs ys).ro (siA_hd xs ys).a (siA_hd xs ys).s (siA_X 0) (siA_E 0 xs ys siA_z0 ) (by kernel_rfl))) (fuel := 3000) (es := []) (ans := [(0, .b 0), (1, .loop (siA_X 0) (siA_E 0 xs ys siA_z0 )), ]) (log := [LoopRes Try.prog ([] : Vars).length (GTab.add GTab.none 5 (siA_hd xs ys).ro (siA_hd xs ys).a (siA_hd xs ys).s (siA_X 0) (siA_E 0 xs ys siA_z0 ) (by kernel_rfl)) (siA_hd xs ys).ro (siA_hd xs ys).a (siA_hd xs ys).s (siA_X 0) (siA_E 0 xs ys siA_z0 ), ((↑xs.length : Int) != (↑ys.length : Int)) = false]) (by kernel_rfl) ⟨loop_known, siA_k0, trivial⟩ (by kernel_rfl)) (by first | rfl | simp) (by first | rfl | simp [rowA_nil])
set_option maxHeartbeats 8000000 in
theorem siE (xs ys : List Int) (siA_z0 : Int)  (hx : xs.length ≤ 20000) (hy : xs.length = ys.length) (siA_k0 : ((↑xs.length : Int) != (↑ys.length : Int)) = false) (siA_l : ∀ B : Bd, B.L = [] → LoopOk Try.prog B (siA_hd xs ys).ro (siA_hd xs ys).a (siA_hd xs ys).s (siA_X 0) (siA_E 0 xs ys siA_z0 )) : KnownR Try.prog [] 17 [.list (rowA gI xs) xs.length, .list (rowA gI ys) ys.length] (.bool (false)) [] := by
 exact siE_p0 xs ys siA_z0 hx hy siA_k0 siA_l
theorem siF_p0 (xs ys : List Int) (siA_z0 : Int)  (hx : xs.length ≤ 20000) (hy : xs.length = ys.length) (siA_k0 : ((↑xs.length : Int) != (↑ys.length : Int)) = false) (siA_l : ∀ B : Bd, B.L = [] → LoopOk Try.prog B (siA_hd xs ys).ro (siA_hd xs ys).a (siA_hd xs ys).s (siA_X 1) (siA_E 1 xs ys siA_z0 )) : KnownR Try.prog [] 17 [.list (rowA gI xs) xs.length, .list (rowA gI ys) ys.length] (.bool (true)) [] :=
 knownR_eq (v := Value.bool true) (bs := []) (open_resD mix (GOk.add GOk.none siA_l) (T := (GTab.add GTab.none 5 (siA_hd xs ys).ro (siA_hd xs ys).a (siA_hd xs ys).s (siA_X 1) (siA_E 1 xs ys siA_z0 ) (by kernel_rfl))) (fuel := 3000) (es := []) (ans := [(0, .b 0), (1, .loop (siA_X 1) (siA_E 1 xs ys siA_z0 )), ]) (log := [LoopRes Try.prog ([] : Vars).length (GTab.add GTab.none 5 (siA_hd xs ys).ro (siA_hd xs ys).a (siA_hd xs ys).s (siA_X 1) (siA_E 1 xs ys siA_z0 ) (by kernel_rfl)) (siA_hd xs ys).ro (siA_hd xs ys).a (siA_hd xs ys).s (siA_X 1) (siA_E 1 xs ys siA_z0 ), ((↑xs.length : Int) != (↑ys.length : Int)) = false]) (by kernel_rfl) ⟨loop_known, siA_k0, trivial⟩ (by kernel_rfl)) (by first | rfl | simp) (by first | rfl | simp [rowA_nil])
set_option maxHeartbeats 8000000 in
theorem siF (xs ys : List Int) (siA_z0 : Int)  (hx : xs.length ≤ 20000) (hy : xs.length = ys.length) (siA_k0 : ((↑xs.length : Int) != (↑ys.length : Int)) = false) (siA_l : ∀ B : Bd, B.L = [] → LoopOk Try.prog B (siA_hd xs ys).ro (siA_hd xs ys).a (siA_hd xs ys).s (siA_X 1) (siA_E 1 xs ys siA_z0 )) : KnownR Try.prog [] 17 [.list (rowA gI xs) xs.length, .list (rowA gI ys) ys.length] (.bool (true)) [] := by
 exact siF_p0 xs ys siA_z0 hx hy siA_k0 siA_l
theorem siL_p0 (xs ys : List Int) (hy : ¬ xs.length = ys.length) (hq0 : ((↑xs.length : Int) != (↑ys.length : Int)) = true) : KnownR Try.prog [] 17 [.list (rowA gI xs) xs.length, .list (rowA gI ys) ys.length] (.bool (false)) [] :=
 knownR_eq (v := Value.bool false) (bs := []) (open_resD mix GOk.none (T := GTab.none) (fuel := 3000) (es := []) (ans := [(0, .b 1)]) (log := [((↑xs.length : Int) != (↑ys.length : Int)) = true]) (by kernel_rfl) ⟨hq0, trivial⟩ (by kernel_rfl)) (by first | rfl | simp) (by first | rfl | simp [rowA_nil])
set_option maxHeartbeats 8000000 in
theorem siL (xs ys : List Int) (hy : ¬ xs.length = ys.length) : KnownR Try.prog [] 17 [.list (rowA gI xs) xs.length, .list (rowA gI ys) ys.length] (.bool (false)) [] := by
 have hq0 : ((↑xs.length : Int) != (↑ys.length : Int)) = true := by
  rcases Bool.eq_false_or_eq_true ((↑xs.length : Int) != (↑ys.length : Int)) with h | h
  ·exact h
  ·exfalso; (first | (simp_all only [Bool.and_eq_true, Bool.not_eq_true', Bool.false_eq_true, Bool.true_eq_false, reduceCtorEq]; done) | (simp_all; done) | (simp only [sx, sy, eq_self, ne_eq, IntKind.wrap_i64, wrapU64, Int.reduceLT] at * <;> first | contradiction | omega))
 exact siL_p0 xs ys hy hq0
end Go.Proofs.Ytbhmgchkgbenmaa
