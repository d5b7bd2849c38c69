/- Layer 16: panels made of numbers. -/
import Derived.Test.YtpaojoahbmlolaaKC
import Derived.ProofKit
import Derived.IntWalk
namespace Go.Proofs.Ytpaojoahbmlolaa
open Go Go.RowKit
set_option linter.unusedVariables false
set_option linter.unusedSimpArgs false
set_option linter.unnecessarySimpa false
noncomputable def mod_c0 (n m : Int) : Int := (bif (decide (m < (1 : Int))) then ((0 : Int)) else (bif (decide (n.tmod m < (0 : Int))) then (IntKind.i64.wrap (n.tmod m + m)) else (n.tmod m)))
theorem mod_p0 (n m : Int)  (hq0 : (decide (m < (1 : Int))) = true) : Known Try.prog [] 35 [.int .i64 n, .int .i64 m] (.int .i64 ((0 : Int))) :=
  open_res mix GOk.none (T := GTab.none) (fuel := 3000) (ans := [(0, .b 1)]) (log := [(decide (m < (1 : Int))) = true]) (by kernel_rfl) ⟨hq0, trivial⟩ (by kernel_rfl)
theorem mod_p1 (n m : Int)  (hq0 : (decide (m < (1 : Int))) = false) (hq1 : (m == (0 : Int)) = false) (hq2 : (decide (n.tmod m < (0 : Int))) = true) : Known Try.prog [] 35 [.int .i64 n, .int .i64 m] (.int .i64 (IntKind.i64.wrap (n.tmod m + m))) :=
  open_res mix GOk.none (T := GTab.none) (fuel := 3000) (ans := [(0, .b 0), (1, .b 0), (2, .b 1)]) (log := [(decide (n.tmod m < (0 : Int))) = true, (m == (0 : Int)) = false, (decide (m < (1 : Int))) = false]) (by kernel_rfl) ⟨hq2, hq1, hq0, trivial⟩ (by kernel_rfl)
theorem mod_p2 (n m : Int)  (hq0 : (decide (m < (1 : Int))) = false) (hq1 : (m == (0 : Int)) = false) (hq2 : (decide (n.tmod m < (0 : Int))) = false) : Known Try.prog [] 35 [.int .i64 n, .int .i64 m] (.int .i64 (n.tmod m)) :=
  open_res mix GOk.none (T := GTab.none) (fuel := 3000) (ans := [(0, .b 0), (1, .b 0), (2, .b 0)]) (log := [(decide (n.tmod m < (0 : Int))) = false, (m == (0 : Int)) = false, (decide (m < (1 : Int))) = false]) (by kernel_rfl) ⟨hq2, hq1, hq0, trivial⟩ (by kernel_rfl)
set_option maxHeartbeats 8000000 in
theorem mod (n m : Int)  : Known Try.prog [] 35 [.int .i64 n, .int .i64 m] (.int .i64 (mod_c0 n m)) := by
  rcases Bool.eq_false_or_eq_true (decide (m < (1 : Int))) with hq0 | hq0
  ·
    have e0 : mod_c0 n m = ((0 : Int)) := ((bif_t hq0 _ _).trans rfl); rw [e0]; exact mod_p0 n m hq0
  ·
    have hq1 : (m == (0 : Int)) = false := by
      rcases Bool.eq_false_or_eq_true (m == (0 : Int)) with h | h
      · exfalso; (first | (simp_all only [Bool.and_eq_true, Bool.not_eq_true', Bool.false_eq_true, Bool.true_eq_false, reduceCtorEq]; done) | (simp_all; done) | (simp only [sx, sy, eq_self, ne_eq, IntKind.wrap_i64, wrapU64, Int.reduceLT] at * <;> first | contradiction | omega))
      · exact h
    rcases Bool.eq_false_or_eq_true (decide (n.tmod m < (0 : Int))) with hq2 | hq2
    ·
      have e0 : mod_c0 n m = (IntKind.i64.wrap (n.tmod m + m)) := ((bif_f hq0 _ _).trans ((bif_t hq2 _ _).trans rfl)); rw [e0]; exact mod_p1 n m hq0 hq1 hq2
    ·
      have e0 : mod_c0 n m = (n.tmod m) := ((bif_f hq0 _ _).trans ((bif_f hq2 _ _).trans rfl)); rw [e0]; exact mod_p2 n m hq0 hq1 hq2
noncomputable def mod_k : List Value → Option Value
  | [.int .i64 n, .int .i64 m] => some (.int .i64 (mod_c0 n m))
  | _ => none
theorem mod_ok : ∀ args v, mod_k args = some v → Known Try.prog [] 35 args v := by
  intro args v h
  unfold mod_k at h
  split at h
  · injection h with h; subst h; exact mod _ _
  · cases h

theorem kMod {n m : Int} (h : 0 < m ∧ m ≤ 4611686018427387904) : Known Try.prog [] 35 [.int .i64 n, .int .i64 m] (.int .i64 (n % m)) := by
  have k := mod n m
  have e : mod_c0 n m = n % m := by
    unfold mod_c0
    have b0 := Int.emod_nonneg n (by omega : m ≠ 0)
    have b1 := Int.emod_lt_of_pos n h.1
    have c0 : decide (m < 1) = false := decide_eq_false (by omega)
    rw [c0, cond_false]
    by_cases hn : 0 ≤ n
    · rw [Int.tmod_eq_emod_of_nonneg hn, decide_eq_false (by omega), cond_false]
    · have t1 : n.tmod m = -((-n) % m) := by rw [tmodP h.1, if_neg hn]
      have d0 := Int.emod_nonneg (-n) (by omega : m ≠ 0)
      have d1 := Int.emod_lt_of_pos (-n) h.1
      have key : n % m = if (-n) % m = 0 then 0 else m - (-n) % m := by
        split
        · rename_i z
          have := Int.dvd_of_emod_eq_zero z
          exact Int.emod_eq_zero_of_dvd (Int.dvd_neg.1 this)
        · rename_i z
          have e1 : n = m - (-n) % m + m * (-((-n) / m) - 1) := by
            have := Int.emod_add_mul_ediv (-n) m
            rw [Int.mul_sub, Int.mul_neg, Int.mul_one]; omega
          rw [e1, Int.add_mul_emod_self_left, Int.emod_eq_of_lt (by omega) (by omega)]
          rw [← e1]
      rw [t1, key]
      split
      · rename_i z
        rw [z]; simp
      · rename_i z
        rw [decide_eq_true (by omega), cond_true, IntKind.wrap_i64]
        omega
  rw [e] at k
  exact k
theorem qMod (n m : Int) (hg : (decide (0 < m ∧ m ≤ 4611686018427387904)) = true) : Known Try.prog [] 35 [.int .i64 n, .int .i64 m] (.int .i64 (n % m)) := kMod (of_decide_eq_true hg)
noncomputable def qMod_k : List Value → Option (Bool × Value)
  | [.int .i64 n, .int .i64 m] => some (decide (0 < m ∧ m ≤ 4611686018427387904), .int .i64 (n % m))
  | _ => none
theorem qMod_ok : ∀ args v, qMod_k args = some (true, v) → Known Try.prog [] 35 args v := by
  intro args v h
  unfold qMod_k at h
  split at h
  · injection h with h; injection h with hg h; subst h; exact qMod _ _ hg
  · cases h
noncomputable def pNw_c1 (n : Int) : Int := (bif (ckV (0 : Int) n (0 : Int) != (0 : Int)) then ((0 : Int)) else (n))
noncomputable def pNw_c3 (n : Int) : Int := (bif (ckV (0 : Int) n (0 : Int) != (0 : Int)) then (ckV (0 : Int) n (0 : Int)) else ((0 : Int)))
theorem pNw_p0 (n : Int)  (hq0 : (ckV (0 : Int) n (0 : Int) != (0 : Int)) = true) : Known Try.prog [] 9 [.int .i64 n] (.tuple #[(.agg #[(.int .i64 ((0 : Int))), (.int .i64 ((0 : Int))), (.int .i64 ((0 : Int)))]), (.int .i64 (ckV (0 : Int) n (0 : Int)))]) :=
  open_res mix tabS_ok (T := tabS) (fuel := 3000) (ans := [(1, .b 1)]) (log := [(ckV (0 : Int) n (0 : Int) != (0 : Int)) = true]) (by kernel_rfl) ⟨hq0, trivial⟩ (by kernel_rfl)
theorem pNw_p1 (n : Int)  (hq0 : (ckV (0 : Int) n (0 : Int) != (0 : Int)) = false) : Known Try.prog [] 9 [.int .i64 n] (.tuple #[(.agg #[(.int .i64 ((0 : Int))), (.int .i64 (n)), (.int .i64 ((0 : Int)))]), (.int .i64 ((0 : Int)))]) :=
  open_res mix tabS_ok (T := tabS) (fuel := 3000) (ans := [(1, .b 0)]) (log := [(ckV (0 : Int) n (0 : Int) != (0 : Int)) = false]) (by kernel_rfl) ⟨hq0, trivial⟩ (by kernel_rfl)
set_option maxHeartbeats 8000000 in
theorem pNw (n : Int)  : Known Try.prog [] 9 [.int .i64 n] (.tuple #[(.agg #[(.int .i64 ((0 : Int))), (.int .i64 (pNw_c1 n)), (.int .i64 ((0 : Int)))]), (.int .i64 (pNw_c3 n))]) := by
  rcases Bool.eq_false_or_eq_true (ckV (0 : Int) n (0 : Int) != (0 : Int)) with hq0 | hq0
  ·
    have e1 : pNw_c1 n = ((0 : Int)) := ((bif_t hq0 _ _).trans rfl); rw [e1]; have e3 : pNw_c3 n = (ckV (0 : Int) n (0 : Int)) := ((bif_t hq0 _ _).trans rfl); rw [e3]; exact pNw_p0 n hq0
  ·
    have e1 : pNw_c1 n = (n) := ((bif_f hq0 _ _).trans rfl); rw [e1]; have e3 : pNw_c3 n = ((0 : Int)) := ((bif_f hq0 _ _).trans rfl); rw [e3]; exact pNw_p1 n hq0
noncomputable def pNw_k : List Value → Option Value
  | [.int .i64 n] => some (.tuple #[(.agg #[(.int .i64 ((0 : Int))), (.int .i64 (pNw_c1 n)), (.int .i64 ((0 : Int)))]), (.int .i64 (pNw_c3 n))])
  | _ => none
theorem pNw_ok : ∀ args v, pNw_k args = some v → Known Try.prog [] 9 args v := by
  intro args v h
  unfold pNw_k at h
  split at h
  · injection h with h; subst h; exact pNw _
  · cases h

theorem new_is {n : Int} (h : 1 ≤ n ∧ n ≤ 20) : Known Try.prog [] 9 [.int .i64 n] (.tuple #[.agg #[.int .i64 0, .int .i64 n, .int .i64 0], .int .i64 0]) := by
  have k := pNw n
  have c : ckV 0 n 0 = 0 := ckV_ok.2 (by omega)
  have e : pNw_c1 n = n ∧ pNw_c3 n = 0 := by
    unfold pNw_c1 pNw_c3
    rw [c]
    exact ⟨rfl, rfl⟩
  rw [e.1, e.2] at k
  exact k
theorem qNew (n : Int) (hg : (decide (1 ≤ n ∧ n ≤ 20)) = true) : Known Try.prog [] 9 [.int .i64 n] (.tuple #[.agg #[.int .i64 0, .int .i64 n, .int .i64 0], .int .i64 0]) := new_is (of_decide_eq_true hg)
noncomputable def qNew_k : List Value → Option (Bool × Value)
  | [.int .i64 n] => some (decide (1 ≤ n ∧ n ≤ 20), .tuple #[.agg #[.int .i64 0, .int .i64 n, .int .i64 0], .int .i64 0])
  | _ => none
theorem qNew_ok : ∀ args v, qNew_k args = some (true, v) → Known Try.prog [] 9 args v := by
  intro args v h
  unfold qNew_k at h
  split at h
  · injection h with h; injection h with hg h; subst h; exact qNew _ hg
  · cases h
theorem swD (a w y : Int) (xs : List Int) (hc : ckV a w y = 0) (ho : Ords xs) (hx : xs.length ≤ 1000) : KnownR Try.prog [] 23 [.val (.agg #[.int .i64 a, .int .i64 w, .int .i64 y]), .list (rowA gI xs) xs.length] (.tuple #[.agg #[.int .i64 (swS w xs (a, y, 0, 0)).1, .int .i64 w, .int .i64 (swS w xs (a, y, 0, 0)).2.1], .int .i64 (swS w xs (a, y, 0, 0)).2.2.1, .int .i64 (swS w xs (a, y, 0, 0)).2.2.2, .int .i64 0]) ([]) := swing_p hc ho hx
noncomputable def swD_A (p : Int × Int × Int × List Int × Nat × Unit) : List D := match p with
  | (a, w, y, xs, nn0, _) => [.val (.agg #[.int .i64 a, .int .i64 w, .int .i64 y]), .list (rowA gI xs) nn0]
noncomputable def swD_C (p : Int × Int × Int × List Int × Nat × Unit) : Prop := match p with
  | (a, w, y, xs, nn0, _) => (nn0 = xs.length) ∧ (ckV a w y = 0) ∧ (Ords xs) ∧ (xs.length ≤ 1000) ∧ True
noncomputable def swD_R (p : Int × Int × Int × List Int × Nat × Unit) : Value × Outs := match p with
  | (a, w, y, xs, nn0, _) => (.tuple #[.agg #[.int .i64 (swS w xs (a, y, 0, 0)).1, .int .i64 w, .int .i64 (swS w xs (a, y, 0, 0)).2.1], .int .i64 (swS w xs (a, y, 0, 0)).2.2.1, .int .i64 (swS w xs (a, y, 0, 0)).2.2.2, .int .i64 0], [])
theorem swD_inj : ∀ p q, swD_C p → swD_C q → swD_A p = swD_A q → swD_R p = swD_R q := by
  rintro ⟨a, w, y, xs, nn0, _⟩ ⟨a', w', y', xs', nn0', _⟩ _ _ e
  simp only [swD_A, List.cons.injEq, D.list.injEq, D.val.injEq, D.agg.injEq, Value.int.injEq, Value.bool.injEq, Value.string.injEq, Value.agg.injEq, Array.mk.injEq, and_true, true_and, gI_inj, gB_inj] at e
  simp_all
noncomputable def swD_k : List D → Option (Value × Outs) := fnP swD_A swD_C swD_R
theorem swD_n (a w y : Int) (xs : List Int) (nn0 : Nat) (hn0 : nn0 = xs.length) (hc : ckV a w y = 0) (ho : Ords xs) (hx : xs.length ≤ 1000) : KnownR Try.prog [] 23 [.val (.agg #[.int .i64 a, .int .i64 w, .int .i64 y]), .list (rowA gI xs) nn0] (.tuple #[.agg #[.int .i64 (swS w xs (a, y, 0, 0)).1, .int .i64 w, .int .i64 (swS w xs (a, y, 0, 0)).2.1], .int .i64 (swS w xs (a, y, 0, 0)).2.2.1, .int .i64 (swS w xs (a, y, 0, 0)).2.2.2, .int .i64 0]) ([]) := by
  subst hn0; skip
  exact swD _ _ _ _ hc ho hx
theorem swD_ok : ∀ ds v bs, swD_k ds = some (v, bs) → KnownR Try.prog [] 23 ds v bs := fnP_ok (by
  rintro ⟨a, w, y, xs, nn0, _⟩ ⟨hn0, hc, ho, hx, _⟩
  exact swD_n _ _ _ _ _ hn0 hc ho hx)
theorem swD_at (a w y : Int) (xs : List Int) (nn0 : Nat) (hn0 : nn0 = xs.length) (hc : ckV a w y = 0) (ho : Ords xs) (hx : xs.length ≤ 1000) : swD_k [.val (.agg #[.int .i64 a, .int .i64 w, .int .i64 y]), .list (rowA gI xs) nn0] = some (.tuple #[.agg #[.int .i64 (swS w xs (a, y, 0, 0)).1, .int .i64 w, .int .i64 (swS w xs (a, y, 0, 0)).2.1], .int .i64 (swS w xs (a, y, 0, 0)).2.2.1, .int .i64 (swS w xs (a, y, 0, 0)).2.2.2, .int .i64 0], []) := fnP_at (p := (a, w, y, xs, nn0, ())) swD_inj ⟨hn0, hc, ho, hx, trivial⟩ rfl rfl
noncomputable def tabF : GTab := (GTab.fnD 23 swD_k (GTab.fn 35 qMod_k (GTab.fn 9 qNew_k tabS)))
theorem tabF_ok : GOk Try.prog [] tabF := (GOk.fnD swD_ok (GOk.fn qMod_ok (GOk.fn qNew_ok tabS_ok)))
noncomputable def mdA_hd (width : Int) (ns : List Int) : Hd := headD Try.prog [] tabF 3000 34 [.val (.int .i64 width), .list (rowA gI ns) ns.length] [(1, .b 1), (2, .stop)]
noncomputable def mdA_R (width : Int) (ns : List Int) (rc0 : Array Value) (rn0 : Nat) (y1 : Int) : St := (((entryR Try.prog [(.slot 8, 3)] 3 43 [31, 23, 35, 27, 33, 25, 21, 37, 29, 32, 24, 36, 28, 34, 26, 22, 38, 30] 7 6 (mdA_hd width ns).s).rows [(3, rc0, 3)]).updF [(8, .complex .f64 3 rn0), (9, .int .i64 y1)] [])
noncomputable def mdA_S (width : Int) (ns : List Int) (y0 : List Int) (y1 : Int) : St := (((entryR Try.prog [(.slot 8, 3)] 3 43 [31, 23, 35, 27, 33, 25, 21, 37, 29, 32, 24, 36, 28, 34, 26, 22, 38, 30] 7 6 (mdA_hd width ns).s).rows [(3, (rowA gI y0.reverse), 3)]).updF [(8, .complex .f64 3 y0.length), (9, .int .i64 y1)] [])
theorem mdA_n (width : Int) (ns : List Int) (hm : 0 ≤ width % 20 ∧ width % 20 ≤ 19) : 3 = (mdA_hd width ns).s.hs.next := by kernel_rfl
theorem mdA_r (width : Int) (ns : List Int) (hm : 0 ≤ width % 20 ∧ width % 20 ≤ 19) : (mdA_hd width ns).s.hs.rd < bitOf 3 := by
  have e : (mdA_hd width ns).s.hs.rd = 4 := by kernel_rfl
  rw [e]; exact blt_iff.1 (by kernel_rfl)
theorem mdA_w (width : Int) (ns : List Int) (hm : 0 ≤ width % 20 ∧ width % 20 ≤ 19) : (mdA_hd width ns).s.hs.wr < bitOf 3 := by
  have e : (mdA_hd width ns).s.hs.wr = 6 := by kernel_rfl
  rw [e]; exact blt_iff.1 (by kernel_rfl)
theorem mdA_e0 (width : Int) (ns : List Int) (hm : 0 ≤ width % 20 ∧ width % 20 ≤ 19) : beginS Try.prog [(.slot 8, 3)] 3 43 (sameB 3 1) [31, 23, 35, 27, 33, 25, 21, 37, 29, 32, 24, 36, 28, 34, 26, 22, 38, 30] 4 7 6 (mdA_hd width ns).s = some (mdA_S width ns [] ((0 : Int))) := by
  have h : beginS Try.prog [(.slot 8, 3)] 3 43 (sameB 3 1) [31, 23, 35, 27, 33, 25, 21, 37, 29, 32, 24, 36, 28, 34, 26, 22, 38, 30] 4 7 6 (mdA_hd width ns).s = some (mdA_R width ns #[] 0 ((0 : Int))) := by kernel_rfl
  refine h.trans (congrArg some ?_)
  show mdA_R width ns #[] 0 ((0 : Int)) = mdA_R width ns (rowA gI ([] : List Int).reverse) ([] : List Int).length ((0 : Int))
  simp only [List.reverse_nil, rowA_nil, List.length_nil, List.reverse_reverse, List.length_reverse]
theorem mdA_e1 (width : Int) (ns : List Int) (hm : 0 ≤ width % 20 ∧ width % 20 ≤ 19) : beginOk Try.prog [(.slot 8, 3)] 3 43 (sameB 3 1) 4 (mdA_hd width ns).s = true := by kernel_rfl
theorem mdA_p0 (width : Int) (ns : List Int) (hm : 0 ≤ width % 20 ∧ width % 20 ≤ 19) (y0 : List Int) (y1 : Int) (hi : (decide (0 ≤ y1 ∧ y1 ≤ 60 ∧ (y0.length : Int) ≤ y1)) = true) (hq0 : (decide (y1 < (↑ns.length : Int))) = true) (hq1 : (decide (y1 < (60 : Int))) = true) (hq2 : (decide ((0 : Int) ≤ y1)) = true) (hq3 : (decide ((y0.length + (1 : Nat)) * (8 : Nat) < (1000000000 : Nat))) = true) : bodyR Try.prog ([] : Vars).length tabF 3000 (mdA_hd width ns) (mdA_S width ns y0 y1 ) [(0, .b 1), (3, .b 1), (4, .b 1), (5, .b 1), (6, .vals ([Value.int IntKind.i64 (el ns y1)])), (8, .b 1), (9, .yes), (10, .arr (rowA (gI) ((el ns y1 % (5 : Int) :: y0).reverse)))] 3 43 [(5, 3)] [31, 23, 35, 27, 33, 25, 21, 37, 29, 32, 24, 36, 28, 34, 26, 22, 38, 30] 4 7 6 = some (.normal, (mdA_S width ns (el ns y1 % (5 : Int) :: y0) (IntKind.i64.wrap (y1 + (1 : Int)))), [((rowA (gI) (y0.reverse)).toList ++ ([Value.int IntKind.i64 (el ns y1 % (5 : Int))])).toArray = rowA (gI) ((el ns y1 % (5 : Int) :: y0).reverse), ((rowA gI y0.reverse).size.beq (y0.length.mul Try.prog.types[(3 : Nat)].size)) = true, (decide ((y0.length + (1 : Nat)) * (8 : Nat) < (1000000000 : Nat))) = true, segC (rowA (gI) (ns)) (((y1).toNat) * 1 + 0) 1 = some ([Value.int IntKind.i64 (el ns y1)]), (decide (y1 < (↑ns.length : Int))) = true, (decide ((0 : Int) ≤ y1)) = true, (decide (y1 < (60 : Int))) = true, (decide (y1 < (↑ns.length : Int))) = true]) := by kernel_rfl
theorem mdA_p1 (width : Int) (ns : List Int) (hm : 0 ≤ width % 20 ∧ width % 20 ≤ 19) (y0 : List Int) (y1 : Int) (hi : (decide (0 ≤ y1 ∧ y1 ≤ 60 ∧ (y0.length : Int) ≤ y1)) = true) (hq0 : (decide (y1 < (↑ns.length : Int))) = true) (hq1 : (decide (y1 < (60 : Int))) = false) : bodyR Try.prog ([] : Vars).length tabF 3000 (mdA_hd width ns) (mdA_S width ns y0 y1 ) [(0, .b 1), (3, .b 0)] 3 43 [(3, 3)] [31, 23, 35, 27, 33, 25, 21, 37, 29, 32, 24, 36, 28, 34, 26, 22, 38, 30] 43 7 6 = some (.exit 0, bodySt (bodyR Try.prog ([] : Vars).length tabF 3000 (mdA_hd width ns) (mdA_S width ns y0 y1 ) [(0, .b 1), (3, .b 0)] 3 43 [(3, 3)] [31, 23, 35, 27, 33, 25, 21, 37, 29, 32, 24, 36, 28, 34, 26, 22, 38, 30] 43 7 6), [(decide (y1 < (60 : Int))) = false, (decide (y1 < (↑ns.length : Int))) = true]) := by kernel_rfl
theorem mdA_q1 (width : Int) (ns : List Int) (hm : 0 ≤ width % 20 ∧ width % 20 ≤ 19) (y0 : List Int) (y1 : Int) (hi : (decide (0 ≤ y1 ∧ y1 ≤ 60 ∧ (y0.length : Int) ≤ y1)) = true) (hq0 : (decide (y1 < (↑ns.length : Int))) = true) (hq1 : (decide (y1 < (60 : Int))) = false) : (bodySt (bodyR Try.prog ([] : Vars).length tabF 3000 (mdA_hd width ns) (mdA_S width ns y0 y1 ) [(0, .b 1), (3, .b 0)] 3 43 [(3, 3)] [31, 23, 35, 27, 33, 25, 21, 37, 29, 32, 24, 36, 28, 34, 26, 22, 38, 30] 43 7 6)).hs.next = 43 := by kernel_rfl
theorem mdA_p2 (width : Int) (ns : List Int) (hm : 0 ≤ width % 20 ∧ width % 20 ≤ 19) (y0 : List Int) (y1 : Int) (hi : (decide (0 ≤ y1 ∧ y1 ≤ 60 ∧ (y0.length : Int) ≤ y1)) = true) (hq0 : (decide (y1 < (↑ns.length : Int))) = false) : bodyR Try.prog ([] : Vars).length tabF 3000 (mdA_hd width ns) (mdA_S width ns y0 y1 ) [(0, .b 0)] 3 43 [(3, 3)] [31, 23, 35, 27, 33, 25, 21, 37, 29, 32, 24, 36, 28, 34, 26, 22, 38, 30] 43 7 6 = some (.exit 0, bodySt (bodyR Try.prog ([] : Vars).length tabF 3000 (mdA_hd width ns) (mdA_S width ns y0 y1 ) [(0, .b 0)] 3 43 [(3, 3)] [31, 23, 35, 27, 33, 25, 21, 37, 29, 32, 24, 36, 28, 34, 26, 22, 38, 30] 43 7 6), [(decide (y1 < (↑ns.length : Int))) = false]) := by kernel_rfl
theorem mdA_q2 (width : Int) (ns : List Int) (hm : 0 ≤ width % 20 ∧ width % 20 ≤ 19) (y0 : List Int) (y1 : Int) (hi : (decide (0 ≤ y1 ∧ y1 ≤ 60 ∧ (y0.length : Int) ≤ y1)) = true) (hq0 : (decide (y1 < (↑ns.length : Int))) = false) : (bodySt (bodyR Try.prog ([] : Vars).length tabF 3000 (mdA_hd width ns) (mdA_S width ns y0 y1 ) [(0, .b 0)] 3 43 [(3, 3)] [31, 23, 35, 27, 33, 25, 21, 37, 29, 32, 24, 36, 28, 34, 26, 22, 38, 30] 43 7 6)).hs.next = 43 := by kernel_rfl
theorem mdA_d0 (width : Int) (ns : List Int) (hm : 0 ≤ width % 20 ∧ width % 20 ≤ 19) (y0 : List Int) (y1 : Int) (hi : (decide (0 ≤ y1 ∧ y1 ≤ 60 ∧ (y0.length : Int) ≤ y1)) = true) (hq0 : (decide (y1 < (↑ns.length : Int))) = true) (hq1 : (decide (y1 < (60 : Int))) = true) : (decide ((0 : Int) ≤ y1)) = true := by
  rcases Bool.eq_false_or_eq_true (decide ((0 : Int) ≤ y1)) with h | h
  · exact h
  · exfalso; (first | (simp_all only [Bool.and_eq_true, Bool.not_eq_true', Bool.false_eq_true, Bool.true_eq_false, reduceCtorEq]; done) | (simp_all; done) | (simp only [sx, sy, eq_self, ne_eq, IntKind.wrap_i64, wrapU64, Int.reduceLT] at * <;> first | contradiction | omega))
theorem mdA_d1 (width : Int) (ns : List Int) (hm : 0 ≤ width % 20 ∧ width % 20 ≤ 19) (y0 : List Int) (y1 : Int) (hi : (decide (0 ≤ y1 ∧ y1 ≤ 60 ∧ (y0.length : Int) ≤ y1)) = true) (hq0 : (decide (y1 < (↑ns.length : Int))) = true) (hq1 : (decide (y1 < (60 : Int))) = true) (hq2 : (decide ((0 : Int) ≤ y1)) = true) : (decide ((y0.length + (1 : Nat)) * (8 : Nat) < (1000000000 : Nat))) = true := by
  rcases Bool.eq_false_or_eq_true (decide ((y0.length + (1 : Nat)) * (8 : Nat) < (1000000000 : Nat))) with h | h
  · exact h
  · exfalso; (first | (simp_all only [Bool.and_eq_true, Bool.not_eq_true', Bool.false_eq_true, Bool.true_eq_false, reduceCtorEq]; done) | (simp_all; done) | (simp only [sx, sy, eq_self, ne_eq, IntKind.wrap_i64, wrapU64, Int.reduceLT] at * <;> first | contradiction | omega))
def mdA_X : Nat → VX
  | 0 => .exit 0
  | 1 => .exit 0
  | _ => .normal
noncomputable def mdA_E (kE : Nat) (width : Int) (ns : List Int) (y0 : List Int) (y1 : Int) : St := match kE with
  | 0 => bodySt (bodyR Try.prog ([] : Vars).length tabF 3000 (mdA_hd width ns) (mdA_S width ns y0 y1 ) [(0, .b 1), (3, .b 0)] 3 43 [(3, 3)] [31, 23, 35, 27, 33, 25, 21, 37, 29, 32, 24, 36, 28, 34, 26, 22, 38, 30] 43 7 6)
  | 1 => bodySt (bodyR Try.prog ([] : Vars).length tabF 3000 (mdA_hd width ns) (mdA_S width ns y0 y1 ) [(0, .b 0)] 3 43 [(3, 3)] [31, 23, 35, 27, 33, 25, 21, 37, 29, 32, 24, 36, 28, 34, 26, 22, 38, 30] 43 7 6)
  | _ => (mdA_hd width ns).s
noncomputable def mdA_f (width : Int) (ns : List Int) : Nat → List Int → Int → Option (Nat × (List Int × Int))
  | 0, _, _ => none
  | fu + 1, y0, y1 => (bif (decide (0 ≤ y1 ∧ y1 ≤ 60 ∧ (y0.length : Int) ≤ y1)) then (bif (decide (y1 < (↑ns.length : Int))) then (bif (decide (y1 < (60 : Int))) then mdA_f width ns fu (el ns y1 % (5 : Int) :: y0) (IntKind.i64.wrap (y1 + (1 : Int))) else some (0, (y0, y1))) else some (1, (y0, y1))) else none)
theorem mdA_fs (width : Int) (ns : List Int) (fu : Nat) (y0 : List Int) (y1 : Int) : mdA_f width ns (fu + 1) y0 y1 = (bif (decide (0 ≤ y1 ∧ y1 ≤ 60 ∧ (y0.length : Int) ≤ y1)) then (bif (decide (y1 < (↑ns.length : Int))) then (bif (decide (y1 < (60 : Int))) then mdA_f width ns fu (el ns y1 % (5 : Int) :: y0) (IntKind.i64.wrap (y1 + (1 : Int))) else some (0, (y0, y1))) else some (1, (y0, y1))) else none) := rfl
theorem mdA_f0 (width : Int) (ns : List Int) (y0 : List Int) (y1 : Int) : mdA_f width ns 0 y0 y1 = none := rfl
theorem mdA_loop (width : Int) (ns : List Int) (hm : 0 ≤ width % 20 ∧ width % 20 ≤ 19) : ∀ (fu : Nat) (y0 : List Int) (y1 : Int) (kk : Nat) (zz : List Int × Int), mdA_f width ns fu y0 y1 = some (kk, zz) → VStep (mdA_hd width ns).s.hs (mdA_S width ns y0 y1 ).hs → RoundsC Try.prog [] 3 43 (mdA_hd width ns).s.hs (mdA_hd width ns).ro (mdA_hd width ns).a (mdA_S width ns y0 y1 ) (mdA_X kk) (mdA_E kk width ns zz.1 zz.2 ) ∧ ((mdA_E kk width ns zz.1 zz.2 )).hs.next = 43 := by
  intro fu
  induction fu with
  | zero =>
    intro y0 y1 kk zz hf hSz
    have hf := (mdA_f0 width ns y0 y1 ).symm.trans hf
    simp at hf
  | succ fu ih =>
    intro y0 y1 kk zz hf hSz
    have hf := (mdA_fs width ns fu y0 y1 ).symm.trans hf
    rcases bif_or hf with ⟨hi, hf⟩ | ⟨hi, hf⟩
    case inr => cases hf
    rcases bif_or hf with ⟨hq0, hf⟩ | ⟨hq0, hf⟩
    ·
      rcases bif_or hf with ⟨hq1, hf⟩ | ⟨hq1, hf⟩
      ·
        have hq2 := mdA_d0 width ns hm  y0 y1 hi hq0 hq1 
        have hq3 := mdA_d1 width ns hm  y0 y1 hi hq0 hq1 hq2 
        have hb1 := mdA_p0 width ns hm  y0 y1 hi  hq0 hq1 hq2 hq3; have hb2 := body_canonR hb1; have hb3 := hb2 ⟨(row_snoc (g := (gI)) rfl), (fact_size (g := (gI)) (k := 1) (fun _ => rfl) (by simp)), hq3, (seg_row (g := (gI)) (k := 1) (fun _ => rfl) (by first | exact of_decide_eq_true hq2 | simpa using of_decide_eq_true hq2) (by first | exact of_decide_eq_true hq0 | simpa using of_decide_eq_true hq0) (by decide) rfl), hq0, hq2, hq1, hq0, trivial⟩; obtain ⟨sz1, kz1, kz2, kz3⟩ := hb3; obtain ⟨gz1, gz2⟩ := ih (el ns y1 % (5 : Int) :: y0) (IntKind.i64.wrap (y1 + (1 : Int))) kk zz hf (rounds_step mix (T := tabF) tabF_ok (mdA_n width ns hm  ) (mdA_r width ns hm  ) (mdA_w width ns hm  ) kz1 hSz kz2 kz3); exact ⟨rounds_next mix (T := tabF) tabF_ok (mdA_n width ns hm  ) (mdA_r width ns hm  ) (mdA_w width ns hm  ) kz1 hSz kz2 kz3 (fun _ => gz1), gz2⟩
      ·
        injection hf with hf; injection hf with e1 e2; subst e1; subst e2; have hb1 := mdA_p1 width ns hm  y0 y1 hi  hq0 hq1; have hb2 := body_canonR hb1; have hb3 := hb2 ⟨hq1, hq0, trivial⟩; obtain ⟨sz1, kz1, kz2, kz3⟩ := hb3; exact ⟨rounds_end mix (T := tabF) tabF_ok (mdA_n width ns hm  ) (mdA_r width ns hm  ) (mdA_w width ns hm  ) kz1 (fun h => by cases h) hSz kz2 kz3, mdA_q1 width ns hm  y0 y1 hi  hq0 hq1⟩
    ·
      injection hf with hf; injection hf with e1 e2; subst e1; subst e2; have hb1 := mdA_p2 width ns hm  y0 y1 hi  hq0; have hb2 := body_canonR hb1; have hb3 := hb2 ⟨hq0, trivial⟩; obtain ⟨sz1, kz1, kz2, kz3⟩ := hb3; exact ⟨rounds_end mix (T := tabF) tabF_ok (mdA_n width ns hm  ) (mdA_r width ns hm  ) (mdA_w width ns hm  ) kz1 (fun h => by cases h) hSz kz2 kz3, mdA_q2 width ns hm  y0 y1 hi  hq0⟩
theorem mdA_ok (width : Int) (ns : List Int) (hm : 0 ≤ width % 20 ∧ width % 20 ≤ 19) (fu kk : Nat) (zz : List Int × Int) (hf : mdA_f width ns fu [] ((0 : Int)) = some (kk, zz)) : ∀ B : Bd, B.L = [] → LoopOk Try.prog B (mdA_hd width ns).ro (mdA_hd width ns).a (mdA_hd width ns).s (mdA_X kk) (mdA_E kk width ns zz.1 zz.2 ) := by
  obtain ⟨sb1, sb2, sb3, sb4⟩ := begin_open (mdA_e0 width ns hm  ) (mdA_e1 width ns hm  )
  have hSz := begin_step2 (mdA_n width ns hm  ) (mdA_r width ns hm  ) (mdA_w width ns hm  ) sb2 sb3 sb4
  obtain ⟨gz1, gz2⟩ := mdA_loop width ns hm  fu [] ((0 : Int)) kk zz hf hSz
  exact rounds_ok (mdA_n width ns hm  ) (Nat.le_of_ble_eq_true (by kernel_rfl)) gz2 (rounds_begin2 (mdA_n width ns hm  ) (mdA_r width ns hm  ) (mdA_w width ns hm  ) sb2 sb3 sb4 (fun _ => gz1))

end Go.Proofs.Ytpaojoahbmlolaa
