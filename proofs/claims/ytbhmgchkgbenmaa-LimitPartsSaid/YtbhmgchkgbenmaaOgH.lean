import Derived.Test.YtbhmgchkgbenmaaLJ
set_option linter.unnecessarySimpa false
set_option linter.unusedSimpArgs false
set_option linter.unusedVariables false
namespace Go.Proofs.Ytbhmgchkgbenmaa
open Go Go.RowKit IntKind FloatKind
theorem caD (xs : List Mv)  : KnownR Try.prog [] 43 [.list (rowA gM xs) xs.length] (.int .i64 (cAll xs)) ([]) := check_all xs
noncomputable def caD_A (p : List Mv × Nat × Unit) : List D := match p with
 | (xs, nn0, _) => [.list (rowA gM xs) nn0]
noncomputable def caD_C (p : List Mv × Nat × Unit) : Prop := match p with
 | (xs, nn0, _) => (nn0 = xs.length) ∧ True
noncomputable def caD_R (p : List Mv × Nat × Unit) : Value × Outs := match p with
 | (xs, nn0, _) => (.int .i64 (cAll xs), [])
theorem caD_inj : ∀ p q, caD_C p → caD_C q → caD_A p = caD_A q → caD_R p = caD_R q := by
 rintro ⟨xs, nn0, _⟩ ⟨xs', nn0', _⟩ _ _ e
 simp only [caD_A, List.cons.injEq, D.list.injEq, D.val.injEq, D.agg.injEq, Value.int.injEq, Value.bool.injEq, Value.string.injEq, Value.agg.injEq, Array.mk.injEq, and_true, true_and, gI_inj, gB_inj, gM_inj] at e
 simp_all
noncomputable def caD_k : List D → Option (Value × Outs) := fnP caD_A caD_C caD_R
theorem caD_n (xs : List Mv) (nn0 : Nat) (hn0 : nn0 = xs.length)  : KnownR Try.prog [] 43 [.list (rowA gM xs) nn0] (.int .i64 (cAll xs)) ([]) := by
 subst hn0; skip
 exact caD _ 
theorem caD_ok : ∀ ds v bs, caD_k ds = some (v, bs) → KnownR Try.prog [] 43 ds v bs := fnP_ok (by
 rintro ⟨xs, nn0, _⟩ ⟨hn0, _⟩
 exact caD_n _ _ hn0 )
theorem caD_at (xs : List Mv) (nn0 : Nat) (hn0 : nn0 = xs.length)  : caD_k [.list (rowA gM xs) nn0] = some (.int .i64 (cAll xs), []) := fnP_at (p := (xs, nn0, ())) caD_inj ⟨hn0, trivial⟩ rfl rfl
theorem raD (xs : List Mv) (h s : Int) (hh : h = 0) (hs : s = 1) : KnownR Try.prog [] 35 [.list (rowA gM xs) xs.length, .val (.int .i64 h), .val (.int .i64 s)] (.int .i64 (cAll xs)) ([]) := by subst hh; subst hs; exact asked_all xs
noncomputable def raD_A (p : List Mv × Int × Int × Nat × Unit) : List D := match p with
 | (xs, h, s, nn0, _) => [.list (rowA gM xs) nn0, .val (.int .i64 h), .val (.int .i64 s)]
noncomputable def raD_C (p : List Mv × Int × Int × Nat × Unit) : Prop := match p with
 | (xs, h, s, nn0, _) => (nn0 = xs.length) ∧ (h = 0) ∧ (s = 1) ∧ True
noncomputable def raD_R (p : List Mv × Int × Int × Nat × Unit) : Value × Outs := match p with
 | (xs, h, s, nn0, _) => (.int .i64 (cAll xs), [])
noncomputable def raD_k : List D → Option (Value × Outs) := fnP raD_A raD_C raD_R
theorem raD_n (xs : List Mv) (h s : Int) (nn0 : Nat) (hn0 : nn0 = xs.length) (hh : h = 0) (hs : s = 1) : KnownR Try.prog [] 35 [.list (rowA gM xs) nn0, .val (.int .i64 h), .val (.int .i64 s)] (.int .i64 (cAll xs)) ([]) := by
 subst hn0; skip
 exact raD _ _ _ hh hs
theorem raD_ok : ∀ ds v bs, raD_k ds = some (v, bs) → KnownR Try.prog [] 35 ds v bs := fnP_ok (by
 rintro ⟨xs, h, s, nn0, _⟩ ⟨hn0, hh, hs, _⟩
 exact raD_n _ _ _ _ hn0 hh hs)
noncomputable def tabP : GTab := (GTab.fn1 40 pJmp_k (GTab.fn1 41 rJmp_k (GTab.fnD 43 caD_k (GTab.fnD 35 raD_k GTab.none))))
theorem tabP_ok : GOk Try.prog [] tabP := (GOk.fn1 pJmp_ok (GOk.fn1 rJmp_ok (GOk.fnD caD_ok (GOk.fnD raD_ok GOk.none))))
noncomputable def jpB_c1 (xs : List Mv) : Int := (cAll xs)
theorem jpB_p0 (xs : List Mv) (hc : ¬ cAll xs = 0) (hq0 : (cAll xs != (0 : Int)) = true) : KnownR Try.prog [] 23 [.list (rowA gM xs) xs.length] (.tuple #[(.complex .f64 0 ((([] : List Int))).length), (.int .i64 (cAll xs))]) [(rowA gI ((([] : List Int))), 3)] :=
 knownR_eq (v := Value.tuple { toList := [Value.complex f64 (nat_lit 0) (nat_lit 0), Value.int i64 (cAll xs)] }) (bs := [({ toList := [] }, nat_lit 3)]) (open_resD mix tabP_ok (T := tabP) (fuel := 3000) (es := [3]) (ans := [(0, .outs (Value.int i64 (cAll xs)) ([])), (1, .b 1)]) (log := [(cAll xs != (0 : Int)) = true, (GTab.lookD (tabP) ((43 : Nat)) ([D.list (rowA gM xs) xs.length])) = some (Value.int i64 (cAll xs), [])]) (by kernel_rfl) ⟨hq0, (caD_at (xs) (xs.length) (by first | rfl | assumption | omega | (simp; done) | (simp_all; done) | (simp_all; omega))), trivial⟩ (by kernel_rfl)) (by first | rfl | simp) (by first | rfl | simp [rowA_nil])
set_option maxHeartbeats 8000000 in
theorem jpB (xs : List Mv) (hc : ¬ cAll xs = 0) : KnownR Try.prog [] 23 [.list (rowA gM xs) xs.length] (.tuple #[(.complex .f64 0 ((([] : List Int))).length), (.int .i64 (jpB_c1 xs))]) [(rowA gI ((([] : List Int))), 3)] := by
 have hq0 : (cAll xs != (0 : Int)) = true := by
  rcases Bool.eq_false_or_eq_true (cAll xs != (0 : Int)) with h | h
  ·exact h
  ·exfalso; (first | (simp_all only [Bool.and_eq_true, Bool.not_eq_true', Bool.false_eq_true, Bool.true_eq_false, reduceCtorEq]; done) | (simp_all; done) | (simp only [sx, sy, eq_self, ne_eq, IntKind.wrap_i64, wrapU64, Int.reduceLT] at * <;> first | contradiction | omega))
 have e1 : jpB_c1 xs = (cAll xs) := rfl; rw [e1]; exact jpB_p0 xs hc hq0
noncomputable def jpA_hd (xs : List Mv) : Hd := headD Try.prog [] tabP 3000 23 [.list (rowA gM xs) xs.length] [(0, .outs (Value.int i64 (cAll xs)) ([])), (1, .b 0), (2, .stop)]
noncomputable def jpA_R (xs : List Mv) (rc0 : Array Value) (rn0 : Nat) (y1 : Int) : St := (((entryR Try.prog [(.slot 7, 3)] 1 41 [15, 31, 23, 19, 27, 17, 33, 25, 21, 29, 16, 32, 24, 20, 28, 18, 34, 26, 14, 22, 30] 1 0 (jpA_hd xs).s).rows [(1, rc0, 3)]).updF [(7, .complex .f64 1 rn0), (8, .int .i64 y1)] [])
noncomputable def jpA_S (xs : List Mv) (y0 : List Int) (y1 : Int) : St := (((entryR Try.prog [(.slot 7, 3)] 1 41 [15, 31, 23, 19, 27, 17, 33, 25, 21, 29, 16, 32, 24, 20, 28, 18, 34, 26, 14, 22, 30] 1 0 (jpA_hd xs).s).rows [(1, (rowA gI y0.reverse), 3)]).updF [(7, .complex .f64 1 y0.length), (8, .int .i64 y1)] [])
theorem jpA_n (xs : List Mv) (hx : xs.length ≤ 10000) (hc : cAll xs = 0) : 1 = (jpA_hd xs).s.hs.next := by kernel_rfl
theorem jpA_r (xs : List Mv) (hx : xs.length ≤ 10000) (hc : cAll xs = 0) : (jpA_hd xs).s.hs.rd < bitOf 1 := blt_iff.1 (by kernel_rfl)
theorem jpA_w (xs : List Mv) (hx : xs.length ≤ 10000) (hc : cAll xs = 0) : (jpA_hd xs).s.hs.wr < bitOf 1 := blt_iff.1 (by kernel_rfl)
theorem jpA_e0 (xs : List Mv) (hx : xs.length ≤ 10000) (hc : cAll xs = 0) : beginS Try.prog [(.slot 7, 3)] 1 41 (sameB 1 1) [15, 31, 23, 19, 27, 17, 33, 25, 21, 29, 16, 32, 24, 20, 28, 18, 34, 26, 14, 22, 30] 2 1 0 (jpA_hd xs).s = some (jpA_S xs [] ((1 : Int))) := by
 have h : beginS Try.prog [(.slot 7, 3)] 1 41 (sameB 1 1) [15, 31, 23, 19, 27, 17, 33, 25, 21, 29, 16, 32, 24, 20, 28, 18, 34, 26, 14, 22, 30] 2 1 0 (jpA_hd xs).s = some (jpA_R xs #[] 0 ((1 : Int))) := by kernel_rfl
 refine h.trans (congrArg some ?_)
 show jpA_R xs #[] 0 ((1 : Int)) = jpA_R xs (rowA gI ([] : List Int).reverse) ([] : List Int).length ((1 : Int))
 simp only [List.reverse_nil, rowA_nil, List.length_nil, List.reverse_reverse, List.length_reverse]
theorem jpA_e1 (xs : List Mv) (hx : xs.length ≤ 10000) (hc : cAll xs = 0) : beginOk Try.prog [(.slot 7, 3)] 1 41 (sameB 1 1) 2 (jpA_hd xs).s = true := by kernel_rfl
theorem jpA_p0 (xs : List Mv) (hx : xs.length ≤ 10000) (hc : cAll xs = 0) (y0 : List Int) (y1 : Int) (hi : (decide (1 ≤ y1 ∧ y1 ≤ 20000 ∧ (y0.length : Int) < y1)) = true) (hq0 : (decide (y1 < (↑xs.length : Int))) = true) (hq1 : (decide ((0 : Int) ≤ i64.wrap (y1 - (1 : Int)))) = true) (hq2 : (decide (i64.wrap (y1 - (1 : Int)) < (↑xs.length : Int))) = true) (hq3 : (decide ((0 : Int) ≤ y1)) = true) (hq4 : (pJmp_c0 (el xs (i64.wrap (y1 - (1 : Int)))).fst (el xs (i64.wrap (y1 - (1 : Int)))).snd.fst (el xs (i64.wrap (y1 - (1 : Int)))).snd.snd.fst (el xs (i64.wrap (y1 - (1 : Int)))).snd.snd.snd.fst (el xs (i64.wrap (y1 - (1 : Int)))).snd.snd.snd.snd (el xs y1).fst (el xs y1).snd.fst (el xs y1).snd.snd.fst (el xs y1).snd.snd.snd.fst (el xs y1).snd.snd.snd.snd) = true) (hq5 : (decide ((y0.length + (1 : Nat)) * (8 : Nat) < (1000000000 : Nat))) = true) : bodyR Try.prog ([] : Vars).length tabP 3000 (jpA_hd xs) (jpA_S xs y0 y1 ) [(0, .b 1), (1, .b 1), (2, .b 1), (3, .vals ([Value.int i64 (el xs (i64.wrap (y1 - (1 : Int)))).fst, Value.int i64 (el xs (i64.wrap (y1 - (1 : Int)))).snd.fst, Value.bool (el xs (i64.wrap (y1 - (1 : Int)))).snd.snd.fst, Value.bool (el xs (i64.wrap (y1 - (1 : Int)))).snd.snd.snd.fst, Value.int i64 (el xs (i64.wrap (y1 - (1 : Int)))).snd.snd.snd.snd])), (4, .b 1), (5, .b 1), (6, .vals ([Value.int i64 (el xs y1).fst, Value.int i64 (el xs y1).snd.fst, Value.bool (el xs y1).snd.snd.fst, Value.bool (el xs y1).snd.snd.snd.fst, Value.int i64 (el xs y1).snd.snd.snd.snd])), (8, .b 1), (9, .b 1), (10, .yes), (11, .arr (rowA (gI) ((y1 :: y0).reverse)))] 1 41 [(3, 1)] [15, 31, 23, 19, 27, 17, 33, 25, 21, 29, 16, 32, 24, 20, 28, 18, 34, 26, 14, 22, 30] 2 1 0 = some (.normal, (jpA_S xs (y1 :: y0) (i64.wrap (y1 + (1 : Int)))), [((rowA (gI) (y0.reverse)).toList ++ ([Value.int i64 y1])).toArray = rowA (gI) ((y1 :: y0).reverse), ((rowA gI y0.reverse).size.beq (y0.length.mul Try.prog.types[(3 : Nat)].size)) = true, (decide ((y0.length + (1 : Nat)) * (8 : Nat) < (1000000000 : Nat))) = true, (pJmp_c0 (el xs (i64.wrap (y1 - (1 : Int)))).fst (el xs (i64.wrap (y1 - (1 : Int)))).snd.fst (el xs (i64.wrap (y1 - (1 : Int)))).snd.snd.fst (el xs (i64.wrap (y1 - (1 : Int)))).snd.snd.snd.fst (el xs (i64.wrap (y1 - (1 : Int)))).snd.snd.snd.snd (el xs y1).fst (el xs y1).snd.fst (el xs y1).snd.snd.fst (el xs y1).snd.snd.snd.fst (el xs y1).snd.snd.snd.snd) = true, segC (rowA (gM) (xs)) (((y1).toNat) * 5 + 0) 5 = some ([Value.int i64 (el xs y1).fst, Value.int i64 (el xs y1).snd.fst, Value.bool (el xs y1).snd.snd.fst, Value.bool (el xs y1).snd.snd.snd.fst, Value.int i64 (el xs y1).snd.snd.snd.snd]), (decide (y1 < (↑xs.length : Int))) = true, (decide ((0 : Int) ≤ y1)) = true, segC (rowA (gM) (xs)) (((i64.wrap (y1 - (1 : Int))).toNat) * 5 + 0) 5 = some ([Value.int i64 (el xs (i64.wrap (y1 - (1 : Int)))).fst, Value.int i64 (el xs (i64.wrap (y1 - (1 : Int)))).snd.fst, Value.bool (el xs (i64.wrap (y1 - (1 : Int)))).snd.snd.fst, Value.bool (el xs (i64.wrap (y1 - (1 : Int)))).snd.snd.snd.fst, Value.int i64 (el xs (i64.wrap (y1 - (1 : Int)))).snd.snd.snd.snd]), (decide (i64.wrap (y1 - (1 : Int)) < (↑xs.length : Int))) = true, (decide ((0 : Int) ≤ i64.wrap (y1 - (1 : Int)))) = true, (decide (y1 < (↑xs.length : Int))) = true]) := by kernel_rfl
theorem jpA_p1 (xs : List Mv) (hx : xs.length ≤ 10000) (hc : cAll xs = 0) (y0 : List Int) (y1 : Int) (hi : (decide (1 ≤ y1 ∧ y1 ≤ 20000 ∧ (y0.length : Int) < y1)) = true) (hq0 : (decide (y1 < (↑xs.length : Int))) = true) (hq1 : (decide ((0 : Int) ≤ i64.wrap (y1 - (1 : Int)))) = true) (hq2 : (decide (i64.wrap (y1 - (1 : Int)) < (↑xs.length : Int))) = true) (hq3 : (decide ((0 : Int) ≤ y1)) = true) (hq4 : (pJmp_c0 (el xs (i64.wrap (y1 - (1 : Int)))).fst (el xs (i64.wrap (y1 - (1 : Int)))).snd.fst (el xs (i64.wrap (y1 - (1 : Int)))).snd.snd.fst (el xs (i64.wrap (y1 - (1 : Int)))).snd.snd.snd.fst (el xs (i64.wrap (y1 - (1 : Int)))).snd.snd.snd.snd (el xs y1).fst (el xs y1).snd.fst (el xs y1).snd.snd.fst (el xs y1).snd.snd.snd.fst (el xs y1).snd.snd.snd.snd) = false) : bodyR Try.prog ([] : Vars).length tabP 3000 (jpA_hd xs) (jpA_S xs y0 y1 ) [(0, .b 1), (1, .b 1), (2, .b 1), (3, .vals ([Value.int i64 (el xs (i64.wrap (y1 - (1 : Int)))).fst, Value.int i64 (el xs (i64.wrap (y1 - (1 : Int)))).snd.fst, Value.bool (el xs (i64.wrap (y1 - (1 : Int)))).snd.snd.fst, Value.bool (el xs (i64.wrap (y1 - (1 : Int)))).snd.snd.snd.fst, Value.int i64 (el xs (i64.wrap (y1 - (1 : Int)))).snd.snd.snd.snd])), (4, .b 1), (5, .b 1), (6, .vals ([Value.int i64 (el xs y1).fst, Value.int i64 (el xs y1).snd.fst, Value.bool (el xs y1).snd.snd.fst, Value.bool (el xs y1).snd.snd.snd.fst, Value.int i64 (el xs y1).snd.snd.snd.snd])), (8, .b 0)] 1 41 [(1, 1)] [15, 31, 23, 19, 27, 17, 33, 25, 21, 29, 16, 32, 24, 20, 28, 18, 34, 26, 14, 22, 30] 2 1 0 = some (.normal, (jpA_S xs (y0) (i64.wrap (y1 + (1 : Int)))), [(pJmp_c0 (el xs (i64.wrap (y1 - (1 : Int)))).fst (el xs (i64.wrap (y1 - (1 : Int)))).snd.fst (el xs (i64.wrap (y1 - (1 : Int)))).snd.snd.fst (el xs (i64.wrap (y1 - (1 : Int)))).snd.snd.snd.fst (el xs (i64.wrap (y1 - (1 : Int)))).snd.snd.snd.snd (el xs y1).fst (el xs y1).snd.fst (el xs y1).snd.snd.fst (el xs y1).snd.snd.snd.fst (el xs y1).snd.snd.snd.snd) = false, segC (rowA (gM) (xs)) (((y1).toNat) * 5 + 0) 5 = some ([Value.int i64 (el xs y1).fst, Value.int i64 (el xs y1).snd.fst, Value.bool (el xs y1).snd.snd.fst, Value.bool (el xs y1).snd.snd.snd.fst, Value.int i64 (el xs y1).snd.snd.snd.snd]), (decide (y1 < (↑xs.length : Int))) = true, (decide ((0 : Int) ≤ y1)) = true, segC (rowA (gM) (xs)) (((i64.wrap (y1 - (1 : Int))).toNat) * 5 + 0) 5 = some ([Value.int i64 (el xs (i64.wrap (y1 - (1 : Int)))).fst, Value.int i64 (el xs (i64.wrap (y1 - (1 : Int)))).snd.fst, Value.bool (el xs (i64.wrap (y1 - (1 : Int)))).snd.snd.fst, Value.bool (el xs (i64.wrap (y1 - (1 : Int)))).snd.snd.snd.fst, Value.int i64 (el xs (i64.wrap (y1 - (1 : Int)))).snd.snd.snd.snd]), (decide (i64.wrap (y1 - (1 : Int)) < (↑xs.length : Int))) = true, (decide ((0 : Int) ≤ i64.wrap (y1 - (1 : Int)))) = true, (decide (y1 < (↑xs.length : Int))) = true]) := by kernel_rfl
theorem jpA_p2 (xs : List Mv) (hx : xs.length ≤ 10000) (hc : cAll xs = 0) (y0 : List Int) (y1 : Int) (hi : (decide (1 ≤ y1 ∧ y1 ≤ 20000 ∧ (y0.length : Int) < y1)) = true) (hq0 : (decide (y1 < (↑xs.length : Int))) = false) : bodyR Try.prog ([] : Vars).length tabP 3000 (jpA_hd xs) (jpA_S xs y0 y1 ) [(0, .b 0)] 1 41 [(1, 1)] [15, 31, 23, 19, 27, 17, 33, 25, 21, 29, 16, 32, 24, 20, 28, 18, 34, 26, 14, 22, 30] 41 1 0 = some (.exit 0, bodySt (bodyR Try.prog ([] : Vars).length tabP 3000 (jpA_hd xs) (jpA_S xs y0 y1 ) [(0, .b 0)] 1 41 [(1, 1)] [15, 31, 23, 19, 27, 17, 33, 25, 21, 29, 16, 32, 24, 20, 28, 18, 34, 26, 14, 22, 30] 41 1 0), [(decide (y1 < (↑xs.length : Int))) = false]) := by kernel_rfl
theorem jpA_q2 (xs : List Mv) (hx : xs.length ≤ 10000) (hc : cAll xs = 0) (y0 : List Int) (y1 : Int) (hi : (decide (1 ≤ y1 ∧ y1 ≤ 20000 ∧ (y0.length : Int) < y1)) = true) (hq0 : (decide (y1 < (↑xs.length : Int))) = false) : (bodySt (bodyR Try.prog ([] : Vars).length tabP 3000 (jpA_hd xs) (jpA_S xs y0 y1 ) [(0, .b 0)] 1 41 [(1, 1)] [15, 31, 23, 19, 27, 17, 33, 25, 21, 29, 16, 32, 24, 20, 28, 18, 34, 26, 14, 22, 30] 41 1 0)).hs.next = 41 := by kernel_rfl
theorem jpA_d0 (xs : List Mv) (hx : xs.length ≤ 10000) (hc : cAll xs = 0) (y0 : List Int) (y1 : Int) (hi : (decide (1 ≤ y1 ∧ y1 ≤ 20000 ∧ (y0.length : Int) < y1)) = true) (hq0 : (decide (y1 < (↑xs.length : Int))) = true) : (decide ((0 : Int) ≤ i64.wrap (y1 - (1 : Int)))) = true := by
 rcases Bool.eq_false_or_eq_true (decide ((0 : Int) ≤ i64.wrap (y1 - (1 : Int)))) with h | h
 ·exact h
 ·exfalso; (first | (simp_all only [Bool.and_eq_true, Bool.not_eq_true', Bool.false_eq_true, Bool.true_eq_false, reduceCtorEq]; done) | (simp_all; done) | (simp only [sx, sy, eq_self, ne_eq, IntKind.wrap_i64, wrapU64, Int.reduceLT] at * <;> first | contradiction | omega))
theorem jpA_d1 (xs : List Mv) (hx : xs.length ≤ 10000) (hc : cAll xs = 0) (y0 : List Int) (y1 : Int) (hi : (decide (1 ≤ y1 ∧ y1 ≤ 20000 ∧ (y0.length : Int) < y1)) = true) (hq0 : (decide (y1 < (↑xs.length : Int))) = true) (hq1 : (decide ((0 : Int) ≤ i64.wrap (y1 - (1 : Int)))) = true) : (decide (i64.wrap (y1 - (1 : Int)) < (↑xs.length : Int))) = true := by
 rcases Bool.eq_false_or_eq_true (decide (i64.wrap (y1 - (1 : Int)) < (↑xs.length : Int))) with h | h
 ·exact h
 ·exfalso; (first | (simp_all only [Bool.and_eq_true, Bool.not_eq_true', Bool.false_eq_true, Bool.true_eq_false, reduceCtorEq]; done) | (simp_all; done) | (simp only [sx, sy, eq_self, ne_eq, IntKind.wrap_i64, wrapU64, Int.reduceLT] at * <;> first | contradiction | omega))
theorem jpA_d2 (xs : List Mv) (hx : xs.length ≤ 10000) (hc : cAll xs = 0) (y0 : List Int) (y1 : Int) (hi : (decide (1 ≤ y1 ∧ y1 ≤ 20000 ∧ (y0.length : Int) < y1)) = true) (hq0 : (decide (y1 < (↑xs.length : Int))) = true) (hq1 : (decide ((0 : Int) ≤ i64.wrap (y1 - (1 : Int)))) = true) (hq2 : (decide (i64.wrap (y1 - (1 : Int)) < (↑xs.length : Int))) = true) : (decide ((0 : Int) ≤ y1)) = true := by
 rcases Bool.eq_false_or_eq_true (decide ((0 : Int) ≤ y1)) with h | h
 ·exact h
 ·exfalso; (first | (simp_all only [Bool.and_eq_true, Bool.not_eq_true', Bool.false_eq_true, Bool.true_eq_false, reduceCtorEq]; done) | (simp_all; done) | (simp only [sx, sy, eq_self, ne_eq, IntKind.wrap_i64, wrapU64, Int.reduceLT] at * <;> first | contradiction | omega))
theorem jpA_d3 (xs : List Mv) (hx : xs.length ≤ 10000) (hc : cAll xs = 0) (y0 : List Int) (y1 : Int) (hi : (decide (1 ≤ y1 ∧ y1 ≤ 20000 ∧ (y0.length : Int) < y1)) = true) (hq0 : (decide (y1 < (↑xs.length : Int))) = true) (hq1 : (decide ((0 : Int) ≤ i64.wrap (y1 - (1 : Int)))) = true) (hq2 : (decide (i64.wrap (y1 - (1 : Int)) < (↑xs.length : Int))) = true) (hq3 : (decide ((0 : Int) ≤ y1)) = true) (hq4 : (pJmp_c0 (el xs (i64.wrap (y1 - (1 : Int)))).fst (el xs (i64.wrap (y1 - (1 : Int)))).snd.fst (el xs (i64.wrap (y1 - (1 : Int)))).snd.snd.fst (el xs (i64.wrap (y1 - (1 : Int)))).snd.snd.snd.fst (el xs (i64.wrap (y1 - (1 : Int)))).snd.snd.snd.snd (el xs y1).fst (el xs y1).snd.fst (el xs y1).snd.snd.fst (el xs y1).snd.snd.snd.fst (el xs y1).snd.snd.snd.snd) = true) : (decide ((y0.length + (1 : Nat)) * (8 : Nat) < (1000000000 : Nat))) = true := by
 rcases Bool.eq_false_or_eq_true (decide ((y0.length + (1 : Nat)) * (8 : Nat) < (1000000000 : Nat))) with h | h
 ·exact h
 ·exfalso; (first | (simp_all only [Bool.and_eq_true, Bool.not_eq_true', Bool.false_eq_true, Bool.true_eq_false, reduceCtorEq]; done) | (simp_all; done) | (simp only [sx, sy, eq_self, ne_eq, IntKind.wrap_i64, wrapU64, Int.reduceLT] at * <;> first | contradiction | omega))
def jpA_X : Nat → VX
 | 0 => .exit 0
 | _ => .normal
noncomputable def jpA_E (kE : Nat) (xs : List Mv) (y0 : List Int) (y1 : Int) : St := match kE with
 | 0 => bodySt (bodyR Try.prog ([] : Vars).length tabP 3000 (jpA_hd xs) (jpA_S xs y0 y1 ) [(0, .b 0)] 1 41 [(1, 1)] [15, 31, 23, 19, 27, 17, 33, 25, 21, 29, 16, 32, 24, 20, 28, 18, 34, 26, 14, 22, 30] 41 1 0)
 | _ => (jpA_hd xs).s
noncomputable def jpA_f (xs : List Mv) : Nat → List Int → Int → Option (Nat × (List Int × Int))
 | 0, _, _ => none
 | fu + 1, y0, y1 => (bif (decide (1 ≤ y1 ∧ y1 ≤ 20000 ∧ (y0.length : Int) < y1)) then (bif (decide (y1 < (↑xs.length : Int))) then (bif (pJmp_c0 (el xs (i64.wrap (y1 - (1 : Int)))).fst (el xs (i64.wrap (y1 - (1 : Int)))).snd.fst (el xs (i64.wrap (y1 - (1 : Int)))).snd.snd.fst (el xs (i64.wrap (y1 - (1 : Int)))).snd.snd.snd.fst (el xs (i64.wrap (y1 - (1 : Int)))).snd.snd.snd.snd (el xs y1).fst (el xs y1).snd.fst (el xs y1).snd.snd.fst (el xs y1).snd.snd.snd.fst (el xs y1).snd.snd.snd.snd) then jpA_f xs fu (y1 :: y0) (i64.wrap (y1 + (1 : Int))) else jpA_f xs fu (y0) (i64.wrap (y1 + (1 : Int)))) else some (0, (y0, y1))) else none)
theorem jpA_fs (xs : List Mv) (fu : Nat) (y0 : List Int) (y1 : Int) : jpA_f xs (fu + 1) y0 y1 = (bif (decide (1 ≤ y1 ∧ y1 ≤ 20000 ∧ (y0.length : Int) < y1)) then (bif (decide (y1 < (↑xs.length : Int))) then (bif (pJmp_c0 (el xs (i64.wrap (y1 - (1 : Int)))).fst (el xs (i64.wrap (y1 - (1 : Int)))).snd.fst (el xs (i64.wrap (y1 - (1 : Int)))).snd.snd.fst (el xs (i64.wrap (y1 - (1 : Int)))).snd.snd.snd.fst (el xs (i64.wrap (y1 - (1 : Int)))).snd.snd.snd.snd (el xs y1).fst (el xs y1).snd.fst (el xs y1).snd.snd.fst (el xs y1).snd.snd.snd.fst (el xs y1).snd.snd.snd.snd) then jpA_f xs fu (y1 :: y0) (i64.wrap (y1 + (1 : Int))) else jpA_f xs fu (y0) (i64.wrap (y1 + (1 : Int)))) else some (0, (y0, y1))) else none) := rfl
theorem jpA_f0 (xs : List Mv) (y0 : List Int) (y1 : Int) : jpA_f xs 0 y0 y1 = none := rfl
theorem jpA_loop (xs : List Mv) (hx : xs.length ≤ 10000) (hc : cAll xs = 0) : ∀ (fu : Nat) (y0 : List Int) (y1 : Int) (kk : Nat) (zz : List Int × Int), jpA_f xs fu y0 y1 = some (kk, zz) → VStep (jpA_hd xs).s.hs (jpA_S xs y0 y1 ).hs → RoundsC Try.prog [] 1 41 (jpA_hd xs).s.hs (jpA_hd xs).ro (jpA_hd xs).a (jpA_S xs y0 y1 ) (jpA_X kk) (jpA_E kk xs zz.1 zz.2 ) ∧ ((jpA_E kk xs zz.1 zz.2 )).hs.next = 41 := by
 intro fu
 induction fu with
 | zero =>
  intro y0 y1 kk zz hf hSz
  have hf := (jpA_f0 xs y0 y1 ).symm.trans hf
  simp at hf
 | succ fu ih =>
  intro y0 y1 kk zz hf hSz
  have hf := (jpA_fs xs fu y0 y1 ).symm.trans hf
  rcases bif_or hf with ⟨hi, hf⟩ | ⟨hi, hf⟩
  case inr => cases hf
  rcases bif_or hf with ⟨hq0, hf⟩ | ⟨hq0, hf⟩
  ·
   have hq1 := jpA_d0 xs hx  hc  y0 y1 hi hq0 
   have hq2 := jpA_d1 xs hx  hc  y0 y1 hi hq0 hq1 
   have hq3 := jpA_d2 xs hx  hc  y0 y1 hi hq0 hq1 hq2 
   rcases bif_or hf with ⟨hq4, hf⟩ | ⟨hq4, hf⟩
   ·
    have hq5 := jpA_d3 xs hx  hc  y0 y1 hi hq0 hq1 hq2 hq3 hq4 
    obtain ⟨sz1, kz1, kz2, kz3⟩ := body_canonR (jpA_p0 xs hx  hc  y0 y1 hi  hq0 hq1 hq2 hq3 hq4 hq5) ⟨(row_snoc (g := (gI)) rfl), (fact_size (g := (gI)) (k := 1) (fun _ => rfl) (by simp)), hq5, hq4, (seg_row (g := (gM)) (k := 5) (fun _ => rfl) (of_decide_eq_true hq3) (of_decide_eq_true hq0) (by decide) rfl), hq0, hq3, (seg_row (g := (gM)) (k := 5) (fun _ => rfl) (of_decide_eq_true hq1) (of_decide_eq_true hq2) (by decide) rfl), hq2, hq1, hq0, trivial⟩; obtain ⟨gz1, gz2⟩ := ih (y1 :: y0) (i64.wrap (y1 + (1 : Int))) kk zz hf (rounds_step mix tabP_ok (jpA_n xs hx  hc  ) (jpA_r xs hx  hc  ) (jpA_w xs hx  hc  ) kz1 hSz kz2 kz3); exact ⟨rounds_next mix tabP_ok (jpA_n xs hx  hc  ) (jpA_r xs hx  hc  ) (jpA_w xs hx  hc  ) kz1 hSz kz2 kz3 (fun _ => gz1), gz2⟩
   ·
    obtain ⟨sz1, kz1, kz2, kz3⟩ := body_canonR (jpA_p1 xs hx  hc  y0 y1 hi  hq0 hq1 hq2 hq3 hq4) ⟨hq4, (seg_row (g := (gM)) (k := 5) (fun _ => rfl) (of_decide_eq_true hq3) (of_decide_eq_true hq0) (by decide) rfl), hq0, hq3, (seg_row (g := (gM)) (k := 5) (fun _ => rfl) (of_decide_eq_true hq1) (of_decide_eq_true hq2) (by decide) rfl), hq2, hq1, hq0, trivial⟩; obtain ⟨gz1, gz2⟩ := ih (y0) (i64.wrap (y1 + (1 : Int))) kk zz hf (rounds_step mix tabP_ok (jpA_n xs hx  hc  ) (jpA_r xs hx  hc  ) (jpA_w xs hx  hc  ) kz1 hSz kz2 kz3); exact ⟨rounds_next mix tabP_ok (jpA_n xs hx  hc  ) (jpA_r xs hx  hc  ) (jpA_w xs hx  hc  ) kz1 hSz kz2 kz3 (fun _ => gz1), gz2⟩
  ·
   injection hf with hf; injection hf with e1 e2; subst e1; subst e2; obtain ⟨sz1, kz1, kz2, kz3⟩ := body_canonR (jpA_p2 xs hx  hc  y0 y1 hi  hq0) ⟨hq0, trivial⟩; exact ⟨rounds_end mix tabP_ok (jpA_n xs hx  hc  ) (jpA_r xs hx  hc  ) (jpA_w xs hx  hc  ) kz1 (fun h => by cases h) hSz kz2 kz3, jpA_q2 xs hx  hc  y0 y1 hi  hq0⟩
theorem jpA_ok (xs : List Mv) (hx : xs.length ≤ 10000) (hc : cAll xs = 0) (fu kk : Nat) (zz : List Int × Int) (hf : jpA_f xs fu [] ((1 : Int)) = some (kk, zz)) : ∀ B : Bd, B.L = [] → LoopOk Try.prog B (jpA_hd xs).ro (jpA_hd xs).a (jpA_hd xs).s (jpA_X kk) (jpA_E kk xs zz.1 zz.2 ) := by
 obtain ⟨sb1, sb2, sb3, sb4⟩ := begin_open (jpA_e0 xs hx  hc  ) (jpA_e1 xs hx  hc  )
 have hSz := begin_step2 (jpA_n xs hx  hc  ) (jpA_r xs hx  hc  ) (jpA_w xs hx  hc  ) sb2 sb3 sb4
 obtain ⟨gz1, gz2⟩ := jpA_loop xs hx  hc  fu [] ((1 : Int)) kk zz hf hSz
 exact rounds_ok (jpA_n xs hx  hc  ) (Nat.le_of_ble_eq_true (by kernel_rfl)) gz2 (rounds_begin2 (jpA_n xs hx  hc  ) (jpA_r xs hx  hc  ) (jpA_w xs hx  hc  ) sb2 sb3 sb4 (fun _ => gz1))
end Go.Proofs.Ytbhmgchkgbenmaa
