import Derived.Test.YthkjdhjfiofbpaaUF
import Derived.ProofKit
import Derived.IntWalk
set_option linter.unnecessarySimpa false
set_option linter.unusedSimpArgs false
set_option linter.unusedVariables false
namespace Go.Proofs.Ythkjdhjfiofbpaa
open Go Go.RowKit
set_option maxHeartbeats 8000000
set_option maxRecDepth 100000
attribute [local irreducible] ckX lfX lfN keL srR akX
theorem lfD (l : List Int) (f t n : Int)  : KnownR Try.prog [] 23 [.agg [.list (rowA gI l) l.length, .val (.int .i64 f), .val (.int .i64 t)], .val (.int .i64 n)] (.tuple #[.int .i64 (lfN l f t n), .int .i64 (lfX l f t n)]) ([]) := left_is l f t n
noncomputable def lfD_A (p : List Int × Int × Int × Int × Nat × Unit) : List D := match p with
 | (l, f, t, n, nn0, _) => [.agg [.list (rowA gI l) nn0, .val (.int .i64 f), .val (.int .i64 t)], .val (.int .i64 n)]
noncomputable def lfD_C (p : List Int × Int × Int × Int × Nat × Unit) : Prop := match p with
 | (l, f, t, n, nn0, _) => (nn0 = l.length) ∧ True
noncomputable def lfD_R (p : List Int × Int × Int × Int × Nat × Unit) : Value × Outs := match p with
 | (l, f, t, n, nn0, _) => (.tuple #[.int .i64 (lfN l f t n), .int .i64 (lfX l f t n)], [])
noncomputable def lfD_k : List D → Option (Value × Outs) := fnP lfD_A lfD_C lfD_R
theorem lfD_n (l : List Int) (f t n : Int) (nn0 : Nat) (hn0 : nn0 = l.length)  : KnownR Try.prog [] 23 [.agg [.list (rowA gI l) nn0, .val (.int .i64 f), .val (.int .i64 t)], .val (.int .i64 n)] (.tuple #[.int .i64 (lfN l f t n), .int .i64 (lfX l f t n)]) ([]) := by
 subst hn0; skip
 exact lfD _ _ _ _ 
theorem lfD_ok : ∀ ds v bs, lfD_k ds = some (v, bs) → KnownR Try.prog [] 23 ds v bs := fnP_ok (by
 rintro ⟨l, f, t, n, nn0, _⟩ ⟨hn0, _⟩
 exact lfD_n _ _ _ _ _ hn0 )
theorem nkD (f : Int) (hf : 1 ≤ f ∧ f ≤ 1000) : KnownR Try.prog [] 19 [.list (⟨[.int .i64 7, .int .i64 42]⟩ : Array Value) 2, .val (.int .i64 f)] (.tuple #[.agg #[.complex .f64 0 keL.length, .int .i64 f, .int .i64 (-1)], .int .i64 0]) ([(rowA gI keL.reverse, 3)]) := new_k f hf
noncomputable def nkD_A (p : Int × Unit) : List D := match p with
 | (f, _) => [.list (⟨[.int .i64 7, .int .i64 42]⟩ : Array Value) 2, .val (.int .i64 f)]
noncomputable def nkD_C (p : Int × Unit) : Prop := match p with
 | (f, _) => (1 ≤ f ∧ f ≤ 1000) ∧ True
noncomputable def nkD_R (p : Int × Unit) : Value × Outs := match p with
 | (f, _) => (.tuple #[.agg #[.complex .f64 0 keL.length, .int .i64 f, .int .i64 (-1)], .int .i64 0], [(rowA gI keL.reverse, 3)])
theorem nkD_inj : ∀ p q, nkD_C p → nkD_C q → nkD_A p = nkD_A q → nkD_R p = nkD_R q := by
 rintro ⟨f, _⟩ ⟨f', _⟩ _ _ e
 simp only [nkD_A, List.cons.injEq, D.list.injEq, D.val.injEq, D.agg.injEq, Value.int.injEq, Value.bool.injEq, Value.string.injEq, Value.agg.injEq, Array.mk.injEq, and_true, true_and, gI_inj, gB_inj, gP_inj] at e
 simp_all
noncomputable def nkD_k : List D → Option (Value × Outs) := fnP nkD_A nkD_C nkD_R
theorem nkD_n (f : Int)   (hf : 1 ≤ f ∧ f ≤ 1000) : KnownR Try.prog [] 19 [.list (⟨[.int .i64 7, .int .i64 42]⟩ : Array Value) 2, .val (.int .i64 f)] (.tuple #[.agg #[.complex .f64 0 keL.length, .int .i64 f, .int .i64 (-1)], .int .i64 0]) ([(rowA gI keL.reverse, 3)]) := by
 skip
 exact nkD _ hf
theorem nkD_ok : ∀ ds v bs, nkD_k ds = some (v, bs) → KnownR Try.prog [] 19 ds v bs := fnP_ok (by
 rintro ⟨f, _⟩ ⟨hf, _⟩
 exact nkD_n _  hf)
theorem nkD_at (f : Int)   (hf : 1 ≤ f ∧ f ≤ 1000) : nkD_k [.list (⟨[.int .i64 7, .int .i64 42]⟩ : Array Value) 2, .val (.int .i64 f)] = some (.tuple #[.agg #[.complex .f64 0 keL.length, .int .i64 f, .int .i64 (-1)], .int .i64 0], [(rowA gI keL.reverse, 3)]) := fnP_at (p := (f, ())) nkD_inj ⟨hf, trivial⟩ rfl rfl
theorem qMod (n m : Int) (hg : (decide (0 < m ∧ m ≤ 4611686018427387904)) = true) : Known Try.prog [] 20 [.int .i64 n, .int .i64 m] (.int .i64 (n % m)) := kMod (of_decide_eq_true hg)
noncomputable def qMod_k : List Value → Option (Bool × Value)
 | [.int .i64 n, .int .i64 m] => some (decide (0 < m ∧ m ≤ 4611686018427387904), .int .i64 (n % m))
 | _ => none
theorem qMod_ok : ∀ args v, qMod_k args = some (true, v) → Known Try.prog [] 20 args v := by
 intro args v h
 unfold qMod_k at h
 split at h
 ·injection h with h; injection h with hg h; subst h; exact qMod _ _ hg
 ·cases h
noncomputable def tabV : GTab := (GTab.fnD 23 lfD_k (GTab.fn 20 qMod_k GTab.none))
theorem tabV_ok : GOk Try.prog [] tabV := (GOk.fnD lfD_ok (GOk.fn qMod_ok GOk.none))
noncomputable def smA_hd (xs : List Int) : Hd := headD Try.prog [] tabV 3000 21 [.list (rowA gI xs) xs.length] [(0, .stop)]
noncomputable def smA_R (xs : List Int) (rc0 : Array Value) (rn0 : Nat) (y1 : Int) (y2 : Int) : St := (((entryR Try.prog [(.slot 3, 39)] 1 41 [7, 15, 31, 23, 11, 19, 35, 27, 9, 17, 33, 25, 13, 21, 29, 8, 16, 32, 24, 12, 20, 36, 28, 6, 10, 18, 34, 26, 14, 22, 30] 1 0 (smA_hd xs).s).rows [(1, rc0, 39)]).updF [(3, .complex .f64 1 rn0), (4, .int .i64 y1), (5, .int .i64 y2)] [])
noncomputable def smA_S (xs : List Int) (y0 : List Stp) (y1 : Int) (y2 : Int) : St := (((entryR Try.prog [(.slot 3, 39)] 1 41 [7, 15, 31, 23, 11, 19, 35, 27, 9, 17, 33, 25, 13, 21, 29, 8, 16, 32, 24, 12, 20, 36, 28, 6, 10, 18, 34, 26, 14, 22, 30] 1 0 (smA_hd xs).s).rows [(1, (rowA gP y0.reverse), 39)]).updF [(3, .complex .f64 1 y0.length), (4, .int .i64 y1), (5, .int .i64 y2)] [])
theorem smA_n (xs : List Int)  : 1 = (smA_hd xs).s.hs.next := by kernel_rfl
theorem smA_r (xs : List Int)  : (smA_hd xs).s.hs.rd < bitOf 1 := by
 have e : (smA_hd xs).s.hs.rd = 0 := by kernel_rfl
 rw [e]; exact blt_iff.1 (by kernel_rfl)
theorem smA_w (xs : List Int)  : (smA_hd xs).s.hs.wr < bitOf 1 := by
 have e : (smA_hd xs).s.hs.wr = 0 := by kernel_rfl
 rw [e]; exact blt_iff.1 (by kernel_rfl)
theorem smA_e0 (xs : List Int)  : beginS Try.prog [(.slot 3, 39)] 1 41 (sameB 1 1) [7, 15, 31, 23, 11, 19, 35, 27, 9, 17, 33, 25, 13, 21, 29, 8, 16, 32, 24, 12, 20, 36, 28, 6, 10, 18, 34, 26, 14, 22, 30] 2 1 0 (smA_hd xs).s = some (smA_S xs [] ((0 : Int)) ((0 : Int))) := by
 have h : beginS Try.prog [(.slot 3, 39)] 1 41 (sameB 1 1) [7, 15, 31, 23, 11, 19, 35, 27, 9, 17, 33, 25, 13, 21, 29, 8, 16, 32, 24, 12, 20, 36, 28, 6, 10, 18, 34, 26, 14, 22, 30] 2 1 0 (smA_hd xs).s = some (smA_R xs #[] 0 ((0 : Int)) ((0 : Int))) := by kernel_rfl
 refine h.trans (congrArg some ?_)
 show smA_R xs #[] 0 ((0 : Int)) ((0 : Int)) = smA_R xs (rowA gP ([] : List Stp).reverse) ([] : List Stp).length ((0 : Int)) ((0 : Int))
 first | (simp only [List.reverse_nil, rowA_nil, List.length_nil, List.reverse_reverse, List.length_reverse]; done) | rfl | (simp only [List.reverse_nil, rowA_nil, List.length_nil, List.reverse_reverse, List.length_reverse]; rfl)
theorem smA_e1 (xs : List Int)  : beginOk Try.prog [(.slot 3, 39)] 1 41 (sameB 1 1) 2 (smA_hd xs).s = true := by kernel_rfl
def smA_X : Nat → VX
 | 0 => .exit 0
 | _ => .normal
noncomputable def smA_E (kE : Nat) (xs : List Int) (y0 : List Stp) (y1 : Int) (y2 : Int) : St := match kE with
 | 0 => (((bodySt (bodyR Try.prog ([] : Vars).length tabV 3000 (smA_hd xs) (smA_S xs y0 y1 y2 ) [(0, .b 1), (3, .b 0)] 1 41 [(1, 1)] [7, 15, 31, 23, 11, 19, 35, 27, 9, 17, 33, 25, 13, 21, 29, 8, 16, 32, 24, 12, 20, 36, 28, 6, 10, 18, 34, 26, 14, 22, 30] 41 1 0)).rows [(1, rowA gP y0.reverse, 39)]).updF [(3, .complex .f64 1 y0.length), (4, .int .i64 y1), (5, .int .i64 y2)] [])
 | _ => (smA_hd xs).s
noncomputable def smA_b3 (xs : List Int) (y0 : List Stp) (y1 : Int) (y2 : Int) : Bool := decide ((IntKind.i64.wrap ((el xs y2 % (65536 : Int)).tdiv (17 : Int))).tmod (3 : Int) = (0 : Int))
noncomputable def smA_b5 (xs : List Int) (y0 : List Stp) (y1 : Int) (y2 : Int) : Bool := decide ((IntKind.i64.wrap ((el xs y2 % (65536 : Int)).tdiv (17 : Int))).tmod (3 : Int) = (1 : Int))
noncomputable def smA_b6 (xs : List Int) (y0 : List Stp) (y1 : Int) (y2 : Int) : Bool := decide ((IntKind.i64.wrap ((el xs y2 % (65536 : Int)).tdiv (17 : Int))).tmod (3 : Int) = (2 : Int))
theorem smA_p0 (xs : List Int) (y0 : List Stp) (y1 : Int) (y2 : Int) : bodyR Try.prog ([] : Vars).length tabV 3000 (smA_hd xs) (smA_S xs y0 y1 y2 ) [(0, .b 1), (3, .b 1), (4, .b 1), (5, .b 1), (6, .vals ([Value.int IntKind.i64 (el xs y2)])), (11, .b 0), (12, .b 1), (13, .yes), (14, .arr (rowA (gP) (((IntKind.i64.wrap (y1 + (el xs y2 % (65536 : Int)).tmod (17 : Int)), (7 : Int)) :: y0).reverse)))] 1 41 [(4, 1)] [7, 15, 31, 23, 11, 19, 35, 27, 9, 17, 33, 25, 13, 21, 29, 8, 16, 32, 24, 12, 20, 36, 28, 6, 10, 18, 34, 26, 14, 22, 30] 2 1 0 = some (.normal, (smA_S xs ((IntKind.i64.wrap (y1 + (el xs y2 % (65536 : Int)).tmod (17 : Int)), (7 : Int)) :: y0) (IntKind.i64.wrap (y1 + (el xs y2 % (65536 : Int)).tmod (17 : Int))) (IntKind.i64.wrap (y2 + (1 : Int)))), [((rowA (gP) (y0.reverse)).toList ++ ([Value.int IntKind.i64 (IntKind.i64.wrap (y1 + (el xs y2 % (65536 : Int)).tmod (17 : Int))), Value.int IntKind.i64 (7 : Int)])).toArray = rowA (gP) (((IntKind.i64.wrap (y1 + (el xs y2 % (65536 : Int)).tmod (17 : Int)), (7 : Int)) :: y0).reverse), ((rowA gP y0.reverse).size.beq (y0.length.mul Try.prog.types[(39 : Nat)].size)) = true, (decide ((y0.length + (1 : Nat)) * (16 : Nat) < (1000000000 : Nat))) = true, ((IntKind.i64.wrap ((el xs y2 % (65536 : Int)).tdiv (17 : Int))).tmod (3 : Int)) = (0 : Int), segC (rowA (gI) (xs)) (((y2).toNat) * 1 + 0) 1 = some ([Value.int IntKind.i64 (el xs y2)]), (decide (y2 < (↑xs.length : Int))) = true, (decide ((0 : Int) ≤ y2)) = true, (decide (y2 < (30 : Int))) = true, (decide (y2 < (↑xs.length : Int))) = true]) := by kernel_rfl
theorem smA_p1 (xs : List Int) (y0 : List Stp) (y1 : Int) (y2 : Int) : bodyR Try.prog ([] : Vars).length tabV 3000 (smA_hd xs) (smA_S xs y0 y1 y2 ) [(0, .b 1), (3, .b 1), (4, .b 1), (5, .b 1), (6, .vals ([Value.int IntKind.i64 (el xs y2)])), (11, .b 1), (12, .b 1), (13, .yes), (14, .arr (rowA (gP) (((IntKind.i64.wrap (y1 + (el xs y2 % (65536 : Int)).tmod (17 : Int)), (42 : Int)) :: y0).reverse)))] 1 41 [(4, 1)] [7, 15, 31, 23, 11, 19, 35, 27, 9, 17, 33, 25, 13, 21, 29, 8, 16, 32, 24, 12, 20, 36, 28, 6, 10, 18, 34, 26, 14, 22, 30] 2 1 0 = some (.normal, (smA_S xs ((IntKind.i64.wrap (y1 + (el xs y2 % (65536 : Int)).tmod (17 : Int)), (42 : Int)) :: y0) (IntKind.i64.wrap (y1 + (el xs y2 % (65536 : Int)).tmod (17 : Int))) (IntKind.i64.wrap (y2 + (1 : Int)))), [((rowA (gP) (y0.reverse)).toList ++ ([Value.int IntKind.i64 (IntKind.i64.wrap (y1 + (el xs y2 % (65536 : Int)).tmod (17 : Int))), Value.int IntKind.i64 (42 : Int)])).toArray = rowA (gP) (((IntKind.i64.wrap (y1 + (el xs y2 % (65536 : Int)).tmod (17 : Int)), (42 : Int)) :: y0).reverse), ((rowA gP y0.reverse).size.beq (y0.length.mul Try.prog.types[(39 : Nat)].size)) = true, (decide ((y0.length + (1 : Nat)) * (16 : Nat) < (1000000000 : Nat))) = true, ((IntKind.i64.wrap ((el xs y2 % (65536 : Int)).tdiv (17 : Int))).tmod (3 : Int)) = (1 : Int), segC (rowA (gI) (xs)) (((y2).toNat) * 1 + 0) 1 = some ([Value.int IntKind.i64 (el xs y2)]), (decide (y2 < (↑xs.length : Int))) = true, (decide ((0 : Int) ≤ y2)) = true, (decide (y2 < (30 : Int))) = true, (decide (y2 < (↑xs.length : Int))) = true]) := by kernel_rfl
theorem smA_p2 (xs : List Int) (y0 : List Stp) (y1 : Int) (y2 : Int) : bodyR Try.prog ([] : Vars).length tabV 3000 (smA_hd xs) (smA_S xs y0 y1 y2 ) [(0, .b 1), (3, .b 1), (4, .b 1), (5, .b 1), (6, .vals ([Value.int IntKind.i64 (el xs y2)])), (11, .b 2), (12, .b 1), (13, .yes), (14, .arr (rowA (gP) (((IntKind.i64.wrap (y1 + (el xs y2 % (65536 : Int)).tmod (17 : Int)), (9 : Int)) :: y0).reverse)))] 1 41 [(4, 1)] [7, 15, 31, 23, 11, 19, 35, 27, 9, 17, 33, 25, 13, 21, 29, 8, 16, 32, 24, 12, 20, 36, 28, 6, 10, 18, 34, 26, 14, 22, 30] 2 1 0 = some (.normal, (smA_S xs ((IntKind.i64.wrap (y1 + (el xs y2 % (65536 : Int)).tmod (17 : Int)), (9 : Int)) :: y0) (IntKind.i64.wrap (y1 + (el xs y2 % (65536 : Int)).tmod (17 : Int))) (IntKind.i64.wrap (y2 + (1 : Int)))), [((rowA (gP) (y0.reverse)).toList ++ ([Value.int IntKind.i64 (IntKind.i64.wrap (y1 + (el xs y2 % (65536 : Int)).tmod (17 : Int))), Value.int IntKind.i64 (9 : Int)])).toArray = rowA (gP) (((IntKind.i64.wrap (y1 + (el xs y2 % (65536 : Int)).tmod (17 : Int)), (9 : Int)) :: y0).reverse), ((rowA gP y0.reverse).size.beq (y0.length.mul Try.prog.types[(39 : Nat)].size)) = true, (decide ((y0.length + (1 : Nat)) * (16 : Nat) < (1000000000 : Nat))) = true, ((IntKind.i64.wrap ((el xs y2 % (65536 : Int)).tdiv (17 : Int))).tmod (3 : Int)) = (2 : Int), segC (rowA (gI) (xs)) (((y2).toNat) * 1 + 0) 1 = some ([Value.int IntKind.i64 (el xs y2)]), (decide (y2 < (↑xs.length : Int))) = true, (decide ((0 : Int) ≤ y2)) = true, (decide (y2 < (30 : Int))) = true, (decide (y2 < (↑xs.length : Int))) = true]) := by kernel_rfl
theorem smA_p3 (xs : List Int) (y0 : List Stp) (y1 : Int) (y2 : Int) : bodyR Try.prog ([] : Vars).length tabV 3000 (smA_hd xs) (smA_S xs y0 y1 y2 ) [(0, .b 1), (3, .b 0)] 1 41 [(1, 1)] [7, 15, 31, 23, 11, 19, 35, 27, 9, 17, 33, 25, 13, 21, 29, 8, 16, 32, 24, 12, 20, 36, 28, 6, 10, 18, 34, 26, 14, 22, 30] 41 1 0 = some (.exit 0, smA_E 0 xs (y0) (y1) (y2) , [(decide (y2 < (30 : Int))) = false, (decide (y2 < (↑xs.length : Int))) = true]) := by kernel_rfl
theorem smA_q3 (xs : List Int) (y0 : List Stp) (y1 : Int) (y2 : Int) : (smA_E 0 xs (y0) (y1) (y2) ).hs.next = 41 := by kernel_rfl
theorem smA_p4 (xs : List Int) (y0 : List Stp) (y1 : Int) (y2 : Int) : bodyR Try.prog ([] : Vars).length tabV 3000 (smA_hd xs) (smA_S xs y0 y1 y2 ) [(0, .b 0)] 1 41 [(1, 1)] [7, 15, 31, 23, 11, 19, 35, 27, 9, 17, 33, 25, 13, 21, 29, 8, 16, 32, 24, 12, 20, 36, 28, 6, 10, 18, 34, 26, 14, 22, 30] 41 1 0 = some (.exit 0, smA_E 0 xs (y0) (y1) (y2) , [(decide (y2 < (↑xs.length : Int))) = false]) := by kernel_rfl
theorem smA_q4 (xs : List Int) (y0 : List Stp) (y1 : Int) (y2 : Int) : (smA_E 0 xs (y0) (y1) (y2) ).hs.next = 41 := by kernel_rfl
theorem smA_d0 (xs : List Int)  (y0 : List Stp) (y1 : Int) (y2 : Int) (hi : (decide (0 ≤ y2 ∧ y2 ≤ 30 ∧ (y0.length : Int) ≤ y2 ∧ 0 ≤ y1 ∧ y1 ≤ 1000)) = true) (hq0 : (decide (y2 < (↑xs.length : Int))) = true) (hq1 : (decide (y2 < (30 : Int))) = true) : (decide ((0 : Int) ≤ y2)) = true := by
 rcases Bool.eq_false_or_eq_true (decide ((0 : Int) ≤ y2)) with h | h
 ·exact h
 ·exfalso; (first | (simp_all only [Bool.and_eq_true, Bool.not_eq_true', Bool.false_eq_true, Bool.true_eq_false, reduceCtorEq]; done) | (simp only [sx, sy, eq_self, ne_eq, IntKind.wrap_i64, wrapU64, Int.reduceLT] at * <;> first | contradiction | omega) | omega | ((try simp only [sx, sy, eq_self, ne_eq, IntKind.wrap_i64, wrapU64, Int.reduceLT] at *) <;> omega) | (simp_all; done))
theorem smA_d1 (xs : List Int)  (y0 : List Stp) (y1 : Int) (y2 : Int) (hi : (decide (0 ≤ y2 ∧ y2 ≤ 30 ∧ (y0.length : Int) ≤ y2 ∧ 0 ≤ y1 ∧ y1 ≤ 1000)) = true) (hq0 : (decide (y2 < (↑xs.length : Int))) = true) (hq1 : (decide (y2 < (30 : Int))) = true) (hq2 : (decide ((0 : Int) ≤ y2)) = true) (hq3 : (smA_b3 xs y0 y1 y2 ) = true) : (decide ((y0.length + (1 : Nat)) * (16 : Nat) < (1000000000 : Nat))) = true := by
 rcases Bool.eq_false_or_eq_true (decide ((y0.length + (1 : Nat)) * (16 : Nat) < (1000000000 : Nat))) with h | h
 ·exact h
 ·exfalso; (try simp only [smA_b3] at *); (first | (simp_all only [Bool.and_eq_true, Bool.not_eq_true', Bool.false_eq_true, Bool.true_eq_false, reduceCtorEq]; done) | (simp only [sx, sy, eq_self, ne_eq, IntKind.wrap_i64, wrapU64, Int.reduceLT] at * <;> first | contradiction | omega) | omega | ((try simp only [sx, sy, eq_self, ne_eq, IntKind.wrap_i64, wrapU64, Int.reduceLT] at *) <;> omega) | (simp_all; done))
theorem smA_d2 (xs : List Int)  (y0 : List Stp) (y1 : Int) (y2 : Int) (hi : (decide (0 ≤ y2 ∧ y2 ≤ 30 ∧ (y0.length : Int) ≤ y2 ∧ 0 ≤ y1 ∧ y1 ≤ 1000)) = true) (hq0 : (decide (y2 < (↑xs.length : Int))) = true) (hq1 : (decide (y2 < (30 : Int))) = true) (hq2 : (decide ((0 : Int) ≤ y2)) = true) (hq3 : (smA_b3 xs y0 y1 y2 ) = false) (hq5 : (smA_b5 xs y0 y1 y2 ) = true) : (decide ((y0.length + (1 : Nat)) * (16 : Nat) < (1000000000 : Nat))) = true := by
 rcases Bool.eq_false_or_eq_true (decide ((y0.length + (1 : Nat)) * (16 : Nat) < (1000000000 : Nat))) with h | h
 ·exact h
 ·exfalso; (try simp only [smA_b3, smA_b5] at *); (first | (simp_all only [Bool.and_eq_true, Bool.not_eq_true', Bool.false_eq_true, Bool.true_eq_false, reduceCtorEq]; done) | (simp only [sx, sy, eq_self, ne_eq, IntKind.wrap_i64, wrapU64, Int.reduceLT] at * <;> first | contradiction | omega) | omega | ((try simp only [sx, sy, eq_self, ne_eq, IntKind.wrap_i64, wrapU64, Int.reduceLT] at *) <;> omega) | (simp_all; done))
theorem smA_d3 (xs : List Int)  (y0 : List Stp) (y1 : Int) (y2 : Int) (hi : (decide (0 ≤ y2 ∧ y2 ≤ 30 ∧ (y0.length : Int) ≤ y2 ∧ 0 ≤ y1 ∧ y1 ≤ 1000)) = true) (hq0 : (decide (y2 < (↑xs.length : Int))) = true) (hq1 : (decide (y2 < (30 : Int))) = true) (hq2 : (decide ((0 : Int) ≤ y2)) = true) (hq3 : (smA_b3 xs y0 y1 y2 ) = false) (hq5 : (smA_b5 xs y0 y1 y2 ) = false) : (smA_b6 xs y0 y1 y2 ) = true := by
 rcases Bool.eq_false_or_eq_true (smA_b6 xs y0 y1 y2 ) with h | h
 ·exact h
 ·exfalso; (try simp only [smA_b6, smA_b3, smA_b5] at *); (first | (simp_all only [Bool.and_eq_true, Bool.not_eq_true', Bool.false_eq_true, Bool.true_eq_false, reduceCtorEq]; done) | (simp only [sx, sy, eq_self, ne_eq, IntKind.wrap_i64, wrapU64, Int.reduceLT] at * <;> first | contradiction | omega) | omega | ((try simp only [sx, sy, eq_self, ne_eq, IntKind.wrap_i64, wrapU64, Int.reduceLT] at *) <;> omega) | (simp_all; done))
theorem smA_d4 (xs : List Int)  (y0 : List Stp) (y1 : Int) (y2 : Int) (hi : (decide (0 ≤ y2 ∧ y2 ≤ 30 ∧ (y0.length : Int) ≤ y2 ∧ 0 ≤ y1 ∧ y1 ≤ 1000)) = true) (hq0 : (decide (y2 < (↑xs.length : Int))) = true) (hq1 : (decide (y2 < (30 : Int))) = true) (hq2 : (decide ((0 : Int) ≤ y2)) = true) (hq3 : (smA_b3 xs y0 y1 y2 ) = false) (hq5 : (smA_b5 xs y0 y1 y2 ) = false) (hq6 : (smA_b6 xs y0 y1 y2 ) = true) : (decide ((y0.length + (1 : Nat)) * (16 : Nat) < (1000000000 : Nat))) = true := by
 rcases Bool.eq_false_or_eq_true (decide ((y0.length + (1 : Nat)) * (16 : Nat) < (1000000000 : Nat))) with h | h
 ·exact h
 ·exfalso; (try simp only [smA_b3, smA_b5, smA_b6] at *); (first | (simp_all only [Bool.and_eq_true, Bool.not_eq_true', Bool.false_eq_true, Bool.true_eq_false, reduceCtorEq]; done) | (simp only [sx, sy, eq_self, ne_eq, IntKind.wrap_i64, wrapU64, Int.reduceLT] at * <;> first | contradiction | omega) | omega | ((try simp only [sx, sy, eq_self, ne_eq, IntKind.wrap_i64, wrapU64, Int.reduceLT] at *) <;> omega) | (simp_all; done))
noncomputable def smA_f (xs : List Int) : Nat → List Stp → Int → Int → Option (Nat × (List Stp × Int × Int))
 | 0, _, _, _ => none
 | fu + 1, y0, y1, y2 => (bif (decide (0 ≤ y2 ∧ y2 ≤ 30 ∧ (y0.length : Int) ≤ y2 ∧ 0 ≤ y1 ∧ y1 ≤ 1000)) then (bif (decide (y2 < (↑xs.length : Int))) then (bif (decide (y2 < (30 : Int))) then (bif (decide ((IntKind.i64.wrap ((el xs y2 % (65536 : Int)).tdiv (17 : Int))).tmod (3 : Int) = (0 : Int))) then smA_f xs fu ((IntKind.i64.wrap (y1 + (el xs y2 % (65536 : Int)).tmod (17 : Int)), (7 : Int)) :: y0) (IntKind.i64.wrap (y1 + (el xs y2 % (65536 : Int)).tmod (17 : Int))) (IntKind.i64.wrap (y2 + (1 : Int))) else (bif (decide ((IntKind.i64.wrap ((el xs y2 % (65536 : Int)).tdiv (17 : Int))).tmod (3 : Int) = (1 : Int))) then smA_f xs fu ((IntKind.i64.wrap (y1 + (el xs y2 % (65536 : Int)).tmod (17 : Int)), (42 : Int)) :: y0) (IntKind.i64.wrap (y1 + (el xs y2 % (65536 : Int)).tmod (17 : Int))) (IntKind.i64.wrap (y2 + (1 : Int))) else smA_f xs fu ((IntKind.i64.wrap (y1 + (el xs y2 % (65536 : Int)).tmod (17 : Int)), (9 : Int)) :: y0) (IntKind.i64.wrap (y1 + (el xs y2 % (65536 : Int)).tmod (17 : Int))) (IntKind.i64.wrap (y2 + (1 : Int))))) else some (0, ((y0), (y1), (y2)))) else some (0, ((y0), (y1), (y2)))) else none)
theorem smA_fs (xs : List Int) (fu : Nat) (y0 : List Stp) (y1 : Int) (y2 : Int) : smA_f xs (fu + 1) y0 y1 y2 = (bif (decide (0 ≤ y2 ∧ y2 ≤ 30 ∧ (y0.length : Int) ≤ y2 ∧ 0 ≤ y1 ∧ y1 ≤ 1000)) then (bif (decide (y2 < (↑xs.length : Int))) then (bif (decide (y2 < (30 : Int))) then (bif (decide ((IntKind.i64.wrap ((el xs y2 % (65536 : Int)).tdiv (17 : Int))).tmod (3 : Int) = (0 : Int))) then smA_f xs fu ((IntKind.i64.wrap (y1 + (el xs y2 % (65536 : Int)).tmod (17 : Int)), (7 : Int)) :: y0) (IntKind.i64.wrap (y1 + (el xs y2 % (65536 : Int)).tmod (17 : Int))) (IntKind.i64.wrap (y2 + (1 : Int))) else (bif (decide ((IntKind.i64.wrap ((el xs y2 % (65536 : Int)).tdiv (17 : Int))).tmod (3 : Int) = (1 : Int))) then smA_f xs fu ((IntKind.i64.wrap (y1 + (el xs y2 % (65536 : Int)).tmod (17 : Int)), (42 : Int)) :: y0) (IntKind.i64.wrap (y1 + (el xs y2 % (65536 : Int)).tmod (17 : Int))) (IntKind.i64.wrap (y2 + (1 : Int))) else smA_f xs fu ((IntKind.i64.wrap (y1 + (el xs y2 % (65536 : Int)).tmod (17 : Int)), (9 : Int)) :: y0) (IntKind.i64.wrap (y1 + (el xs y2 % (65536 : Int)).tmod (17 : Int))) (IntKind.i64.wrap (y2 + (1 : Int))))) else some (0, ((y0), (y1), (y2)))) else some (0, ((y0), (y1), (y2)))) else none) := rfl
theorem smA_f0 (xs : List Int) (y0 : List Stp) (y1 : Int) (y2 : Int) : smA_f xs 0 y0 y1 y2 = none := rfl
theorem smA_loop (xs : List Int)  : ∀ (fu : Nat) (y0 : List Stp) (y1 : Int) (y2 : Int) (kk : Nat) (zz : List Stp × Int × Int), smA_f xs fu y0 y1 y2 = some (kk, zz) → VStep (smA_hd xs).s.hs (smA_S xs y0 y1 y2 ).hs → RoundsC Try.prog [] 1 41 (smA_hd xs).s.hs (smA_hd xs).ro (smA_hd xs).a (smA_S xs y0 y1 y2 ) (smA_X kk) (smA_E kk xs zz.1 zz.2.1 zz.2.2 ) ∧ ((smA_E kk xs zz.1 zz.2.1 zz.2.2 )).hs.next = 41 := by
 intro fu
 induction fu with
 | zero =>
  intro y0 y1 y2 kk zz hf hSz
  have hf := (smA_f0 xs y0 y1 y2 ).symm.trans hf
  simp at hf
 | succ fu ih =>
  intro y0 y1 y2 kk zz hf hSz
  have hf := (smA_fs xs fu y0 y1 y2 ).symm.trans hf
  rcases bif_or hf with ⟨hi, hf⟩ | ⟨hi, hf⟩
  case inr => cases hf
  rcases bif_or hf with ⟨hq0, hf⟩ | ⟨hq0, hf⟩
  ·
   rcases bif_or hf with ⟨hq1, hf⟩ | ⟨hq1, hf⟩
   ·
    have hq2 := smA_d0 xs y0 y1 y2 hi hq0 hq1 
    rcases bif_or hf with ⟨hq3, hf⟩ | ⟨hq3, hf⟩
    ·
     have hq4 := smA_d1 xs y0 y1 y2 hi hq0 hq1 hq2 hq3 
     have hb1 := smA_p0 xs y0 y1 y2 ; have hb2 := body_canonR hb1; have hb3 := hb2 ⟨(row_snoc (g := (gP)) rfl), (fact_size (g := (gP)) (k := 2) (fun _ => rfl) (by first | (simp; done) | (simp only [Nat.add_eq, Nat.sub_eq, List.length_take, List.length_drop, List.length_append, List.length_cons, List.length_nil, List.length_reverse, List.length_set]; omega) | (have hx2 := of_decide_eq_true hi; simp only [List.length_reverse, List.length_set] at *; omega))), hq4, (of_decide_eq_true hq3), (seg_row (g := (gI)) (k := 1) (fun _ => rfl) (by first | exact of_decide_eq_true hq2 | simpa using of_decide_eq_true hq2) (by first | exact of_decide_eq_true hq0 | (simpa using of_decide_eq_true hq0; done) | (have hx1 := of_decide_eq_true hq0; have hx2 := of_decide_eq_true hi; simp only [List.length_reverse, List.length_set] at *; omega)) (by decide) rfl), hq0, hq2, hq1, hq0, trivial⟩; obtain ⟨sz1, kz1, kz2, kz3⟩ := hb3; obtain ⟨gz1, gz2⟩ := ih ((IntKind.i64.wrap (y1 + (el xs y2 % (65536 : Int)).tmod (17 : Int)), (7 : Int)) :: y0) (IntKind.i64.wrap (y1 + (el xs y2 % (65536 : Int)).tmod (17 : Int))) (IntKind.i64.wrap (y2 + (1 : Int))) kk zz hf (rounds_step mix (T := tabV) tabV_ok (smA_n xs ) (smA_r xs ) (smA_w xs ) kz1 hSz kz2 kz3); exact ⟨rounds_next mix (T := tabV) tabV_ok (smA_n xs ) (smA_r xs ) (smA_w xs ) kz1 hSz kz2 kz3 (fun _ => gz1), gz2⟩
    ·
     rcases bif_or hf with ⟨hq5, hf⟩ | ⟨hq5, hf⟩
     ·
      have hq4 := smA_d2 xs y0 y1 y2 hi hq0 hq1 hq2 hq3 hq5 
      have hb1 := smA_p1 xs y0 y1 y2 ; have hb2 := body_canonR hb1; have hb3 := hb2 ⟨(row_snoc (g := (gP)) rfl), (fact_size (g := (gP)) (k := 2) (fun _ => rfl) (by first | (simp; done) | (simp only [Nat.add_eq, Nat.sub_eq, List.length_take, List.length_drop, List.length_append, List.length_cons, List.length_nil, List.length_reverse, List.length_set]; omega) | (have hx2 := of_decide_eq_true hi; simp only [List.length_reverse, List.length_set] at *; omega))), hq4, (of_decide_eq_true hq5), (seg_row (g := (gI)) (k := 1) (fun _ => rfl) (by first | exact of_decide_eq_true hq2 | simpa using of_decide_eq_true hq2) (by first | exact of_decide_eq_true hq0 | (simpa using of_decide_eq_true hq0; done) | (have hx1 := of_decide_eq_true hq0; have hx2 := of_decide_eq_true hi; simp only [List.length_reverse, List.length_set] at *; omega)) (by decide) rfl), hq0, hq2, hq1, hq0, trivial⟩; obtain ⟨sz1, kz1, kz2, kz3⟩ := hb3; obtain ⟨gz1, gz2⟩ := ih ((IntKind.i64.wrap (y1 + (el xs y2 % (65536 : Int)).tmod (17 : Int)), (42 : Int)) :: y0) (IntKind.i64.wrap (y1 + (el xs y2 % (65536 : Int)).tmod (17 : Int))) (IntKind.i64.wrap (y2 + (1 : Int))) kk zz hf (rounds_step mix (T := tabV) tabV_ok (smA_n xs ) (smA_r xs ) (smA_w xs ) kz1 hSz kz2 kz3); exact ⟨rounds_next mix (T := tabV) tabV_ok (smA_n xs ) (smA_r xs ) (smA_w xs ) kz1 hSz kz2 kz3 (fun _ => gz1), gz2⟩
     ·
      have hq6 := smA_d3 xs y0 y1 y2 hi hq0 hq1 hq2 hq3 hq5 
      have hq4 := smA_d4 xs y0 y1 y2 hi hq0 hq1 hq2 hq3 hq5 hq6 
      have hb1 := smA_p2 xs y0 y1 y2 ; have hb2 := body_canonR hb1; have hb3 := hb2 ⟨(row_snoc (g := (gP)) rfl), (fact_size (g := (gP)) (k := 2) (fun _ => rfl) (by first | (simp; done) | (simp only [Nat.add_eq, Nat.sub_eq, List.length_take, List.length_drop, List.length_append, List.length_cons, List.length_nil, List.length_reverse, List.length_set]; omega) | (have hx2 := of_decide_eq_true hi; simp only [List.length_reverse, List.length_set] at *; omega))), hq4, (of_decide_eq_true hq6), (seg_row (g := (gI)) (k := 1) (fun _ => rfl) (by first | exact of_decide_eq_true hq2 | simpa using of_decide_eq_true hq2) (by first | exact of_decide_eq_true hq0 | (simpa using of_decide_eq_true hq0; done) | (have hx1 := of_decide_eq_true hq0; have hx2 := of_decide_eq_true hi; simp only [List.length_reverse, List.length_set] at *; omega)) (by decide) rfl), hq0, hq2, hq1, hq0, trivial⟩; obtain ⟨sz1, kz1, kz2, kz3⟩ := hb3; obtain ⟨gz1, gz2⟩ := ih ((IntKind.i64.wrap (y1 + (el xs y2 % (65536 : Int)).tmod (17 : Int)), (9 : Int)) :: y0) (IntKind.i64.wrap (y1 + (el xs y2 % (65536 : Int)).tmod (17 : Int))) (IntKind.i64.wrap (y2 + (1 : Int))) kk zz hf (rounds_step mix (T := tabV) tabV_ok (smA_n xs ) (smA_r xs ) (smA_w xs ) kz1 hSz kz2 kz3); exact ⟨rounds_next mix (T := tabV) tabV_ok (smA_n xs ) (smA_r xs ) (smA_w xs ) kz1 hSz kz2 kz3 (fun _ => gz1), gz2⟩
   ·
    injection hf with hf; injection hf with e1 e2; subst e1; subst e2; have hb1 := smA_p3 xs y0 y1 y2 ; have hb2 := body_canonR hb1; have hb3 := hb2 ⟨hq1, hq0, trivial⟩; obtain ⟨sz1, kz1, kz2, kz3⟩ := hb3; exact ⟨rounds_end mix (T := tabV) tabV_ok (smA_n xs ) (smA_r xs ) (smA_w xs ) kz1 (fun h => by cases h) hSz kz2 kz3, smA_q3 xs y0 y1 y2 ⟩
  ·
   injection hf with hf; injection hf with e1 e2; subst e1; subst e2; have hb1 := smA_p4 xs y0 y1 y2 ; have hb2 := body_canonR hb1; have hb3 := hb2 ⟨hq0, trivial⟩; obtain ⟨sz1, kz1, kz2, kz3⟩ := hb3; exact ⟨rounds_end mix (T := tabV) tabV_ok (smA_n xs ) (smA_r xs ) (smA_w xs ) kz1 (fun h => by cases h) hSz kz2 kz3, smA_q4 xs y0 y1 y2 ⟩
theorem smA_ok (xs : List Int)  (fu kk : Nat) (zz : List Stp × Int × Int) (hf : smA_f xs fu [] ((0 : Int)) ((0 : Int)) = some (kk, zz)) : ∀ B : Bd, B.L = [] → LoopOk Try.prog B (smA_hd xs).ro (smA_hd xs).a (smA_hd xs).s (smA_X kk) (smA_E kk xs zz.1 zz.2.1 zz.2.2 ) := by
 obtain ⟨sb1, sb2, sb3, sb4⟩ := begin_open (smA_e0 xs ) (smA_e1 xs )
 have hSz := begin_step2 (smA_n xs ) (smA_r xs ) (smA_w xs ) sb2 sb3 sb4
 obtain ⟨gz1, gz2⟩ := smA_loop xs fu [] ((0 : Int)) ((0 : Int)) kk zz hf hSz
 exact rounds_ok (smA_n xs ) (Nat.le_of_ble_eq_true (by kernel_rfl)) gz2 (rounds_begin2 (smA_n xs ) (smA_r xs ) (smA_w xs ) sb2 sb3 sb4 (fun _ => gz1))
end Go.Proofs.Ythkjdhjfiofbpaa
