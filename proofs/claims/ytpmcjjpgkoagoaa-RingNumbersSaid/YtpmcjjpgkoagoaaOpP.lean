/- Layer 5: RingNumbers. -/
import Derived.Test.YtpmcjjpgkoagoaaYN
import Derived.ProofKit
import Derived.IntWalk
namespace Go.Proofs.Ytpmcjjpgkoagoaa
open Go Go.RowKit
set_option linter.unusedVariables false
set_option linter.unusedSimpArgs false
set_option linter.unnecessarySimpa false
set_option maxHeartbeats 8000000
set_option maxRecDepth 100000
attribute [local irreducible] wN mL mG mM ckX
theorem maD (n : Int) (xs : List Int)  : KnownR Try.prog [] 36 [.val (.int .i64 n), .list (rowA gI xs) xs.length] (.tuple #[.agg #[.int .i64 (wN n), .int .u64 (mM n xs), .complex .f64 0 (mL n xs).length], .complex .f64 1 (mG n xs).length, .bool true]) ([(rowA gH (mL n xs), 35), (rowA gN (mG n xs), 22)]) := made_is n xs
noncomputable def maD_A (p : Int × List Int × Nat × Unit) : List D := match p with
  | (n, xs, nn0, _) => [.val (.int .i64 n), .list (rowA gI xs) nn0]
noncomputable def maD_C (p : Int × List Int × Nat × Unit) : Prop := match p with
  | (n, xs, nn0, _) => (nn0 = xs.length) ∧ True
noncomputable def maD_R (p : Int × List Int × Nat × Unit) : Value × Outs := match p with
  | (n, xs, nn0, _) => (.tuple #[.agg #[.int .i64 (wN n), .int .u64 (mM n xs), .complex .f64 0 (mL n xs).length], .complex .f64 1 (mG n xs).length, .bool true], [(rowA gH (mL n xs), 35), (rowA gN (mG n xs), 22)])
theorem maD_inj : ∀ p q, maD_C p → maD_C q → maD_A p = maD_A q → maD_R p = maD_R q := by
  rintro ⟨n, xs, nn0, _⟩ ⟨n', xs', nn0', _⟩ _ _ e
  simp only [maD_A, List.cons.injEq, D.list.injEq, D.val.injEq, D.agg.injEq, Value.int.injEq, Value.bool.injEq, Value.string.injEq, Value.agg.injEq, Array.mk.injEq, and_true, true_and, gI_inj, gB_inj, gH_inj, gN_inj] at e
  simp_all
noncomputable def maD_k : List D → Option (Value × Outs) := fnP maD_A maD_C maD_R
theorem maD_n (n : Int) (xs : List Int) (nn0 : Nat) (hn0 : nn0 = xs.length)  : KnownR Try.prog [] 36 [.val (.int .i64 n), .list (rowA gI xs) nn0] (.tuple #[.agg #[.int .i64 (wN n), .int .u64 (mM n xs), .complex .f64 0 (mL n xs).length], .complex .f64 1 (mG n xs).length, .bool true]) ([(rowA gH (mL n xs), 35), (rowA gN (mG n xs), 22)]) := by
  subst hn0; skip
  exact maD _ _ 
theorem maD_ok : ∀ ds v bs, maD_k ds = some (v, bs) → KnownR Try.prog [] 36 ds v bs := fnP_ok (by
  rintro ⟨n, xs, nn0, _⟩ ⟨hn0, _⟩
  exact maD_n _ _ _ hn0 )
theorem maD_at (n : Int) (xs : List Int) (nn0 : Nat) (hn0 : nn0 = xs.length)  : maD_k [.val (.int .i64 n), .list (rowA gI xs) nn0] = some (.tuple #[.agg #[.int .i64 (wN n), .int .u64 (mM n xs), .complex .f64 0 (mL n xs).length], .complex .f64 1 (mG n xs).length, .bool true], [(rowA gH (mL n xs), 35), (rowA gN (mG n xs), 22)]) := fnP_at (p := (n, xs, nn0, ())) maD_inj ⟨hn0, trivial⟩ rfl rfl
theorem reV (c m : Int) (l : List Hel) (hk : ckX c m l = 0) : KnownR Try.prog [] 22 [.agg [.val (.int .i64 c), .val (.int .u64 m), .list (rowA gH l) l.length]] (.tuple #[.int .i64 (c - (l.length : Int)), .int .i64 0]) ([]) := restV hk
noncomputable def reV_A (p : Int × Int × List Hel × Nat × Unit) : List D := match p with
  | (c, m, l, nn0, _) => [.agg [.val (.int .i64 c), .val (.int .u64 m), .list (rowA gH l) nn0]]
noncomputable def reV_C (p : Int × Int × List Hel × Nat × Unit) : Prop := match p with
  | (c, m, l, nn0, _) => (nn0 = l.length) ∧ (ckX c m l = 0) ∧ True
noncomputable def reV_R (p : Int × Int × List Hel × Nat × Unit) : Value × Outs := match p with
  | (c, m, l, nn0, _) => (.tuple #[.int .i64 (c - (l.length : Int)), .int .i64 0], [])
theorem reV_inj : ∀ p q, reV_C p → reV_C q → reV_A p = reV_A q → reV_R p = reV_R q := by
  rintro ⟨c, m, l, nn0, _⟩ ⟨c', m', l', nn0', _⟩ _ _ e
  simp only [reV_A, List.cons.injEq, D.list.injEq, D.val.injEq, D.agg.injEq, Value.int.injEq, Value.bool.injEq, Value.string.injEq, Value.agg.injEq, Array.mk.injEq, and_true, true_and, gI_inj, gB_inj, gH_inj, gN_inj] at e
  simp_all
noncomputable def reV_k : List D → Option (Value × Outs) := fnP reV_A reV_C reV_R
theorem reV_n (c m : Int) (l : List Hel) (nn0 : Nat) (hn0 : nn0 = l.length) (hk : ckX c m l = 0) : KnownR Try.prog [] 22 [.agg [.val (.int .i64 c), .val (.int .u64 m), .list (rowA gH l) nn0]] (.tuple #[.int .i64 (c - (l.length : Int)), .int .i64 0]) ([]) := by
  subst hn0; skip
  exact reV _ _ _ hk
theorem reV_ok : ∀ ds v bs, reV_k ds = some (v, bs) → KnownR Try.prog [] 22 ds v bs := fnP_ok (by
  rintro ⟨c, m, l, nn0, _⟩ ⟨hn0, hk, _⟩
  exact reV_n _ _ _ _ hn0 hk)
theorem reV_at (c m : Int) (l : List Hel) (nn0 : Nat) (hn0 : nn0 = l.length) (hk : ckX c m l = 0) : reV_k [.agg [.val (.int .i64 c), .val (.int .u64 m), .list (rowA gH l) nn0]] = some (.tuple #[.int .i64 (c - (l.length : Int)), .int .i64 0], []) := fnP_at (p := (c, m, l, nn0, ())) reV_inj ⟨hn0, hk, trivial⟩ rfl rfl
noncomputable def tabN : GTab := (GTab.fnD 36 maD_k (GTab.fnD 22 reV_k (GTab.fn1 5 (fun l => match l with | [] => some (.bool true) | _ => none) GTab.none)))
theorem tabN_ok : GOk Try.prog [] tabN := (GOk.fnD maD_ok (GOk.fnD reV_ok (GOk.fn1 (known0 knRingKnown_e1) GOk.none)))
noncomputable def nuA_hd (n : Int) (xs : List Int) : Hd := headD Try.prog [] tabN 3000 6 [.val (.int .i64 n), .list (rowA gI xs) xs.length] [(1, .outs (Value.tuple #[Value.agg #[Value.int IntKind.i64 (wN n), Value.int IntKind.u64 (mM n xs), Value.complex FloatKind.f64 (0 : Nat) (mL n xs).length], Value.complex FloatKind.f64 (1 : Nat) (mG n xs).length, Value.bool true]) ([(rowA gH (mL n xs), (35 : TypeId)), (rowA gN (mG n xs), (22 : TypeId))])), (2, .outs (Value.tuple #[Value.int IntKind.i64 (wN n - (↑(mL n xs).length : Int)), Value.int IntKind.i64 (0 : Int)]) ([])), (15, .b 0), (16, .stop)]
noncomputable def nuA_S (n : Int) (xs : List Int) (y0 : Int) : St := ((entryK 4 44 [47, 51, 43, 49, 41, 53, 45, 48, 52, 44, 50, 42, 54, 46] 15 14 (nuA_hd n xs).s).updF [(11, .int .i64 y0)] [])
theorem nuA_n (n : Int) (xs : List Int) (hk : ckX (wN n) (mM n xs) (mL n xs) = 0) (hw : 1 ≤ wN n ∧ wN n ≤ 32) (hg : ((mG n xs).length : Int) ≤ 60) (hm : mM n xs = ((mG n xs).length : Int) + 1) (hl : ((mL n xs).length : Int) ≤ 32) : 4 = (nuA_hd n xs).s.hs.next := by kernel_rfl
theorem nuA_r (n : Int) (xs : List Int) (hk : ckX (wN n) (mM n xs) (mL n xs) = 0) (hw : 1 ≤ wN n ∧ wN n ≤ 32) (hg : ((mG n xs).length : Int) ≤ 60) (hm : mM n xs = ((mG n xs).length : Int) + 1) (hl : ((mL n xs).length : Int) ≤ 32) : (nuA_hd n xs).s.hs.rd < bitOf 4 := by
  have e : (nuA_hd n xs).s.hs.rd = 11 := by kernel_rfl
  rw [e]; exact blt_iff.1 (by kernel_rfl)
theorem nuA_w (n : Int) (xs : List Int) (hk : ckX (wN n) (mM n xs) (mL n xs) = 0) (hw : 1 ≤ wN n ∧ wN n ≤ 32) (hg : ((mG n xs).length : Int) ≤ 60) (hm : mM n xs = ((mG n xs).length : Int) + 1) (hl : ((mL n xs).length : Int) ≤ 32) : (nuA_hd n xs).s.hs.wr < bitOf 4 := by
  have e : (nuA_hd n xs).s.hs.wr = 14 := by kernel_rfl
  rw [e]; exact blt_iff.1 (by kernel_rfl)
theorem nuA_e0 (n : Int) (xs : List Int) (hk : ckX (wN n) (mM n xs) (mL n xs) = 0) (hw : 1 ≤ wN n ∧ wN n ≤ 32) (hg : ((mG n xs).length : Int) ≤ 60) (hm : mM n xs = ((mG n xs).length : Int) + 1) (hl : ((mL n xs).length : Int) ≤ 32) : canonS 4 44 [] [47, 51, 43, 49, 41, 53, 45, 48, 52, 44, 50, 42, 54, 46] 4 15 14 (nuA_hd n xs).s = some (nuA_S n xs ((0 : Int))) := by kernel_rfl
theorem nuA_e1 (n : Int) (xs : List Int) (hk : ckX (wN n) (mM n xs) (mL n xs) = 0) (hw : 1 ≤ wN n ∧ wN n ≤ 32) (hg : ((mG n xs).length : Int) ≤ 60) (hm : mM n xs = ((mG n xs).length : Int) + 1) (hl : ((mL n xs).length : Int) ≤ 32) : canonOk 4 44 [] 4 (nuA_hd n xs).s = true := canonOkF_eq.symm.trans (by kernel_rfl)
def nuA_X : Nat → VX
  | 0 => .ret
  | 1 => .exit 0
  | _ => .normal
noncomputable def nuA_E (kE : Nat) (n : Int) (xs : List Int) (y0 : Int) : St := match kE with
  | 0 => ((bodySt (bodyK Try.prog ([] : Vars).length tabN 3000 (nuA_hd n xs) (nuA_S n xs y0 ) [(0, .b 1), (1, .b 1), (2, .b 1), (3, .vals ([Value.int IntKind.u64 (el (mG n xs) y0)])), (4, .b 1)] 4 44 [47, 51, 43, 49, 41, 53, 45, 48, 52, 44, 50, 42, 54, 46] 44 15 14)).updF [(11, .int .i64 y0)] [])
  | 1 => ((bodySt (bodyK Try.prog ([] : Vars).length tabN 3000 (nuA_hd n xs) (nuA_S n xs y0 ) [(0, .b 0)] 4 44 [47, 51, 43, 49, 41, 53, 45, 48, 52, 44, 50, 42, 54, 46] 44 15 14)).updF [(11, .int .i64 y0)] [])
  | _ => (nuA_hd n xs).s
noncomputable def nuA_b2 (n : Int) (xs : List Int) (y0 : Int) : Bool := el (mG n xs) y0 != IntKind.u64.wrap (IntKind.i64.wrap (y0 + (1 : Int)))
theorem nuA_p0 (n : Int) (xs : List Int) (y0 : Int) : bodyK Try.prog ([] : Vars).length tabN 3000 (nuA_hd n xs) (nuA_S n xs y0 ) [(0, .b 1), (1, .b 1), (2, .b 1), (3, .vals ([Value.int IntKind.u64 (el (mG n xs) y0)])), (4, .b 1)] 4 44 [47, 51, 43, 49, 41, 53, 45, 48, 52, 44, 50, 42, 54, 46] 44 15 14 = some (.ret, nuA_E 0 n xs (y0), [(nuA_b2 n xs y0 ) = true, segC (rowA (gN) (mG n xs)) (((y0).toNat) * 1 + 0) 1 = some ([Value.int IntKind.u64 (el (mG n xs) y0)]), (decide (y0 < (↑(mG n xs).length : Int))) = true, (decide ((0 : Int) ≤ y0)) = true, (decide (y0 < (↑(mG n xs).length : Int))) = true]) := by kernel_rfl
theorem nuA_q0 (n : Int) (xs : List Int) (y0 : Int) : (nuA_E 0 n xs (y0)).hs.next = 44 := by kernel_rfl
theorem nuA_p1 (n : Int) (xs : List Int) (y0 : Int) : bodyK Try.prog ([] : Vars).length tabN 3000 (nuA_hd n xs) (nuA_S n xs y0 ) [(0, .b 1), (1, .b 1), (2, .b 1), (3, .vals ([Value.int IntKind.u64 (el (mG n xs) y0)])), (4, .b 0)] 4 44 [47, 51, 43, 49, 41, 53, 45, 48, 52, 44, 50, 42, 54, 46] 4 15 14 = some (.normal, (nuA_S n xs (IntKind.i64.wrap (y0 + (1 : Int)))), [(nuA_b2 n xs y0 ) = false, segC (rowA (gN) (mG n xs)) (((y0).toNat) * 1 + 0) 1 = some ([Value.int IntKind.u64 (el (mG n xs) y0)]), (decide (y0 < (↑(mG n xs).length : Int))) = true, (decide ((0 : Int) ≤ y0)) = true, (decide (y0 < (↑(mG n xs).length : Int))) = true]) := by kernel_rfl
theorem nuA_p2 (n : Int) (xs : List Int) (y0 : Int) : bodyK Try.prog ([] : Vars).length tabN 3000 (nuA_hd n xs) (nuA_S n xs y0 ) [(0, .b 0)] 4 44 [47, 51, 43, 49, 41, 53, 45, 48, 52, 44, 50, 42, 54, 46] 44 15 14 = some (.exit 0, nuA_E 1 n xs (y0), [(decide (y0 < (↑(mG n xs).length : Int))) = false]) := by kernel_rfl
theorem nuA_q2 (n : Int) (xs : List Int) (y0 : Int) : (nuA_E 1 n xs (y0)).hs.next = 44 := by kernel_rfl
theorem nuA_d0 (n : Int) (xs : List Int) (hk : ckX (wN n) (mM n xs) (mL n xs) = 0) (hw : 1 ≤ wN n ∧ wN n ≤ 32) (hg : ((mG n xs).length : Int) ≤ 60) (hm : mM n xs = ((mG n xs).length : Int) + 1) (hl : ((mL n xs).length : Int) ≤ 32) (y0 : Int) (hi : (decide (0 ≤ y0 ∧ y0 ≤ ((mG n xs).length : Int))) = true) (hq0 : (decide (y0 < (↑(mG n xs).length : Int))) = true) : (decide ((0 : Int) ≤ y0)) = true := by
  rcases Bool.eq_false_or_eq_true (decide ((0 : Int) ≤ y0)) with h | h
  · exact h
  · exfalso; (first | (simp_all only [Bool.and_eq_true, Bool.not_eq_true', Bool.false_eq_true, Bool.true_eq_false, reduceCtorEq]; done) | (simp only [sx, sy, eq_self, ne_eq, IntKind.wrap_i64, wrapU64, Int.reduceLT] at * <;> first | contradiction | omega) | omega | ((try simp only [sx, sy, eq_self, ne_eq, IntKind.wrap_i64, wrapU64, Int.reduceLT] at *) <;> omega) | (simp_all; done))
noncomputable def nuA_f (n : Int) (xs : List Int) : Nat → Int → Option (Nat × (Int))
  | 0, _ => none
  | fu + 1, y0 => (bif (decide (0 ≤ y0 ∧ y0 ≤ ((mG n xs).length : Int))) then (bif (decide (y0 < (↑(mG n xs).length : Int))) then (bif (el (mG n xs) y0 != IntKind.u64.wrap (IntKind.i64.wrap (y0 + (1 : Int)))) then some (0, (y0)) else nuA_f n xs fu (IntKind.i64.wrap (y0 + (1 : Int)))) else some (1, (y0))) else none)
theorem nuA_fs (n : Int) (xs : List Int) (fu : Nat) (y0 : Int) : nuA_f n xs (fu + 1) y0 = (bif (decide (0 ≤ y0 ∧ y0 ≤ ((mG n xs).length : Int))) then (bif (decide (y0 < (↑(mG n xs).length : Int))) then (bif (el (mG n xs) y0 != IntKind.u64.wrap (IntKind.i64.wrap (y0 + (1 : Int)))) then some (0, (y0)) else nuA_f n xs fu (IntKind.i64.wrap (y0 + (1 : Int)))) else some (1, (y0))) else none) := rfl
theorem nuA_f0 (n : Int) (xs : List Int) (y0 : Int) : nuA_f n xs 0 y0 = none := rfl
theorem nuA_loop (n : Int) (xs : List Int) (hk : ckX (wN n) (mM n xs) (mL n xs) = 0) (hw : 1 ≤ wN n ∧ wN n ≤ 32) (hg : ((mG n xs).length : Int) ≤ 60) (hm : mM n xs = ((mG n xs).length : Int) + 1) (hl : ((mL n xs).length : Int) ≤ 32) : ∀ (fu : Nat) (y0 : Int) (kk : Nat) (zz : Int), nuA_f n xs fu y0 = some (kk, zz) → VStep (nuA_hd n xs).s.hs (nuA_S n xs y0 ).hs → RoundsC Try.prog [] 4 44 (nuA_hd n xs).s.hs (nuA_hd n xs).ro (nuA_hd n xs).a (nuA_S n xs y0 ) (nuA_X kk) (nuA_E kk n xs zz ) ∧ ((nuA_E kk n xs zz )).hs.next = 44 := by
  intro fu
  induction fu with
  | zero =>
    intro y0 kk zz hf hSz
    have hf := (nuA_f0 n xs y0 ).symm.trans hf
    simp at hf
  | succ fu ih =>
    intro y0 kk zz hf hSz
    have hf := (nuA_fs n xs fu y0 ).symm.trans hf
    rcases bif_or hf with ⟨hi, hf⟩ | ⟨hi, hf⟩
    case inr => cases hf
    rcases bif_or hf with ⟨hq0, hf⟩ | ⟨hq0, hf⟩
    ·
      have hq1 := nuA_d0 n xs hk hw hg hm hl y0 hi hq0 
      rcases bif_or hf with ⟨hq2, hf⟩ | ⟨hq2, hf⟩
      ·
        injection hf with hf; injection hf with e1 e2; subst e1; subst e2; have hb1 := nuA_p0 n xs y0 ; have hb2 := body_canon hb1; have hb3 := hb2 ⟨hq2, (seg_row (g := (gN)) (k := 1) (fun _ => rfl) (by first | exact of_decide_eq_true hq1 | simpa using of_decide_eq_true hq1) (by first | exact of_decide_eq_true hq0 | (simpa using of_decide_eq_true hq0; done) | (have hx1 := of_decide_eq_true hq0; have hx2 := of_decide_eq_true hi; simp only [List.length_reverse, List.length_set] at *; omega)) (by decide) rfl), hq0, hq1, hq0, trivial⟩; obtain ⟨sz1, kz1, kz2, kz3⟩ := hb3; exact ⟨rounds_end mix (T := tabN) tabN_ok (nuA_n n xs hk hw hg hm hl ) (nuA_r n xs hk hw hg hm hl ) (nuA_w n xs hk hw hg hm hl ) kz1 (fun h => by cases h) hSz kz2 kz3, nuA_q0 n xs y0 ⟩
      ·
        have hb1 := nuA_p1 n xs y0 ; have hb2 := body_canon hb1; have hb3 := hb2 ⟨hq2, (seg_row (g := (gN)) (k := 1) (fun _ => rfl) (by first | exact of_decide_eq_true hq1 | simpa using of_decide_eq_true hq1) (by first | exact of_decide_eq_true hq0 | (simpa using of_decide_eq_true hq0; done) | (have hx1 := of_decide_eq_true hq0; have hx2 := of_decide_eq_true hi; simp only [List.length_reverse, List.length_set] at *; omega)) (by decide) rfl), hq0, hq1, hq0, trivial⟩; obtain ⟨sz1, kz1, kz2, kz3⟩ := hb3; obtain ⟨gz1, gz2⟩ := ih (IntKind.i64.wrap (y0 + (1 : Int))) kk zz hf (rounds_step mix (T := tabN) tabN_ok (nuA_n n xs hk hw hg hm hl ) (nuA_r n xs hk hw hg hm hl ) (nuA_w n xs hk hw hg hm hl ) kz1 hSz kz2 kz3); exact ⟨rounds_next mix (T := tabN) tabN_ok (nuA_n n xs hk hw hg hm hl ) (nuA_r n xs hk hw hg hm hl ) (nuA_w n xs hk hw hg hm hl ) kz1 hSz kz2 kz3 (fun _ => gz1), gz2⟩
    ·
      injection hf with hf; injection hf with e1 e2; subst e1; subst e2; have hb1 := nuA_p2 n xs y0 ; have hb2 := body_canon hb1; have hb3 := hb2 ⟨hq0, trivial⟩; obtain ⟨sz1, kz1, kz2, kz3⟩ := hb3; exact ⟨rounds_end mix (T := tabN) tabN_ok (nuA_n n xs hk hw hg hm hl ) (nuA_r n xs hk hw hg hm hl ) (nuA_w n xs hk hw hg hm hl ) kz1 (fun h => by cases h) hSz kz2 kz3, nuA_q2 n xs y0 ⟩
theorem nuA_ok (n : Int) (xs : List Int) (hk : ckX (wN n) (mM n xs) (mL n xs) = 0) (hw : 1 ≤ wN n ∧ wN n ≤ 32) (hg : ((mG n xs).length : Int) ≤ 60) (hm : mM n xs = ((mG n xs).length : Int) + 1) (hl : ((mL n xs).length : Int) ≤ 32) (fu kk : Nat) (zz : Int) (hf : nuA_f n xs fu ((0 : Int)) = some (kk, zz)) : ∀ B : Bd, B.L = [] → LoopOk Try.prog B (nuA_hd n xs).ro (nuA_hd n xs).a (nuA_hd n xs).s (nuA_X kk) (nuA_E kk n xs zz ) := by
  have hSz := begin_step (nuA_n n xs hk hw hg hm hl ) (nuA_r n xs hk hw hg hm hl ) (nuA_w n xs hk hw hg hm hl ) (nuA_e0 n xs hk hw hg hm hl ) (nuA_e1 n xs hk hw hg hm hl )
  obtain ⟨gz1, gz2⟩ := nuA_loop n xs hk hw hg hm hl fu ((0 : Int)) kk zz hf hSz
  exact rounds_ok (nuA_n n xs hk hw hg hm hl ) (Nat.le_of_ble_eq_true (by kernel_rfl)) gz2 (rounds_begin (nuA_n n xs hk hw hg hm hl ) (nuA_r n xs hk hw hg hm hl ) (nuA_w n xs hk hw hg hm hl ) (nuA_e0 n xs hk hw hg hm hl ) (nuA_e1 n xs hk hw hg hm hl ) (fun _ => gz1))

noncomputable def nu1_c0 (n : Int) (xs : List Int) (nuA_z0 : Int)  : Bool := (mM n xs == IntKind.u64.wrap (IntKind.i64.wrap ((↑(mG n xs).length : Int) + (1 : Int))))
theorem nu1_p0 (n : Int) (xs : List Int) (nuA_z0 : Int)  (hk : ckX (wN n) (mM n xs) (mL n xs) = 0) (hw : 1 ≤ wN n ∧ wN n ≤ 32) (hg : ((mG n xs).length : Int) ≤ 60) (hm : mM n xs = ((mG n xs).length : Int) + 1) (hl : ((mL n xs).length : Int) ≤ 32) (nuA_k15 : (IntKind.i64.wrap (wN n - (↑(mL n xs).length : Int) + (↑(mL n xs).length : Int)) != wN n) = false) (nuA_l : ∀ B : Bd, B.L = [] → LoopOk Try.prog B (nuA_hd n xs).ro (nuA_hd n xs).a (nuA_hd n xs).s (nuA_X 1) (nuA_E 1 n xs nuA_z0 )) : KnownR Try.prog [] 6 [.val (.int .i64 n), .list (rowA gI xs) xs.length] (.bool (mM n xs == IntKind.u64.wrap (IntKind.i64.wrap ((↑(mG n xs).length : Int) + (1 : Int))))) [] :=
  knownR_eq (v := Value.bool (mM n xs == IntKind.u64.wrap (IntKind.i64.wrap ((↑(mG n xs).length : Int) + (1 : Int))))) (bs := []) (open_resD mix (GOk.add tabN_ok nuA_l) (T := (GTab.add tabN 8 (nuA_hd n xs).ro (nuA_hd n xs).a (nuA_hd n xs).s (nuA_X 1) (nuA_E 1 n xs nuA_z0 ) (by kernel_rfl))) (fuel := 3000) (es := []) (ans := [(1, .outs (Value.tuple #[Value.agg #[Value.int IntKind.i64 (wN n), Value.int IntKind.u64 (mM n xs), Value.complex FloatKind.f64 (0 : Nat) (mL n xs).length], Value.complex FloatKind.f64 (1 : Nat) (mG n xs).length, Value.bool true]) ([(rowA gH (mL n xs), (35 : TypeId)), (rowA gN (mG n xs), (22 : TypeId))])), (2, .outs (Value.tuple #[Value.int IntKind.i64 (wN n - (↑(mL n xs).length : Int)), Value.int IntKind.i64 (0 : Int)]) ([])), (15, .b 0), (16, .loop (nuA_X 1) (nuA_E 1 n xs nuA_z0 )), ]) (log := [LoopRes Try.prog ([] : Vars).length (GTab.add tabN 8 (nuA_hd n xs).ro (nuA_hd n xs).a (nuA_hd n xs).s (nuA_X 1) (nuA_E 1 n xs nuA_z0 ) (by kernel_rfl)) (nuA_hd n xs).ro (nuA_hd n xs).a (nuA_hd n xs).s (nuA_X 1) (nuA_E 1 n xs nuA_z0 ), (IntKind.i64.wrap (wN n - (↑(mL n xs).length : Int) + (↑(mL n xs).length : Int)) != wN n) = false, (GTab.lookD (tabN) ((22 : Nat)) ([D.agg [D.val (Value.int IntKind.i64 (wN n)), D.val (Value.int IntKind.u64 (mM n xs)), D.list (rowA gH (mL n xs)) (mL n xs).length]])) = some (Value.tuple #[Value.int IntKind.i64 (wN n - (↑(mL n xs).length : Int)), Value.int IntKind.i64 (0 : Int)], []), (GTab.lookD (tabN) ((36 : Nat)) ([D.val (Value.int IntKind.i64 n), D.list (rowA gI xs) xs.length])) = some (Value.tuple #[Value.agg #[Value.int IntKind.i64 (wN n), Value.int IntKind.u64 (mM n xs), Value.complex FloatKind.f64 (0 : Nat) (mL n xs).length], Value.complex FloatKind.f64 (1 : Nat) (mG n xs).length, Value.bool true], [(rowA gH (mL n xs), (35 : TypeId)), (rowA gN (mG n xs), (22 : TypeId))])]) (by kernel_rfl) ⟨(loop_known2 add_eq), nuA_k15, (reV_at (wN n) (mM n xs) (mL n xs) ((mL n xs).length) (by first | rfl | assumption | omega | (simp; done) | (simp_all; done) | (simp_all; omega)) (by first | rfl | assumption | omega | (simp; done) | (simp_all; done) | (simp_all; omega))), (maD_at (n) (xs) (xs.length) (by first | rfl | assumption | omega | (simp; done) | (simp_all; done) | (simp_all; omega))), trivial⟩ (by kernel_rfl)) (by first | rfl | (simp; done) | (simp_all; done)) (by first | rfl | (simp [rowA_nil]; done) | (simp only [rowA_eq]; rfl) | (simp_all [rowA_nil]; done))
set_option maxHeartbeats 8000000 in
theorem nu1 (n : Int) (xs : List Int) (nuA_z0 : Int)  (hk : ckX (wN n) (mM n xs) (mL n xs) = 0) (hw : 1 ≤ wN n ∧ wN n ≤ 32) (hg : ((mG n xs).length : Int) ≤ 60) (hm : mM n xs = ((mG n xs).length : Int) + 1) (hl : ((mL n xs).length : Int) ≤ 32) (nuA_k15 : (IntKind.i64.wrap (wN n - (↑(mL n xs).length : Int) + (↑(mL n xs).length : Int)) != wN n) = false) (nuA_l : ∀ B : Bd, B.L = [] → LoopOk Try.prog B (nuA_hd n xs).ro (nuA_hd n xs).a (nuA_hd n xs).s (nuA_X 1) (nuA_E 1 n xs nuA_z0 )) : KnownR Try.prog [] 6 [.val (.int .i64 n), .list (rowA gI xs) xs.length] (.bool (nu1_c0 n xs nuA_z0)) [] := by
  have e0 : nu1_c0 n xs nuA_z0 = (mM n xs == IntKind.u64.wrap (IntKind.i64.wrap ((↑(mG n xs).length : Int) + (1 : Int)))) := rfl; rw [e0]; exact nu1_p0 n xs nuA_z0 hk hw hg hm hl nuA_k15 nuA_l

end Go.Proofs.Ytpmcjjpgkoagoaa
