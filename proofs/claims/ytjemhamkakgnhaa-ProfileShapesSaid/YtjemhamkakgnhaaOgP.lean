/- Layer 8: how far. -/
import Derived.Test.YtjemhamkakgnhaaOgO
import Derived.ProofKit
import Derived.IntWalk
namespace Go.Proofs.Ytjemhamkakgnhaa
open Go Go.RowKit
set_option linter.unusedVariables false
set_option linter.unusedSimpArgs false
set_option linter.unnecessarySimpa false
set_option maxHeartbeats 8000000
set_option maxRecDepth 100000
noncomputable def goA_hd (n m t : Int) : Hd := headF Try.prog [] tabB 3000 21 [.int .i64 n, .int .i64 m, .int .i64 t] [(0, .b 0), (3, .b 0), (6, .b 0), (9, .b 0), (13, .b 0), (14, .b 0), (15, .stop)]
noncomputable def goA_S (n m t : Int) (y0 : Int) (y1 : Int) (y2 : Int) : St := ((entryK 9 49 [7, 15, 11, 19, 9, 17, 13, 8, 16, 12, 20, 10, 18, 14] 511 511 (goA_hd n m t).s).updF [(4, .int .i64 y0), (5, .int .i64 y1)] [(1, 0, .int .i64 y2)])
theorem goA_n (n m t : Int) (h1 : 0 ≤ n ∧ n ≤ 63000) (h2 : 1 ≤ m ∧ m ≤ 20) (h3 : 1 ≤ t ∧ t ≤ 9223372036854775807) : 9 = (goA_hd n m t).s.hs.next := by kernel_rfl
theorem goA_r (n m t : Int) (h1 : 0 ≤ n ∧ n ≤ 63000) (h2 : 1 ≤ m ∧ m ≤ 20) (h3 : 1 ≤ t ∧ t ≤ 9223372036854775807) : (goA_hd n m t).s.hs.rd < bitOf 9 := by
  have e : (goA_hd n m t).s.hs.rd = 35 := by kernel_rfl
  rw [e]; exact blt_iff.1 (by kernel_rfl)
theorem goA_w (n m t : Int) (h1 : 0 ≤ n ∧ n ≤ 63000) (h2 : 1 ≤ m ∧ m ≤ 20) (h3 : 1 ≤ t ∧ t ≤ 9223372036854775807) : (goA_hd n m t).s.hs.wr < bitOf 9 := by
  have e : (goA_hd n m t).s.hs.wr = 511 := by kernel_rfl
  rw [e]; exact blt_iff.1 (by kernel_rfl)
theorem goA_e0 (n m t : Int) (h1 : 0 ≤ n ∧ n ≤ 63000) (h2 : 1 ≤ m ∧ m ≤ 20) (h3 : 1 ≤ t ∧ t ≤ 9223372036854775807) : canonS 9 49 [] [7, 15, 11, 19, 9, 17, 13, 8, 16, 12, 20, 10, 18, 14] 9 511 511 (goA_hd n m t).s = some (goA_S n m t ((0 : Int)) (n) (t)) := by kernel_rfl
theorem goA_e1 (n m t : Int) (h1 : 0 ≤ n ∧ n ≤ 63000) (h2 : 1 ≤ m ∧ m ≤ 20) (h3 : 1 ≤ t ∧ t ≤ 9223372036854775807) : canonOk 9 49 [] 9 (goA_hd n m t).s = true := canonOkF_eq.symm.trans (by kernel_rfl)
def goA_X : Nat → VX
  | 0 => .ret
  | 1 => .ret
  | 2 => .exit 0
  | _ => .normal
noncomputable def goA_E (kE : Nat) (n m t : Int) (y0 : Int) (y1 : Int) (y2 : Int) : St := match kE with
  | 0 => ((bodySt (bodyK Try.prog ([] : Vars).length tabB 3000 (goA_hd n m t) (goA_S n m t y0 y1 y2 ) [(0, .b 1), (1, .b 1), (2, .b 1)] 9 49 [7, 15, 11, 19, 9, 17, 13, 8, 16, 12, 20, 10, 18, 14] 49 511 511)).updF [(4, .int .i64 y0), (5, .int .i64 y1)] [(1, 0, .int .i64 y2)])
  | 1 => bodySt (bodyK Try.prog ([] : Vars).length tabB 3000 (goA_hd n m t) (goA_S n m t y0 y1 y2 ) [(0, .b 1), (1, .b 1), (2, .b 0), (3, .b 1)] 9 49 [7, 15, 11, 19, 9, 17, 13, 8, 16, 12, 20, 10, 18, 14] 49 511 511)
  | 2 => ((bodySt (bodyK Try.prog ([] : Vars).length tabB 3000 (goA_hd n m t) (goA_S n m t y0 y1 y2 ) [(0, .b 0)] 9 49 [7, 15, 11, 19, 9, 17, 13, 8, 16, 12, 20, 10, 18, 14] 49 511 511)).updF [(4, .int .i64 y0), (5, .int .i64 y1)] [(1, 0, .int .i64 y2)])
  | _ => (goA_hd n m t).s
noncomputable def goA_b1 (n m t : Int) (y0 : Int) (y1 : Int) (y2 : Int) : Bool := decide ((0 : Int) ≤ y0 ∧ y0 ≤ m ∧ (1 : Int) ≤ m ∧ m ≤ (20 : Int) ∧ (1 : Int) ≤ y1 ∧ y1 ≤ (63000 : Int) ∧ (y0 = (0 : Int) ∨ rT (y0 - (1 : Int)) ≤ y1))
theorem goA_p0 (n m t : Int) (y0 : Int) (y1 : Int) (y2 : Int) : bodyK Try.prog ([] : Vars).length tabB 3000 (goA_hd n m t) (goA_S n m t y0 y1 y2 ) [(0, .b 1), (1, .b 1), (2, .b 1)] 9 49 [7, 15, 11, 19, 9, 17, 13, 8, 16, 12, 20, 10, 18, 14] 49 511 511 = some (.ret, goA_E 0 n m t (nxV m y0 y1) (IntKind.i64.wrap (y1 - nxV m y0 y1)) (y2), [(IntKind.i64.wrap (y1 - nxV m y0 y1) == (0 : Int)) = true, (goA_b1 n m t y0 y1 y2 ) = true, (decide (y1 > (0 : Int))) = true]) := by kernel_rfl
theorem goA_q0 (n m t : Int) (y0 : Int) (y1 : Int) (y2 : Int) : (goA_E 0 n m t (nxV m y0 y1) (IntKind.i64.wrap (y1 - nxV m y0 y1)) (y2)).hs.next = 49 := by kernel_rfl
theorem goA_p1 (n m t : Int) (y0 : Int) (y1 : Int) (y2 : Int) : bodyK Try.prog ([] : Vars).length tabB 3000 (goA_hd n m t) (goA_S n m t y0 y1 y2 ) [(0, .b 1), (1, .b 1), (2, .b 0), (3, .b 1)] 9 49 [7, 15, 11, 19, 9, 17, 13, 8, 16, 12, 20, 10, 18, 14] 49 511 511 = some (.ret, bodySt (bodyK Try.prog ([] : Vars).length tabB 3000 (goA_hd n m t) (goA_S n m t y0 y1 y2 ) [(0, .b 1), (1, .b 1), (2, .b 0), (3, .b 1)] 9 49 [7, 15, 11, 19, 9, 17, 13, 8, 16, 12, 20, 10, 18, 14] 49 511 511), [(IntKind.i64.wrap (y2 - (1 : Int)) == (0 : Int)) = true, (IntKind.i64.wrap (y1 - nxV m y0 y1) == (0 : Int)) = false, (goA_b1 n m t y0 y1 y2 ) = true, (decide (y1 > (0 : Int))) = true]) := by kernel_rfl
theorem goA_q1 (n m t : Int) (y0 : Int) (y1 : Int) (y2 : Int) : (bodySt (bodyK Try.prog ([] : Vars).length tabB 3000 (goA_hd n m t) (goA_S n m t y0 y1 y2 ) [(0, .b 1), (1, .b 1), (2, .b 0), (3, .b 1)] 9 49 [7, 15, 11, 19, 9, 17, 13, 8, 16, 12, 20, 10, 18, 14] 49 511 511)).hs.next = 49 := by kernel_rfl
theorem goA_p2 (n m t : Int) (y0 : Int) (y1 : Int) (y2 : Int) : bodyK Try.prog ([] : Vars).length tabB 3000 (goA_hd n m t) (goA_S n m t y0 y1 y2 ) [(0, .b 1), (1, .b 1), (2, .b 0), (3, .b 0)] 9 49 [7, 15, 11, 19, 9, 17, 13, 8, 16, 12, 20, 10, 18, 14] 9 511 511 = some (.normal, (goA_S n m t (nxV m y0 y1) (IntKind.i64.wrap (y1 - nxV m y0 y1)) (IntKind.i64.wrap (y2 - (1 : Int)))), [(IntKind.i64.wrap (y2 - (1 : Int)) == (0 : Int)) = false, (IntKind.i64.wrap (y1 - nxV m y0 y1) == (0 : Int)) = false, (goA_b1 n m t y0 y1 y2 ) = true, (decide (y1 > (0 : Int))) = true]) := by kernel_rfl
theorem goA_p3 (n m t : Int) (y0 : Int) (y1 : Int) (y2 : Int) : bodyK Try.prog ([] : Vars).length tabB 3000 (goA_hd n m t) (goA_S n m t y0 y1 y2 ) [(0, .b 0)] 9 49 [7, 15, 11, 19, 9, 17, 13, 8, 16, 12, 20, 10, 18, 14] 49 511 511 = some (.exit 0, goA_E 2 n m t (y0) (y1) (y2), [(decide (y1 > (0 : Int))) = false]) := by kernel_rfl
theorem goA_q3 (n m t : Int) (y0 : Int) (y1 : Int) (y2 : Int) : (goA_E 2 n m t (y0) (y1) (y2)).hs.next = 49 := by kernel_rfl
theorem goA_d0 (n m t : Int) (h1 : 0 ≤ n ∧ n ≤ 63000) (h2 : 1 ≤ m ∧ m ≤ 20) (h3 : 1 ≤ t ∧ t ≤ 9223372036854775807) (y0 : Int) (y1 : Int) (y2 : Int) (hi : (decide (0 ≤ y0 ∧ y0 ≤ m ∧ 0 ≤ y1 ∧ y1 ≤ 63000 ∧ (y0 = 0 ∨ rT (y0 - 1) ≤ y1) ∧ 1 ≤ y2 ∧ y2 ≤ 9223372036854775807 ∧ y1 ≤ n ∧ (y1 = 0 ∨ (0 ≤ nxV m y0 y1 ∧ nxV m y0 y1 ≤ 20 ∧ nxV m y0 y1 ≤ y1)))) = true) (hq0 : (decide (y1 > (0 : Int))) = true) : (goA_b1 n m t y0 y1 y2 ) = true := by
  rcases Bool.eq_false_or_eq_true (goA_b1 n m t y0 y1 y2 ) with h | h
  · exact h
  · exfalso; (try simp only [goA_b1] at *); (first | (simp_all only [Bool.and_eq_true, Bool.not_eq_true', Bool.false_eq_true, Bool.true_eq_false, reduceCtorEq]; done) | (simp only [sx, sy, eq_self, ne_eq, IntKind.wrap_i64, wrapU64, Int.reduceLT] at * <;> first | contradiction | omega) | (simp_all; done))
noncomputable def goA_f (n m t : Int) : Nat → Int → Int → Int → Option (Nat × (Int × Int × Int))
  | 0, _, _, _ => none
  | fu + 1, y0, y1, y2 => (bif (decide (0 ≤ y0 ∧ y0 ≤ m ∧ 0 ≤ y1 ∧ y1 ≤ 63000 ∧ (y0 = 0 ∨ rT (y0 - 1) ≤ y1) ∧ 1 ≤ y2 ∧ y2 ≤ 9223372036854775807 ∧ y1 ≤ n ∧ (y1 = 0 ∨ (0 ≤ nxV m y0 y1 ∧ nxV m y0 y1 ≤ 20 ∧ nxV m y0 y1 ≤ y1)))) then (bif (decide (y1 > (0 : Int))) then (bif (IntKind.i64.wrap (y1 - nxV m y0 y1) == (0 : Int)) then some (0, ((nxV m y0 y1), (IntKind.i64.wrap (y1 - nxV m y0 y1)), (y2))) else (bif (IntKind.i64.wrap (y2 - (1 : Int)) == (0 : Int)) then some (1, (y0, y1, y2)) else goA_f n m t fu (nxV m y0 y1) (IntKind.i64.wrap (y1 - nxV m y0 y1)) (IntKind.i64.wrap (y2 - (1 : Int))))) else some (2, ((y0), (y1), (y2)))) else none)
theorem goA_fs (n m t : Int) (fu : Nat) (y0 : Int) (y1 : Int) (y2 : Int) : goA_f n m t (fu + 1) y0 y1 y2 = (bif (decide (0 ≤ y0 ∧ y0 ≤ m ∧ 0 ≤ y1 ∧ y1 ≤ 63000 ∧ (y0 = 0 ∨ rT (y0 - 1) ≤ y1) ∧ 1 ≤ y2 ∧ y2 ≤ 9223372036854775807 ∧ y1 ≤ n ∧ (y1 = 0 ∨ (0 ≤ nxV m y0 y1 ∧ nxV m y0 y1 ≤ 20 ∧ nxV m y0 y1 ≤ y1)))) then (bif (decide (y1 > (0 : Int))) then (bif (IntKind.i64.wrap (y1 - nxV m y0 y1) == (0 : Int)) then some (0, ((nxV m y0 y1), (IntKind.i64.wrap (y1 - nxV m y0 y1)), (y2))) else (bif (IntKind.i64.wrap (y2 - (1 : Int)) == (0 : Int)) then some (1, (y0, y1, y2)) else goA_f n m t fu (nxV m y0 y1) (IntKind.i64.wrap (y1 - nxV m y0 y1)) (IntKind.i64.wrap (y2 - (1 : Int))))) else some (2, ((y0), (y1), (y2)))) else none) := rfl
theorem goA_f0 (n m t : Int) (y0 : Int) (y1 : Int) (y2 : Int) : goA_f n m t 0 y0 y1 y2 = none := rfl
theorem goA_loop (n m t : Int) (h1 : 0 ≤ n ∧ n ≤ 63000) (h2 : 1 ≤ m ∧ m ≤ 20) (h3 : 1 ≤ t ∧ t ≤ 9223372036854775807) : ∀ (fu : Nat) (y0 : Int) (y1 : Int) (y2 : Int) (kk : Nat) (zz : Int × Int × Int), goA_f n m t fu y0 y1 y2 = some (kk, zz) → VStep (goA_hd n m t).s.hs (goA_S n m t y0 y1 y2 ).hs → RoundsC Try.prog [] 9 49 (goA_hd n m t).s.hs (goA_hd n m t).ro (goA_hd n m t).a (goA_S n m t y0 y1 y2 ) (goA_X kk) (goA_E kk n m t zz.1 zz.2.1 zz.2.2 ) ∧ ((goA_E kk n m t zz.1 zz.2.1 zz.2.2 )).hs.next = 49 := by
  intro fu
  induction fu with
  | zero =>
    intro y0 y1 y2 kk zz hf hSz
    have hf := (goA_f0 n m t y0 y1 y2 ).symm.trans hf
    simp at hf
  | succ fu ih =>
    intro y0 y1 y2 kk zz hf hSz
    have hf := (goA_fs n m t fu y0 y1 y2 ).symm.trans hf
    rcases bif_or hf with ⟨hi, hf⟩ | ⟨hi, hf⟩
    case inr => cases hf
    rcases bif_or hf with ⟨hq0, hf⟩ | ⟨hq0, hf⟩
    ·
      have hq1 := goA_d0 n m t h1  h2  h3  y0 y1 y2 hi hq0 
      rcases bif_or hf with ⟨hq2, hf⟩ | ⟨hq2, hf⟩
      ·
        injection hf with hf; injection hf with e1 e2; subst e1; subst e2; have hb1 := goA_p0 n m t y0 y1 y2 ; have hb2 := body_canon hb1; have hb3 := hb2 ⟨hq2, hq1, hq0, trivial⟩; obtain ⟨sz1, kz1, kz2, kz3⟩ := hb3; exact ⟨rounds_end mix (T := tabB) tabB_ok (goA_n n m t h1  h2  h3  ) (goA_r n m t h1  h2  h3  ) (goA_w n m t h1  h2  h3  ) kz1 (fun h => by cases h) hSz kz2 kz3, goA_q0 n m t y0 y1 y2 ⟩
      ·
        rcases bif_or hf with ⟨hq3, hf⟩ | ⟨hq3, hf⟩
        ·
          injection hf with hf; injection hf with e1 e2; subst e1; subst e2; have hb1 := goA_p1 n m t y0 y1 y2 ; have hb2 := body_canon hb1; have hb3 := hb2 ⟨hq3, hq2, hq1, hq0, trivial⟩; obtain ⟨sz1, kz1, kz2, kz3⟩ := hb3; exact ⟨rounds_end mix (T := tabB) tabB_ok (goA_n n m t h1  h2  h3  ) (goA_r n m t h1  h2  h3  ) (goA_w n m t h1  h2  h3  ) kz1 (fun h => by cases h) hSz kz2 kz3, goA_q1 n m t y0 y1 y2 ⟩
        ·
          have hb1 := goA_p2 n m t y0 y1 y2 ; have hb2 := body_canon hb1; have hb3 := hb2 ⟨hq3, hq2, hq1, hq0, trivial⟩; obtain ⟨sz1, kz1, kz2, kz3⟩ := hb3; obtain ⟨gz1, gz2⟩ := ih (nxV m y0 y1) (IntKind.i64.wrap (y1 - nxV m y0 y1)) (IntKind.i64.wrap (y2 - (1 : Int))) kk zz hf (rounds_step mix (T := tabB) tabB_ok (goA_n n m t h1  h2  h3  ) (goA_r n m t h1  h2  h3  ) (goA_w n m t h1  h2  h3  ) kz1 hSz kz2 kz3); exact ⟨rounds_next mix (T := tabB) tabB_ok (goA_n n m t h1  h2  h3  ) (goA_r n m t h1  h2  h3  ) (goA_w n m t h1  h2  h3  ) kz1 hSz kz2 kz3 (fun _ => gz1), gz2⟩
    ·
      injection hf with hf; injection hf with e1 e2; subst e1; subst e2; have hb1 := goA_p3 n m t y0 y1 y2 ; have hb2 := body_canon hb1; have hb3 := hb2 ⟨hq0, trivial⟩; obtain ⟨sz1, kz1, kz2, kz3⟩ := hb3; exact ⟨rounds_end mix (T := tabB) tabB_ok (goA_n n m t h1  h2  h3  ) (goA_r n m t h1  h2  h3  ) (goA_w n m t h1  h2  h3  ) kz1 (fun h => by cases h) hSz kz2 kz3, goA_q3 n m t y0 y1 y2 ⟩
theorem goA_ok (n m t : Int) (h1 : 0 ≤ n ∧ n ≤ 63000) (h2 : 1 ≤ m ∧ m ≤ 20) (h3 : 1 ≤ t ∧ t ≤ 9223372036854775807) (fu kk : Nat) (zz : Int × Int × Int) (hf : goA_f n m t fu ((0 : Int)) (n) (t) = some (kk, zz)) : ∀ B : Bd, B.L = [] → LoopOk Try.prog B (goA_hd n m t).ro (goA_hd n m t).a (goA_hd n m t).s (goA_X kk) (goA_E kk n m t zz.1 zz.2.1 zz.2.2 ) := by
  have hSz := begin_step (goA_n n m t h1  h2  h3  ) (goA_r n m t h1  h2  h3  ) (goA_w n m t h1  h2  h3  ) (goA_e0 n m t h1  h2  h3  ) (goA_e1 n m t h1  h2  h3  )
  obtain ⟨gz1, gz2⟩ := goA_loop n m t h1  h2  h3  fu ((0 : Int)) (n) (t) kk zz hf hSz
  exact rounds_ok (goA_n n m t h1  h2  h3  ) (Nat.le_of_ble_eq_true (by kernel_rfl)) gz2 (rounds_begin (goA_n n m t h1  h2  h3  ) (goA_r n m t h1  h2  h3  ) (goA_w n m t h1  h2  h3  ) (goA_e0 n m t h1  h2  h3  ) (goA_e1 n m t h1  h2  h3  ) (fun _ => gz1))

noncomputable def goK_c0 (n m t : Int) (goA_z0 : Int) (goA_z1 : Int) (goA_z2 : Int)  : Int := (n)
theorem goK_p0 (n m t : Int) (goA_z0 : Int) (goA_z1 : Int) (goA_z2 : Int)  (h1 : 0 ≤ n ∧ n ≤ 63000) (h2 : 1 ≤ m ∧ m ≤ 20) (h3 : 1 ≤ t ∧ t ≤ 9223372036854775807) (goA_k0 : (decide (n < (0 : Int))) = false) (goA_k3 : (decide (n > (63000 : Int))) = false) (goA_k6 : (decide (m < (1 : Int))) = false) (goA_k9 : (decide (m > (20 : Int))) = false) (goA_k13 : (decide (t < (0 : Int))) = false) (goA_k14 : (t == (0 : Int)) = false) (goA_l : ∀ B : Bd, B.L = [] → LoopOk Try.prog B (goA_hd n m t).ro (goA_hd n m t).a (goA_hd n m t).s (goA_X 0) (goA_E 0 n m t goA_z0 goA_z1 goA_z2 )) : Known Try.prog [] 21 [.int .i64 n, .int .i64 m, .int .i64 t] (.tuple #[(.int .i64 (n)), (.int .i64 ((0 : Int))), (.int .i64 ((0 : Int)))]) :=
  open_res mix (GOk.add tabB_ok goA_l) (T := (GTab.add tabB 3 (goA_hd n m t).ro (goA_hd n m t).a (goA_hd n m t).s (goA_X 0) (goA_E 0 n m t goA_z0 goA_z1 goA_z2 ) (by kernel_rfl))) (fuel := 3000) (ans := [(0, .b 0), (3, .b 0), (6, .b 0), (9, .b 0), (13, .b 0), (14, .b 0), (15, .loop (goA_X 0) (goA_E 0 n m t goA_z0 goA_z1 goA_z2 )), ]) (log := [LoopRes Try.prog ([] : Vars).length (GTab.add tabB 3 (goA_hd n m t).ro (goA_hd n m t).a (goA_hd n m t).s (goA_X 0) (goA_E 0 n m t goA_z0 goA_z1 goA_z2 ) (by kernel_rfl)) (goA_hd n m t).ro (goA_hd n m t).a (goA_hd n m t).s (goA_X 0) (goA_E 0 n m t goA_z0 goA_z1 goA_z2 ), (t == (0 : Int)) = false, (decide (t < (0 : Int))) = false, (decide (m > (20 : Int))) = false, (decide (m < (1 : Int))) = false, (decide (n > (63000 : Int))) = false, (decide (n < (0 : Int))) = false]) (by kernel_rfl) ⟨(loop_known2 add_eq), goA_k14, goA_k13, goA_k9, goA_k6, goA_k3, goA_k0, trivial⟩ (by kernel_rfl)
set_option maxHeartbeats 8000000 in
theorem goK (n m t : Int) (goA_z0 : Int) (goA_z1 : Int) (goA_z2 : Int)  (h1 : 0 ≤ n ∧ n ≤ 63000) (h2 : 1 ≤ m ∧ m ≤ 20) (h3 : 1 ≤ t ∧ t ≤ 9223372036854775807) (goA_k0 : (decide (n < (0 : Int))) = false) (goA_k3 : (decide (n > (63000 : Int))) = false) (goA_k6 : (decide (m < (1 : Int))) = false) (goA_k9 : (decide (m > (20 : Int))) = false) (goA_k13 : (decide (t < (0 : Int))) = false) (goA_k14 : (t == (0 : Int)) = false) (goA_l : ∀ B : Bd, B.L = [] → LoopOk Try.prog B (goA_hd n m t).ro (goA_hd n m t).a (goA_hd n m t).s (goA_X 0) (goA_E 0 n m t goA_z0 goA_z1 goA_z2 )) : Known Try.prog [] 21 [.int .i64 n, .int .i64 m, .int .i64 t] (.tuple #[(.int .i64 (goK_c0 n m t goA_z0 goA_z1 goA_z2)), (.int .i64 ((0 : Int))), (.int .i64 ((0 : Int)))]) := by
  have e0 : goK_c0 n m t goA_z0 goA_z1 goA_z2 = (n) := rfl; rw [e0]; exact goK_p0 n m t goA_z0 goA_z1 goA_z2 h1 h2 h3 goA_k0 goA_k3 goA_k6 goA_k9 goA_k13 goA_k14 goA_l

noncomputable def goJ_c0 (n m t : Int) (goA_z0 : Int) (goA_z1 : Int) (goA_z2 : Int)  : Int := (IntKind.i64.wrap (n - IntKind.i64.wrap (goA_z1 - nxV m goA_z0 goA_z1)))
noncomputable def goJ_c1 (n m t : Int) (goA_z0 : Int) (goA_z1 : Int) (goA_z2 : Int)  : Int := (nxV m goA_z0 goA_z1)
theorem goJ_p0 (n m t : Int) (goA_z0 : Int) (goA_z1 : Int) (goA_z2 : Int)  (h1 : 0 ≤ n ∧ n ≤ 63000) (h2 : 1 ≤ m ∧ m ≤ 20) (h3 : 1 ≤ t ∧ t ≤ 9223372036854775807) (goA_k0 : (decide (n < (0 : Int))) = false) (goA_k3 : (decide (n > (63000 : Int))) = false) (goA_k6 : (decide (m < (1 : Int))) = false) (goA_k9 : (decide (m > (20 : Int))) = false) (goA_k13 : (decide (t < (0 : Int))) = false) (goA_k14 : (t == (0 : Int)) = false) (goA_l : ∀ B : Bd, B.L = [] → LoopOk Try.prog B (goA_hd n m t).ro (goA_hd n m t).a (goA_hd n m t).s (goA_X 1) (goA_E 1 n m t goA_z0 goA_z1 goA_z2 )) : Known Try.prog [] 21 [.int .i64 n, .int .i64 m, .int .i64 t] (.tuple #[(.int .i64 (IntKind.i64.wrap (n - IntKind.i64.wrap (goA_z1 - nxV m goA_z0 goA_z1)))), (.int .i64 (nxV m goA_z0 goA_z1)), (.int .i64 ((0 : Int)))]) :=
  open_res mix (GOk.add tabB_ok goA_l) (T := (GTab.add tabB 3 (goA_hd n m t).ro (goA_hd n m t).a (goA_hd n m t).s (goA_X 1) (goA_E 1 n m t goA_z0 goA_z1 goA_z2 ) (by kernel_rfl))) (fuel := 3000) (ans := [(0, .b 0), (3, .b 0), (6, .b 0), (9, .b 0), (13, .b 0), (14, .b 0), (15, .loop (goA_X 1) (goA_E 1 n m t goA_z0 goA_z1 goA_z2 )), ]) (log := [LoopRes Try.prog ([] : Vars).length (GTab.add tabB 3 (goA_hd n m t).ro (goA_hd n m t).a (goA_hd n m t).s (goA_X 1) (goA_E 1 n m t goA_z0 goA_z1 goA_z2 ) (by kernel_rfl)) (goA_hd n m t).ro (goA_hd n m t).a (goA_hd n m t).s (goA_X 1) (goA_E 1 n m t goA_z0 goA_z1 goA_z2 ), (t == (0 : Int)) = false, (decide (t < (0 : Int))) = false, (decide (m > (20 : Int))) = false, (decide (m < (1 : Int))) = false, (decide (n > (63000 : Int))) = false, (decide (n < (0 : Int))) = false]) (by kernel_rfl) ⟨(loop_known2 add_eq), goA_k14, goA_k13, goA_k9, goA_k6, goA_k3, goA_k0, trivial⟩ (by kernel_rfl)
set_option maxHeartbeats 8000000 in
theorem goJ (n m t : Int) (goA_z0 : Int) (goA_z1 : Int) (goA_z2 : Int)  (h1 : 0 ≤ n ∧ n ≤ 63000) (h2 : 1 ≤ m ∧ m ≤ 20) (h3 : 1 ≤ t ∧ t ≤ 9223372036854775807) (goA_k0 : (decide (n < (0 : Int))) = false) (goA_k3 : (decide (n > (63000 : Int))) = false) (goA_k6 : (decide (m < (1 : Int))) = false) (goA_k9 : (decide (m > (20 : Int))) = false) (goA_k13 : (decide (t < (0 : Int))) = false) (goA_k14 : (t == (0 : Int)) = false) (goA_l : ∀ B : Bd, B.L = [] → LoopOk Try.prog B (goA_hd n m t).ro (goA_hd n m t).a (goA_hd n m t).s (goA_X 1) (goA_E 1 n m t goA_z0 goA_z1 goA_z2 )) : Known Try.prog [] 21 [.int .i64 n, .int .i64 m, .int .i64 t] (.tuple #[(.int .i64 (goJ_c0 n m t goA_z0 goA_z1 goA_z2)), (.int .i64 (goJ_c1 n m t goA_z0 goA_z1 goA_z2)), (.int .i64 ((0 : Int)))]) := by
  have e0 : goJ_c0 n m t goA_z0 goA_z1 goA_z2 = (IntKind.i64.wrap (n - IntKind.i64.wrap (goA_z1 - nxV m goA_z0 goA_z1))) := rfl; rw [e0]; have e1 : goJ_c1 n m t goA_z0 goA_z1 goA_z2 = (nxV m goA_z0 goA_z1) := rfl; rw [e1]; exact goJ_p0 n m t goA_z0 goA_z1 goA_z2 h1 h2 h3 goA_k0 goA_k3 goA_k6 goA_k9 goA_k13 goA_k14 goA_l

noncomputable def goI_c0 (n m t : Int) (goA_z0 : Int) (goA_z1 : Int) (goA_z2 : Int)  : Int := (n)
theorem goI_p0 (n m t : Int) (goA_z0 : Int) (goA_z1 : Int) (goA_z2 : Int)  (h1 : 0 ≤ n ∧ n ≤ 63000) (h2 : 1 ≤ m ∧ m ≤ 20) (h3 : 1 ≤ t ∧ t ≤ 9223372036854775807) (goA_k0 : (decide (n < (0 : Int))) = false) (goA_k3 : (decide (n > (63000 : Int))) = false) (goA_k6 : (decide (m < (1 : Int))) = false) (goA_k9 : (decide (m > (20 : Int))) = false) (goA_k13 : (decide (t < (0 : Int))) = false) (goA_k14 : (t == (0 : Int)) = false) (goA_l : ∀ B : Bd, B.L = [] → LoopOk Try.prog B (goA_hd n m t).ro (goA_hd n m t).a (goA_hd n m t).s (goA_X 2) (goA_E 2 n m t goA_z0 goA_z1 goA_z2 )) : Known Try.prog [] 21 [.int .i64 n, .int .i64 m, .int .i64 t] (.tuple #[(.int .i64 (n)), (.int .i64 ((0 : Int))), (.int .i64 ((0 : Int)))]) :=
  open_res mix (GOk.add tabB_ok goA_l) (T := (GTab.add tabB 3 (goA_hd n m t).ro (goA_hd n m t).a (goA_hd n m t).s (goA_X 2) (goA_E 2 n m t goA_z0 goA_z1 goA_z2 ) (by kernel_rfl))) (fuel := 3000) (ans := [(0, .b 0), (3, .b 0), (6, .b 0), (9, .b 0), (13, .b 0), (14, .b 0), (15, .loop (goA_X 2) (goA_E 2 n m t goA_z0 goA_z1 goA_z2 )), ]) (log := [LoopRes Try.prog ([] : Vars).length (GTab.add tabB 3 (goA_hd n m t).ro (goA_hd n m t).a (goA_hd n m t).s (goA_X 2) (goA_E 2 n m t goA_z0 goA_z1 goA_z2 ) (by kernel_rfl)) (goA_hd n m t).ro (goA_hd n m t).a (goA_hd n m t).s (goA_X 2) (goA_E 2 n m t goA_z0 goA_z1 goA_z2 ), (t == (0 : Int)) = false, (decide (t < (0 : Int))) = false, (decide (m > (20 : Int))) = false, (decide (m < (1 : Int))) = false, (decide (n > (63000 : Int))) = false, (decide (n < (0 : Int))) = false]) (by kernel_rfl) ⟨(loop_known2 add_eq), goA_k14, goA_k13, goA_k9, goA_k6, goA_k3, goA_k0, trivial⟩ (by kernel_rfl)
set_option maxHeartbeats 8000000 in
theorem goI (n m t : Int) (goA_z0 : Int) (goA_z1 : Int) (goA_z2 : Int)  (h1 : 0 ≤ n ∧ n ≤ 63000) (h2 : 1 ≤ m ∧ m ≤ 20) (h3 : 1 ≤ t ∧ t ≤ 9223372036854775807) (goA_k0 : (decide (n < (0 : Int))) = false) (goA_k3 : (decide (n > (63000 : Int))) = false) (goA_k6 : (decide (m < (1 : Int))) = false) (goA_k9 : (decide (m > (20 : Int))) = false) (goA_k13 : (decide (t < (0 : Int))) = false) (goA_k14 : (t == (0 : Int)) = false) (goA_l : ∀ B : Bd, B.L = [] → LoopOk Try.prog B (goA_hd n m t).ro (goA_hd n m t).a (goA_hd n m t).s (goA_X 2) (goA_E 2 n m t goA_z0 goA_z1 goA_z2 )) : Known Try.prog [] 21 [.int .i64 n, .int .i64 m, .int .i64 t] (.tuple #[(.int .i64 (goI_c0 n m t goA_z0 goA_z1 goA_z2)), (.int .i64 ((0 : Int))), (.int .i64 ((0 : Int)))]) := by
  have e0 : goI_c0 n m t goA_z0 goA_z1 goA_z2 = (n) := rfl; rw [e0]; exact goI_p0 n m t goA_z0 goA_z1 goA_z2 h1 h2 h3 goA_k0 goA_k3 goA_k6 goA_k9 goA_k13 goA_k14 goA_l

theorem goE_p0 (n m t : Int) (h1 : ¬ (0 ≤ n ∧ n ≤ 63000 ∧ 1 ≤ m ∧ m ≤ 20 ∧ 0 ≤ t)) (hq0 : (decide (n < (0 : Int))) = true) : Known Try.prog [] 21 [.int .i64 n, .int .i64 m, .int .i64 t] (.tuple #[(.int .i64 ((0 : Int))), (.int .i64 ((0 : Int))), (.int .i64 ((2 : Int)))]) :=
  open_res mix tabB_ok (T := tabB) (fuel := 3000) (ans := [(0, .b 1)]) (log := [(decide (n < (0 : Int))) = true]) (by kernel_rfl) ⟨hq0, trivial⟩ (by kernel_rfl)
theorem goE_p1 (n m t : Int) (h1 : ¬ (0 ≤ n ∧ n ≤ 63000 ∧ 1 ≤ m ∧ m ≤ 20 ∧ 0 ≤ t)) (hq0 : (decide (n < (0 : Int))) = false) (hq1 : (decide (n > (63000 : Int))) = true) : Known Try.prog [] 21 [.int .i64 n, .int .i64 m, .int .i64 t] (.tuple #[(.int .i64 ((0 : Int))), (.int .i64 ((0 : Int))), (.int .i64 ((2 : Int)))]) :=
  open_res mix tabB_ok (T := tabB) (fuel := 3000) (ans := [(0, .b 0), (3, .b 1)]) (log := [(decide (n > (63000 : Int))) = true, (decide (n < (0 : Int))) = false]) (by kernel_rfl) ⟨hq1, hq0, trivial⟩ (by kernel_rfl)
theorem goE_p2 (n m t : Int) (h1 : ¬ (0 ≤ n ∧ n ≤ 63000 ∧ 1 ≤ m ∧ m ≤ 20 ∧ 0 ≤ t)) (hq0 : (decide (n < (0 : Int))) = false) (hq1 : (decide (n > (63000 : Int))) = false) (hq2 : (decide (m < (1 : Int))) = true) : Known Try.prog [] 21 [.int .i64 n, .int .i64 m, .int .i64 t] (.tuple #[(.int .i64 ((0 : Int))), (.int .i64 ((0 : Int))), (.int .i64 ((2 : Int)))]) :=
  open_res mix tabB_ok (T := tabB) (fuel := 3000) (ans := [(0, .b 0), (3, .b 0), (6, .b 1)]) (log := [(decide (m < (1 : Int))) = true, (decide (n > (63000 : Int))) = false, (decide (n < (0 : Int))) = false]) (by kernel_rfl) ⟨hq2, hq1, hq0, trivial⟩ (by kernel_rfl)
theorem goE_p3 (n m t : Int) (h1 : ¬ (0 ≤ n ∧ n ≤ 63000 ∧ 1 ≤ m ∧ m ≤ 20 ∧ 0 ≤ t)) (hq0 : (decide (n < (0 : Int))) = false) (hq1 : (decide (n > (63000 : Int))) = false) (hq2 : (decide (m < (1 : Int))) = false) (hq3 : (decide (m > (20 : Int))) = true) : Known Try.prog [] 21 [.int .i64 n, .int .i64 m, .int .i64 t] (.tuple #[(.int .i64 ((0 : Int))), (.int .i64 ((0 : Int))), (.int .i64 ((2 : Int)))]) :=
  open_res mix tabB_ok (T := tabB) (fuel := 3000) (ans := [(0, .b 0), (3, .b 0), (6, .b 0), (9, .b 1)]) (log := [(decide (m > (20 : Int))) = true, (decide (m < (1 : Int))) = false, (decide (n > (63000 : Int))) = false, (decide (n < (0 : Int))) = false]) (by kernel_rfl) ⟨hq3, hq2, hq1, hq0, trivial⟩ (by kernel_rfl)
theorem goE_p4 (n m t : Int) (h1 : ¬ (0 ≤ n ∧ n ≤ 63000 ∧ 1 ≤ m ∧ m ≤ 20 ∧ 0 ≤ t)) (hq0 : (decide (n < (0 : Int))) = false) (hq1 : (decide (n > (63000 : Int))) = false) (hq2 : (decide (m < (1 : Int))) = false) (hq3 : (decide (m > (20 : Int))) = false) (hq4 : (decide (t < (0 : Int))) = true) : Known Try.prog [] 21 [.int .i64 n, .int .i64 m, .int .i64 t] (.tuple #[(.int .i64 ((0 : Int))), (.int .i64 ((0 : Int))), (.int .i64 ((2 : Int)))]) :=
  open_res mix tabB_ok (T := tabB) (fuel := 3000) (ans := [(0, .b 0), (3, .b 0), (6, .b 0), (9, .b 0), (13, .b 1)]) (log := [(decide (t < (0 : Int))) = true, (decide (m > (20 : Int))) = false, (decide (m < (1 : Int))) = false, (decide (n > (63000 : Int))) = false, (decide (n < (0 : Int))) = false]) (by kernel_rfl) ⟨hq4, hq3, hq2, hq1, hq0, trivial⟩ (by kernel_rfl)
set_option maxHeartbeats 8000000 in
theorem goE (n m t : Int) (h1 : ¬ (0 ≤ n ∧ n ≤ 63000 ∧ 1 ≤ m ∧ m ≤ 20 ∧ 0 ≤ t)) : Known Try.prog [] 21 [.int .i64 n, .int .i64 m, .int .i64 t] (.tuple #[(.int .i64 ((0 : Int))), (.int .i64 ((0 : Int))), (.int .i64 ((2 : Int)))]) := by
  rcases Bool.eq_false_or_eq_true (decide (n < (0 : Int))) with hq0 | hq0
  ·
    exact goE_p0 n m t h1 hq0
  ·
    rcases Bool.eq_false_or_eq_true (decide (n > (63000 : Int))) with hq1 | hq1
    ·
      exact goE_p1 n m t h1 hq0 hq1
    ·
      rcases Bool.eq_false_or_eq_true (decide (m < (1 : Int))) with hq2 | hq2
      ·
        exact goE_p2 n m t h1 hq0 hq1 hq2
      ·
        rcases Bool.eq_false_or_eq_true (decide (m > (20 : Int))) with hq3 | hq3
        ·
          exact goE_p3 n m t h1 hq0 hq1 hq2 hq3
        ·
          have hq4 : (decide (t < (0 : Int))) = true := by
            rcases Bool.eq_false_or_eq_true (decide (t < (0 : Int))) with h | h
            · exact h
            · exfalso; (first | (simp_all only [Bool.and_eq_true, Bool.not_eq_true', Bool.false_eq_true, Bool.true_eq_false, reduceCtorEq]; done) | (simp only [sx, sy, eq_self, ne_eq, IntKind.wrap_i64, wrapU64, Int.reduceLT] at * <;> first | contradiction | omega) | (simp_all; done))
          exact goE_p4 n m t h1 hq0 hq1 hq2 hq3 hq4

theorem go0_p0 (n m t : Int) (h1 : 0 ≤ n ∧ n ≤ 63000) (h2 : 1 ≤ m ∧ m ≤ 20) (h3 : t = 0) (hq0 : (decide (n < (0 : Int))) = false) (hq1 : (decide (n > (63000 : Int))) = false) (hq2 : (decide (m < (1 : Int))) = false) (hq3 : (decide (m > (20 : Int))) = false) (hq4 : (decide (t < (0 : Int))) = false) (hq5 : (t == (0 : Int)) = true) : Known Try.prog [] 21 [.int .i64 n, .int .i64 m, .int .i64 t] (.tuple #[(.int .i64 ((0 : Int))), (.int .i64 ((0 : Int))), (.int .i64 ((0 : Int)))]) :=
  open_res mix tabB_ok (T := tabB) (fuel := 3000) (ans := [(0, .b 0), (3, .b 0), (6, .b 0), (9, .b 0), (13, .b 0), (14, .b 1)]) (log := [(t == (0 : Int)) = true, (decide (t < (0 : Int))) = false, (decide (m > (20 : Int))) = false, (decide (m < (1 : Int))) = false, (decide (n > (63000 : Int))) = false, (decide (n < (0 : Int))) = false]) (by kernel_rfl) ⟨hq5, hq4, hq3, hq2, hq1, hq0, trivial⟩ (by kernel_rfl)
set_option maxHeartbeats 8000000 in
theorem go0 (n m t : Int) (h1 : 0 ≤ n ∧ n ≤ 63000) (h2 : 1 ≤ m ∧ m ≤ 20) (h3 : t = 0) : Known Try.prog [] 21 [.int .i64 n, .int .i64 m, .int .i64 t] (.tuple #[(.int .i64 ((0 : Int))), (.int .i64 ((0 : Int))), (.int .i64 ((0 : Int)))]) := by
  have hq0 : (decide (n < (0 : Int))) = false := by
    rcases Bool.eq_false_or_eq_true (decide (n < (0 : Int))) with h | h
    · exfalso; (first | (simp_all only [Bool.and_eq_true, Bool.not_eq_true', Bool.false_eq_true, Bool.true_eq_false, reduceCtorEq]; done) | (simp only [sx, sy, eq_self, ne_eq, IntKind.wrap_i64, wrapU64, Int.reduceLT] at * <;> first | contradiction | omega) | (simp_all; done))
    · exact h
  have hq1 : (decide (n > (63000 : Int))) = false := by
    rcases Bool.eq_false_or_eq_true (decide (n > (63000 : Int))) with h | h
    · exfalso; (first | (simp_all only [Bool.and_eq_true, Bool.not_eq_true', Bool.false_eq_true, Bool.true_eq_false, reduceCtorEq]; done) | (simp only [sx, sy, eq_self, ne_eq, IntKind.wrap_i64, wrapU64, Int.reduceLT] at * <;> first | contradiction | omega) | (simp_all; done))
    · exact h
  have hq2 : (decide (m < (1 : Int))) = false := by
    rcases Bool.eq_false_or_eq_true (decide (m < (1 : Int))) with h | h
    · exfalso; (first | (simp_all only [Bool.and_eq_true, Bool.not_eq_true', Bool.false_eq_true, Bool.true_eq_false, reduceCtorEq]; done) | (simp only [sx, sy, eq_self, ne_eq, IntKind.wrap_i64, wrapU64, Int.reduceLT] at * <;> first | contradiction | omega) | (simp_all; done))
    · exact h
  have hq3 : (decide (m > (20 : Int))) = false := by
    rcases Bool.eq_false_or_eq_true (decide (m > (20 : Int))) with h | h
    · exfalso; (first | (simp_all only [Bool.and_eq_true, Bool.not_eq_true', Bool.false_eq_true, Bool.true_eq_false, reduceCtorEq]; done) | (simp only [sx, sy, eq_self, ne_eq, IntKind.wrap_i64, wrapU64, Int.reduceLT] at * <;> first | contradiction | omega) | (simp_all; done))
    · exact h
  have hq4 : (decide (t < (0 : Int))) = false := by
    rcases Bool.eq_false_or_eq_true (decide (t < (0 : Int))) with h | h
    · exfalso; (first | (simp_all only [Bool.and_eq_true, Bool.not_eq_true', Bool.false_eq_true, Bool.true_eq_false, reduceCtorEq]; done) | (simp only [sx, sy, eq_self, ne_eq, IntKind.wrap_i64, wrapU64, Int.reduceLT] at * <;> first | contradiction | omega) | (simp_all; done))
    · exact h
  have hq5 : (t == (0 : Int)) = true := by
    rcases Bool.eq_false_or_eq_true (t == (0 : Int)) with h | h
    · exact h
    · exfalso; (first | (simp_all only [Bool.and_eq_true, Bool.not_eq_true', Bool.false_eq_true, Bool.true_eq_false, reduceCtorEq]; done) | (simp only [sx, sy, eq_self, ne_eq, IntKind.wrap_i64, wrapU64, Int.reduceLT] at * <;> first | contradiction | omega) | (simp_all; done))
  exact go0_p0 n m t h1 h2 h3 hq0 hq1 hq2 hq3 hq4 hq5

noncomputable def rgA_hd (n m t : Int) : Hd := headF Try.prog [] tabB 3000 22 [.int .i64 n, .int .i64 m, .int .i64 t] [(0, .b 0), (3, .b 0), (6, .b 0), (9, .b 0), (13, .b 0), (15, .stop)]
noncomputable def rgA_S (n m t : Int) (y0 : Int) (y1 : Int) (y2 : Int) : St := ((entryK 0 40 [31, 39, 35, 27, 33, 41, 37, 29, 32, 40, 36, 28, 34, 26, 38, 30] 0 0 (rgA_hd n m t).s).updF [(10, .int .i64 y0), (11, .int .i64 y1), (12, .int .i64 y2)] [])
theorem rgA_n (n m t : Int) (h1 : 0 ≤ n ∧ n ≤ 63000) (h2 : 1 ≤ m ∧ m ≤ 20) (h3 : 0 ≤ t ∧ t ≤ 9223372036854775807) : 0 = (rgA_hd n m t).s.hs.next := by kernel_rfl
theorem rgA_r (n m t : Int) (h1 : 0 ≤ n ∧ n ≤ 63000) (h2 : 1 ≤ m ∧ m ≤ 20) (h3 : 0 ≤ t ∧ t ≤ 9223372036854775807) : (rgA_hd n m t).s.hs.rd < bitOf 0 := by
  have e : (rgA_hd n m t).s.hs.rd = 0 := by kernel_rfl
  rw [e]; exact blt_iff.1 (by kernel_rfl)
theorem rgA_w (n m t : Int) (h1 : 0 ≤ n ∧ n ≤ 63000) (h2 : 1 ≤ m ∧ m ≤ 20) (h3 : 0 ≤ t ∧ t ≤ 9223372036854775807) : (rgA_hd n m t).s.hs.wr < bitOf 0 := by
  have e : (rgA_hd n m t).s.hs.wr = 0 := by kernel_rfl
  rw [e]; exact blt_iff.1 (by kernel_rfl)
theorem rgA_e0 (n m t : Int) (h1 : 0 ≤ n ∧ n ≤ 63000) (h2 : 1 ≤ m ∧ m ≤ 20) (h3 : 0 ≤ t ∧ t ≤ 9223372036854775807) : canonS 0 40 [] [31, 39, 35, 27, 33, 41, 37, 29, 32, 40, 36, 28, 34, 26, 38, 30] 0 0 0 (rgA_hd n m t).s = some (rgA_S n m t ((0 : Int)) (n) ((0 : Int))) := by kernel_rfl
theorem rgA_e1 (n m t : Int) (h1 : 0 ≤ n ∧ n ≤ 63000) (h2 : 1 ≤ m ∧ m ≤ 20) (h3 : 0 ≤ t ∧ t ≤ 9223372036854775807) : canonOk 0 40 [] 0 (rgA_hd n m t).s = true := canonOkF_eq.symm.trans (by kernel_rfl)
def rgA_X : Nat → VX
  | 0 => .exit 0
  | _ => .normal
noncomputable def rgA_E (kE : Nat) (n m t : Int) (y0 : Int) (y1 : Int) (y2 : Int) : St := match kE with
  | 0 => ((bodySt (bodyK Try.prog ([] : Vars).length tabB 3000 (rgA_hd n m t) (rgA_S n m t y0 y1 y2 ) [(0, .b 1), (3, .b 0)] 0 40 [31, 39, 35, 27, 33, 41, 37, 29, 32, 40, 36, 28, 34, 26, 38, 30] 40 0 0)).updF [(10, .int .i64 y0), (11, .int .i64 y1), (12, .int .i64 y2)] [])
  | _ => (rgA_hd n m t).s
noncomputable def rgA_b2 (n m t : Int) (y0 : Int) (y1 : Int) (y2 : Int) : Bool := decide ((0 : Int) ≤ y0 ∧ y0 ≤ m ∧ (1 : Int) ≤ m ∧ m ≤ (20 : Int) ∧ (1 : Int) ≤ y1 ∧ y1 ≤ (63000 : Int) ∧ (y0 = (0 : Int) ∨ rT (y0 - (1 : Int)) ≤ y1))
theorem rgA_p0 (n m t : Int) (y0 : Int) (y1 : Int) (y2 : Int) : bodyK Try.prog ([] : Vars).length tabB 3000 (rgA_hd n m t) (rgA_S n m t y0 y1 y2 ) [(0, .b 1), (3, .b 1), (4, .b 1)] 0 40 [31, 39, 35, 27, 33, 41, 37, 29, 32, 40, 36, 28, 34, 26, 38, 30] 0 0 0 = some (.normal, (rgA_S n m t (nxV m y0 y1) (IntKind.i64.wrap (y1 - nxV m y0 y1)) (IntKind.i64.wrap (y2 + (1 : Int)))), [(rgA_b2 n m t y0 y1 y2 ) = true, (decide (y1 > (0 : Int))) = true, (decide (y2 < t)) = true]) := by kernel_rfl
theorem rgA_p1 (n m t : Int) (y0 : Int) (y1 : Int) (y2 : Int) : bodyK Try.prog ([] : Vars).length tabB 3000 (rgA_hd n m t) (rgA_S n m t y0 y1 y2 ) [(0, .b 1), (3, .b 0)] 0 40 [31, 39, 35, 27, 33, 41, 37, 29, 32, 40, 36, 28, 34, 26, 38, 30] 40 0 0 = some (.exit 0, rgA_E 0 n m t (y0) (y1) (y2), [(decide (y1 > (0 : Int))) = false, (decide (y2 < t)) = true]) := by kernel_rfl
theorem rgA_q1 (n m t : Int) (y0 : Int) (y1 : Int) (y2 : Int) : (rgA_E 0 n m t (y0) (y1) (y2)).hs.next = 40 := by kernel_rfl
theorem rgA_p2 (n m t : Int) (y0 : Int) (y1 : Int) (y2 : Int) : bodyK Try.prog ([] : Vars).length tabB 3000 (rgA_hd n m t) (rgA_S n m t y0 y1 y2 ) [(0, .b 0)] 0 40 [31, 39, 35, 27, 33, 41, 37, 29, 32, 40, 36, 28, 34, 26, 38, 30] 40 0 0 = some (.exit 0, rgA_E 0 n m t (y0) (y1) (y2), [(decide (y2 < t)) = false]) := by kernel_rfl
theorem rgA_q2 (n m t : Int) (y0 : Int) (y1 : Int) (y2 : Int) : (rgA_E 0 n m t (y0) (y1) (y2)).hs.next = 40 := by kernel_rfl
theorem rgA_d0 (n m t : Int) (h1 : 0 ≤ n ∧ n ≤ 63000) (h2 : 1 ≤ m ∧ m ≤ 20) (h3 : 0 ≤ t ∧ t ≤ 9223372036854775807) (y0 : Int) (y1 : Int) (y2 : Int) (hi : (decide (0 ≤ y0 ∧ y0 ≤ m ∧ 0 ≤ y1 ∧ y1 ≤ 63000 ∧ (y0 = 0 ∨ rT (y0 - 1) ≤ y1) ∧ 0 ≤ y2 ∧ y2 ≤ t ∧ y1 ≤ n ∧ (y1 = 0 ∨ (0 ≤ nxV m y0 y1 ∧ nxV m y0 y1 ≤ 20 ∧ nxV m y0 y1 ≤ y1)))) = true) (hq0 : (decide (y2 < t)) = true) (hq1 : (decide (y1 > (0 : Int))) = true) : (rgA_b2 n m t y0 y1 y2 ) = true := by
  rcases Bool.eq_false_or_eq_true (rgA_b2 n m t y0 y1 y2 ) with h | h
  · exact h
  · exfalso; (try simp only [rgA_b2] at *); (first | (simp_all only [Bool.and_eq_true, Bool.not_eq_true', Bool.false_eq_true, Bool.true_eq_false, reduceCtorEq]; done) | (simp only [sx, sy, eq_self, ne_eq, IntKind.wrap_i64, wrapU64, Int.reduceLT] at * <;> first | contradiction | omega) | (simp_all; done))
noncomputable def rgA_f (n m t : Int) : Nat → Int → Int → Int → Option (Nat × (Int × Int × Int))
  | 0, _, _, _ => none
  | fu + 1, y0, y1, y2 => (bif (decide (0 ≤ y0 ∧ y0 ≤ m ∧ 0 ≤ y1 ∧ y1 ≤ 63000 ∧ (y0 = 0 ∨ rT (y0 - 1) ≤ y1) ∧ 0 ≤ y2 ∧ y2 ≤ t ∧ y1 ≤ n ∧ (y1 = 0 ∨ (0 ≤ nxV m y0 y1 ∧ nxV m y0 y1 ≤ 20 ∧ nxV m y0 y1 ≤ y1)))) then (bif (decide (y2 < t)) then (bif (decide (y1 > (0 : Int))) then rgA_f n m t fu (nxV m y0 y1) (IntKind.i64.wrap (y1 - nxV m y0 y1)) (IntKind.i64.wrap (y2 + (1 : Int))) else some (0, ((y0), (y1), (y2)))) else some (0, ((y0), (y1), (y2)))) else none)
theorem rgA_fs (n m t : Int) (fu : Nat) (y0 : Int) (y1 : Int) (y2 : Int) : rgA_f n m t (fu + 1) y0 y1 y2 = (bif (decide (0 ≤ y0 ∧ y0 ≤ m ∧ 0 ≤ y1 ∧ y1 ≤ 63000 ∧ (y0 = 0 ∨ rT (y0 - 1) ≤ y1) ∧ 0 ≤ y2 ∧ y2 ≤ t ∧ y1 ≤ n ∧ (y1 = 0 ∨ (0 ≤ nxV m y0 y1 ∧ nxV m y0 y1 ≤ 20 ∧ nxV m y0 y1 ≤ y1)))) then (bif (decide (y2 < t)) then (bif (decide (y1 > (0 : Int))) then rgA_f n m t fu (nxV m y0 y1) (IntKind.i64.wrap (y1 - nxV m y0 y1)) (IntKind.i64.wrap (y2 + (1 : Int))) else some (0, ((y0), (y1), (y2)))) else some (0, ((y0), (y1), (y2)))) else none) := rfl
theorem rgA_f0 (n m t : Int) (y0 : Int) (y1 : Int) (y2 : Int) : rgA_f n m t 0 y0 y1 y2 = none := rfl
theorem rgA_loop (n m t : Int) (h1 : 0 ≤ n ∧ n ≤ 63000) (h2 : 1 ≤ m ∧ m ≤ 20) (h3 : 0 ≤ t ∧ t ≤ 9223372036854775807) : ∀ (fu : Nat) (y0 : Int) (y1 : Int) (y2 : Int) (kk : Nat) (zz : Int × Int × Int), rgA_f n m t fu y0 y1 y2 = some (kk, zz) → VStep (rgA_hd n m t).s.hs (rgA_S n m t y0 y1 y2 ).hs → RoundsC Try.prog [] 0 40 (rgA_hd n m t).s.hs (rgA_hd n m t).ro (rgA_hd n m t).a (rgA_S n m t y0 y1 y2 ) (rgA_X kk) (rgA_E kk n m t zz.1 zz.2.1 zz.2.2 ) ∧ ((rgA_E kk n m t zz.1 zz.2.1 zz.2.2 )).hs.next = 40 := by
  intro fu
  induction fu with
  | zero =>
    intro y0 y1 y2 kk zz hf hSz
    have hf := (rgA_f0 n m t y0 y1 y2 ).symm.trans hf
    simp at hf
  | succ fu ih =>
    intro y0 y1 y2 kk zz hf hSz
    have hf := (rgA_fs n m t fu y0 y1 y2 ).symm.trans hf
    rcases bif_or hf with ⟨hi, hf⟩ | ⟨hi, hf⟩
    case inr => cases hf
    rcases bif_or hf with ⟨hq0, hf⟩ | ⟨hq0, hf⟩
    ·
      rcases bif_or hf with ⟨hq1, hf⟩ | ⟨hq1, hf⟩
      ·
        have hq2 := rgA_d0 n m t h1  h2  h3  y0 y1 y2 hi hq0 hq1 
        have hb1 := rgA_p0 n m t y0 y1 y2 ; have hb2 := body_canon hb1; have hb3 := hb2 ⟨hq2, hq1, hq0, trivial⟩; obtain ⟨sz1, kz1, kz2, kz3⟩ := hb3; obtain ⟨gz1, gz2⟩ := ih (nxV m y0 y1) (IntKind.i64.wrap (y1 - nxV m y0 y1)) (IntKind.i64.wrap (y2 + (1 : Int))) kk zz hf (rounds_step mix (T := tabB) tabB_ok (rgA_n n m t h1  h2  h3  ) (rgA_r n m t h1  h2  h3  ) (rgA_w n m t h1  h2  h3  ) kz1 hSz kz2 kz3); exact ⟨rounds_next mix (T := tabB) tabB_ok (rgA_n n m t h1  h2  h3  ) (rgA_r n m t h1  h2  h3  ) (rgA_w n m t h1  h2  h3  ) kz1 hSz kz2 kz3 (fun _ => gz1), gz2⟩
      ·
        injection hf with hf; injection hf with e1 e2; subst e1; subst e2; have hb1 := rgA_p1 n m t y0 y1 y2 ; have hb2 := body_canon hb1; have hb3 := hb2 ⟨hq1, hq0, trivial⟩; obtain ⟨sz1, kz1, kz2, kz3⟩ := hb3; exact ⟨rounds_end mix (T := tabB) tabB_ok (rgA_n n m t h1  h2  h3  ) (rgA_r n m t h1  h2  h3  ) (rgA_w n m t h1  h2  h3  ) kz1 (fun h => by cases h) hSz kz2 kz3, rgA_q1 n m t y0 y1 y2 ⟩
    ·
      injection hf with hf; injection hf with e1 e2; subst e1; subst e2; have hb1 := rgA_p2 n m t y0 y1 y2 ; have hb2 := body_canon hb1; have hb3 := hb2 ⟨hq0, trivial⟩; obtain ⟨sz1, kz1, kz2, kz3⟩ := hb3; exact ⟨rounds_end mix (T := tabB) tabB_ok (rgA_n n m t h1  h2  h3  ) (rgA_r n m t h1  h2  h3  ) (rgA_w n m t h1  h2  h3  ) kz1 (fun h => by cases h) hSz kz2 kz3, rgA_q2 n m t y0 y1 y2 ⟩
theorem rgA_ok (n m t : Int) (h1 : 0 ≤ n ∧ n ≤ 63000) (h2 : 1 ≤ m ∧ m ≤ 20) (h3 : 0 ≤ t ∧ t ≤ 9223372036854775807) (fu kk : Nat) (zz : Int × Int × Int) (hf : rgA_f n m t fu ((0 : Int)) (n) ((0 : Int)) = some (kk, zz)) : ∀ B : Bd, B.L = [] → LoopOk Try.prog B (rgA_hd n m t).ro (rgA_hd n m t).a (rgA_hd n m t).s (rgA_X kk) (rgA_E kk n m t zz.1 zz.2.1 zz.2.2 ) := by
  have hSz := begin_step (rgA_n n m t h1  h2  h3  ) (rgA_r n m t h1  h2  h3  ) (rgA_w n m t h1  h2  h3  ) (rgA_e0 n m t h1  h2  h3  ) (rgA_e1 n m t h1  h2  h3  )
  obtain ⟨gz1, gz2⟩ := rgA_loop n m t h1  h2  h3  fu ((0 : Int)) (n) ((0 : Int)) kk zz hf hSz
  exact rounds_ok (rgA_n n m t h1  h2  h3  ) (Nat.le_of_ble_eq_true (by kernel_rfl)) gz2 (rounds_begin (rgA_n n m t h1  h2  h3  ) (rgA_r n m t h1  h2  h3  ) (rgA_w n m t h1  h2  h3  ) (rgA_e0 n m t h1  h2  h3  ) (rgA_e1 n m t h1  h2  h3  ) (fun _ => gz1))

noncomputable def rgK_c0 (n m t : Int) (rgA_z0 : Int) (rgA_z1 : Int) (rgA_z2 : Int)  : Int := (IntKind.i64.wrap (n - rgA_z1))
noncomputable def rgK_c1 (n m t : Int) (rgA_z0 : Int) (rgA_z1 : Int) (rgA_z2 : Int)  : Int := (bif (rgA_z1 == (0 : Int)) then ((0 : Int)) else (rgA_z0))
theorem rgK_p0 (n m t : Int) (rgA_z0 : Int) (rgA_z1 : Int) (rgA_z2 : Int)  (h1 : 0 ≤ n ∧ n ≤ 63000) (h2 : 1 ≤ m ∧ m ≤ 20) (h3 : 0 ≤ t ∧ t ≤ 9223372036854775807) (rgA_k0 : (decide (n < (0 : Int))) = false) (rgA_k3 : (decide (n > (63000 : Int))) = false) (rgA_k6 : (decide (m < (1 : Int))) = false) (rgA_k9 : (decide (m > (20 : Int))) = false) (rgA_k13 : (decide (t < (0 : Int))) = false) (rgA_l : ∀ B : Bd, B.L = [] → LoopOk Try.prog B (rgA_hd n m t).ro (rgA_hd n m t).a (rgA_hd n m t).s (rgA_X 0) (rgA_E 0 n m t rgA_z0 rgA_z1 rgA_z2 )) (hq0 : (rgA_z1 == (0 : Int)) = true) : Known Try.prog [] 22 [.int .i64 n, .int .i64 m, .int .i64 t] (.tuple #[(.int .i64 (IntKind.i64.wrap (n - rgA_z1))), (.int .i64 ((0 : Int))), (.int .i64 ((0 : Int)))]) :=
  open_res mix (GOk.add tabB_ok rgA_l) (T := (GTab.add tabB 9 (rgA_hd n m t).ro (rgA_hd n m t).a (rgA_hd n m t).s (rgA_X 0) (rgA_E 0 n m t rgA_z0 rgA_z1 rgA_z2 ) (by kernel_rfl))) (fuel := 3000) (ans := [(0, .b 0), (3, .b 0), (6, .b 0), (9, .b 0), (13, .b 0), (15, .loop (rgA_X 0) (rgA_E 0 n m t rgA_z0 rgA_z1 rgA_z2 )), (16, .b 1)]) (log := [(rgA_z1 == (0 : Int)) = true, LoopRes Try.prog ([] : Vars).length (GTab.add tabB 9 (rgA_hd n m t).ro (rgA_hd n m t).a (rgA_hd n m t).s (rgA_X 0) (rgA_E 0 n m t rgA_z0 rgA_z1 rgA_z2 ) (by kernel_rfl)) (rgA_hd n m t).ro (rgA_hd n m t).a (rgA_hd n m t).s (rgA_X 0) (rgA_E 0 n m t rgA_z0 rgA_z1 rgA_z2 ), (decide (t < (0 : Int))) = false, (decide (m > (20 : Int))) = false, (decide (m < (1 : Int))) = false, (decide (n > (63000 : Int))) = false, (decide (n < (0 : Int))) = false]) (by kernel_rfl) ⟨hq0, (loop_known2 add_eq), rgA_k13, rgA_k9, rgA_k6, rgA_k3, rgA_k0, trivial⟩ (by kernel_rfl)
theorem rgK_p1 (n m t : Int) (rgA_z0 : Int) (rgA_z1 : Int) (rgA_z2 : Int)  (h1 : 0 ≤ n ∧ n ≤ 63000) (h2 : 1 ≤ m ∧ m ≤ 20) (h3 : 0 ≤ t ∧ t ≤ 9223372036854775807) (rgA_k0 : (decide (n < (0 : Int))) = false) (rgA_k3 : (decide (n > (63000 : Int))) = false) (rgA_k6 : (decide (m < (1 : Int))) = false) (rgA_k9 : (decide (m > (20 : Int))) = false) (rgA_k13 : (decide (t < (0 : Int))) = false) (rgA_l : ∀ B : Bd, B.L = [] → LoopOk Try.prog B (rgA_hd n m t).ro (rgA_hd n m t).a (rgA_hd n m t).s (rgA_X 0) (rgA_E 0 n m t rgA_z0 rgA_z1 rgA_z2 )) (hq0 : (rgA_z1 == (0 : Int)) = false) : Known Try.prog [] 22 [.int .i64 n, .int .i64 m, .int .i64 t] (.tuple #[(.int .i64 (IntKind.i64.wrap (n - rgA_z1))), (.int .i64 (rgA_z0)), (.int .i64 ((0 : Int)))]) :=
  open_res mix (GOk.add tabB_ok rgA_l) (T := (GTab.add tabB 9 (rgA_hd n m t).ro (rgA_hd n m t).a (rgA_hd n m t).s (rgA_X 0) (rgA_E 0 n m t rgA_z0 rgA_z1 rgA_z2 ) (by kernel_rfl))) (fuel := 3000) (ans := [(0, .b 0), (3, .b 0), (6, .b 0), (9, .b 0), (13, .b 0), (15, .loop (rgA_X 0) (rgA_E 0 n m t rgA_z0 rgA_z1 rgA_z2 )), (16, .b 0)]) (log := [(rgA_z1 == (0 : Int)) = false, LoopRes Try.prog ([] : Vars).length (GTab.add tabB 9 (rgA_hd n m t).ro (rgA_hd n m t).a (rgA_hd n m t).s (rgA_X 0) (rgA_E 0 n m t rgA_z0 rgA_z1 rgA_z2 ) (by kernel_rfl)) (rgA_hd n m t).ro (rgA_hd n m t).a (rgA_hd n m t).s (rgA_X 0) (rgA_E 0 n m t rgA_z0 rgA_z1 rgA_z2 ), (decide (t < (0 : Int))) = false, (decide (m > (20 : Int))) = false, (decide (m < (1 : Int))) = false, (decide (n > (63000 : Int))) = false, (decide (n < (0 : Int))) = false]) (by kernel_rfl) ⟨hq0, (loop_known2 add_eq), rgA_k13, rgA_k9, rgA_k6, rgA_k3, rgA_k0, trivial⟩ (by kernel_rfl)
set_option maxHeartbeats 8000000 in
theorem rgK (n m t : Int) (rgA_z0 : Int) (rgA_z1 : Int) (rgA_z2 : Int)  (h1 : 0 ≤ n ∧ n ≤ 63000) (h2 : 1 ≤ m ∧ m ≤ 20) (h3 : 0 ≤ t ∧ t ≤ 9223372036854775807) (rgA_k0 : (decide (n < (0 : Int))) = false) (rgA_k3 : (decide (n > (63000 : Int))) = false) (rgA_k6 : (decide (m < (1 : Int))) = false) (rgA_k9 : (decide (m > (20 : Int))) = false) (rgA_k13 : (decide (t < (0 : Int))) = false) (rgA_l : ∀ B : Bd, B.L = [] → LoopOk Try.prog B (rgA_hd n m t).ro (rgA_hd n m t).a (rgA_hd n m t).s (rgA_X 0) (rgA_E 0 n m t rgA_z0 rgA_z1 rgA_z2 )) : Known Try.prog [] 22 [.int .i64 n, .int .i64 m, .int .i64 t] (.tuple #[(.int .i64 (rgK_c0 n m t rgA_z0 rgA_z1 rgA_z2)), (.int .i64 (rgK_c1 n m t rgA_z0 rgA_z1 rgA_z2)), (.int .i64 ((0 : Int)))]) := by
  rcases Bool.eq_false_or_eq_true (rgA_z1 == (0 : Int)) with hq0 | hq0
  ·
    have e0 : rgK_c0 n m t rgA_z0 rgA_z1 rgA_z2 = (IntKind.i64.wrap (n - rgA_z1)) := rfl; rw [e0]; have e1 : rgK_c1 n m t rgA_z0 rgA_z1 rgA_z2 = ((0 : Int)) := ((bif_t hq0 _ _).trans rfl); rw [e1]; exact rgK_p0 n m t rgA_z0 rgA_z1 rgA_z2 h1 h2 h3 rgA_k0 rgA_k3 rgA_k6 rgA_k9 rgA_k13 rgA_l hq0
  ·
    have e0 : rgK_c0 n m t rgA_z0 rgA_z1 rgA_z2 = (IntKind.i64.wrap (n - rgA_z1)) := rfl; rw [e0]; have e1 : rgK_c1 n m t rgA_z0 rgA_z1 rgA_z2 = (rgA_z0) := ((bif_f hq0 _ _).trans rfl); rw [e1]; exact rgK_p1 n m t rgA_z0 rgA_z1 rgA_z2 h1 h2 h3 rgA_k0 rgA_k3 rgA_k6 rgA_k9 rgA_k13 rgA_l hq0

noncomputable def rgJ_c0 (n m t : Int) (rgA_z0 : Int) (rgA_z1 : Int) (rgA_z2 : Int)  : Int := (IntKind.i64.wrap (n - n))
theorem rgJ_p0 (n m t : Int) (rgA_z0 : Int) (rgA_z1 : Int) (rgA_z2 : Int)  (h1 : 0 ≤ n ∧ n ≤ 63000) (h2 : 1 ≤ m ∧ m ≤ 20) (h3 : 0 ≤ t ∧ t ≤ 9223372036854775807) (rgA_k0 : (decide (n < (0 : Int))) = false) (rgA_k3 : (decide (n > (63000 : Int))) = false) (rgA_k6 : (decide (m < (1 : Int))) = false) (rgA_k9 : (decide (m > (20 : Int))) = false) (rgA_k13 : (decide (t < (0 : Int))) = false) (rgA_l : ∀ B : Bd, B.L = [] → LoopOk Try.prog B (rgA_hd n m t).ro (rgA_hd n m t).a (rgA_hd n m t).s (rgA_X 1) (rgA_E 1 n m t rgA_z0 rgA_z1 rgA_z2 )) (hq0 : (n == (0 : Int)) = true) : Known Try.prog [] 22 [.int .i64 n, .int .i64 m, .int .i64 t] (.tuple #[(.int .i64 (IntKind.i64.wrap (n - n))), (.int .i64 ((0 : Int))), (.int .i64 ((0 : Int)))]) :=
  open_res mix (GOk.add tabB_ok rgA_l) (T := (GTab.add tabB 9 (rgA_hd n m t).ro (rgA_hd n m t).a (rgA_hd n m t).s (rgA_X 1) (rgA_E 1 n m t rgA_z0 rgA_z1 rgA_z2 ) (by kernel_rfl))) (fuel := 3000) (ans := [(0, .b 0), (3, .b 0), (6, .b 0), (9, .b 0), (13, .b 0), (15, .loop (rgA_X 1) (rgA_E 1 n m t rgA_z0 rgA_z1 rgA_z2 )), (16, .b 1)]) (log := [(n == (0 : Int)) = true, LoopRes Try.prog ([] : Vars).length (GTab.add tabB 9 (rgA_hd n m t).ro (rgA_hd n m t).a (rgA_hd n m t).s (rgA_X 1) (rgA_E 1 n m t rgA_z0 rgA_z1 rgA_z2 ) (by kernel_rfl)) (rgA_hd n m t).ro (rgA_hd n m t).a (rgA_hd n m t).s (rgA_X 1) (rgA_E 1 n m t rgA_z0 rgA_z1 rgA_z2 ), (decide (t < (0 : Int))) = false, (decide (m > (20 : Int))) = false, (decide (m < (1 : Int))) = false, (decide (n > (63000 : Int))) = false, (decide (n < (0 : Int))) = false]) (by kernel_rfl) ⟨hq0, (loop_known2 add_eq), rgA_k13, rgA_k9, rgA_k6, rgA_k3, rgA_k0, trivial⟩ (by kernel_rfl)
theorem rgJ_p1 (n m t : Int) (rgA_z0 : Int) (rgA_z1 : Int) (rgA_z2 : Int)  (h1 : 0 ≤ n ∧ n ≤ 63000) (h2 : 1 ≤ m ∧ m ≤ 20) (h3 : 0 ≤ t ∧ t ≤ 9223372036854775807) (rgA_k0 : (decide (n < (0 : Int))) = false) (rgA_k3 : (decide (n > (63000 : Int))) = false) (rgA_k6 : (decide (m < (1 : Int))) = false) (rgA_k9 : (decide (m > (20 : Int))) = false) (rgA_k13 : (decide (t < (0 : Int))) = false) (rgA_l : ∀ B : Bd, B.L = [] → LoopOk Try.prog B (rgA_hd n m t).ro (rgA_hd n m t).a (rgA_hd n m t).s (rgA_X 1) (rgA_E 1 n m t rgA_z0 rgA_z1 rgA_z2 )) (hq0 : (n == (0 : Int)) = false) : Known Try.prog [] 22 [.int .i64 n, .int .i64 m, .int .i64 t] (.tuple #[(.int .i64 (IntKind.i64.wrap (n - n))), (.int .i64 ((0 : Int))), (.int .i64 ((0 : Int)))]) :=
  open_res mix (GOk.add tabB_ok rgA_l) (T := (GTab.add tabB 9 (rgA_hd n m t).ro (rgA_hd n m t).a (rgA_hd n m t).s (rgA_X 1) (rgA_E 1 n m t rgA_z0 rgA_z1 rgA_z2 ) (by kernel_rfl))) (fuel := 3000) (ans := [(0, .b 0), (3, .b 0), (6, .b 0), (9, .b 0), (13, .b 0), (15, .loop (rgA_X 1) (rgA_E 1 n m t rgA_z0 rgA_z1 rgA_z2 )), (16, .b 0)]) (log := [(n == (0 : Int)) = false, LoopRes Try.prog ([] : Vars).length (GTab.add tabB 9 (rgA_hd n m t).ro (rgA_hd n m t).a (rgA_hd n m t).s (rgA_X 1) (rgA_E 1 n m t rgA_z0 rgA_z1 rgA_z2 ) (by kernel_rfl)) (rgA_hd n m t).ro (rgA_hd n m t).a (rgA_hd n m t).s (rgA_X 1) (rgA_E 1 n m t rgA_z0 rgA_z1 rgA_z2 ), (decide (t < (0 : Int))) = false, (decide (m > (20 : Int))) = false, (decide (m < (1 : Int))) = false, (decide (n > (63000 : Int))) = false, (decide (n < (0 : Int))) = false]) (by kernel_rfl) ⟨hq0, (loop_known2 add_eq), rgA_k13, rgA_k9, rgA_k6, rgA_k3, rgA_k0, trivial⟩ (by kernel_rfl)
set_option maxHeartbeats 8000000 in
theorem rgJ (n m t : Int) (rgA_z0 : Int) (rgA_z1 : Int) (rgA_z2 : Int)  (h1 : 0 ≤ n ∧ n ≤ 63000) (h2 : 1 ≤ m ∧ m ≤ 20) (h3 : 0 ≤ t ∧ t ≤ 9223372036854775807) (rgA_k0 : (decide (n < (0 : Int))) = false) (rgA_k3 : (decide (n > (63000 : Int))) = false) (rgA_k6 : (decide (m < (1 : Int))) = false) (rgA_k9 : (decide (m > (20 : Int))) = false) (rgA_k13 : (decide (t < (0 : Int))) = false) (rgA_l : ∀ B : Bd, B.L = [] → LoopOk Try.prog B (rgA_hd n m t).ro (rgA_hd n m t).a (rgA_hd n m t).s (rgA_X 1) (rgA_E 1 n m t rgA_z0 rgA_z1 rgA_z2 )) : Known Try.prog [] 22 [.int .i64 n, .int .i64 m, .int .i64 t] (.tuple #[(.int .i64 (rgJ_c0 n m t rgA_z0 rgA_z1 rgA_z2)), (.int .i64 ((0 : Int))), (.int .i64 ((0 : Int)))]) := by
  rcases Bool.eq_false_or_eq_true (n == (0 : Int)) with hq0 | hq0
  ·
    have e0 : rgJ_c0 n m t rgA_z0 rgA_z1 rgA_z2 = (IntKind.i64.wrap (n - n)) := rfl; rw [e0]; exact rgJ_p0 n m t rgA_z0 rgA_z1 rgA_z2 h1 h2 h3 rgA_k0 rgA_k3 rgA_k6 rgA_k9 rgA_k13 rgA_l hq0
  ·
    have e0 : rgJ_c0 n m t rgA_z0 rgA_z1 rgA_z2 = (IntKind.i64.wrap (n - n)) := rfl; rw [e0]; exact rgJ_p1 n m t rgA_z0 rgA_z1 rgA_z2 h1 h2 h3 rgA_k0 rgA_k3 rgA_k6 rgA_k9 rgA_k13 rgA_l hq0

theorem rgE_p0 (n m t : Int) (h1 : ¬ (0 ≤ n ∧ n ≤ 63000 ∧ 1 ≤ m ∧ m ≤ 20 ∧ 0 ≤ t)) (hq0 : (decide (n < (0 : Int))) = true) : Known Try.prog [] 22 [.int .i64 n, .int .i64 m, .int .i64 t] (.tuple #[(.int .i64 ((0 : Int))), (.int .i64 ((0 : Int))), (.int .i64 ((2 : Int)))]) :=
  open_res mix tabB_ok (T := tabB) (fuel := 3000) (ans := [(0, .b 1)]) (log := [(decide (n < (0 : Int))) = true]) (by kernel_rfl) ⟨hq0, trivial⟩ (by kernel_rfl)
theorem rgE_p1 (n m t : Int) (h1 : ¬ (0 ≤ n ∧ n ≤ 63000 ∧ 1 ≤ m ∧ m ≤ 20 ∧ 0 ≤ t)) (hq0 : (decide (n < (0 : Int))) = false) (hq1 : (decide (n > (63000 : Int))) = true) : Known Try.prog [] 22 [.int .i64 n, .int .i64 m, .int .i64 t] (.tuple #[(.int .i64 ((0 : Int))), (.int .i64 ((0 : Int))), (.int .i64 ((2 : Int)))]) :=
  open_res mix tabB_ok (T := tabB) (fuel := 3000) (ans := [(0, .b 0), (3, .b 1)]) (log := [(decide (n > (63000 : Int))) = true, (decide (n < (0 : Int))) = false]) (by kernel_rfl) ⟨hq1, hq0, trivial⟩ (by kernel_rfl)
theorem rgE_p2 (n m t : Int) (h1 : ¬ (0 ≤ n ∧ n ≤ 63000 ∧ 1 ≤ m ∧ m ≤ 20 ∧ 0 ≤ t)) (hq0 : (decide (n < (0 : Int))) = false) (hq1 : (decide (n > (63000 : Int))) = false) (hq2 : (decide (m < (1 : Int))) = true) : Known Try.prog [] 22 [.int .i64 n, .int .i64 m, .int .i64 t] (.tuple #[(.int .i64 ((0 : Int))), (.int .i64 ((0 : Int))), (.int .i64 ((2 : Int)))]) :=
  open_res mix tabB_ok (T := tabB) (fuel := 3000) (ans := [(0, .b 0), (3, .b 0), (6, .b 1)]) (log := [(decide (m < (1 : Int))) = true, (decide (n > (63000 : Int))) = false, (decide (n < (0 : Int))) = false]) (by kernel_rfl) ⟨hq2, hq1, hq0, trivial⟩ (by kernel_rfl)
theorem rgE_p3 (n m t : Int) (h1 : ¬ (0 ≤ n ∧ n ≤ 63000 ∧ 1 ≤ m ∧ m ≤ 20 ∧ 0 ≤ t)) (hq0 : (decide (n < (0 : Int))) = false) (hq1 : (decide (n > (63000 : Int))) = false) (hq2 : (decide (m < (1 : Int))) = false) (hq3 : (decide (m > (20 : Int))) = true) : Known Try.prog [] 22 [.int .i64 n, .int .i64 m, .int .i64 t] (.tuple #[(.int .i64 ((0 : Int))), (.int .i64 ((0 : Int))), (.int .i64 ((2 : Int)))]) :=
  open_res mix tabB_ok (T := tabB) (fuel := 3000) (ans := [(0, .b 0), (3, .b 0), (6, .b 0), (9, .b 1)]) (log := [(decide (m > (20 : Int))) = true, (decide (m < (1 : Int))) = false, (decide (n > (63000 : Int))) = false, (decide (n < (0 : Int))) = false]) (by kernel_rfl) ⟨hq3, hq2, hq1, hq0, trivial⟩ (by kernel_rfl)
theorem rgE_p4 (n m t : Int) (h1 : ¬ (0 ≤ n ∧ n ≤ 63000 ∧ 1 ≤ m ∧ m ≤ 20 ∧ 0 ≤ t)) (hq0 : (decide (n < (0 : Int))) = false) (hq1 : (decide (n > (63000 : Int))) = false) (hq2 : (decide (m < (1 : Int))) = false) (hq3 : (decide (m > (20 : Int))) = false) (hq4 : (decide (t < (0 : Int))) = true) : Known Try.prog [] 22 [.int .i64 n, .int .i64 m, .int .i64 t] (.tuple #[(.int .i64 ((0 : Int))), (.int .i64 ((0 : Int))), (.int .i64 ((2 : Int)))]) :=
  open_res mix tabB_ok (T := tabB) (fuel := 3000) (ans := [(0, .b 0), (3, .b 0), (6, .b 0), (9, .b 0), (13, .b 1)]) (log := [(decide (t < (0 : Int))) = true, (decide (m > (20 : Int))) = false, (decide (m < (1 : Int))) = false, (decide (n > (63000 : Int))) = false, (decide (n < (0 : Int))) = false]) (by kernel_rfl) ⟨hq4, hq3, hq2, hq1, hq0, trivial⟩ (by kernel_rfl)
set_option maxHeartbeats 8000000 in
theorem rgE (n m t : Int) (h1 : ¬ (0 ≤ n ∧ n ≤ 63000 ∧ 1 ≤ m ∧ m ≤ 20 ∧ 0 ≤ t)) : Known Try.prog [] 22 [.int .i64 n, .int .i64 m, .int .i64 t] (.tuple #[(.int .i64 ((0 : Int))), (.int .i64 ((0 : Int))), (.int .i64 ((2 : Int)))]) := by
  rcases Bool.eq_false_or_eq_true (decide (n < (0 : Int))) with hq0 | hq0
  ·
    exact rgE_p0 n m t h1 hq0
  ·
    rcases Bool.eq_false_or_eq_true (decide (n > (63000 : Int))) with hq1 | hq1
    ·
      exact rgE_p1 n m t h1 hq0 hq1
    ·
      rcases Bool.eq_false_or_eq_true (decide (m < (1 : Int))) with hq2 | hq2
      ·
        exact rgE_p2 n m t h1 hq0 hq1 hq2
      ·
        rcases Bool.eq_false_or_eq_true (decide (m > (20 : Int))) with hq3 | hq3
        ·
          exact rgE_p3 n m t h1 hq0 hq1 hq2 hq3
        ·
          have hq4 : (decide (t < (0 : Int))) = true := by
            rcases Bool.eq_false_or_eq_true (decide (t < (0 : Int))) with h | h
            · exact h
            · exfalso; (first | (simp_all only [Bool.and_eq_true, Bool.not_eq_true', Bool.false_eq_true, Bool.true_eq_false, reduceCtorEq]; done) | (simp only [sx, sy, eq_self, ne_eq, IntKind.wrap_i64, wrapU64, Int.reduceLT] at * <;> first | contradiction | omega) | (simp_all; done))
          exact rgE_p4 n m t h1 hq0 hq1 hq2 hq3 hq4

end Go.Proofs.Ytjemhamkakgnhaa
