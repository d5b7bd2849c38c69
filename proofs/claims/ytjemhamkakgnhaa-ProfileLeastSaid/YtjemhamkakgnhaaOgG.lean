/- Layer 8: ProfileGrows, ProfileLeast. -/
import Derived.Test.YtjemhamkakgnhaaOgF
import Derived.ProofKit
import Derived.IntWalk
namespace Go.Proofs.Ytjemhamkakgnhaa
open Go Go.RowKit
set_option linter.unusedVariables false
set_option linter.unusedSimpArgs false
set_option linter.unnecessarySimpa false
theorem mul_sub_mono {p q K : Int} (h : p ≤ q) (hq : p + q ≤ K) : p * (K - p) ≤ q * (K - q) := by
  have h1 := Int.mul_nonneg (a := q - p) (b := K - p - q) (by omega) (by omega)
  have e : (q - p) * (K - p - q) = q * (K - q) - p * (K - p) := by
    simp only [Int.sub_mul, Int.mul_sub]
    have := Int.mul_comm p q
    omega
  omega
theorem rW_more {L k : Int} (hL : 1 ≤ L) (hk : 0 ≤ k) : rW L k ≤ rW (L + 1) k := by
  unfold rW
  exact mul_sub_mono (by omega) (by omega)
theorem rD_more {L n : Int} (hL : 1 ≤ L) (hn : 0 ≤ n) : rD (L + 1) n ≤ rD L n := by
  obtain ⟨a1, a2, a3⟩ := rD_is hL hn
  obtain ⟨b1, b2, b3⟩ := rD_is (L := L + 1) (by omega) hn
  have := rW_more hL a1
  rcases (by omega : rD (L + 1) n ≤ rD L n ∨ rD L n < rD (L + 1) n) with k | k
  · exact k
  · have := rW_le (L := L + 1) (a := rD L n) (b := rD (L + 1) n - 1) (by omega) a1 (by omega)
    omega
theorem rR_small {m t : Int} (hm : 1 ≤ m ∧ m ≤ 20) (ht : 0 ≤ t ∧ t < 400) : rR m t < 63000 := by
  obtain ⟨h1, h2, h3, h4⟩ := rR_is hm ht.1
  rcases (by omega : rR m t < 63000 ∨ rR m t = 63000) with k | k
  · exact k
  · rw [k] at h3
    obtain ⟨a1, a2, a3⟩ := rD_is (L := m) (n := 63000) hm.1 (by omega)
    have b := rW_le (L := m) (a := rD m 63000) (b := 399) hm.1 a1 (by omega)
    have c : rW m 399 ≤ 20 * 400 := by
      unfold rW
      exact Int.mul_le_mul (by omega) (by omega) (by omega) (by omega)
    omega
theorem grows_true (x y z : Int) : lawGrows_c0 x y z = true := by
  have hm : 1 ≤ 1 + y % 20 ∧ 1 + y % 20 ≤ 20 := by omega
  have hn : 0 ≤ x % 3000 ∧ x % 3000 < 3000 := by omega
  have ht : 0 ≤ z % 400 ∧ z % 400 < 400 := by omega
  unfold lawGrows_c0
  rw [w8 (v := 1 + y % 20) (by omega), w8 (v := x % 3000 + 1) (by omega), w8 (v := 1 + y % 20 + 1) (by omega)]
  generalize 1 + y % 20 = m at *
  generalize x % 3000 = n at *
  generalize z % 400 = t at *
  obtain ⟨r1, r2, r3, r4⟩ := rR_is hm ht.1
  have r5 := rR_small hm ht
  rw [w8 (v := rR m t + 1) (by omega)]
  have g1 := rD_mono (L := m) (a := n) (b := n + 1) hm.1 hn.1 (by omega)
  have g2 := rD_more (L := m) (n := n) hm.1 hn.1
  rw [decide_eq_false (by omega : ¬ rD m (n + 1) < rD m n), cond_false, decide_eq_false (by omega : ¬ rD (m + 1) n > rD m n), cond_false, decide_eq_false (by omega : ¬ rR m t < 0), cond_false, decide_eq_false (by omega : ¬ rR m t ≥ 63000), cond_false, decide_eq_true r3, cond_true, decide_eq_true (by omega : rD m (rR m t + 1) > t), cond_true]
  cases decide (m < 20) <;> rfl
theorem lawGrowsT (x y z : Int) : Known Try.prog [] 8 [.int .i64 x, .int .i64 y, .int .i64 z] (.bool true) := by
  rw [← grows_true x y z]; exact lawGrows x y z
theorem profileGrows_true (x y z : Int) (w : World) (_ : In64 x) (_ : In64 y) (_ : In64 z) : Calls Try.prog 8 #[.int .i64 x, .int .i64 y, .int .i64 z] w fun e w' => e = .returned (.bool true) ∧ Below w.heap.size w w' :=
  (lawGrowsT x y z).2.2 w (LaidL.nil w)
noncomputable def least_hd (x y : Int) : Hd := headO Try.prog [] tabG 3000 9 [.int .i64 x, .int .i64 y] [(2, .b 1), (6, .b 0), (9, .b 0), (10, .stop)]
noncomputable def least_S (x y : Int) (y0 : Int) (y1 : Int) (j : Nat → Value) : St := ((least_hd x y).s.updF [(9, .int .i64 y0), (10, .int .i64 y1), (33, j 33), (34, j 34), (35, j 35), (36, j 36), (37, j 37), (38, j 38), (39, j 39), (40, j 40), (41, j 41), (42, j 42), (43, j 43), (44, j 44), (45, j 45), (46, j 46)] [])
noncomputable def least_J0 (x y : Int) (y0 : Int) (y1 : Int) (j : Nat → Value) : Nat → Value := jOf (bodySt (bodyF Try.prog ([] : Vars).length tabG 3000 (least_hd x y) (least_S x y y0 y1  j) [(0, .b 1)]))
theorem least_p0 (x y : Int)  (y0 : Int) (y1 : Int) (j : Nat → Value) (hi : (decide (0 ≤ y0 ∧ y0 ≤ 20000 ∧ 1 ≤ y1 ∧ y1 ≤ 600)) = true) (hq0 : (decide (y1 ≤ IntKind.i64.wrap (rD (IntKind.i64.wrap (1 + y % 20)) (IntKind.i64.wrap (1 + x % 400)) - 1))) = true) : bodyF Try.prog ([] : Vars).length tabG 3000 (least_hd x y) (least_S x y y0 y1  j) [(0, .b 1)] = some (.normal, (least_S x y (IntKind.i64.wrap (y0 + if IntKind.i64.wrap (1 + y % 20) < if IntKind.i64.wrap (rD (IntKind.i64.wrap (1 + y % 20)) (IntKind.i64.wrap (1 + x % 400)) - y1) < y1 then IntKind.i64.wrap (rD (IntKind.i64.wrap (1 + y % 20)) (IntKind.i64.wrap (1 + x % 400)) - y1) else y1 then IntKind.i64.wrap (1 + y % 20) else if IntKind.i64.wrap (rD (IntKind.i64.wrap (1 + y % 20)) (IntKind.i64.wrap (1 + x % 400)) - y1) < y1 then IntKind.i64.wrap (rD (IntKind.i64.wrap (1 + y % 20)) (IntKind.i64.wrap (1 + x % 400)) - y1) else y1)) (IntKind.i64.wrap (y1 + 1)) (least_J0 x y y0 y1 j)), [(decide (y1 ≤ IntKind.i64.wrap (rD (IntKind.i64.wrap (1 + y % 20)) (IntKind.i64.wrap (1 + x % 400)) - 1))) = true]) := by kernel_rfl
theorem least_p1 (x y : Int)  (y0 : Int) (y1 : Int) (j : Nat → Value) (hi : (decide (0 ≤ y0 ∧ y0 ≤ 20000 ∧ 1 ≤ y1 ∧ y1 ≤ 600)) = true) (hq0 : (decide (y1 ≤ IntKind.i64.wrap (rD (IntKind.i64.wrap (1 + y % 20)) (IntKind.i64.wrap (1 + x % 400)) - 1))) = false) : bodyF Try.prog ([] : Vars).length tabG 3000 (least_hd x y) (least_S x y y0 y1  j) [(0, .b 0)] = some (.exit 0, bodySt (bodyF Try.prog ([] : Vars).length tabG 3000 (least_hd x y) (least_S x y y0 y1  j) [(0, .b 0)]), [(decide (y1 ≤ IntKind.i64.wrap (rD (IntKind.i64.wrap (1 + y % 20)) (IntKind.i64.wrap (1 + x % 400)) - 1))) = false]) := by kernel_rfl
def least_X : Nat → VX
  | 0 => .exit 0
  | _ => .normal
noncomputable def least_E (k : Nat) (x y : Int) (y0 : Int) (y1 : Int) (j : Nat → Value) : St := match k with
  | 0 => bodySt (bodyF Try.prog ([] : Vars).length tabG 3000 (least_hd x y) (least_S x y y0 y1  j) [(0, .b 0)])
  | _ => (least_hd x y).s
noncomputable def least_f (x y : Int) : Nat → Int → Int → Option (Nat × (Int × Int))
  | 0, _, _ => none
  | fu + 1, y0, y1 => (bif (decide (0 ≤ y0 ∧ y0 ≤ 20000 ∧ 1 ≤ y1 ∧ y1 ≤ 600)) then (bif (decide (y1 ≤ IntKind.i64.wrap (rD (IntKind.i64.wrap (1 + y % 20)) (IntKind.i64.wrap (1 + x % 400)) - 1))) then least_f x y fu (IntKind.i64.wrap (y0 + if IntKind.i64.wrap (1 + y % 20) < if IntKind.i64.wrap (rD (IntKind.i64.wrap (1 + y % 20)) (IntKind.i64.wrap (1 + x % 400)) - y1) < y1 then IntKind.i64.wrap (rD (IntKind.i64.wrap (1 + y % 20)) (IntKind.i64.wrap (1 + x % 400)) - y1) else y1 then IntKind.i64.wrap (1 + y % 20) else if IntKind.i64.wrap (rD (IntKind.i64.wrap (1 + y % 20)) (IntKind.i64.wrap (1 + x % 400)) - y1) < y1 then IntKind.i64.wrap (rD (IntKind.i64.wrap (1 + y % 20)) (IntKind.i64.wrap (1 + x % 400)) - y1) else y1)) (IntKind.i64.wrap (y1 + 1)) else some (0, (y0, y1))) else none)
theorem least_fs (x y : Int) (fu : Nat) (y0 : Int) (y1 : Int) : least_f x y (fu + 1) y0 y1 = (bif (decide (0 ≤ y0 ∧ y0 ≤ 20000 ∧ 1 ≤ y1 ∧ y1 ≤ 600)) then (bif (decide (y1 ≤ IntKind.i64.wrap (rD (IntKind.i64.wrap (1 + y % 20)) (IntKind.i64.wrap (1 + x % 400)) - 1))) then least_f x y fu (IntKind.i64.wrap (y0 + if IntKind.i64.wrap (1 + y % 20) < if IntKind.i64.wrap (rD (IntKind.i64.wrap (1 + y % 20)) (IntKind.i64.wrap (1 + x % 400)) - y1) < y1 then IntKind.i64.wrap (rD (IntKind.i64.wrap (1 + y % 20)) (IntKind.i64.wrap (1 + x % 400)) - y1) else y1 then IntKind.i64.wrap (1 + y % 20) else if IntKind.i64.wrap (rD (IntKind.i64.wrap (1 + y % 20)) (IntKind.i64.wrap (1 + x % 400)) - y1) < y1 then IntKind.i64.wrap (rD (IntKind.i64.wrap (1 + y % 20)) (IntKind.i64.wrap (1 + x % 400)) - y1) else y1)) (IntKind.i64.wrap (y1 + 1)) else some (0, (y0, y1))) else none) := rfl
theorem least_f0 (x y : Int) (y0 : Int) (y1 : Int) : least_f x y 0 y0 y1 = none := rfl
theorem least_loop (x y : Int)  : ∀ (fu : Nat) (y0 : Int) (y1 : Int) (j : Nat → Value) (kk : Nat) (zz : Int × Int), least_f x y fu y0 y1 = some (kk, zz) → ∃ j', LoopRes Try.prog ([] : Vars).length tabG (least_hd x y).ro (least_hd x y).a (least_S x y y0 y1  j) (least_X kk) (least_E kk x y zz.1 zz.2 j')
  | 0, y0, y1, j, kk, zz, hf => by cases (least_f0 x y y0 y1 ).symm.trans hf
  | fu + 1, y0, y1, j, kk, zz, hf => by
    have ih := least_loop x y fu
    have hf := (least_fs x y fu y0 y1 ).symm.trans hf
    rcases bif_or hf with ⟨hi, hf⟩ | ⟨hi, hf⟩
    case inr => cases hf
    rcases bif_or hf with ⟨hq0, hf⟩ | ⟨hq0, hf⟩
    ·
      obtain ⟨j', hj⟩ := ih (IntKind.i64.wrap (y0 + if IntKind.i64.wrap (1 + y % 20) < if IntKind.i64.wrap (rD (IntKind.i64.wrap (1 + y % 20)) (IntKind.i64.wrap (1 + x % 400)) - y1) < y1 then IntKind.i64.wrap (rD (IntKind.i64.wrap (1 + y % 20)) (IntKind.i64.wrap (1 + x % 400)) - y1) else y1 then IntKind.i64.wrap (1 + y % 20) else if IntKind.i64.wrap (rD (IntKind.i64.wrap (1 + y % 20)) (IntKind.i64.wrap (1 + x % 400)) - y1) < y1 then IntKind.i64.wrap (rD (IntKind.i64.wrap (1 + y % 20)) (IntKind.i64.wrap (1 + x % 400)) - y1) else y1)) (IntKind.i64.wrap (y1 + 1)) (least_J0 x y y0 y1 j) kk zz hf; exact ⟨j', loop_next (body_res (least_p0 x y y0 y1 j hi  hq0)) ⟨hq0, trivial⟩ hj⟩
    ·
      injection hf with hf; injection hf with e1 e2; subst e1; subst e2; exact ⟨j, loop_exit (body_res (least_p1 x y y0 y1 j hi  hq0)) ⟨hq0, trivial⟩⟩
theorem least_run (x y : Int)  (fu kk : Nat) (zz : Int × Int) (hf : least_f x y fu (0) (1) = some (kk, zz)) : ∃ j', LoopRes Try.prog ([] : Vars).length tabG (least_hd x y).ro (least_hd x y).a (least_hd x y).s (least_X kk) (least_E kk x y zz.1 zz.2 j') := by
  have e : (least_hd x y).s = (least_S x y (0) (1) noJ) := by kernel_rfl
  rw [e]
  exact least_loop x y fu (0) (1) noJ kk zz hf

noncomputable def leastK_c0 (x y : Int) (least_z0 : Int) (least_z1 : Int) (least_j : Nat → Value) : Bool := (bif (decide (least_z0 < IntKind.i64.wrap (1 + x % 400))) then (true) else (false))
theorem leastK_p0 (x y : Int) (least_z0 : Int) (least_z1 : Int) (least_j : Nat → Value)  (least_k2 : (decide (0 ≤ IntKind.i64.wrap (1 + x % 400) ∧ IntKind.i64.wrap (1 + x % 400) ≤ 63000 ∧ 1 ≤ IntKind.i64.wrap (1 + y % 20) ∧ IntKind.i64.wrap (1 + y % 20) ≤ 20)) = true) (least_k6 : (decide (rD (IntKind.i64.wrap (1 + y % 20)) (IntKind.i64.wrap (1 + x % 400)) < 1)) = false) (least_k9 : (decide (rD (IntKind.i64.wrap (1 + y % 20)) (IntKind.i64.wrap (1 + x % 400)) > 500)) = false) (least_l : LoopRes Try.prog ([] : Vars).length tabG (least_hd x y).ro (least_hd x y).a (least_hd x y).s (least_X 0) (least_E 0 x y least_z0 least_z1 least_j)) (hq0 : (decide (least_z0 < IntKind.i64.wrap (1 + x % 400))) = true) : Known Try.prog [] 9 [.int .i64 x, .int .i64 y] (.bool (true)) :=
  open_res mix tabG_ok (T := tabG) (fuel := 3000) (ans := [(2, .b 1), (6, .b 0), (9, .b 0), (10, .loop (least_X 0) (least_E 0 x y least_z0 least_z1 least_j)), (11, .b 1)]) (log := [(decide (least_z0 < IntKind.i64.wrap (1 + x % 400))) = true, LoopRes Try.prog ([] : Vars).length tabG (least_hd x y).ro (least_hd x y).a (least_hd x y).s (least_X 0) (least_E 0 x y least_z0 least_z1 least_j), (decide (rD (IntKind.i64.wrap (1 + y % 20)) (IntKind.i64.wrap (1 + x % 400)) > 500)) = false, (decide (rD (IntKind.i64.wrap (1 + y % 20)) (IntKind.i64.wrap (1 + x % 400)) < 1)) = false, (decide (0 ≤ IntKind.i64.wrap (1 + x % 400) ∧ IntKind.i64.wrap (1 + x % 400) ≤ 63000 ∧ 1 ≤ IntKind.i64.wrap (1 + y % 20) ∧ IntKind.i64.wrap (1 + y % 20) ≤ 20)) = true]) (by kernel_rfl) ⟨hq0, least_l, least_k9, least_k6, least_k2, trivial⟩ (by kernel_rfl)
theorem leastK_p1 (x y : Int) (least_z0 : Int) (least_z1 : Int) (least_j : Nat → Value)  (least_k2 : (decide (0 ≤ IntKind.i64.wrap (1 + x % 400) ∧ IntKind.i64.wrap (1 + x % 400) ≤ 63000 ∧ 1 ≤ IntKind.i64.wrap (1 + y % 20) ∧ IntKind.i64.wrap (1 + y % 20) ≤ 20)) = true) (least_k6 : (decide (rD (IntKind.i64.wrap (1 + y % 20)) (IntKind.i64.wrap (1 + x % 400)) < 1)) = false) (least_k9 : (decide (rD (IntKind.i64.wrap (1 + y % 20)) (IntKind.i64.wrap (1 + x % 400)) > 500)) = false) (least_l : LoopRes Try.prog ([] : Vars).length tabG (least_hd x y).ro (least_hd x y).a (least_hd x y).s (least_X 0) (least_E 0 x y least_z0 least_z1 least_j)) (hq0 : (decide (least_z0 < IntKind.i64.wrap (1 + x % 400))) = false) : Known Try.prog [] 9 [.int .i64 x, .int .i64 y] (.bool (false)) :=
  open_res mix tabG_ok (T := tabG) (fuel := 3000) (ans := [(2, .b 1), (6, .b 0), (9, .b 0), (10, .loop (least_X 0) (least_E 0 x y least_z0 least_z1 least_j)), (11, .b 0)]) (log := [(decide (least_z0 < IntKind.i64.wrap (1 + x % 400))) = false, LoopRes Try.prog ([] : Vars).length tabG (least_hd x y).ro (least_hd x y).a (least_hd x y).s (least_X 0) (least_E 0 x y least_z0 least_z1 least_j), (decide (rD (IntKind.i64.wrap (1 + y % 20)) (IntKind.i64.wrap (1 + x % 400)) > 500)) = false, (decide (rD (IntKind.i64.wrap (1 + y % 20)) (IntKind.i64.wrap (1 + x % 400)) < 1)) = false, (decide (0 ≤ IntKind.i64.wrap (1 + x % 400) ∧ IntKind.i64.wrap (1 + x % 400) ≤ 63000 ∧ 1 ≤ IntKind.i64.wrap (1 + y % 20) ∧ IntKind.i64.wrap (1 + y % 20) ≤ 20)) = true]) (by kernel_rfl) ⟨hq0, least_l, least_k9, least_k6, least_k2, trivial⟩ (by kernel_rfl)
theorem leastK (x y : Int) (least_z0 : Int) (least_z1 : Int) (least_j : Nat → Value)  (least_k2 : (decide (0 ≤ IntKind.i64.wrap (1 + x % 400) ∧ IntKind.i64.wrap (1 + x % 400) ≤ 63000 ∧ 1 ≤ IntKind.i64.wrap (1 + y % 20) ∧ IntKind.i64.wrap (1 + y % 20) ≤ 20)) = true) (least_k6 : (decide (rD (IntKind.i64.wrap (1 + y % 20)) (IntKind.i64.wrap (1 + x % 400)) < 1)) = false) (least_k9 : (decide (rD (IntKind.i64.wrap (1 + y % 20)) (IntKind.i64.wrap (1 + x % 400)) > 500)) = false) (least_l : LoopRes Try.prog ([] : Vars).length tabG (least_hd x y).ro (least_hd x y).a (least_hd x y).s (least_X 0) (least_E 0 x y least_z0 least_z1 least_j)) : Known Try.prog [] 9 [.int .i64 x, .int .i64 y] (.bool (leastK_c0 x y least_z0 least_z1 least_j)) := by
  rcases Bool.eq_false_or_eq_true (decide (least_z0 < IntKind.i64.wrap (1 + x % 400))) with hq0 | hq0
  ·
    have e0 : leastK_c0 x y least_z0 least_z1 least_j = (true) := ((bif_t hq0 _ _).trans rfl); rw [e0]; exact leastK_p0 x y least_z0 least_z1 least_j least_k2 least_k6 least_k9 least_l hq0
  ·
    have e0 : leastK_c0 x y least_z0 least_z1 least_j = (false) := ((bif_f hq0 _ _).trans rfl); rw [e0]; exact leastK_p1 x y least_z0 least_z1 least_j least_k2 least_k6 least_k9 least_l hq0

end Go.Proofs.Ytjemhamkakgnhaa
