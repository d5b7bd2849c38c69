import Derived.Test.YtbhmgchkgbenmaaOgZc
import Derived.Test.YtbhmgchkgbenmaaFrL
set_option linter.unusedVariables false
namespace Go.Proofs.Ytbhmgchkgbenmaa
open Go Go.RowKit
theorem chk_ok {m : Mv} (h : OkT m) : chk m = 0 := by
 obtain ⟨_, ⟨h1, h2⟩, h3, h4⟩ := h
 unfold chk pChk_c0
 rw [bif_dF (by omega), bif_dF (by omega), bif_dF (by omega), bif_dF (by omega)]
theorem cE_of : ∀ {l : List Mv}, (∀ m ∈ l, OkT m) → cE l = 0
 | [], _ => rfl
 | m :: r, h => by
  have e := chk_ok (h m (by simp))
  simp only [cE, e]
  exact cE_of (fun x hx => h x (by simp [hx]))
theorem md_all (xs : List Int) : cAll (mdL xs) = 0 := by
 have := md_len (xs := xs)
 unfold cAll
 rw [if_neg (by omega)]
 exact cE_of md_ok
theorem cs_n (u v : Int) (m : Mv) : (csS u v m).count 1 = (decide (m.2.1 > v)).toNat ∧ (csS u v m).count 2 = (decide (m.1 < 0) || decide (m.1 > u)).toNat ∧ (csS u v m).count 3 = (decide (m.2.1 > 0) && m.2.2.2.1).toNat ∧ (csS u v m).count 4 = (decide (m.2.1 > 0) && !m.2.2.1).toNat ∧ (csS u v m).count 5 = (m.2.2.1 && decide (m.2.2.2.2 > 0)).toNat := by
 unfold csS
 generalize decide (m.2.1 > v) = b1
 generalize (decide (m.1 < 0) || decide (m.1 > u)) = b2
 generalize (decide (m.2.1 > 0) && m.2.2.2.1) = b3
 generalize (decide (m.2.1 > 0) && !m.2.2.1) = b4
 generalize (m.2.2.1 && decide (m.2.2.2.2 > 0)) = b5
 cases b1 <;> cases b2 <;> cases b3 <;> cases b4 <;> cases b5 <;> decide
theorem bn_le {a b : Bool} (h : a = true → b = true) : a.toNat ≤ b.toNat := by
 cases a with
 | false => exact Nat.zero_le _
 | true => rw [h rfl]; exact Nat.le_refl _
theorem cnt_mono {u v u' v' : Int} (hu : u ≤ u') (hv : v ≤ v') : ∀ (l : List Mv),
  (cntL u' v' l 1 ≤ cntL u v l 1 ∧ cntL u' v' l 2 ≤ cntL u v l 2) ∧ cntL u' v' l 3 = cntL u v l 3 ∧ cntL u' v' l 4 = cntL u v l 4 ∧ cntL u' v' l 5 = cntL u v l 5
 | [] => ⟨⟨by simp [cntL], by simp [cntL]⟩, rfl, rfl, rfl⟩
 | m :: r => by
  obtain ⟨⟨i1, i2⟩, i3, i4, i5⟩ := cnt_mono hu hv r
  obtain ⟨a1, a2, a3, a4, a5⟩ := cs_n u v m
  obtain ⟨b1, b2, b3, b4, b5⟩ := cs_n u' v' m
  have k1 : (decide (m.2.1 > v')).toNat ≤ (decide (m.2.1 > v)).toNat := bn_le (by simp only [decide_eq_true_eq]; omega)
  have k2 : (decide (m.1 < 0) || decide (m.1 > u')).toNat ≤ (decide (m.1 < 0) || decide (m.1 > u)).toNat := bn_le (by simp only [Bool.or_eq_true, decide_eq_true_eq]; omega)
  simp only [cntL]
  rw [a1, a2, a3, a4, a5, b1, b2, b3, b4, b5]
  refine ⟨⟨by omega, by omega⟩, by omega, by omega, by omega⟩
theorem cL_is {l : List Mv} {u v : Int} (h : wX l u v = 0) : cL l u v = [cntL u v l 1, cntL u v l 2, cntL u v l 3, cntL u v l 4, cntL u v l 5] := by
 unfold cL; rw [if_pos h]
theorem lawM_is (xs : List Int) (u v p q : Int) : KnownR Try.prog [] 8 [.list (rowA gI xs) xs.length, .val (.int .i64 u), .val (.int .i64 v), .val (.int .i64 p), .val (.int .i64 q)] (.bool true) [] := by
 have u0 := Int.emod_nonneg u (by decide : (30 : Int) ≠ 0)
 have u1 := Int.emod_lt_of_pos u (by decide : (0 : Int) < 30)
 have v0 := Int.emod_nonneg v (by decide : (5 : Int) ≠ 0)
 have v1 := Int.emod_lt_of_pos v (by decide : (0 : Int) < 5)
 have p0 := Int.emod_nonneg p (by decide : (10 : Int) ≠ 0)
 have p1 := Int.emod_lt_of_pos p (by decide : (0 : Int) < 10)
 have q0 := Int.emod_nonneg q (by decide : (5 : Int) ≠ 0)
 have q1 := Int.emod_lt_of_pos q (by decide : (0 : Int) < 5)
 have w1 : IntKind.i64.wrap (1 + v % 5) = 1 + v % 5 := w8n (by omega) (by omega)
 have w2 : IntKind.i64.wrap (u % 30 + p % 10) = u % 30 + p % 10 := w8n (by omega) (by omega)
 have w3 : IntKind.i64.wrap (IntKind.i64.wrap (1 + v % 5) + q % 5) = 1 + v % 5 + q % 5 := by rw [w1]; exact w8n (by omega) (by omega)
 have x1 : wX (mdL xs) (u % 30) (IntKind.i64.wrap (1 + v % 5)) = 0 := wX0.2 ⟨md_all xs, by omega, by omega, by omega, by omega⟩
 have x2 : wX (mdL xs) (IntKind.i64.wrap (u % 30 + p % 10)) (IntKind.i64.wrap (IntKind.i64.wrap (1 + v % 5) + q % 5)) = 0 := wX0.2 ⟨md_all xs, by omega, by omega, by omega, by omega⟩
 have r := lawM xs u v p q x1 x2 (by rw [cL_is x1]; rfl) (by rw [cL_is x2]; rfl)
 have e : lawM_c0 xs u v p q = true := by
  unfold lawM_c0
  rw [cL_is x1, cL_is x2]
  obtain ⟨⟨m1, m2⟩, m3, m4, m5⟩ := cnt_mono (u := u % 30) (v := IntKind.i64.wrap (1 + v % 5)) (u' := IntKind.i64.wrap (u % 30 + p % 10)) (v' := IntKind.i64.wrap (IntKind.i64.wrap (1 + v % 5) + q % 5)) (by omega) (by omega) (mdL xs)
  rw [m3, m4, m5]
  revert m1 m2
  generalize cntL (IntKind.i64.wrap (u % 30 + p % 10)) (IntKind.i64.wrap (IntKind.i64.wrap (1 + v % 5) + q % 5)) (mdL xs) 1 = a1
  generalize cntL (IntKind.i64.wrap (u % 30 + p % 10)) (IntKind.i64.wrap (IntKind.i64.wrap (1 + v % 5) + q % 5)) (mdL xs) 2 = a2
  generalize cntL (u % 30) (IntKind.i64.wrap (1 + v % 5)) (mdL xs) 1 = c1
  generalize cntL (u % 30) (IntKind.i64.wrap (1 + v % 5)) (mdL xs) 2 = c2
  generalize cntL (u % 30) (IntKind.i64.wrap (1 + v % 5)) (mdL xs) 3 = c3
  generalize cntL (u % 30) (IntKind.i64.wrap (1 + v % 5)) (mdL xs) 4 = c4
  generalize cntL (u % 30) (IntKind.i64.wrap (1 + v % 5)) (mdL xs) 5 = c5
  intro m1 m2
  have t0 : ∀ a b c d e : Int, el [a, b, c, d, e] 0 = a := fun _ _ _ _ _ => rfl
  have t1 : ∀ a b c d e : Int, el [a, b, c, d, e] 1 = b := fun _ _ _ _ _ => rfl
  have t2 : ∀ a b c d e : Int, el [a, b, c, d, e] 2 = c := fun _ _ _ _ _ => rfl
  have t3 : ∀ a b c d e : Int, el [a, b, c, d, e] 3 = d := fun _ _ _ _ _ => rfl
  have t4 : ∀ a b c d e : Int, el [a, b, c, d, e] 4 = e := fun _ _ _ _ _ => rfl
  simp only [t0, t1, t2, t3, t4]
  have n : ∀ a : Int, (a != a) = false := fun a => by simp
  rw [bif_dF (by omega), bif_dF (by omega), bif_dF (by omega), n, cond_false, bif_dF (by omega), n, cond_false, bif_dF (by omega), n, cond_false]
 rw [e] at r
 exact r
def In64 (n : Int) : Prop := -9223372036854775808 ≤ n ∧ n ≤ 9223372036854775807
theorem limitMore_true (A0 : Option Addr) (len0 cap0 : Nat) (xs0 : List Int) (u v p q : Int) (w : World) (hl0 : xs0.length = len0) (hi0 : ListIn w (rowA gI xs0) len0 A0 cap0) (_ : ∀ m ∈ xs0, rowW gI m) (_ : In64 u) (_ : In64 v) (_ : In64 p) (_ : In64 q) :
  Calls Try.prog 8 #[.slice A0 len0 cap0, .int .i64 u, .int .i64 v, .int .i64 p, .int .i64 q] w fun e w' => e = .returned (.bool true) ∧ Below w.heap.size w w' := by
 subst hl0
 exact knownR_law (lawM_is xs0 u v p q) (LaidL.nil w) (.cons (.list hi0) (.cons (.val rfl) (.cons (.val rfl) (.cons (.val rfl) (.cons (.val rfl) .nil)))))
end Go.Proofs.Ytbhmgchkgbenmaa
