/- Layer 8: ProfileShapes, out of its contract. -/
import Derived.Test.YtjemhamkakgnhaaOgS
import Derived.Test.YtjemhamkakgnhaaFrL
namespace Go.Proofs.Ytjemhamkakgnhaa
open Go Go.RowKit
set_option linter.unusedVariables false
set_option linter.unusedSimpArgs false
set_option maxHeartbeats 1000000
def In64 (n : Int) : Prop := -9223372036854775808 ≤ n ∧ n ≤ 9223372036854775807
theorem stF_home {m : Int} (hm : 1 ≤ m ∧ m ≤ 20) : ∀ (k : Nat) {t v l : Int}, l ≤ k → RdI m v l → ((ridL m k v l).length : Int) ≤ t → (stF m k t v l).2 = 0
  | 0, t, v, l, hk, h, ht => by have := h.2.2.1; simp only [stF]; omega
  | k + 1, t, v, l, hk, h, ht => by
    by_cases c : l ≤ 0
    · have := h.2.2.1
      simp only [stF]; rw [if_pos (.inl c)]; omega
    · have ha := rd_all hm h (by omega)
      simp only [ridL, if_neg c, List.length_cons] at ht
      simp only [stF]
      rw [if_neg (by omega)]
      exact stF_home hm k (by omega) ha.2.2.2.2.2.1 (by omega)
theorem rD_small {m n : Int} (hm : 1 ≤ m ∧ m ≤ 20) (hn : 0 ≤ n) (h : n < 900 * m) : rD m n ≤ 1000 := by
  obtain ⟨h1, h2, h3⟩ := rD_is hm.1 hn
  rcases (by omega : rD m n ≤ 1000 ∨ 1001 ≤ rD m n) with c | c
  · exact c
  · exfalso
    have e := rW_le (L := m) (a := 1000) (b := rD m n - 1) hm.1 (by omega) (by omega)
    have e2 := rW_lin (L := m) (k := 1000) hm.1 (by omega)
    have e3 : m * 981 ≤ m * (1000 + 1 - m) := Int.mul_le_mul_of_nonneg_left (by omega) (by omega)
    omega
theorem last_one {m v : Int} (h : RdI m v 0) : v ≤ 1 := by
  obtain ⟨a1, a2, a3, a4, a5⟩ := h
  rcases a5 with e | e
  · omega
  · rcases (by omega : v ≤ 1 ∨ 2 ≤ v) with c | c
    · exact c
    · have := rT_ge (v := v - 1) (by omega); omega
theorem shA_go {x y n m : Int} {L : List Int} (hL : L = seL (x % (if IntKind.i64.wrap (900 * IntKind.i64.wrap (1 + y % 20)) < 3000 then IntKind.i64.wrap (900 * IntKind.i64.wrap (1 + y % 20)) else 3000)) (IntKind.i64.wrap (1 + y % 20))) (hM : IntKind.i64.wrap (1 + y % 20) = m) (hm : 1 ≤ m ∧ m ≤ 20) (hn : n ≤ 63000) (hlen : L.length ≤ 1000) : ∀ (k : Nat) {i : Nat} {v l : Int}, l ≤ k → l ≤ n → RdI m v l → L.drop i = ridL m k v l → i ≤ L.length → ∃ z1 z2, shA_f x y (k + 1) (n - l) v (i : Int) = some (0, (n, z1, z2)) ∧ z1 ≤ 1
  | 0, i, v, l, hk, hln, h, hd, hi => by
    have e : l = 0 := by have := h.2.2.1; omega
    subst e
    have h1 := last_one h
    obtain ⟨a1, a2, a3, a4, a5⟩ := h
    have hle : L.length ≤ i := by have := congrArg List.length hd; simp [ridL] at this; omega
    refine ⟨v, i, ?_, h1⟩
    rw [shA_fs, ← hL, decide_eq_true ⟨by omega, by omega, by omega, by omega, a1, by omega, .inl (by omega)⟩, cond_true, decide_eq_false (by omega), cond_false]
    simp
  | k + 1, i, v, l, hk, hln, h, hd, hi => by
    by_cases c : l ≤ 0
    · have e : l = 0 := by have := h.2.2.1; omega
      subst e
      have h1 := last_one h
      obtain ⟨a1, a2, a3, a4, a5⟩ := h
      have hle : L.length ≤ i := by have := congrArg List.length hd; simp [ridL] at this; omega
      refine ⟨v, i, ?_, h1⟩
      rw [shA_fs, ← hL, decide_eq_true ⟨by omega, by omega, by omega, by omega, a1, by omega, .inl (by omega)⟩, cond_true, decide_eq_false (by omega), cond_false]
      simp
    · have hs := rd_all hm h (by omega)
      have hb := h
      obtain ⟨a1, a2, a3, a4, a5⟩ := hb
      simp only [ridL, if_neg c] at hd
      have hlt : i < L.length := by have := congrArg List.length hd; simp at this; omega
      rw [el_drop hlt] at hd
      injection hd with hd1 hd2
      obtain ⟨z1, z2, hf, hz⟩ := shA_go (x := x) (y := y) hL hM hm hn hlen k (i := i + 1) (v := nxV m v l) (l := l - nxV m v l) (by omega) (by omega) hs.2.2.2.2.2.1 hd2 (by omega)
      refine ⟨z1, z2, ?_, hz⟩
      rw [shA_fs, ← hL, hM, decide_eq_true ⟨by omega, by omega, by omega, by omega, a1, by omega, .inr (by rw [hd1]; omega)⟩, cond_true, decide_eq_true (by omega), cond_true, hd1, w8 (v := n - l + nxV m v l) (by omega), w8 (v := (i : Int) + 1) (by omega)]
      rw [show n - l + nxV m v l = n - (l - nxV m v l) by omega, show (i : Int) + 1 = ((i + 1 : Nat) : Int) by omega]
      exact hf
theorem ne_f {a b : Int} (h : a = b) : (a != b) = false := by subst h; simp
theorem shapes_aux {n m : Int} (hm : 1 ≤ m ∧ m ≤ 20) (hn : 0 ≤ n ∧ n ≤ 3000) (h : n < 900 * m) : seV n m = 0 ∧ seL n m = ridL m n.toNat 0 n ∧ (0 ≤ rD m n ∧ rD m n ≤ 1000) ∧ rD m n = ((seL n m).length : Int) ∧ gnN n m (rD m n) = n ∧ gnS n m (rD m n) = 0 ∧ gnE n m (rD m n) = 0 := by
  have hn' : 0 ≤ n ∧ n ≤ 63000 := ⟨hn.1, by omega⟩
  have ok : OkN n m := ⟨hn.1, by omega, hm.1, hm.2⟩
  have hs := rD_small hm hn.1 h
  have hl := spL_len hn' hm
  have h0 : 0 ≤ rD m n := by omega
  have e0 : seV n m = 0 := by unfold seV; rw [if_pos ok, if_pos hs]
  have e1 : seL n m = ridL m n.toNat 0 n := by unfold seL; rw [if_pos e0]; rfl
  have hh := stF_home hm n.toNat (t := rD m n) (v := 0) (l := n) (by omega) (start_i hn' hm) (by unfold spL at hl; omega)
  refine ⟨e0, e1, ⟨h0, hs⟩, ?_, ?_, ?_, ?_⟩
  · rw [e1]; unfold spL at hl; omega
  · unfold gnN; rw [if_pos ⟨ok, h0⟩, hh]; omega
  · unfold gnS; rw [if_pos ⟨ok, h0⟩, if_pos hh]
  · unfold gnE; rw [if_pos ⟨ok, h0⟩]
def shM (y : Int) : Int := IntKind.i64.wrap (1 + y % 20)
def shL (y : Int) : Int := if IntKind.i64.wrap (900 * IntKind.i64.wrap (1 + y % 20)) < 3000 then IntKind.i64.wrap (900 * IntKind.i64.wrap (1 + y % 20)) else 3000
def shN (x y : Int) : Int := x % (if IntKind.i64.wrap (900 * IntKind.i64.wrap (1 + y % 20)) < 3000 then IntKind.i64.wrap (900 * IntKind.i64.wrap (1 + y % 20)) else 3000)
theorem shapes_one (x y : Int) : KnownR Try.prog [] 7 [.val (.int .i64 x), .val (.int .i64 y)] (.bool true) [] := by
  have hy : 0 ≤ y % 20 ∧ y % 20 ≤ 19 := by omega
  have hm : shM y = 1 + y % 20 := w8 (by omega)
  have hw : IntKind.i64.wrap (900 * IntKind.i64.wrap (1 + y % 20)) = 900 * (1 + y % 20) := by
    rw [show IntKind.i64.wrap (1 + y % 20) = 1 + y % 20 from hm]; exact w8 (by omega)
  have hL : 0 < shL y ∧ shL y ≤ 3000 ∧ shL y ≤ 900 * (1 + y % 20) := by
    unfold shL; rw [hw]; split <;> omega
  have hN : 0 ≤ shN x y ∧ shN x y < shL y := ⟨Int.emod_nonneg _ (show shL y ≠ 0 by omega), Int.emod_lt_of_pos _ hL.1⟩
  have hm2 : 1 ≤ shM y ∧ shM y ≤ 20 := by omega
  obtain ⟨e0, e1, e2, e3, e4, e5, e6⟩ := shapes_aux (n := shN x y) (m := shM y) hm2 ⟨hN.1, by omega⟩ (by omega)
  obtain ⟨z1, z2, hf, hz⟩ := shA_go (x := x) (y := y) (n := shN x y) (m := shM y) (L := seL (shN x y) (shM y)) rfl rfl hm2 (by omega) (by omega) (shN x y).toNat (i := 0) (v := 0) (l := shN x y) (by omega) (Int.le_refl _) (start_i ⟨hN.1, by omega⟩ hm2) (by rw [List.drop_zero]; exact e1) (Nat.zero_le _)
  have hf' : shA_f x y ((shN x y).toNat + 1) 0 0 0 = some (0, (shN x y, z1, z2)) := by
    rw [Int.sub_self] at hf; exact hf
  have hl := shA_ok x y hy ⟨hN.1, show shN x y ≤ 3000 by omega⟩ e0 e2 e3 e4 e5 e6 _ 0 _ hf'
  dsimp only at hl
  have hr := shK x y (shN x y) z1 z2 hy ⟨hN.1, show shN x y ≤ 3000 by omega⟩ e0 e2 e3 e4 e5 e6 (decide_eq_true (show 0 < shL y ∧ shL y ≤ 4611686018427387904 by omega)) (decide_eq_true (show 0 ≤ shN x y ∧ shN x y ≤ 63000 ∧ 1 ≤ shM y ∧ shM y ≤ 20 by omega)) (decide_eq_true (show rD (shM y) (shN x y) ≤ 9223372036854775807 by omega)) (ne_f e0) (ne_f e6) (ne_f e3.symm) (ne_f e4) (ne_f e5) hl
  have hc : shK_c0 x y (shN x y) z1 z2 = true := by
    show (bif (shN x y == shN x y) then (bif (decide (z1 ≤ 1)) then true else false) else false) = true
    rw [decide_eq_true hz]; simp
  rw [hc] at hr
  exact hr
theorem profileShapes_true (x y : Int) (w : World) (_ : In64 x) (_ : In64 y) : Calls Try.prog 7 #[.int .i64 x, .int .i64 y] w fun e w' => e = .returned (.bool true) ∧ Below w.heap.size w w' :=
  knownR_law (shapes_one x y) (LaidL.nil w) (.cons (.val rfl) (.cons (.val rfl) .nil))
end Go.Proofs.Ytjemhamkakgnhaa
