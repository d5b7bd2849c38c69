import Derived.Test.YtcjlidciniiofaaOgL
import Derived.Test.YtcjlidciniiofaaM15
import Derived.Test.YtcjlidciniiofaaSW
set_option linter.unusedSimpArgs false
set_option linter.unusedVariables false
namespace Go.Proofs.Ytcjlidciniiofaa
open Go Go.RowKit
theorem el_nth {xs : List Int} {i : Nat} (hi : i < xs.length) : el xs (i : Int) = nth xs i := by
 rw [nth_eq hi]; unfold el; simp [hi]
def Lo (xs : List Int) : Prop := ∀ m ∈ xs, 1 ≤ m ∧ m ≤ 40
theorem shA_go (xs : List Int) (x : Int) : ∀ (k i : Nat) (Y : List Int), i + k = max 1 (min xs.length 8) → Y.length = i → Lo Y → ∃ Z z, shA_f xs x (k + 1) Y (i : Int) = some (0, (Z, z)) ∧ Lo Z ∧ Z.length = max 1 (min xs.length 8) := by
 intro k
 induction k with
 | zero =>
  intro i Y h hl hv
  refine ⟨Y, (i : Int), ?_, hv, by omega⟩
  rw [shA_fs, bif_dT (by omega)]
  by_cases h1 : (i : Int) < xs.length
  ·rw [bif_dT h1, bif_dF (by omega)]
  ·rw [bif_dF h1, bif_dF (by omega)]
 | succ k ih =>
  intro i Y h hl hv
  have hw : IntKind.i64.wrap ((i : Int) + 1) = ((i + 1 : Nat) : Int) := w8n (n := (i : Int) + 1) (by omega) (by omega)
  have hr : 0 ≤ mdV (atO xs (i : Int)) 40 ∧ mdV (atO xs (i : Int)) 40 < 40 := by rw [mdV_is]; omega
  obtain ⟨Z, z, hf, hz, hn⟩ := ih (i + 1) (IntKind.i64.wrap (1 + mdV (atO xs (i : Int)) 40) :: Y) (by omega) (by simp [hl]) (by
   intro m hm
   rcases List.mem_cons.1 hm with rfl | hm
   ·rw [w8n (by omega) (by omega)]; omega
   ·exact hv m hm)
  refine ⟨Z, z, ?_, hz, hn⟩
  rw [shA_fs, bif_dT (by omega), hw]
  by_cases h1 : (i : Int) < xs.length
  ·rw [bif_dT h1]
   by_cases h2 : (i : Int) < 8
   ·rw [bif_dT h2]; exact hf
   ·omega
  ·rw [bif_dF h1, bif_dT (by omega)]; exact hf
theorem lo_rev {Z : List Int} (h : Lo Z) : ∀ i, i < Z.reverse.length → 1 ≤ nth Z.reverse i ∧ nth Z.reverse i ≤ 40 := by
 intro i hi
 rw [nth_eq hi]
 exact h _ (List.mem_reverse.1 (List.getElem_mem hi))
theorem pos_40 {gs : List Int} (h : ∀ i, i < gs.length → 1 ≤ nth gs i ∧ nth gs i ≤ 40) : ∀ k, k ≤ gs.length → (k : Int) ≤ pos gs k ∧ pos gs k ≤ 40 * k
 | 0, _ => by simp [pos]
 | k + 1, hk => by
  have h1 := pos_40 h k (by omega)
  have h2 := h k (by omega)
  simp only [pos]
  omega
theorem shB_go {xs : List Int} {x : Int} {Z : List Int} {z : Int} {n : Nat} (hz : Lo Z) (hl : Z.length ≤ 8) (hn : n ≤ Z.length) (e : (IntKind.i64.wrap ((mdV x 1073741824).tdiv 64)).tmod (IntKind.i64.wrap ((Z.length : Int) + 1)) = n) :
  ∀ (k i : Nat), i + k = n → shB_f xs x Z z (k + 1) (pos Z.reverse i) (i : Int) = some (0, (pos Z.reverse n, (n : Int))) := by
 intro k
 induction k with
 | zero =>
  intro i h
  obtain rfl : i = n := by omega
  rw [shB_fs, bif_dT (by omega), e, bif_dF (by omega)]
 | succ k ih =>
  intro i h
  have hw : IntKind.i64.wrap ((i : Int) + 1) = ((i + 1 : Nat) : Int) := w8n (n := (i : Int) + 1) (by omega) (by omega)
  have b := pos_40 (lo_rev hz) i (by simp; omega)
  have c := lo_rev hz i (by simp; omega)
  rw [shB_fs, bif_dT (by omega), e, bif_dT (by omega), hw, el_nth (by simp; omega), w8n (by omega) (by omega)]
  exact ih (i + 1) (by omega)
theorem shC_go {xs : List Int} {x : Int} {Z : List Int} {z u v : Int} {n : Nat} (hz : Lo Z) (hl : Z.length ≤ 8) (hn : n ≤ Z.length) (e : (IntKind.i64.wrap ((mdV x 1073741824).tdiv 1024)).tmod (IntKind.i64.wrap ((Z.length : Int) + 1)) = n) :
  ∀ (k i : Nat), i + k = n → shC_f xs x Z z u v (k + 1) (pos Z.reverse i) (i : Int) = some (0, (pos Z.reverse n, (n : Int))) := by
 intro k
 induction k with
 | zero =>
  intro i h
  obtain rfl : i = n := by omega
  rw [shC_fs, bif_dT (by omega), e, bif_dF (by omega)]
 | succ k ih =>
  intro i h
  have hw : IntKind.i64.wrap ((i : Int) + 1) = ((i + 1 : Nat) : Int) := w8n (n := (i : Int) + 1) (by omega) (by omega)
  have b := pos_40 (lo_rev hz) i (by simp; omega)
  have c := lo_rev hz i (by simp; omega)
  rw [shC_fs, bif_dT (by omega), e, bif_dT (by omega), hw, el_nth (by simp; omega), w8n (by omega) (by omega)]
  exact ih (i + 1) (by omega)
structure ShF (gs : List Int) (s k f t : Int) : Prop where
 len : 1 ≤ gs.length ∧ gs.length ≤ 8
 lo : ∀ i, i < gs.length → 1 ≤ nth gs i ∧ nth gs i ≤ 40
 sp : 1 ≤ s ∧ s ≤ 8
 br : 0 ≤ k ∧ k ≤ 3
 fr : ∃ a, a ≤ gs.length ∧ f = pos gs a
 to : ∃ b, b ≤ gs.length ∧ t = pos gs b
theorem div_ex (x d : Int) (n : Nat) (hd : 1 ≤ d) (hn : n ≤ 8) : ∃ a : Nat, a ≤ n ∧ (IntKind.i64.wrap ((mdV x 1073741824).tdiv d)).tmod (IntKind.i64.wrap ((n : Int) + 1)) = a := by
 have hr : 0 ≤ mdV x 1073741824 ∧ mdV x 1073741824 < 1073741824 := by rw [mdV_is]; omega
 have q0 : 0 ≤ mdV x 1073741824 / d := Int.ediv_nonneg hr.1 (by omega)
 have q1 : mdV x 1073741824 / d ≤ mdV x 1073741824 := Int.ediv_le_self _ hr.1
 rw [Int.tdiv_eq_ediv_of_nonneg hr.1, w8n (by omega) (by omega), w8n (n := (n : Int) + 1) (by omega) (by omega), Int.tmod_eq_emod_of_nonneg q0]
 have m0 := Int.emod_nonneg (mdV x 1073741824 / d) (by omega : (n : Int) + 1 ≠ 0)
 have m1 := Int.emod_lt_of_pos (mdV x 1073741824 / d) (by omega : 0 < (n : Int) + 1)
 exact ⟨(mdV x 1073741824 / d % ((n : Int) + 1)).toNat, by omega, by omega⟩
theorem shaft_ex (xs : List Int) (x : Int) : ∃ p : List Int × Int × Int × Int × Int, ShF p.1 p.2.1 p.2.2.1 p.2.2.2.1 p.2.2.2.2 ∧ KnownR Try.prog [] 18 [.list (rowA gI xs) xs.length, .val (.int .i64 x)] (.tuple #[.complex .f64 0 p.1.length, .agg #[.int .i64 p.2.1, .int .i64 p.2.2.1, .int .i64 0], .int .i64 p.2.2.2.1, .int .i64 p.2.2.2.2]) [(rowA gI p.1, 3)] := by
 obtain ⟨Z, z, hf, hz, hn⟩ := shA_go xs x (max 1 (min xs.length 8)) 0 [] (by omega) rfl (by intro m hm; cases hm)
 have hl : 1 ≤ Z.length ∧ Z.length ≤ 8 := by omega
 obtain ⟨a, ha, ea⟩ := div_ex x 64 Z.length (by omega) hl.2
 obtain ⟨b, hb, eb⟩ := div_ex x 1024 Z.length (by omega) hl.2
 have lA := shA_ok xs x _ _ _ hf
 have hB := shB_go (xs := xs) (z := z) hz hl.2 ha ea a 0 (by omega)
 have lB := shB_ok xs x Z z hl (by rw [ea]; omega) lA _ _ _ hB
 have hC := shC_go (xs := xs) (z := z) (u := pos Z.reverse a) (v := a) hz hl.2 hb eb b 0 (by omega)
 have lC := shC_ok xs x Z z _ _ hl (by rw [ea]; omega) (by rw [eb]; omega) lA lB _ _ _ hC
 have r := shK xs x Z z _ _ _ _ hl lA lB lC
 have hr : 0 ≤ mdV x 1073741824 ∧ mdV x 1073741824 < 1073741824 := by rw [mdV_is]; omega
 refine ⟨(Z.reverse, shK_c1 xs x Z z (pos Z.reverse a) a (pos Z.reverse b) b, shK_c2 xs x Z z (pos Z.reverse a) a (pos Z.reverse b) b, pos Z.reverse a, pos Z.reverse b), ⟨by simpa using hl, lo_rev hz, ?_, ?_, ⟨a, by simpa using ha, rfl⟩, ⟨b, by simpa using hb, rfl⟩⟩, r⟩
 ·simp only [shK_c1]
  rw [Int.tmod_eq_emod_of_nonneg hr.1, w8n (by omega) (by omega)]; omega
 ·simp only [shK_c2]
  rw [Int.tdiv_eq_ediv_of_nonneg hr.1, w8n (n := mdV x 1073741824 / 8) (by omega) (by omega), Int.tmod_eq_emod_of_nonneg (by omega)]; omega
noncomputable def shP (xs : List Int) (x : Int) : List Int × Int × Int × Int × Int := Classical.choose (shaft_ex xs x)
noncomputable def sG (xs : List Int) (x : Int) : List Int := (shP xs x).1
noncomputable def sS (xs : List Int) (x : Int) : Int := (shP xs x).2.1
noncomputable def sK (xs : List Int) (x : Int) : Int := (shP xs x).2.2.1
noncomputable def sF (xs : List Int) (x : Int) : Int := (shP xs x).2.2.2.1
noncomputable def sT (xs : List Int) (x : Int) : Int := (shP xs x).2.2.2.2
theorem shaft_ok (xs : List Int) (x : Int) : ShF (sG xs x) (sS xs x) (sK xs x) (sF xs x) (sT xs x) := (Classical.choose_spec (shaft_ex xs x)).1
theorem shaft_v (xs : List Int) (x : Int) : KnownR Try.prog [] 18 [.list (rowA gI xs) xs.length, .val (.int .i64 x)] (.tuple #[.complex .f64 0 (sG xs x).length, .agg #[.int .i64 (sS xs x), .int .i64 (sK xs x), .int .i64 0], .int .i64 (sF xs x), .int .i64 (sT xs x)]) [(rowA gI (sG xs x), 3)] := (Classical.choose_spec (shaft_ex xs x)).2
noncomputable def sH (xs : List Int) (x : Int) : Int := pos (sG xs x) (sG xs x).length
theorem shaft_fine (xs : List Int) (x : Int) : ckE (sG xs x) = 0 ∧ htV (sG xs x) = sH xs x ∧ 0 ≤ sH xs x ∧ sH xs x ≤ 320 ∧ (0 ≤ sF xs x ∧ sF xs x ≤ sH xs x) ∧ (0 ≤ sT xs x ∧ sT xs x ≤ sH xs x) := by
 have h := shaft_ok xs x
 have hf : Fine (sG xs x) := ⟨h.len.1, by have := h.len.2; omega, fun i hi => by have := h.lo i hi; unfold good; omega⟩
 have hc := (ck_fine hf).1
 have hl := h.len
 have hp := pos_40 h.lo (sG xs x).length (Nat.le_refl _)
 have le : ∀ a, a ≤ (sG xs x).length → 0 ≤ pos (sG xs x) a ∧ pos (sG xs x) a ≤ pos (sG xs x) (sG xs x).length := by
  intro a ha
  have q := pos_40 h.lo a ha
  rcases (by omega : a = (sG xs x).length ∨ a < (sG xs x).length) with rfl | e
  ·omega
  ·have := pos_mono hf a (sG xs x).length e (Nat.le_refl _); omega
 obtain ⟨a, ha, ea⟩ := h.fr
 obtain ⟨b, hb, eb⟩ := h.to
 refine ⟨hc, htV_ok hc, ?_, ?_, ?_, ?_⟩
 ·unfold sH; omega
 ·unfold sH; omega
 ·rw [ea]; exact le a ha
 ·rw [eb]; exact le b hb
end Go.Proofs.Ytcjlidciniiofaa
