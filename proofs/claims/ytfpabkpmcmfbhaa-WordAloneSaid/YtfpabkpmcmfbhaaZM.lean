/- Layer 33: made. -/
import Derived.Test.YtfpabkpmcmfbhaaOgK
import Derived.Test.YtfpabkpmcmfbhaaOgL
import Derived.Test.YtfpabkpmcmfbhaaZK
import Derived.Test.YtfpabkpmcmfbhaaOgH
namespace Go.Proofs.Ytfpabkpmcmfbhaa
open Go Go.RowKit
set_option linter.unusedVariables false
theorem en_snoc {n : Int} {x : En} : ∀ (l : List En) (p : Int), enS n l p = 0 → (∀ y ∈ l, y.1 ≤ x.1) → p ≤ x.1 → 0 ≤ x.1 → x.1 ≤ 1099511627776 → enX x n = 0 → enS n (l ++ [x]) p = 0
  | [], p, _, _, hp, h0, h1, hx => en_mk h0 h1 hp hx rfl
  | y :: r, p, h, hy, hp, h0, h1, hx => by
    obtain ⟨a1, a2, a3, a4, a5⟩ := en_cons h
    rw [List.cons_append]
    exact en_mk a1 a2 a3 a4 (en_snoc r y.1 a5 (fun z hz => hy z (List.mem_cons_of_mem _ hz)) (hy y List.mem_cons_self) h0 h1 hx)
theorem enX_mk {a c e f g n : Int} {d : ByteArray} (h1 : 1 ≤ e) (h2 : e ≤ n) (h : (f = 1 ∧ 0 ≤ g ∧ g ≤ 10000) ∨ (2 ≤ f ∧ f ≤ 6 ∧ g = 0)) : enX (a, 2, c, d, e, f, g) n = 0 := by
  unfold enX pe_c0
  rcases h with ⟨rfl, h3, h4⟩ | ⟨h3, h4, rfl⟩
  · simp [h1, h2, h3, h4]
  · have h5 : ¬ f = 1 := by omega
    have h6 : 1 ≤ f := by omega
    simp [h1, h2, h4, h5, h6]
/-- what made's loop keeps -/
def GoodM (i : Nat) (Y : List En) : Prop := Y.length = i ∧ enS 3 Y.reverse 0 = 0 ∧ ∀ y ∈ Y, y.1 ≤ 2 * (i : Int) ∧ y.2.1 = 2 ∧ 1 ≤ y.2.2.2.2.1
theorem good_step {i : Nat} {Y : List En} {x : En} (h : GoodM i Y) (h1 : x.1 = 2 * (i : Int)) (hi : i ≤ 30) (hk : x.2.1 = 2) (hc : 1 ≤ x.2.2.2.2.1) (hx : enX x 3 = 0) : GoodM (i + 1) (x :: Y) := by
  obtain ⟨a, b, c⟩ := h
  refine ⟨by simp [a], ?_, ?_⟩
  · rw [List.reverse_cons]
    exact en_snoc Y.reverse 0 b (fun y hy => by have := (c y (by simpa using hy)).1; omega) (by omega) (by omega) (by omega) hx
  · intro y hy
    rcases List.mem_cons.1 hy with rfl | h
    · exact ⟨by omega, hk, hc⟩
    · have := c y h; exact ⟨by omega, this.2⟩
theorem mdA_go {xs : List Int} : ∀ (k i : Nat) (Y : List En), i + k = min xs.length 30 → GoodM i Y → ∃ Y' z, mdA_f xs (k + 1) Y (i : Int) = some (0, (Y', z)) ∧ GoodM Y'.length Y' ∧ Y'.length ≤ 30 := by
  intro k
  induction k with
  | zero =>
    intro i Y hi hg
    have hl := hg.1
    rw [mdA_fs, bif_dT (by omega)]
    by_cases h1 : (i : Int) < xs.length
    · rw [bif_dT h1, bif_dF (by omega)]
      exact ⟨Y, _, rfl, by rw [hl]; exact hg, by omega⟩
    · rw [bif_dF h1]
      exact ⟨Y, _, rfl, by rw [hl]; exact hg, by omega⟩
  | succ k ih =>
    intro i Y hi hg
    have hl := hg.1
    rw [mdA_fs, bif_dT (by omega), bif_dT (by omega), bif_dT (by omega), w8n (n := (i : Int) + 1) (by omega) (by omega), show (i : Int) + 1 = ((i + 1 : Nat) : Int) by omega]
    have q0 : 0 ≤ el xs (i : Int) % 1048576 := by omega
    have q1 : el xs (i : Int) % 1048576 < 1048576 := by omega
    generalize el xs (i : Int) % 1048576 = q at *
    have w : IntKind.i64.wrap (2 * (i : Int)) = 2 * (i : Int) := w8n (by omega) (by omega)
    have t1 : IntKind.i64.wrap (1 + q.tmod 3) = 1 + q % 3 := by rw [Int.tmod_eq_emod_of_nonneg q0, w8n (by omega) (by omega)]
    have t2 : (IntKind.i64.wrap (q.tdiv 15)).tmod 90 = q / 15 % 90 := by rw [Int.tdiv_eq_ediv_of_nonneg q0, w8n (by omega) (by omega), Int.tmod_eq_emod_of_nonneg (by omega)]
    rw [w, t1, t2]
    have r1 : 1 ≤ 1 + q % 3 := by omega
    have r2 : 1 + q % 3 ≤ 3 := by omega
    have r3 : 0 ≤ q / 15 % 90 ∧ q / 15 % 90 ≤ 10000 := by omega
    generalize (IntKind.i64.wrap (q.tdiv 3)).tmod 5 = s
    have i3 : i ≤ 30 := by omega
    by_cases h0 : s = 0
    · rw [bif_dT h0]; exact ih (i + 1) _ (by omega) (good_step hg rfl i3 rfl r1 (enX_mk r1 r2 (.inl ⟨rfl, r3.1, r3.2⟩)))
    · rw [bif_dF h0]
      by_cases h1 : s = 1
      · rw [bif_dT h1]; exact ih (i + 1) _ (by omega) (good_step hg rfl i3 rfl r1 (enX_mk r1 r2 (.inl ⟨rfl, r3.1, r3.2⟩)))
      · rw [bif_dF h1]
        by_cases h2 : s = 2
        · rw [bif_dT h2]; exact ih (i + 1) _ (by omega) (good_step hg rfl i3 rfl r1 (enX_mk r1 r2 (.inr ⟨by decide, by decide, rfl⟩)))
        · rw [bif_dF h2]
          by_cases h3 : s = 3
          · rw [bif_dT h3]; exact ih (i + 1) _ (by omega) (good_step hg rfl i3 rfl r1 (enX_mk r1 r2 (.inr ⟨by decide, by decide, rfl⟩)))
          · rw [bif_dF h3]; exact ih (i + 1) _ (by omega) (good_step hg rfl i3 rfl r1 (enX_mk r1 r2 (.inr ⟨by decide, by decide, rfl⟩)))
noncomputable def mdL (xs : List Int) : List Int := [atO xs 0 % 90, atO xs 1 % 90, 0]
theorem made_ex (xs : List Int) : ∃ es : List En, (enS 3 es 0 = 0 ∧ ∀ y ∈ es, y.2.1 = 2 ∧ 1 ≤ y.2.2.2.2.1) ∧ es.length ≤ 30 ∧
    KnownR Try.prog [] 22 [.list (rowA gI xs) xs.length] (.tuple #[.complex .f64 0 (mdL xs).length, .complex .f64 1 es.length]) [(rowA gI (mdL xs), 3), (rowA gE es, 48)] := by
  obtain ⟨Y, z, hz, hg, hl⟩ := mdA_go (xs := xs) (min xs.length 30) 0 [] (by omega) ⟨rfl, rfl, fun y hy => by simp at hy⟩
  have ho := mdA_ok xs _ _ _ hz
  dsimp only at ho
  have r := md1 xs _ _ ho
  exact ⟨Y.reverse, ⟨hg.2.1, fun y hy => (hg.2.2 y (by simpa using hy)).2⟩, by simpa using hl, r⟩
noncomputable def mdE (xs : List Int) : List En := Classical.choose (made_ex xs)
theorem mdE_en (xs : List Int) : enS 3 (mdE xs) 0 = 0 := (Classical.choose_spec (made_ex xs)).1.1
theorem mdE_all (xs : List Int) : ∀ y ∈ mdE xs, y.2.1 = 2 ∧ 1 ≤ y.2.2.2.2.1 := (Classical.choose_spec (made_ex xs)).1.2
theorem mdE_len (xs : List Int) : (mdE xs).length ≤ 30 := (Classical.choose_spec (made_ex xs)).2.1
theorem made_is (xs : List Int) : KnownR Try.prog [] 22 [.list (rowA gI xs) xs.length] (.tuple #[.complex .f64 0 (mdL xs).length, .complex .f64 1 (mdE xs).length]) [(rowA gI (mdL xs), 3), (rowA gE (mdE xs), 48)] := (Classical.choose_spec (made_ex xs)).2.2
theorem mdL_len (xs : List Int) : (mdL xs).length = 3 := rfl
theorem md_ch {m : Int} (xs : List Int) (h1 : 0 ≤ m) (h2 : m ≤ 10000) : chX m (mdL xs) (mdE xs) = 0 := by
  have hl := mdE_len xs
  refine ch_mk h1 h2 (by rw [mdL_len]; decide) (by rw [mdL_len]; decide) ?_ (by omega) (by rw [mdL_len]; exact mdE_en xs)
  intro x hx
  unfold mdL at hx
  rcases List.mem_cons.1 hx with rfl | hx
  · omega
  · rcases List.mem_cons.1 hx with rfl | hx
    · omega
    · rcases List.mem_cons.1 hx with rfl | hx
      · omega
      · simp at hx
attribute [local irreducible] mdL mdE
theorem same_eq (x y : List Int) (hx : (x.length : Int) ≤ 100000) (e : x = y) : KnownR Try.prog [] 14 [.list (rowA gI x) x.length, .list (rowA gI y) y.length] (.bool true) [] := by
  subst e
  exact si_is x hx
theorem wo_len100 (m : Int) (ld : List Int) (es : List En) : ((woL m ld es).length : Int) ≤ 100000 := by
  have := wo_len8 m ld es
  omega
theorem ofV {m : Int} {ld : List Int} {es : List En} (hc : chX m ld es = 0) : KnownR Try.prog [] 12 [.val (.int .i64 m), .list (rowA gI ld) ld.length, .list (rowA gE es) es.length] (.tuple #[.int .i64 (woN m ld es), .complex .f64 0 (woL m ld es).length, .int .i64 0]) [(rowA gI (woL m ld es), 3)] := by
  have r := pof_is m ld es
  rw [hc] at r
  exact r
noncomputable def modO (n m : Int) : Int := n % m
end Go.Proofs.Ytfpabkpmcmfbhaa
