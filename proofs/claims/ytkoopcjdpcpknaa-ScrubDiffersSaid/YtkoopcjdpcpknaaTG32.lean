/- Layer 32: made, as a contract; valid cars. -/
import Derived.Test.YtkoopcjdpcpknaaOgG
namespace Go.Proofs.Ytkoopcjdpcpknaa
open Go Go.RowKit
set_option linter.unusedVariables false
set_option linter.unusedSimpArgs false
noncomputable def mD (n : Int) : Int := mdK_c1 [] n [] 0 0
noncomputable def mS (n : Int) : Bool := mdK_c2 [] n [] 0 0
noncomputable def mF (n : Int) : Bool := mdK_c3 [] n [] 0 0
noncomputable def mH (n : Int) : Bool := mdK_c4 [] n [] 0 0
noncomputable def mA (ns : List Int) (n : Int) : Int := mdK_c5 [] n [] (pos (mdL ns) (mdL ns).length) 0
noncomputable def mP (n : Int) : Int := mdK_c6 [] n [] 0 0
theorem md_pos (ns : List Int) : 5 ≤ pos (mdL ns) (mdL ns).length ∧ pos (mdL ns) (mdL ns).length ≤ 200 := by
  have key : ∀ (l : List Int), (∀ x ∈ l, 1 ≤ x ∧ x ≤ 12) → ∀ k, k ≤ l.length → 0 ≤ pos l k ∧ pos l k ≤ 12 * (k : Int) := by
    intro l hl k
    induction k with
    | zero => intro _; simp [pos]
    | succ k ih =>
      intro hk
      have := ih (by omega)
      have hx := hl (nth l k) (by rw [nth_eq (by omega)]; exact List.getElem_mem _)
      simp only [pos]
      omega
  have h1 := key (mdL ns) (mdL_good ns) _ (Nat.le_refl _)
  have h2 := (mdL_len ns).2
  have h3 : 5 ≤ pos (mdL ns) (mdL ns).length := by
    have f := md_fine ns
    have h0 := (mdL_len ns).1
    rcases (by omega : (mdL ns).length = 1 ∨ 1 < (mdL ns).length) with e | e
    · rw [e]
      simp [pos, mdL, nth]
    · have := pos_mono f 1 (mdL ns).length e (Nat.le_refl _)
      have e1 : pos (mdL ns) 1 = 5 := by simp [pos, mdL, nth]
      omega
  omega
theorem mD_rng (n : Int) : 0 ≤ mD n ∧ mD n ≤ 3 := by
  unfold mD mdK_c1
  have : 0 ≤ n % 16777216 := by omega
  rw [Int.tmod_eq_emod_of_nonneg this]
  omega
theorem mP_rng (n : Int) : 0 ≤ mP n ∧ mP n ≤ 20 := by
  unfold mP mdK_c6
  have h : 0 ≤ n % 16777216 ∧ n % 16777216 < 16777216 := by omega
  rw [Int.tdiv_eq_ediv_of_nonneg h.1, w8n (by omega) (by omega), Int.tmod_eq_emod_of_nonneg (by omega)]
  omega
theorem mA_rng (ns : List Int) (n : Int) : 0 ≤ mA ns n ∧ mA ns n ≤ htV (mdL ns) := by
  rw [md_ht]
  unfold mA mdK_c5
  have hp := md_pos ns
  generalize pos (mdL ns) (mdL ns).length = p at *
  have h : 0 ≤ n % 16777216 ∧ n % 16777216 < 16777216 := by omega
  rw [Int.tdiv_eq_ediv_of_nonneg h.1, w8n (n := n % 16777216 / 8192) (by omega) (by omega), w8n (n := p + 1) (by omega) (by omega), Int.tmod_eq_emod_of_nonneg (by omega)]
  have a := Int.emod_nonneg (n % 16777216 / 8192) (b := p + 1) (by omega)
  have b := Int.emod_lt_of_pos (n % 16777216 / 8192) (b := p + 1) (by omega)
  omega
theorem made_is (ns : List Int) (n : Int) : KnownR Try.prog [] 21 [.list (rowA gI ns) ns.length, .val (.int .i64 n)] (.tuple #[.complex .f64 0 (mdL ns).length, .agg #[.int .i64 (mD n), .bool (mS n), .bool (mF n), .bool (mH n), .int .i64 (mA ns n), .int .i64 (mP n)]]) [(rowA gI (mdL ns), 3)] := by
  obtain ⟨z, hz⟩ := md_loop ns n
  have hl := mdA_ok ns n _ _ _ hz
  have k := mdK ns n _ _ _ (md_pos ns) hl
  unfold mdK_c0 at k
  rw [List.reverse_reverse] at k
  exact k
/-- a car is right -/
theorem al_ok {gs : List Int} {m : Int} {xs : List Shn} (hc : ckE gs = 0) (hm : 1 ≤ m ∧ m ≤ 3) (h : ∀ x ∈ xs, 0 ≤ x.1 ∧ x.1 ≤ 3 ∧ 0 ≤ x.2.2.2.2.1 ∧ x.2.2.2.2.1 ≤ htV gs ∧ 0 ≤ x.2.2.2.2.2 ∧ x.2.2.2.2.2 ≤ 20) : alE gs m xs = 0 := by
  have hf : ∀ l : List Shn, (∀ x ∈ l, 0 ≤ x.1 ∧ x.1 ≤ 3 ∧ 0 ≤ x.2.2.2.2.1 ∧ x.2.2.2.2.1 ≤ htV gs ∧ 0 ≤ x.2.2.2.2.2 ∧ x.2.2.2.2.2 ≤ 20) → fsE gs l = 0 := by
    intro l
    induction l with
    | nil => intro _; rfl
    | cons x r ih =>
      intro hl
      have e : ckS gs x = 0 := by unfold ckS; rw [if_pos hc, if_pos (hl x (by simp))]
      show (if ckS gs x = 0 then fsE gs r else ckS gs x) = 0
      rw [if_pos e]
      exact ih fun y hy => hl y (by simp [hy])
  unfold alE
  rw [if_pos hc, hf xs h, if_pos rfl, if_pos hm]
end Go.Proofs.Ytkoopcjdpcpknaa
