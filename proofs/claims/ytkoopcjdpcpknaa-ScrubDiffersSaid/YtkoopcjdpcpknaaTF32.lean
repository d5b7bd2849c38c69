/- Layer 32: made: gaps of numbers, and how high the shaft is. -/
import Derived.Test.YtkoopcjdpcpknaaOgF
namespace Go.Proofs.Ytkoopcjdpcpknaa
open Go Go.RowKit
set_option linter.unusedVariables false
set_option linter.unusedSimpArgs false
/-- a gap of a number -/
def gpI (x : Int) : Int := 1 + x % 12
/-- the gaps -/
def mdL (ns : List Int) : List Int := 5 :: (ns.take 8).map gpI
theorem pos_pre (a b : List Int) : ∀ k, k ≤ a.length → pos (a ++ b) k = pos a k
  | 0, _ => rfl
  | k + 1, h => by
    simp only [pos]
    rw [pos_pre a b k (by omega), nth_append_left (by omega)]
theorem pos_snoc (a : List Int) (x : Int) : pos (a ++ [x]) (a.length + 1) = pos a a.length + x := by
  simp only [pos]
  rw [pos_pre a [x] _ (Nat.le_refl _)]
  congr 1
  simp [nth]
theorem el_last (v : Int) (y : List Int) (z : Int) (h : z = (y.length : Int)) : el (v :: y).reverse z = v := by
  subst h
  unfold el
  rw [List.getD_eq_getElem?_getD, Int.toNat_natCast, List.reverse_cons, List.getElem?_append_right (by simp)]
  simp
theorem mdA_go {ns : List Int} {n : Int} : ∀ (k i : Nat) (acc : List Int), i + k = min 8 ns.length → acc.length = i + 1 → (∀ x ∈ acc, 1 ≤ x ∧ x ≤ 12) → 5 ≤ pos acc.reverse acc.length → pos acc.reverse acc.length ≤ 12 * (acc.length : Int) →
    ∃ z, mdA_f ns n (k + 1) acc (pos acc.reverse acc.length) (i : Int) = some (0, ((((ns.drop i).take k).map gpI).reverse ++ acc, pos ((((ns.drop i).take k).map gpI).reverse ++ acc).reverse ((((ns.drop i).take k).map gpI).reverse ++ acc).length, z)) := by
  intro k
  induction k with
  | zero =>
    intro i acc h ha hb h5 h12
    refine ⟨(i : Int), ?_⟩
    rw [List.take_zero, List.map_nil, List.reverse_nil, List.nil_append]
    have e : mdA_f ns n (0 + 1) acc (pos acc.reverse acc.length) (i : Int) = (bif (decide (0 ≤ (i : Int) ∧ (i : Int) ≤ 8 ∧ (acc.length : Int) = (i : Int) + 1 ∧ 5 ≤ pos acc.reverse acc.length ∧ pos acc.reverse acc.length ≤ 200)) then (bif (decide ((i : Int) < (ns.length : Int))) then (bif (decide ((i : Int) < (8 : Int))) then none else some (0, (acc, (pos acc.reverse acc.length), (i : Int)))) else some (0, (acc, (pos acc.reverse acc.length), (i : Int)))) else none) := rfl
    rw [e, bif_dT ⟨by omega, by omega, by omega, h5, by omega⟩]
    by_cases c : (i : Int) < (ns.length : Int)
    · rw [bif_dT c, bif_dF (by omega)]
    · rw [bif_dF c]
  | succ k ih =>
    intro i acc h ha hb h5 h12
    have hm : 0 ≤ el ns (i : Int) % 12 ∧ el ns (i : Int) % 12 ≤ 11 := by omega
    have hw : IntKind.i64.wrap (1 + el ns (i : Int) % 12) = gpI (el ns (i : Int)) := by unfold gpI; rw [w8n (by omega) (by omega)]
    have hg : 1 ≤ gpI (el ns (i : Int)) ∧ gpI (el ns (i : Int)) ≤ 12 := by unfold gpI; omega
    have hi1 : IntKind.i64.wrap ((i : Int) + 1) = ((i + 1 : Nat) : Int) := by rw [w8n (by omega) (by omega)]; omega
    have hp : pos (gpI (el ns (i : Int)) :: acc).reverse (gpI (el ns (i : Int)) :: acc).length = pos acc.reverse acc.length + gpI (el ns (i : Int)) := by
      rw [List.reverse_cons, List.length_cons]
      have := pos_snoc acc.reverse (gpI (el ns (i : Int)))
      rw [List.length_reverse] at this
      exact this
    obtain ⟨z, hz⟩ := ih (i + 1) (gpI (el ns (i : Int)) :: acc) (by omega) (by rw [List.length_cons]; omega) (by
      intro x hx
      rcases List.mem_cons.1 hx with rfl | hx
      · exact hg
      · exact hb x hx) (by rw [hp]; omega) (by rw [hp, List.length_cons]; omega)
    have hdr : ((ns.drop i).take (k + 1)).map gpI = gpI (el ns (i : Int)) :: ((ns.drop (i + 1)).take k).map gpI := by
      rw [el_drop (l := ns) (i := i) (by omega), List.take_succ_cons, List.map_cons]
    refine ⟨z, ?_⟩
    rw [hdr, List.reverse_cons, List.append_assoc]
    have e : mdA_f ns n (k + 1 + 1) acc (pos acc.reverse acc.length) (i : Int) = mdA_f ns n (k + 1) (gpI (el ns (i : Int)) :: acc) (pos (gpI (el ns (i : Int)) :: acc).reverse (gpI (el ns (i : Int)) :: acc).length) ((i + 1 : Nat) : Int) := by
      rw [mdA_fs, bif_dT ⟨by omega, by omega, by omega, h5, by omega⟩, bif_dT (by omega), bif_dT (by omega), hw, hi1, el_last _ _ _ (by rw [ha]), hp, w8n (by omega) (by omega)]
    rw [e]
    exact hz
theorem mdL_len (ns : List Int) : 1 ≤ (mdL ns).length ∧ (mdL ns).length ≤ 9 := by
  unfold mdL
  rw [List.length_cons, List.length_map, List.length_take]
  omega
theorem mdL_good (ns : List Int) : ∀ x ∈ mdL ns, 1 ≤ x ∧ x ≤ 12 := by
  intro x hx
  unfold mdL at hx
  rcases List.mem_cons.1 hx with rfl | hx
  · omega
  · obtain ⟨y, _, rfl⟩ := List.mem_map.1 hx
    unfold gpI; omega
theorem md_loop (ns : List Int) (n : Int) : ∃ z, mdA_f ns n (min 8 ns.length + 1) [5] 5 0 = some (0, ((mdL ns).reverse, pos (mdL ns) (mdL ns).length, z)) := by
  obtain ⟨z, hz⟩ := mdA_go (ns := ns) (n := n) (min 8 ns.length) 0 [5] (by omega) rfl (by simp) (by decide) (by decide)
  refine ⟨z, ?_⟩
  have e1 : ((((ns.drop 0).take (min 8 ns.length)).map gpI).reverse ++ [5]) = (mdL ns).reverse := by
    unfold mdL
    rw [List.drop_zero, List.reverse_cons]
    congr 2
    congr 1
    rcases Nat.le_total 8 ns.length with h | h
    · rw [Nat.min_eq_left h]
    · rw [Nat.min_eq_right h, List.take_of_length_le (Nat.le_refl _), List.take_of_length_le h]
  rw [e1, List.reverse_reverse, List.length_reverse] at hz
  exact hz
theorem md_fine (ns : List Int) : Fine (mdL ns) := by
  obtain ⟨h1, h2⟩ := mdL_len ns
  refine ⟨h1, by omega, fun i hi => ?_⟩
  have := mdL_good ns (nth (mdL ns) i) (by rw [nth_eq hi]; exact List.getElem_mem hi)
  unfold good
  omega
theorem md_ck (ns : List Int) : ckE (mdL ns) = 0 := (ck_fine (md_fine ns)).1
theorem md_ht (ns : List Int) : htV (mdL ns) = pos (mdL ns) (mdL ns).length := htV_ok (md_ck ns)
end Go.Proofs.Ytkoopcjdpcpknaa
