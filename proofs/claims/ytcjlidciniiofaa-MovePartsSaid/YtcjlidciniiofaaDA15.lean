import Derived.Test.YtcjlidciniiofaaOgB
set_option linter.unusedSimpArgs false
set_option linter.unusedVariables false
namespace Go.Proofs.Ytcjlidciniiofaa
open Go Go.RowKit
theorem tri_le {v : Int} (h0 : 0 ≤ v) (h : v ≤ 21) : 0 ≤ v * (v + 1) ∧ v * (v + 1) ≤ 462 := by
 have e : v * (v + 1) = v * v + v := by rw [Int.mul_add, Int.mul_one]
 have := sq_bound h0 h; omega
theorem tri_w {v : Int} (h0 : 0 ≤ v) (h : v ≤ 21) : IntKind.i64.wrap ((IntKind.i64.wrap (v * IntKind.i64.wrap (v + 1))).tdiv 2) = rT v := by
 have b := tri_le h0 h
 unfold rT
 rw [w8 (v := v + 1) (by omega), w8 (v := v * (v + 1)) (by omega), Int.tdiv_eq_ediv_of_nonneg b.1, w8 (by omega)]
theorem ptri_eq {v : Int} (h0 : 0 ≤ v) (h : v ≤ 21) : ptri_c0 v = rT v := tri_w h0 h
theorem dtri_eq {v : Int} (h0 : 0 ≤ v) (h : v ≤ 21) : dtri_c0 v = rT v := tri_w h0 h
theorem rT_two_facts {v : Int} (h0 : 0 ≤ v) (h : v ≤ 21) : 0 ≤ rT v ∧ rT v ≤ 231 ∧ rT v = rT (v - 1) + v ∧ (1 ≤ v ∨ rT v = 0) := by
 have b := rT_bound h0 h
 have p := rT_pred (v := v)
 refine ⟨b.1, b.2, by omega, ?_⟩
 rcases (by omega : 1 ≤ v ∨ v = 0) with e | e
 ·exact .inl e
 ·subst e; exact .inr (by decide)
theorem dtri_pred {v : Int} (h0 : 0 ≤ v) (h : v ≤ 21) : 0 ≤ dtri_c0 v ∧ dtri_c0 v ≤ 231 ∧ dtri_c0 v = rT (v - 1) + v ∧ (1 ≤ v ∨ dtri_c0 v = 0) := by rw [dtri_eq h0 h]; exact rT_two_facts h0 h
def nxV (m v l : Int) : Int := if v + 1 ≤ m ∧ rT (v + 1) ≤ l then v + 1 else if 1 ≤ v ∧ rT v ≤ l then v else v - 1
theorem nxV_is {m v l : Int} (h0 : 0 ≤ v) (h1 : v ≤ m) (hm : 1 ≤ m) (hl : 1 ≤ l) (hs : v = 0 ∨ rT (v - 1) ≤ l) : NextV m v l (nxV m v l) := by
 have z : rT 1 = 1 := by decide
 unfold nxV
 split
 ·rename_i c; exact .inl ⟨rfl, c.1, c.2⟩
 ·rename_i c
  split
  ·rename_i d; exact .inr (.inl ⟨rfl, d.1, d.2, by omega⟩)
  ·rename_i d
   have : 2 ≤ v := by
    rcases (by omega : v = 0 ∨ v = 1 ∨ 2 ≤ v) with e | e | e
    ·subst e; simp at c; omega
    ·subst e; omega
    ·exact e
   exact .inr (.inr ⟨rfl, this, by omega, by omega⟩)
theorem pNext_is {v l m : Int} (h0 : 0 ≤ v) (h1 : v ≤ m) (hm : 1 ≤ m ∧ m ≤ 20) (hl : 1 ≤ l ∧ l ≤ 63000) (hs : v = 0 ∨ rT (v - 1) ≤ l) : Known Try.prog [] 70 [.int .i64 v, .int .i64 l, .int .i64 m] (.tuple #[.int .i64 (nxV m v l), .int .i64 0]) := by
 have k := pNext v l m
 have hn := nxV_is h0 h1 hm.1 hl.1 hs
 have e1 : IntKind.i64.wrap (v + 1) = v + 1 := w8 (by omega)
 have e3 : IntKind.i64.wrap (v - 1) = v - 1 := w8 (by omega)
 have d1 : ptri_c0 (v + 1) = rT (v + 1) := ptri_eq (by omega) (by omega)
 have d2 : ptri_c0 v = rT v := ptri_eq (by omega) (by omega)
 have c : pNext_c0 v l m = nxV m v l ∧ pNext_c1 v l m = 0 := by
  unfold pNext_c0 pNext_c1
  simp only [e1, e3, d1, d2, decide_eq_false (by omega : ¬ l < 0), decide_eq_false (by omega : ¬ l > 63000), decide_eq_false (by omega : ¬ m < 1), decide_eq_false (by omega : ¬ m > 20), decide_eq_false (by omega : ¬ v < 0), decide_eq_false (by omega : ¬ v > m), cond_false]
  have ts := rT_succ (v := v)
  rcases hn with ⟨g, k1, k2⟩ | ⟨g, k1, k2, k3⟩ | ⟨g, k1, k2, k3⟩
  ·rw [g] at k1 k2 ⊢; simp only [decide_eq_true k1, decide_eq_true k2, cond_true]; first | exact ⟨rfl, rfl⟩ | exact ⟨rfl, trivial⟩ | trivial
  ·rw [g]
   by_cases a : v + 1 ≤ m
   ·simp only [decide_eq_true a, decide_eq_false (by omega : ¬ rT (v + 1) ≤ l), decide_eq_true k2, cond_true, cond_false]; first | exact ⟨rfl, rfl⟩ | exact ⟨rfl, trivial⟩ | trivial
   ·simp only [decide_eq_false a, decide_eq_true k2, cond_true, cond_false]; first | exact ⟨rfl, rfl⟩ | exact ⟨rfl, trivial⟩ | trivial
  ·rw [g]
   have d3 : ptri_c0 (v - 1) = rT (v - 1) := ptri_eq (by omega) (by omega)
   have b0 : ¬ rT v ≤ l := by omega
   by_cases a : v + 1 ≤ m
   ·simp only [decide_eq_true a, decide_eq_false (by omega : ¬ rT (v + 1) ≤ l), decide_eq_false b0, d3, decide_eq_true k2, decide_eq_false (by omega : ¬ v - 1 < 0), cond_true, cond_false]; first | exact ⟨rfl, rfl⟩ | exact ⟨rfl, trivial⟩ | trivial
   ·simp only [decide_eq_false a, decide_eq_false b0, d3, decide_eq_true k2, cond_true, cond_false]; first | exact ⟨rfl, rfl⟩ | exact ⟨rfl, trivial⟩ | trivial
 rw [c.1, c.2] at k
 exact k
end Go.Proofs.Ytcjlidciniiofaa
