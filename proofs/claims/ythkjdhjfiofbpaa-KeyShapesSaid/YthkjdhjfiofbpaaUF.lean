import Derived.Test.YthkjdhjfiofbpaaOgL
set_option linter.unusedVariables false
namespace Go.Proofs.Ythkjdhjfiofbpaa
open Go Go.RowKit
theorem ck_t {l : List Int} {f t : Int} (h : ckX l f t = 0) : -1 ≤ t ∧ t ≤ 1099511627776 := by
 have h0 := ck_f h
 unfold ckX at h
 split at h
 ·split at h
  ·cases h
  ·split at h
   ·cases h
   ·unfold pc2_c0 at h
    rw [bif_dF (by omega), bif_dF (by omega)] at h
    by_cases h3 : t = -1
    ·omega
    ·rw [show (t != (-1 : Int)) = true by simpa using h3, cond_true] at h
     by_cases h1 : t ≥ 0
     ·rw [bif_dT h1] at h
      by_cases h2 : t ≤ 1099511627776
      ·omega
      ·rw [decide_eq_false h2, Bool.not_false, cond_true] at h; cases h
     ·rw [bif_dF h1] at h; cases h
 ·cases h
theorem ck_k {f t : Int} (hf : 1 ≤ f ∧ f ≤ 100000) (ht : -1 ≤ t ∧ t ≤ 1099511627776) : ckX [7, 42] f t = 0 := by
 unfold ckX
 rw [if_pos (by decide), if_neg (by decide), if_neg (by decide)]
 unfold pc2_c0
 rw [bif_dF (by omega), bif_dF (by omega)]
 by_cases h3 : t = -1
 ·subst h3; rfl
 ·rw [show (t != (-1 : Int)) = true by simpa using h3, cond_true, bif_dT (by omega), decide_eq_true (by omega), Bool.not_true, cond_false]
open Classical in
open Classical in
open Classical in
open Classical in
open Classical in
def okF (l : List Int) (f t n : Int) : Prop := ckX l f t = 0 ∧ 0 ≤ n ∧ n ≤ 1099511627776
open Classical in
noncomputable def lfX (l : List Int) (f t n : Int) : Int := if okF l f t n then 0 else lfE_c1 l f t n
open Classical in
noncomputable def lfN (l : List Int) (f t n : Int) : Int := if okF l f t n then (if t = -1 ∨ n < t then 0 else max (t + f - n) 0) else 0
theorem left_is (l : List Int) (f t n : Int) : KnownR Try.prog [] 23 [.agg [.list (rowA gI l) l.length, .val (.int .i64 f), .val (.int .i64 t)], .val (.int .i64 n)] (.tuple #[.int .i64 (lfN l f t n), .int .i64 (lfX l f t n)]) [] := by
 by_cases h : okF l f t n
 ·unfold lfN lfX
  simp only [if_pos h]
  have h' := h
  obtain ⟨hc, h1, h2⟩ := h'
  have hf := ck_f hc
  have ht := ck_t hc
  have k := lf0 l f t n hc hf ht ⟨h1, h2⟩
  have e : lf0_c0 l f t n = if t = -1 ∨ n < t then 0 else max (t + f - n) 0 := by
   unfold lf0_c0
   by_cases h3 : t = -1
   ·rw [show (t == (-1 : Int)) = true by simpa using h3, cond_true, if_pos (Or.inl h3)]
   ·rw [show (t == (-1 : Int)) = false by simpa using h3, cond_false]
    by_cases h4 : n < t
    ·rw [bif_dT h4, if_pos (Or.inr h4)]
    ·have w1 : IntKind.i64.wrap (t + f) = t + f := w8n (by omega) (by omega)
     have w2 : IntKind.i64.wrap (t + f - n) = t + f - n := w8n (by omega) (by omega)
     rw [bif_dF h4, if_neg (show ¬ (t = -1 ∨ n < t) by omega)]
     simp only [w1, w2]
     split <;> omega
  rw [e] at k
  exact k
 ·unfold lfN lfX
  simp only [if_neg h]
  exact lfE l f t n h
def keL : List Int := [42, 7]
theorem new_k (f : Int) (hf : 1 ≤ f ∧ f ≤ 1000) : KnownR Try.prog [] 19 [.list (⟨[.int .i64 7, .int .i64 42]⟩ : Array Value) 2, .val (.int .i64 f)] (.tuple #[.agg #[.complex .f64 0 keL.length, .int .i64 f, .int .i64 (-1)], .int .i64 0]) [(rowA gI keL.reverse, 3)] := by
 have k := nw0 [7, 42] f (ck_k (by omega) (by omega)) (by decide)
 have e : rowA gI [7, 42] = (⟨[.int .i64 7, .int .i64 42]⟩ : Array Value) := by rw [rowA_eq]; rfl
 rw [e] at k
 have e2 : rowA gI keL.reverse = (⟨[.int .i64 7, .int .i64 42]⟩ : Array Value) := by rw [show keL.reverse = [7, 42] from rfl]; exact e
 rw [e2]
 unfold nw0_c0 nw0_c1 at k
 rw [e] at k
 exact k
end Go.Proofs.Ythkjdhjfiofbpaa
