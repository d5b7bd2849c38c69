/- Layer 5: New, Put, Drop, Rest, Age, of both. -/
import Derived.Test.YtpmcjjpgkoagoaaOpF
namespace Go.Proofs.Ytpmcjjpgkoagoaa
open Go Go.RowKit
set_option linter.unusedVariables false
theorem u64n {n : Int} (h : 0 ≤ n) (h2 : n < 18446744073709551616) : IntKind.u64.wrap n = n := by rw [wrapU64]; omega
noncomputable def ptX (c m : Int) (l : List (Int × Int)) : Int := if ckX c m l = 0 then (if (l.length : Int) = c then 5 else if m > 1099511627776 then 14 else 0) else ckX c m l
noncomputable def ptV (c m : Int) (l : List (Int × Int)) (x : Int) : Int := if ptX c m l = 0 then x else 0
noncomputable def ptR (c m : Int) (l : List (Int × Int)) (x : Int) : List (Int × Int) := if ptX c m l = 0 then (m, x) :: l.reverse else []
theorem pput_is (c m : Int) (l : List Hel) (x : Int) : KnownR Try.prog [] 25 [.agg [.val (.int .i64 c), .val (.int .u64 m), .list (rowA gH l) l.length], .val (.int .i64 x)] (.tuple #[.agg #[.int .i64 (ptV c m l c), .int .u64 (ptV c m l (m + 1)), .complex .f64 0 (ptR c m l x).length], .int .u64 (ptV c m l m), .int .i64 (ptX c m l)]) [(rowA gH (ptR c m l x).reverse, 35)] := by
  by_cases hk : ckX c m l = 0
  · obtain ⟨⟨h1, h2, h3, h4, h5⟩, _⟩ := ck_ok hk
    have r := ppu c m l x hk (by omega)
    by_cases e1 : (l.length : Int) = c
    · have b1 : ((l.length : Int) == c) = true := by simpa using e1
      unfold ppu_c0 ppu_c1 ppu_c2 ppu_c3 ppu_c4 at r
      simp only [b1, cond_true] at r
      have e : ptX c m l = 5 := by unfold ptX; rw [if_pos hk, if_pos e1]
      unfold ptV ptR
      simp only [e]
      exact r
    · have b1 : ((l.length : Int) == c) = false := by simpa using e1
      unfold ppu_c0 ppu_c1 ppu_c2 ppu_c3 ppu_c4 at r
      simp only [b1, cond_false] at r
      by_cases e2 : m > 1099511627776
      · have e : ptX c m l = 14 := by unfold ptX; rw [if_pos hk, if_neg e1, if_pos e2]
        simp only [decide_eq_true e2, cond_true] at r
        unfold ptV ptR
        simp only [e]
        exact r
      · have e : ptX c m l = 0 := by unfold ptX; rw [if_pos hk, if_neg e1, if_neg e2]
        simp only [decide_eq_false e2, cond_false] at r
        rw [u64n (by omega) (by omega)] at r
        unfold ptV ptR
        simp only [e, eq_self, if_true]
        rw [List.reverse_cons, List.reverse_reverse]
        rw [List.length_append] at r
        simp only [List.length_cons, List.length_reverse, List.length_nil] at r ⊢
        exact r
  · have r := ppE c m l x hk
    have e : ptX c m l = ckX c m l := by unfold ptX; rw [if_neg hk]
    unfold ptV ptR
    simp only [e, if_neg hk]
    exact r
def cutF (l : List (Int × Int)) (i : Nat) : List (Int × Int) := l.take i ++ l.drop (i + 1)
noncomputable def drR (c m : Int) (l : List (Int × Int)) (x : Int) : List (Int × Int) := if fiX c m l x = 0 then (cutF l (ixN l x)).reverse else []
noncomputable def drV (c m : Int) (l : List (Int × Int)) (x y : Int) : Int := if fiX c m l x = 0 then y else 0
theorem fi_ok {c m : Int} {l : List (Int × Int)} {x : Int} (h : fiX c m l x = 0) : ckX c m l = 0 ∧ ixN l x < l.length ∧ fiI c m l x = (ixN l x : Int) := by
  unfold fiX at h
  by_cases hk : ckX c m l = 0
  · rw [if_pos hk] at h
    by_cases hi : ixN l x < l.length
    · refine ⟨hk, hi, ?_⟩
      unfold fiI
      rw [if_pos hk, if_pos hi]
    · rw [if_neg hi] at h; cases h
  · rw [if_neg hk] at h; exact absurd h hk
theorem pdrop_is (c m : Int) (l : List Hel) (x : Int) : KnownR Try.prog [] 27 [.agg [.val (.int .i64 c), .val (.int .u64 m), .list (rowA gH l) l.length], .val (.int .u64 x)] (.tuple #[.agg #[.int .i64 (drV c m l x c), .int .u64 (drV c m l x m), .complex .f64 0 (drR c m l x).length], .agg #[.int .u64 (drV c m l x (el l (fiI c m l x)).1), .int .i64 (drV c m l x (el l (fiI c m l x)).2)], .int .i64 (fiX c m l x)]) [(rowA gH (drR c m l x).reverse, 35)] := by
  by_cases hk : fiX c m l x = 0
  · obtain ⟨hc, hi, e⟩ := fi_ok hk
    obtain ⟨⟨h1, h2, h3, h4, h5⟩, _⟩ := ck_ok hc
    have r := pdr c m l x hk (by omega) (by omega)
    unfold drV drR
    simp only [hk, eq_self, if_true]
    have e2 : pdr_c2 c m l x = cutF l (ixN l x) := by
      unfold pdr_c2 cutF
      rw [e, w8n (by omega) (by omega)]
      rw [List.drop_zero, Nat.sub_zero, Int.toNat_natCast, show ((ixN l x : Int) + 1).toNat = ixN l x + 1 by omega, Int.toNat_natCast, List.take_of_length_le (l := List.drop (ixN l x + 1) l) (by rw [List.length_drop]; omega)]
    rw [e2] at r
    rw [List.reverse_reverse, List.length_reverse]
    exact r
  · have r := pdF c m l x hk
    unfold drV drR
    simp only [if_neg hk]
    exact r
end Go.Proofs.Ytpmcjjpgkoagoaa
