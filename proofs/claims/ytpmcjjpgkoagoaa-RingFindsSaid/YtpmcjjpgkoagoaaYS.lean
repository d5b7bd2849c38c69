/- Layer 5: Put, Find, Age, Drop of a right ring. -/
import Derived.Test.YtpmcjjpgkoagoaaYR
namespace Go.Proofs.Ytpmcjjpgkoagoaa
open Go Go.RowKit
set_option linter.unusedVariables false
/-- the list with one more -/
def pL (m : Int) (l : List (Int × Int)) (x : Int) : List (Int × Int) := l ++ [(m, x)]
/-- the list without one -/
def dcL (l : List (Int × Int)) (x : Int) : List (Int × Int) := cutF l (ixN l x)
theorem putV {c m : Int} {l : List Hel} {x : Int} (hk : ckX c m l = 0) (hr : (l.length : Int) < c) (hm : m ≤ 1000) : KnownR Try.prog [] 25 [.agg [.val (.int .i64 c), .val (.int .u64 m), .list (rowA gH l) l.length], .val (.int .i64 x)] (.tuple #[.agg #[.int .i64 c, .int .u64 (m + 1), .complex .f64 0 (pL m l x).length], .int .u64 m, .int .i64 0]) [(rowA gH (pL m l x), 35)] := by
  have k := pput_is c m l x
  have e : ptX c m l = 0 := by unfold ptX; rw [if_pos hk, if_neg (by omega), if_neg (by omega)]
  have e2 : ptR c m l x = (pL m l x).reverse := by unfold ptR pL; rw [if_pos e]; simp
  unfold ptV at k
  simp only [e, eq_self, if_true] at k
  rw [e2, List.reverse_reverse, List.length_reverse] at k
  exact k
theorem ageV {c m : Int} {l : List Hel} {x : Int} (hk : ckX c m l = 0) (hi : ixN l x < l.length) : KnownR Try.prog [] 20 [.agg [.val (.int .i64 c), .val (.int .u64 m), .list (rowA gH l) l.length], .val (.int .u64 x)] (.tuple #[.int .u64 (IntKind.u64.wrap (IntKind.u64.wrap (m - 1) - x)), .int .i64 0]) [] := by
  have k := pag c m l x
  have e : fiX c m l x = 0 := by unfold fiX; rw [if_pos hk, if_pos hi]
  unfold pag_c0 pag_c1 at k
  rw [show (fiX c m l x != (0 : Int)) = false by simp [e]] at k
  exact k
theorem dropV {c m : Int} {l : List Hel} {x : Int} (hk : ckX c m l = 0) (hi : ixN l x < l.length) : KnownR Try.prog [] 27 [.agg [.val (.int .i64 c), .val (.int .u64 m), .list (rowA gH l) l.length], .val (.int .u64 x)] (.tuple #[.agg #[.int .i64 c, .int .u64 m, .complex .f64 0 (dcL l x).length], .agg #[.int .u64 (el l (ixN l x : Int)).1, .int .i64 (el l (ixN l x : Int)).2], .int .i64 0]) [(rowA gH (dcL l x), 35)] := by
  have k := pdrop_is c m l x
  have e : fiX c m l x = 0 := by unfold fiX; rw [if_pos hk, if_pos hi]
  have e1 : fiI c m l x = (ixN l x : Int) := by unfold fiI; rw [if_pos hk, if_pos hi]
  have e2 : drR c m l x = (dcL l x).reverse := by unfold drR dcL; rw [if_pos e]
  unfold drV at k
  simp only [e, eq_self, if_true, e1] at k
  rw [e2, List.reverse_reverse, List.length_reverse] at k
  exact k
/-- where a number stands in a right list -/
theorem rs_ix {m : Int} {l : List (Int × Int)} (h : RS m l) {i : Nat} (hi : i < l.length) : ixN l (el l (i : Int)).1 = i := by
  refine ix_at l i hi (by simp) fun j hj => ?_
  have := rk_up l 0 0 (rs_iff.2 h) j i hj hi
  simp only [beq_eq_false_iff_ne, ne_eq]
  omega
end Go.Proofs.Ytpmcjjpgkoagoaa
