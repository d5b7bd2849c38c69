/- Layer 22: Covers of the given program. -/
import Derived.Test.YthkjdhjfiofbpaaOgH
namespace Go.Proofs.Ythkjdhjfiofbpaa
open Go Go.RowKit
set_option linter.unusedVariables false
theorem stp_len (l : List Int) (f : Int) (R : List (Int × Int)) (x : Int × Int) : (stp l f R x).length ≤ R.length + 1 := by
  unfold stp
  split
  · split
    · simp
    · split <;> simp
  · omega
theorem fold_len (l : List Int) (f : Int) : ∀ (st R : List (Int × Int)), (st.foldl (stp l f) R).length ≤ R.length + st.length
  | [], R => by simp
  | x :: r, R => by
    rw [List.foldl_cons, List.length_cons]
    have h1 := fold_len l f r (stp l f R x)
    have h2 := stp_len l f R x
    omega
theorem sr_len {l : List Int} {f t : Int} {st : List (Int × Int)} : (srR l f t st).length ≤ 2000 := by
  unfold srR
  split
  · rename_i h
    have h1 := fold_len l f st []
    have h2 := (hi_ok (ak_ok h).2).1
    unfold strS
    rw [List.length_reverse]
    simp only [List.length_nil] at h1
    omega
  · simp
end Go.Proofs.Ythkjdhjfiofbpaa
