import Derived.Test.YthkjdhjfiofbpaaOgH
set_option linter.unusedVariables false
namespace Go.Proofs.Ythkjdhjfiofbpaa
open Go Go.RowKit
theorem stp_len (l : List Int) (f : Int) (R : List (Int × Int)) (x : Int × Int) : (stp l f R x).length ≤ R.length + 1 := by
 unfold stp
 split
 ·split
  ·simp
  ·split <;> simp
 ·omega
theorem fold_len (l : List Int) (f : Int) : ∀ (st R : List (Int × Int)), (st.foldl (stp l f) R).length ≤ R.length + st.length
 | [], R => by simp
 | x :: r, R => by
  rw [List.foldl_cons, List.length_cons]
  have h1 := fold_len l f r (stp l f R x)
  have h2 := stp_len l f R x
  omega
end Go.Proofs.Ythkjdhjfiofbpaa
