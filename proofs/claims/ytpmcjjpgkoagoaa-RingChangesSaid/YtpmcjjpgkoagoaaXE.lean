/- Layer 5: RingLooks, RingChanges, out of their contracts. -/
import Derived.Test.YtpmcjjpgkoagoaaOgI
import Derived.Test.YtpmcjjpgkoagoaaFrL
namespace Go.Proofs.Ytpmcjjpgkoagoaa
open Go Go.RowKit
set_option linter.unusedVariables false
def In64 (n : Int) : Prop := -9223372036854775808 ≤ n ∧ n ≤ 9223372036854775807
theorem looks_is (c m : Int) (l : List Hel) (x n : Int) : KnownR Try.prog [] 3 [.agg [.val (.int .i64 c), .val (.int .u64 m), .list (rowA gH l) l.length], .val (.int .i64 x), .val (.int .u64 n)] (.bool true) [] := by
  by_cases hl : (l.length : Int) ≤ 40
  · exact lkA c m l x n hl
  · exact lkE c m l x n hl
theorem keep_len (w : List Int) (l : List (Int × Int)) : (keepF w l).length ≤ l.length := List.length_filter_le _ _
theorem gone_len (w : List Int) (l : List (Int × Int)) : (goneF w l).length ≤ l.length := List.length_filter_le _ _
theorem changes_is (c m : Int) (l : List Hel) (x n : Int) (w : List Int) : KnownR Try.prog [] 4 [.agg [.val (.int .i64 c), .val (.int .u64 m), .list (rowA gH l) l.length], .val (.int .i64 x), .val (.int .u64 n), .list (rowA gI w) w.length] (.bool true) [] := by
  by_cases hE : (l.length : Int) ≤ 40 ∧ (w.length : Int) ≤ 40
  · refine lcA c m l x n w hE.1 hE.2 ?_ ?_ ?_ ?_
    · unfold ptR
      split
      · rename_i h
        unfold ptX at h
        by_cases hk : ckX c m l = 0
        · obtain ⟨⟨h1, h2, h3, h4, h5⟩, _⟩ := ck_ok hk
          simp only [List.length_cons, List.length_reverse]; omega
        · rw [if_neg hk] at h; exact absurd h hk
      · simp
    · unfold drR
      split
      · unfold cutF
        simp only [List.length_reverse, List.length_append, List.length_take, List.length_drop]; omega
      · simp
    · have := keep_len w l
      unfold wkR
      split
      · rw [List.length_reverse]; omega
      · simp
    · have := gone_len w l
      unfold wgR
      split
      · rw [List.length_reverse]; omega
      · simp
  · exact lcE c m l x n w hE
theorem ringLooks_true (c m : Int) (A : Option Addr) (len cap : Nat) (xs : List (Int × Int)) (x n : Int) (w : World) (_ : In64 c) (_ : (Lit.int .u64 m).wf = true) (hl : xs.length = len) (hi : ListIn w (rowA gH xs) len A cap) (hw : ∀ m ∈ xs, rowW gH m) (_ : In64 x) (_ : (Lit.int .u64 n).wf = true) :
    Calls Try.prog 3 #[.agg #[.int .i64 c, .int .u64 m, .slice A len cap], .int .i64 x, .int .u64 n] w fun e w' => e = .returned (.bool true) ∧ Below w.heap.size w w' := by
  subst hl
  have harg : DIns w [.agg [.val (.int .i64 c), .val (.int .u64 m), .list (rowA gH xs) xs.length], .val (.int .i64 x), .val (.int .u64 n)] [.agg ⟨[.int .i64 c, .int .u64 m, .slice A xs.length cap]⟩, .int .i64 x, .int .u64 n] :=
    .cons (.agg (.cons (.val rfl) (.cons (.val rfl) (.cons (.list hi) .nil)))) (.cons (.val rfl) (.cons (.val rfl) .nil))
  exact knownR_law (looks_is c m xs x n) (LaidL.nil w) harg
theorem ringChanges_true (c m : Int) (A : Option Addr) (len cap : Nat) (xs : List (Int × Int)) (x n : Int) (B : Option Addr) (len2 cap2 : Nat) (ys : List Int) (w : World) (_ : In64 c) (_ : (Lit.int .u64 m).wf = true) (hl : xs.length = len) (hi : ListIn w (rowA gH xs) len A cap) (hw : ∀ m ∈ xs, rowW gH m) (_ : In64 x) (_ : (Lit.int .u64 n).wf = true) (hl2 : ys.length = len2) (hi2 : ListIn w (rowA gI ys) len2 B cap2) (hw2 : ∀ m ∈ ys, rowW gI m) :
    Calls Try.prog 4 #[.agg #[.int .i64 c, .int .u64 m, .slice A len cap], .int .i64 x, .int .u64 n, .slice B len2 cap2] w fun e w' => e = .returned (.bool true) ∧ Below w.heap.size w w' := by
  subst hl
  subst hl2
  have harg : DIns w [.agg [.val (.int .i64 c), .val (.int .u64 m), .list (rowA gH xs) xs.length], .val (.int .i64 x), .val (.int .u64 n), .list (rowA gI ys) ys.length] [.agg ⟨[.int .i64 c, .int .u64 m, .slice A xs.length cap]⟩, .int .i64 x, .int .u64 n, .slice B ys.length cap2] :=
    .cons (.agg (.cons (.val rfl) (.cons (.val rfl) (.cons (.list hi) .nil)))) (.cons (.val rfl) (.cons (.val rfl) (.cons (.list hi2) .nil)))
  exact knownR_law (changes_is c m xs x n ys) (LaidL.nil w) harg
end Go.Proofs.Ytpmcjjpgkoagoaa
