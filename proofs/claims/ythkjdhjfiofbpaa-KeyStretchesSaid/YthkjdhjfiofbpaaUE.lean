/- Layer 22: KeyStretches, out of its contract. -/
import Derived.Test.YthkjdhjfiofbpaaOgK
import Derived.Test.YthkjdhjfiofbpaaFrL
namespace Go.Proofs.Ythkjdhjfiofbpaa
open Go Go.RowKit
set_option linter.unusedVariables false
def In64 (n : Int) : Prop := -9223372036854775808 ≤ n ∧ n ≤ 9223372036854775807
theorem lwA_go {l : List Int} {f t : Int} {st : List Stp} {a b : Int} (hl : st.length ≤ 3000) : ∀ (k i : Nat), i + k = st.length → lwA_f l f t st a b (k + 1) (i : Int) = some (0, (st.length : Int)) := by
  intro k
  induction k with
  | zero =>
    intro i h
    rw [lwA_fs, bif_dT ⟨by omega, by omega⟩, bif_dF (by omega), show (i : Int) = (st.length : Int) by omega]
  | succ k ih =>
    intro i h
    rw [lwA_fs, bif_dT ⟨by omega, by omega⟩, bif_dT (by omega), w8n (n := (i : Int) + 1) (by omega) (by omega), show (i : Int) + 1 = ((i + 1 : Nat) : Int) by omega]
    exact ih (i + 1) (by omega)
theorem lwB_go {l : List Int} {f t : Int} {st : List Stp} {a b : Int} (hl : st.length ≤ 3000) : ∀ (k i : Nat), i + k = st.length → lwB_f l f t st a b (k + 1) (i : Int) = some (0, (st.length : Int)) := by
  intro k
  induction k with
  | zero =>
    intro i h
    rw [lwB_fs, bif_dT ⟨by omega, by omega⟩, bif_dF (by omega), show (i : Int) = (st.length : Int) by omega]
  | succ k ih =>
    intro i h
    rw [lwB_fs, bif_dT ⟨by omega, by omega⟩, bif_dT (by omega), w8n (n := (i : Int) + 1) (by omega) (by omega), show (i : Int) + 1 = ((i + 1 : Nat) : Int) by omega]
    exact ih (i + 1) (by omega)
theorem law_is (l : List Int) (f t : Int) (st : List Stp) (a b : Int) : KnownR Try.prog [] 3 [.agg [.list (rowA gI l) l.length, .val (.int .i64 f), .val (.int .i64 t)], .list (rowA gP st) st.length, .agg [.val (.int .i64 a), .val (.int .i64 b)]] (.bool true) [] := by
  have hr : ((srR l f t st).length : Int) ≤ 2000 := by have := sr_len (l := l) (f := f) (t := t) (st := st); omega
  by_cases hE : (l.length : Int) ≤ 20 ∧ ((st.length : Int) ≤ 60 ∨ (2000 < (st.length : Int) ∧ (st.length : Int) ≤ 2010))
  · obtain ⟨hl, hs | hs⟩ := hE
    · have hz := lwA_go (l := l) (f := f) (t := t) (st := st) (a := a) (b := b) (by omega) st.length 0 (by omega)
      have ho := lwA_ok l f t st a b hl hs hr _ _ _ hz
      apply lw0 l f t st a b _ hl hs hr
      all_goals first | exact ho | exact decide_eq_false (by omega) | exact decide_eq_true (by omega) | (simp; done)
    · have hz := lwB_go (l := l) (f := f) (t := t) (st := st) (a := a) (b := b) (by omega) st.length 0 (by omega)
      have ho := lwB_ok l f t st a b hl hs hr _ _ _ hz
      apply lw1 l f t st a b _ hl hs hr
      all_goals first | exact ho | exact decide_eq_false (by omega) | exact decide_eq_true (by omega) | (simp; done)
  · exact lwE l f t st a b hE
theorem keyStretches_true (A : Option Addr) (len cap : Nat) (xs : List Int) (f t : Int) (B : Option Addr) (len2 cap2 : Nat) (ys : List (Int × Int)) (a b : Int) (w : World) (hl : xs.length = len) (hi : ListIn w (rowA gI xs) len A cap) (hw : ∀ m ∈ xs, rowW gI m) (_ : In64 f) (_ : In64 t) (hl2 : ys.length = len2) (hi2 : ListIn w (rowA gP ys) len2 B cap2) (hw2 : ∀ m ∈ ys, rowW gP m) (_ : In64 a) (_ : In64 b) :
    Calls Try.prog 3 #[.agg #[.slice A len cap, .int .i64 f, .int .i64 t], .slice B len2 cap2, .agg #[.int .i64 a, .int .i64 b]] w fun e w' => e = .returned (.bool true) ∧ Below w.heap.size w w' := by
  subst hl
  subst hl2
  have harg : DIns w [.agg [.list (rowA gI xs) xs.length, .val (.int .i64 f), .val (.int .i64 t)], .list (rowA gP ys) ys.length, .agg [.val (.int .i64 a), .val (.int .i64 b)]] [.agg ⟨[.slice A xs.length cap, .int .i64 f, .int .i64 t]⟩, .slice B ys.length cap2, .agg ⟨[.int .i64 a, .int .i64 b]⟩] :=
    .cons (.agg (.cons (.list hi) (.cons (.val rfl) (.cons (.val rfl) .nil)))) (.cons (.list hi2) (.cons (.agg (.cons (.val rfl) (.cons (.val rfl) .nil))) .nil))
  exact knownR_law (law_is xs f t ys a b) (LaidL.nil w) harg
end Go.Proofs.Ythkjdhjfiofbpaa
