/- Layer 12: SensorJoins, out of its contract. -/
import Derived.Test.YthjdoeeefighkaaOgU
import Derived.Test.YthjdoeeefighkaaFrL
namespace Go.Proofs.Ythjdoeeefighkaa
open Go Go.RowKit
set_option linter.unusedVariables false
def In64 (n : Int) : Prop := -9223372036854775808 ≤ n ∧ n ≤ 9223372036854775807
theorem joins_one (xs ys : List Int) (c : Int) (he : eC (IntKind.i64.wrap (1 + modV c 3)) = 0) : lawJ_c0 xs ys c = true := by
  unfold lawJ_c0
  have h : wL (eL xs) (IntKind.i64.wrap ((1 : Int) + modV c (3 : Int))) = (fL (eL xs) (IntKind.i64.wrap ((1 : Int) + modV c (3 : Int)))).all (· != 5) := by
    unfold wL
    rw [if_pos he]
  rw [h]
  generalize fL (eL xs) (IntKind.i64.wrap ((1 : Int) + modV c (3 : Int))) = l
  have : (!(l.all (· != 5)) == (l.any fun x => x == (5 : Int))) = true := by
    have e : l.any (fun x => x == (5 : Int)) = !(l.all (· != 5)) := by
      induction l with
      | nil => rfl
      | cons x l ih => rw [List.any_cons, List.all_cons, ih]; cases hx : (x == 5) <;> simp [bne, hx]
    rw [e]; simp
  rw [this]; rfl
theorem len_in {w : World} {c : Array Value} {n cap : Nat} {x : Option Addr} (h : ListIn w c n x cap) : n ≤ 18446744073709551615 := by
  rcases h with ⟨_, h⟩ | ⟨_, h1, h2, _⟩
  · omega
  · omega
theorem sensorJoins_true (A0 : Option Addr) (len0 cap0 : Nat) (xs0 : List Int) (A1 : Option Addr) (len1 cap1 : Nat) (xs1 : List Int) (c : Int) (w : World) (hl0 : xs0.length = len0) (hi0 : ListIn w (rowA gI xs0) len0 A0 cap0) (_ : ∀ m ∈ xs0, rowW gI m) (hl1 : xs1.length = len1) (hi1 : ListIn w (rowA gI xs1) len1 A1 cap1) (_ : ∀ m ∈ xs1, rowW gI m) (_ : In64 c) :
    Calls Try.prog 9 #[.slice A0 len0 cap0, .slice A1 len1 cap1, .int .i64 c] w fun e w' => e = .returned (.bool true) ∧ Below w.heap.size w w' := by
  subst hl0; subst hl1
  have hm := mod3 c
  have hw : IntKind.i64.wrap (1 + modV c 3) = 1 + modV c 3 := w8n (by omega) (by omega)
  have he : eC (IntKind.i64.wrap (1 + modV c 3)) = 0 := by
    rw [hw]
    unfold eC
    rw [if_pos ⟨by omega, by omega⟩]
  have h := lawJ xs0 xs1 c (len_in hi0) (len_in hi1) (eL_len xs0) (eL_len xs1) (Nat.le_trans (fL_len _ _) (eL_len xs0)) (Nat.le_trans (fL_len _ _) (eL_len xs1)) he
  rw [joins_one xs0 xs1 c he] at h
  exact knownR_law h (LaidL.nil w) (.cons (.list hi0) (.cons (.list hi1) (.cons (.val rfl) .nil)))
end Go.Proofs.Ythjdoeeefighkaa
