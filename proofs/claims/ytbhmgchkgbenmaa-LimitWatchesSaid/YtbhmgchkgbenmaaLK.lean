import Derived.Test.YtbhmgchkgbenmaaOgJ
set_option linter.unusedVariables false
namespace Go.Proofs.Ytbhmgchkgbenmaa
open Go Go.RowKit
theorem cAll0 {xs : List Mv} (h : cAll xs = 0) : xs.length ≤ 10000 ∧ cE xs = 0 := by
 unfold cAll at h
 split at h
 ·cases h
 ·exact ⟨by omega, h⟩
theorem smA_go (xs : List Mv) (hx : xs.length ≤ 20000) : ∀ (n i : Nat), i + n = xs.length → ∃ z, smA_f xs xs (n + 1) (i : Int) = some (1, z) := by
 intro n
 induction n with
 | zero =>
  intro i h
  exact ⟨(i : Int), by rw [smA_fs, bif_dT (by omega), bif_dF (by omega)]⟩
 | succ n ih =>
  intro i h
  rw [smA_fs, bif_dT (by omega), bif_dT (by omega)]
  have hw : IntKind.i64.wrap ((i : Int) + 1) = ((i + 1 : Nat) : Int) := w8n (n := (i : Int) + 1) (by omega) (by omega)
  rw [hw]
  have he : (!((el xs (i : Int)).fst == (el xs (i : Int)).fst && ((el xs (i : Int)).snd.fst == (el xs (i : Int)).snd.fst && ((el xs (i : Int)).snd.snd.fst == (el xs (i : Int)).snd.snd.fst && ((el xs (i : Int)).snd.snd.snd.fst == (el xs (i : Int)).snd.snd.snd.fst && (el xs (i : Int)).snd.snd.snd.snd == (el xs (i : Int)).snd.snd.snd.snd))))) = false := by simp
  rw [he, cond_false]
  exact ih (i + 1) (by omega)
theorem same_m (xs : List Mv) (hx : xs.length ≤ 20000) : KnownR Try.prog [] 18 [.list (rowA gM xs) xs.length, .list (rowA gM xs) xs.length] (.bool true) [] := by
 obtain ⟨z, h⟩ := smA_go xs hx xs.length 0 (by omega)
 exact smF xs xs z hx rfl (by simp) (smA_ok xs xs hx rfl (xs.length + 1) 1 z h)
theorem same_i (xs : List Int) (hx : xs.length ≤ 20000) : KnownR Try.prog [] 17 [.list (rowA gI xs) xs.length, .list (rowA gI xs) xs.length] (.bool true) [] := by
 have := same_ints xs xs hx
 rw [decide_eq_true rfl] at this
 exact this
end Go.Proofs.Ytbhmgchkgbenmaa
