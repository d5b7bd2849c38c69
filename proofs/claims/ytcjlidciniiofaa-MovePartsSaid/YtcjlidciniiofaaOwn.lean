import Derived.Test.YtcjlidciniiofaaKit2
import Derived.OwnWalk
set_option linter.unusedVariables false
namespace Go.Proofs.Ytcjlidciniiofaa
open Go.RowKit
def Mine (B : Nat) (w : World) (v : Value) (xs : List Int) : Prop := w.ownsRow B 3 1 v xs.length (xs.map (Value.int .i64))
theorem Mine.nil (B : Nat) (w : World) : Mine B w (.slice none 0 0) [] := ⟨rfl, .inl ⟨rfl, rfl⟩⟩
theorem Mine.slice {B : Nat} {w : World} {v : Value} {xs : List Int} (h : Mine B w v xs) : ∃ A cap, v = .slice A xs.length cap ∧ Ints w A xs ∧ xs.length ≤ maxLen := by
 obtain ⟨_, ⟨rfl, h0⟩ | ⟨g, cap, cur, rfl, hg, hat, hle, hcm, hsz, htk⟩⟩ := h
 ·have : xs = [] := List.length_eq_zero_iff.1 h0
  subst this
  exact ⟨none, 0, rfl, .inl rfl, by simp⟩
 ·refine ⟨_, cap, rfl, .inr ⟨g, 0, rfl, fun i hi => ?_⟩, by omega⟩
  have h1 : cur.toList[i]? = some (.int .i64 xs[i]) := by
   have h2 : (cur.toList.take (xs.length * 1))[i]? = some (.int .i64 xs[i]) := by rw [htk]; simp [hi]
   rwa [List.getElem?_take_of_lt (by omega)] at h2
  have h3 : cur[i]? = some (.int .i64 xs[i]) := by simpa using h1
  simp [World.cell?, hat, h3, nth_eq hi]
theorem Mine.step {B : Nat} {w w' : World} {v : Value} {xs : List Int} (h : Mine B w v xs) (hb : Below w.heap.size w w') : Mine B w' v xs := by
 obtain ⟨h1, ⟨h0, h2⟩ | ⟨g, cap, cur, rfl, hg, hat, hr⟩⟩ := h
 ·exact ⟨h1, .inl ⟨h0, h2⟩⟩
 ·refine ⟨h1, .inr ⟨g, cap, cur, rfl, hg, ?_, hr⟩⟩
  rw [hb.block g (Array.getElem?_eq_some_iff.1 hat).1]; exact hat
theorem Ints.step {w w' : World} {A : Option Addr} {xs : List Int} (h : Ints w A xs) (hb : Below w.heap.size w w') : Ints w' A xs := by
 rcases h with h | ⟨b, o, rfl, h⟩
 ·exact .inl h
 ·refine .inr ⟨b, o, rfl, fun i hi => ?_⟩
  have h1 := h i hi
  have hlt := World.block_lt_of_cell? w _ h1
  rw [hb.cell (p := ⟨b, o + i, none⟩) hlt]; exact h1
end Go.Proofs.Ytcjlidciniiofaa
