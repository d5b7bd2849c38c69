/- Layer 7: the methods of the positions. -/
import Derived.Test.YtcjlidciniiofaaSI
namespace Go.Proofs.Ytcjlidciniiofaa
open Go.RowKit
set_option linter.unusedVariables false

/-- the slice's cells are the positions of N floors -/
def Spots (w : World) (gs : List Int) (N : Nat) (B : Option Addr) : Prop := Ints w B (posl gs N)
theorem Spots.cells {w : World} {gs : List Int} {N : Nat} {B : Option Addr} (h : Spots w gs N B) (hN : 0 < N) : ∃ b o, B = some ⟨b, o, none⟩ ∧ b < w.heap.size ∧ ∀ t, t < N → w.cell? ⟨b, o + t, none⟩ = some (.int .i64 (pos gs t)) := by
  obtain ⟨b, o, rfl, hc⟩ := h.cell (k := 0) (by rw [posl_len]; exact hN)
  have h1 : ∀ t, t < N → w.cell? ⟨b, o + t, none⟩ = some (.int .i64 (pos gs t)) := fun t ht => by
    rw [hc t (by rw [posl_len]; exact ht), posl_nth _ _ _ ht]
  exact ⟨b, o, rfl, World.block_lt_of_cell? w _ (h1 0 hN), h1⟩

def inS (gs : List Int) (p : Int) : Bool := decide (0 ≤ p ∧ p ≤ pos gs gs.length)
theorem inS_t {gs : List Int} {p : Int} (h1 : 0 ≤ p) (h2 : p ≤ pos gs gs.length) : inS gs p = true := by simp [inS, h1, h2]
theorem inS_f {gs : List Int} {p : Int} (h : ¬ (0 ≤ p ∧ p ≤ pos gs gs.length)) : inS gs p = false := by simp only [inS, h, decide_false]
def inF (gs : List Int) (f : Int) : Bool := decide (0 ≤ f ∧ f ≤ gs.length)
theorem inF_t {gs : List Int} {f : Int} (h1 : 0 ≤ f) (h2 : f ≤ gs.length) : inF gs f = true := by simp [inF, h1, h2]
theorem inF_f {gs : List Int} {f : Int} (h : ¬ (0 ≤ f ∧ f ≤ gs.length)) : inF gs f = false := by simp only [inF, h, decide_false]
end Go.Proofs.Ytcjlidciniiofaa
