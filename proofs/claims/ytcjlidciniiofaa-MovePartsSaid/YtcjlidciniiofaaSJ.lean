import Derived.Test.YtcjlidciniiofaaSI
set_option linter.unusedVariables false
namespace Go.Proofs.Ytcjlidciniiofaa
open Go.RowKit
def Spots (w : World) (gs : List Int) (N : Nat) (B : Option Addr) : Prop := Ints w B (posl gs N)
theorem Spots.cells {w : World} {gs : List Int} {N : Nat} {B : Option Addr} (h : Spots w gs N B) (hN : 0 < N) : ∃ b o, B = some ⟨b, o, none⟩ ∧ b < w.heap.size ∧ ∀ t, t < N → w.cell? ⟨b, o + t, none⟩ = some (.int .i64 (pos gs t)) := by
 obtain ⟨b, o, rfl, hc⟩ := h.cell (k := 0) (by rw [posl_len]; exact hN)
 have h1 : ∀ t, t < N → w.cell? ⟨b, o + t, none⟩ = some (.int .i64 (pos gs t)) := fun t ht => by
  rw [hc t (by rw [posl_len]; exact ht), posl_nth _ _ _ ht]
 exact ⟨b, o, rfl, World.block_lt_of_cell? w _ (h1 0 hN), h1⟩
end Go.Proofs.Ytcjlidciniiofaa
