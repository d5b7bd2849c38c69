import Derived.Test.YtcjlidciniiofaaSB
set_option linter.unusedVariables false
namespace Go.Proofs.Ytcjlidciniiofaa
open Go.RowKit
def Arr (w : World) (g : Nat) (f : Nat → Int) : Prop := ∀ j, j < 64 → w.cell? ⟨g, j, none⟩ = some (.int .i64 (f j)) ∧ w.frozen? ⟨g, j, none⟩ = false
theorem Arr.made (w : World) (T : TypeId) : Arr (w.alloc (.cells (Array.replicate 64 (.int .i64 0)) T)) w.heap.size (fun _ => 0) := fun j hj => by
 refine ⟨?_, World.frozen?_alloc_at _ _ _ _ rfl⟩
 rw [World.cell?_alloc_at _ _ _ _ rfl]
 show (Array.replicate 64 (Value.int .i64 0))[j]? = _
 simp [hj]
theorem Arr.set {w : World} {g : Nat} {f : Nat → Int} (h : Arr w g f) (i : Nat) (hi : i < 64) (x : Int) : Arr (w.setCell ⟨g, i, none⟩ (.int .i64 x)) g (fun j => if j = i then x else f j) := fun j hj => by
 refine ⟨?_, by rw [World.frozen?_setCell]; exact (h j hj).2⟩
 by_cases e : j = i
 ·subst e
  rw [World.cell?_setCell_same _ _ _ (h j hj).1]; simp
 ·rw [World.cell?_setCell_other _ _ _ _ (by simp <;> omega), (h j hj).1]; show _ = some (Value.int .i64 (if j = i then x else f j)); rw [if_neg e]
theorem Arr.lt {w : World} {g : Nat} {f : Nat → Int} (h : Arr w g f) : g < w.heap.size := World.block_lt_of_cell? w _ (h 0 (by omega)).1
theorem Arr.ints {w : World} {g : Nat} {f : Nat → Int} (h : Arr w g f) {xs : List Int} (hl : xs.length ≤ 64) (e : ∀ j, j < xs.length → nth xs j = f j) : Ints w (some ⟨g, 0, none⟩) xs :=
 .inr ⟨g, 0, rfl, fun i hi => by rw [Nat.zero_add, (h i (by omega)).1, e i hi]⟩
end Go.Proofs.Ytcjlidciniiofaa
