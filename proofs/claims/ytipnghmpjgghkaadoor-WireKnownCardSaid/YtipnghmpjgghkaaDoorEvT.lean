/- The package variables that a row lists, as the run takes them. -/
import Derived.Test.YtipnghmpjgghkaaDoorEvZ7
import Derived.Lib.LaidTab
namespace Go.Proofs.YtipnghmpjgghkaaDoor
open Go Go.RowKit
set_option linter.unusedVariables false
set_option linter.unusedSimpArgs false
set_option linter.unnecessarySimpa false

/-- the known variables from number k on -/
def LaidF (k : Nat) (L : Vars) (w : World) : Prop := ∀ (i : Nat) (c : Array Value) (e : TypeId), L[i]? = some (some (c, e)) → ∃ e' fz, w.heap[k + i]? = some (.cells c e' fz)
theorem LaidF.nil (k : Nat) (w : World) : LaidF k [] w := fun i c e h => by simp at h
theorem LaidF.none {k : Nat} {L : Vars} {w : World} (h : LaidF (k + 1) L w) : LaidF k (none :: L) w := fun i c e hi => by
  cases i with
  | zero => simp at hi
  | succ i =>
    have := h i c e (by simpa using hi)
    rwa [show k + (i + 1) = k + 1 + i by omega]
theorem LaidF.some {k : Nat} {L : Vars} {w : World} {c : Array Value} {e : TypeId} (h0 : ∃ e' fz, w.heap[k]? = some (.cells c e' fz)) (h : LaidF (k + 1) L w) : LaidF k (some (c, e) :: L) w := fun i c' e1 hi => by
  cases i with
  | zero =>
    simp at hi
    obtain ⟨rfl, rfl⟩ := hi
    exact h0
  | succ i =>
    have := h i c' e1 (by simpa using hi)
    rwa [show k + (i + 1) = k + 1 + i by omega]
theorem LaidL.of {L : Vars} {w : World} (h : LaidF 0 L w) (hn : L.length ≤ w.heap.size) : LaidL L w := ⟨hn, fun i c e hi => by have := h i c e hi; rwa [Nat.zero_add] at this⟩
theorem of_tab {P : Program} {W : World} {name : String} {k : IntKind} {zs : List Int} {g : Nat} (h : Lib.TabIs P W name k zs) (hg : P.globalNamed name = some g) : ∃ e' fz, W.heap[g]? = some (.cells (zs.map fun z => Value.int k z).toArray e' fz) := by
  unfold Lib.TabIs World.var? at h
  rw [hg] at h
  simp only [Option.bind_some] at h
  split at h
  · rename_i cs t fz hc
    injection h with h
    subst h
    exact ⟨_, _, hc⟩
  · cases h
/-- the variable with number g is an array of numbers of kind k -/
def tabB (P : Program) (g : Nat) (k : IntKind) : Bool :=
  match (P.globals[g]?).map (·.type) with
  | none => false
  | some t => match P.underlying t with
    | some (.array n e) => (match P.underlying e with | some (.int k') => decide (k' = k) | _ => false) && (decide (P.cellsOf e = 1) && decide (P.cellsOf t = n))
    | _ => false
theorem tab_of {P : Program} {g : Nat} {k : IntKind} (h : tabB P g k = true) : ∃ t e n, (P.globals[g]?).map (·.type) = some t ∧ P.underlying t = some (.array n e) ∧ P.underlying e = some (.int k) ∧ P.cellsOf e = 1 ∧ P.cellsOf t = n := by
  unfold tabB at h
  split at h
  · cases h
  · rename_i t ht
    split at h
    · rename_i n e hn
      simp only [Bool.and_eq_true, decide_eq_true_eq] at h
      obtain ⟨h1, h2, h3⟩ := h
      split at h1
      · rename_i k' hk
        have := of_decide_eq_true h1
        subst this
        exact ⟨t, e, n, ht, hn, hk, h2, h3⟩
      · cases h1
    · cases h
theorem lt_of_cells {W : World} {g : Nat} {c : Array Value} (h : ∃ e' fz, W.heap[g]? = some (.cells c e' fz)) : g + 1 ≤ W.heap.size := by
  obtain ⟨_, _, h⟩ := h
  exact (Array.getElem?_eq_some_iff.1 h).1
end Go.Proofs.YtipnghmpjgghkaaDoor
