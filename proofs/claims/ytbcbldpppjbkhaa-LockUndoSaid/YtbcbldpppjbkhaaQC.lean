/- Layer 17: LockUndo, out of its contract. -/
import Derived.Test.YtbcbldpppjbkhaaOgF
import Derived.Test.YtbcbldpppjbkhaaFrL
namespace Go.Proofs.Ytbcbldpppjbkhaa
open Go Go.RowKit
set_option linter.unusedVariables false
def In64 (n : Int) : Prop := -9223372036854775808 ≤ n ∧ n ≤ 9223372036854775807
theorem lockUndo_true (floors floor : Int) (w : World) (_ : In64 floors) (_ : In64 floor) :
    Calls Try.prog 8 #[.int .i64 floors, .int .i64 floor] w fun e w' => e = .returned (.bool true) ∧ Below w.heap.size w w' := by
  have m0 := Int.emod_nonneg floors (by decide : (63 : Int) ≠ 0)
  have m1 := Int.emod_lt_of_pos floors (by decide : (0 : Int) < 63)
  have hN : 2 ≤ IntKind.i64.wrap (2 + floors % 63) ∧ IntKind.i64.wrap (2 + floors % 63) ≤ 64 := by rw [w8n (by omega) (by omega)]; omega
  have hF : 0 ≤ floor % IntKind.i64.wrap (2 + floors % 63) ∧ floor % IntKind.i64.wrap (2 + floors % 63) < IntKind.i64.wrap (2 + floors % 63) := ⟨Int.emod_nonneg _ (by omega), Int.emod_lt_of_pos _ (by omega)⟩
  have k := lawU floors floor hN hF
  generalize IntKind.i64.wrap (2 + floors % 63) = n at *
  generalize floor % n = f at *
  have h1 := ck_rep (c := true) (n := n.toNat) (by omega)
  have h2 := ck_one (n := n.toNat) (f := f.toNat) (by omega) (by omega)
  have h3 := opn_one n.toNat f.toNat 0 (by omega)
  have h4 : (0 : Int) + (f.toNat : Int) = f := by omega
  rw [h4] at h3
  have h5 : fo ((List.replicate n.toNat true).set f.toNat false) = f := by unfold fo; rw [h3]; rfl
  have h6 : mis false ((List.replicate n.toNat true).set f.toNat false) = [-1, f] := by unfold mis; rw [h3]; rfl
  rw [h5, h6, h3, set_back] at k
  refine (k h1 (by unfold mis; rw [opn_rep]; rfl) (by simp) h2 (by simp) rfl rfl rfl rfl rfl (by simp) (ck_rep (by omega)) (by unfold maG_c0 mis; rw [opn_rep]; rfl) (by rw [List.length_set, List.length_replicate, Int.toNat_natCast])).2.2 w (LaidL.nil w)
end Go.Proofs.Ytbcbldpppjbkhaa
