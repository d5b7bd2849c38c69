/- Layer 32: ScrubHides, ScrubDiffers, out of their contracts. -/
import Derived.Test.YtkoopcjdpcpknaaOgH
import Derived.Test.YtkoopcjdpcpknaaFrL
namespace Go.Proofs.Ytkoopcjdpcpknaa
open Go Go.RowKit
set_option linter.unusedVariables false
theorem dm_rng (dm : Int) : 1 ≤ IntKind.i64.wrap (1 + dm % 3) ∧ IntKind.i64.wrap (1 + dm % 3) ≤ 3 := by
  have : 0 ≤ dm % 3 ∧ dm % 3 ≤ 2 := by omega
  rw [w8n (by omega) (by omega)]
  omega
theorem nx_rng {d : Int} (h : 1 ≤ d ∧ d ≤ 3) : 1 ≤ IntKind.i64.wrap (1 + d.tmod 3) ∧ IntKind.i64.wrap (1 + d.tmod 3) ≤ 3 ∧ IntKind.i64.wrap (1 + d.tmod 3) ≠ d := by
  rw [Int.tmod_eq_emod_of_nonneg (by omega)]
  have : 0 ≤ d % 3 ∧ d % 3 ≤ 2 := by omega
  rw [w8n (by omega) (by omega)]
  omega
theorem car_rng (ns : List Int) (n : Int) : 0 ≤ mD n ∧ mD n ≤ 3 ∧ 0 ≤ mA ns n ∧ mA ns n ≤ htV (mdL ns) ∧ 0 ≤ mP n ∧ mP n ≤ 20 :=
  ⟨(mD_rng n).1, (mD_rng n).2, (mA_rng ns n).1, (mA_rng ns n).2, (mP_rng n).1, (mP_rng n).2⟩
theorem scrubHides_true (A0 : Option Addr) (len0 cap0 : Nat) (ns : List Int) (n m dm : Int) (w : World) (hl0 : ns.length = len0) (hi0 : ListIn w (rowA gI ns) len0 A0 cap0) (hw0 : ∀ m ∈ ns, rowW gI m) (_ : In64 n) (_ : In64 m) (_ : In64 dm) :
    Calls Try.prog 5 #[.slice A0 len0 cap0, .int .i64 n, .int .i64 m, .int .i64 dm] w fun e w' => e = .returned (.bool true) ∧ Below w.heap.size w w' := by
  subst hl0
  have hl := mdL_len ns
  exact knownR_law (lawH ns n m dm (by omega) (md_ck ns) (dm_rng dm) (car_rng ns n) (car_rng ns m) (nx_rng (dm_rng dm))) (LaidL.nil w) (.cons (.list hi0) (.cons (.val rfl) (.cons (.val rfl) (.cons (.val rfl) .nil))))
end Go.Proofs.Ytkoopcjdpcpknaa
