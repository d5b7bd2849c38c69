/- Layer 32: ScrubDiffers, out of its contract. -/
import Derived.Test.YtkoopcjdpcpknaaOgI
import Derived.Test.YtkoopcjdpcpknaaFrL
namespace Go.Proofs.Ytkoopcjdpcpknaa
open Go Go.RowKit
set_option linter.unusedVariables false
theorem dm_rng (dm : Int) : 1 ≤ IntKind.i64.wrap (1 + dm % 3) ∧ IntKind.i64.wrap (1 + dm % 3) ≤ 3 := by
  have : 0 ≤ dm % 3 ∧ dm % 3 ≤ 2 := by omega
  rw [w8n (by omega) (by omega)]
  omega
theorem car_rng (ns : List Int) (n : Int) : 0 ≤ mD n ∧ mD n ≤ 3 ∧ 0 ≤ mA ns n ∧ mA ns n ≤ htV (mdL ns) ∧ 0 ≤ mP n ∧ mP n ≤ 20 :=
  ⟨(mD_rng n).1, (mD_rng n).2, (mA_rng ns n).1, (mA_rng ns n).2, (mP_rng n).1, (mP_rng n).2⟩
theorem df_len3 (x y : Sgt) : (dfL x y).length ≤ 20000 := by
  unfold dfL
  split <;> split <;> split <;> simp
theorem df_sym (x y : Sgt) : dfL x y = dfL y x := by
  unfold dfL
  simp only [eq_comm]
theorem scrubDiffers_true (A0 : Option Addr) (len0 cap0 : Nat) (ns : List Int) (n m dm : Int) (w : World) (hl0 : ns.length = len0) (hi0 : ListIn w (rowA gI ns) len0 A0 cap0) (hw0 : ∀ m ∈ ns, rowW gI m) (_ : In64 n) (_ : In64 m) (_ : In64 dm) :
    Calls Try.prog 6 #[.slice A0 len0 cap0, .int .i64 n, .int .i64 m, .int .i64 dm] w fun e w' => e = .returned (.bool true) ∧ Below w.heap.size w w' := by
  subst hl0
  have hl := mdL_len ns
  refine knownR_law (lawD ns n m dm (by omega) (md_ck ns) (dm_rng dm) (car_rng ns n) (car_rng ns m) ?_ ?_ (df_len3 _ _) (df_sym _ _)) (LaidL.nil w) (.cons (.list hi0) (.cons (.val rfl) (.cons (.val rfl) (.cons (.val rfl) .nil))))
  · rw [sgt_eq]; exact beq_self_eq_true _
  · rw [sgt_eq, beq_iff_eq, Bool.eq_iff_iff, decide_eq_true_iff, beq_iff_eq]
    exact df_nil _ _
end Go.Proofs.Ytkoopcjdpcpknaa
