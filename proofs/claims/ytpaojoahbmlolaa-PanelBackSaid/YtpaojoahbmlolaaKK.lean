/- Layer 16: PanelBack, out of its contract. -/
import Derived.Test.YtpaojoahbmlolaaOgM
import Derived.Test.YtpaojoahbmlolaaFrL
namespace Go.Proofs.Ytpaojoahbmlolaa
open Go Go.RowKit
set_option linter.unusedVariables false
def In64 (n : Int) : Prop := -9223372036854775808 ≤ n ∧ n ≤ 9223372036854775807
theorem back_one (width : Int) (ns : List Int) (ticks : Int) : KnownR Try.prog [] 8 [.val (.int .i64 width), .list (rowA gI ns) ns.length, .val (.int .i64 ticks)] (.bool true) [] := by
  have hc := md_ok width ns
  have hz := ob_ok (o := 4) hc
  have b := ckV_ok.1 hc
  have hs := swS_zero (w := mdW width) (ticks % 60).toNat (a := mdP width ns) (y := mdY width ns) (u := 0) (c := 0) hc
  have hb : obV (mdP width ns) (mdW width) (obV (mdP width ns) (mdW width) (mdY width ns) 4) 4 = mdY width ns ∨ (mdP width ns = 0 ∨ mdP width ns = mdW width) ∧ obV (mdP width ns) (mdW width) (obV (mdP width ns) (mdW width) (mdY width ns) 4) 4 = 0 := by
    generalize mdP width ns = P at *
    generalize mdW width = W at *
    generalize mdY width ns = Y at *
    clear hs hz hc
    unfold obV
    simp only [show ¬ (4 : Int) = 0 by decide, show ¬ (4 : Int) = 1 by decide, show ¬ (4 : Int) = 2 by decide, if_false, if_true]
    rcases (by omega : Y = 0 ∨ Y = 1 ∨ Y = -1) with e | e | e
    · subst e; simp
    · subst e; by_cases q : P = 0 <;> simp [q] <;> omega
    · subst e; by_cases q : P = W <;> simp [q] <;> omega
  have r := lawB width ns ticks hc hz (by omega) (ords_rep ⟨by decide, by decide⟩) (by have := hs.2.2; split at this <;> omega) hb
  have e : lawB_c0 width ns ticks = true := by
    unfold lawB_c0
    simp
  rw [e] at r
  exact r
theorem panelBack_true (width : Int) (A1 : Option Addr) (len1 cap1 : Nat) (xs1 : List Int) (ticks : Int) (w : World) (_ : In64 width) (hl1 : xs1.length = len1) (hi1 : ListIn w (rowA gI xs1) len1 A1 cap1) (_ : ∀ m ∈ xs1, rowW gI m) (_ : In64 ticks) :
    Calls Try.prog 8 #[.int .i64 width, .slice A1 len1 cap1, .int .i64 ticks] w fun e w' => e = .returned (.bool true) ∧ Below w.heap.size w w' := by
  subst hl1
  exact knownR_law (back_one width xs1 ticks) (LaidL.nil w) (.cons (.val rfl) (.cons (.list hi1) (.cons (.val rfl) .nil)))
end Go.Proofs.Ytpaojoahbmlolaa
