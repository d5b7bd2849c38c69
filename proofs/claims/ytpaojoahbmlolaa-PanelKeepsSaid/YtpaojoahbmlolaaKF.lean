/- Layer 16: PanelKeeps, out of its contract. -/
import Derived.Test.YtpaojoahbmlolaaOgH
import Derived.Test.YtpaojoahbmlolaaFrL
namespace Go.Proofs.Ytpaojoahbmlolaa
open Go Go.RowKit
set_option linter.unusedVariables false
def In64 (n : Int) : Prop := -9223372036854775808 ≤ n ∧ n ≤ 9223372036854775807
theorem keeps_one (width : Int) (ns : List Int) (order : Int) : KnownR Try.prog [] 6 [.val (.int .i64 width), .list (rowA gI ns) ns.length, .val (.int .i64 order)] (.bool true) [] := by
  have hc := md_ok width ns
  have ho : 0 ≤ order % 5 ∧ order % 5 ≤ 4 := by omega
  have hz := ob_ok (o := order % 5) hc
  have hr := tk_ok hz
  have bz := ckV_ok.1 hz
  have br := ckV_ok.1 hr
  have key : ∀ P W Z : Int, ckV P W Z = 0 → (Z = 0 ∧ lfP P W Z = 0 ∧ lfP (P + Z) W (tkY P W Z) = 0 ∨ Z ≠ 0 ∧ 1 ≤ lfP P W Z ∧ lfP P W Z ≤ 20 ∧ lfP (P + Z) W (tkY P W Z) = lfP P W Z - 1) ∧ (tkB P W Z = 1 ∧ Z = 1 ∧ P + Z = W ∨ tkB P W Z ≠ 1 ∧ (Z ≠ 1 ∨ P + Z ≠ W)) ∧ (tkB P W Z = -1 ∧ Z = -1 ∧ P + Z = 0 ∨ tkB P W Z ≠ -1 ∧ (Z ≠ -1 ∨ P + Z ≠ 0)) := by
    intro P W Z h
    have b := ckV_ok.1 h
    unfold lfP tkY tkB
    rcases (by omega : Z = 0 ∨ Z = 1 ∨ Z = -1) with e | e | e
    · subst e; simp
    · subst e
      refine ⟨?_, ?_, ?_⟩
      · right; by_cases c : P + 1 = W <;> simp [c] <;> omega
      · by_cases c : P + 1 = W <;> simp [c]
      · by_cases c : P + 1 = W <;> simp [c]
    · subst e
      refine ⟨?_, ?_, ?_⟩
      · right; by_cases c : P = 1 <;> simp [c] <;> omega
      · by_cases c : P = 1 <;> simp [c]
      · by_cases c : P = 1 <;> simp [c] <;> omega
  have k := key _ _ _ hz
  have r := lawK width ns order hc hz hr (by omega) ho k.1 k.2.1 k.2.2
  have e : lawK_c0 width ns order = true := by
    unfold lawK_c0
    have k3 := k.2.2
    have k2 := k.2.1
    generalize obV (mdP width ns) (mdW width) (mdY width ns) (order % 5) = Z at *
    generalize tkB (mdP width ns) (mdW width) Z = B at *
    rcases (by omega : Z = 0 ∨ Z = 1 ∨ Z = -1) with e | e | e
    · subst e; have : B ≠ -1 := by omega
      simp [this]
    · subst e; have : B ≠ -1 := by omega
      simp [this]
    · subst e
      by_cases c : mdP width ns + -1 = 0
      · have : B = -1 := by omega
        simp [this, c]
      · have : B ≠ -1 := by omega
        have e1 : (B == -1) = false := by simpa using this
        have e2 : (mdP width ns + -1 == 0) = false := by simpa using c
        rw [e1, e2]; rfl
  rw [e] at r
  exact r
theorem panelKeeps_true (width : Int) (A1 : Option Addr) (len1 cap1 : Nat) (xs1 : List Int) (order : Int) (w : World) (_ : In64 width) (hl1 : xs1.length = len1) (hi1 : ListIn w (rowA gI xs1) len1 A1 cap1) (_ : ∀ m ∈ xs1, rowW gI m) (_ : In64 order) :
    Calls Try.prog 6 #[.int .i64 width, .slice A1 len1 cap1, .int .i64 order] w fun e w' => e = .returned (.bool true) ∧ Below w.heap.size w w' := by
  subst hl1
  exact knownR_law (keeps_one width xs1 order) (LaidL.nil w) (.cons (.val rfl) (.cons (.list hi1) (.cons (.val rfl) .nil)))
end Go.Proofs.Ytpaojoahbmlolaa
