import Derived.Test.YtbhmgchkgbenmaaOgZc
import Derived.Test.YtbhmgchkgbenmaaFrL
set_option linter.unusedVariables false
namespace Go.Proofs.Ytbhmgchkgbenmaa
open Go Go.RowKit
theorem chk_ok {m : Mv} (h : OkT m) : chk m = 0 := by
 obtain ⟨_, ⟨h1, h2⟩, h3, h4⟩ := h
 unfold chk pChk_c0
 rw [bif_dF (by omega), bif_dF (by omega), bif_dF (by omega), bif_dF (by omega)]
theorem cE_of : ∀ {l : List Mv}, (∀ m ∈ l, OkT m) → cE l = 0
 | [], _ => rfl
 | m :: r, h => by
  have e := chk_ok (h m (by simp))
  simp only [cE, e]
  exact cE_of (fun x hx => h x (by simp [hx]))
theorem md_all (xs : List Int) : cAll (mdL xs) = 0 := by
 have := md_len (xs := xs)
 unfold cAll
 rw [if_neg (by omega)]
 exact cE_of md_ok
def In64 (n : Int) : Prop := -9223372036854775808 ≤ n ∧ n ≤ 9223372036854775807
end Go.Proofs.Ytbhmgchkgbenmaa
