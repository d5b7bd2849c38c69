import Derived.Test.YtaogbagopdlkmaaOgI
import Derived.Test.YtaogbagopdlkmaaPC
set_option linter.unusedVariables false
namespace Go.Proofs.Ytaogbagopdlkmaa
open Go Go.RowKit
theorem ck_all {m d t s c : Int} (h : ckX m d t s c = 0) : (1 ≤ m ∧ m ≤ 200000) ∧ (1 ≤ d ∧ d ≤ 200000) ∧ t = m + d ∧ (1 ≤ trN m t s ∧ trN m t s ≤ 16) ∧ (1 ≤ s ∧ s ≤ 10000000) ∧ (2 ≤ t ∧ t ≤ 400000) ∧ m + (trN m t s + 1) * t = s := by
 obtain ⟨h1, h2, h3, h4, _⟩ := ck_ok h
 have ht : 2 ≤ t ∧ t ≤ 400000 := by omega
 have h5 := trN_eq h4
 exact ⟨h1, h2, h3, ⟨h5.2.1, h5.2.2⟩, tr_bound h1 ht h4, ht, h5.1⟩
end Go.Proofs.Ytaogbagopdlkmaa
