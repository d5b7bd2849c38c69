/- Layer 13: DriveArrives, its tables. -/
import Derived.Test.YtkmooakeilkdiaaDE
import Derived.Test.YtkmooakeilkdiaaEvZ3
import Derived.ProofKit
import Derived.IntWalk
namespace Go.Proofs.Ytkmooakeilkdiaa
open Go Go.RowKit
set_option linter.unusedVariables false
set_option linter.unusedSimpArgs false
set_option linter.unnecessarySimpa false
noncomputable def okD (p g v q l s k : Int) : Bool := by classical exact decide (DOk p g v q l s k)
theorem okD_is {p g v q l s k : Int} : okD p g v q l s k = true ↔ DOk p g v q l s k := by unfold okD; simp
noncomputable def mP (a : Int) : Int := a % 400
noncomputable def mS (n : Int) : Int := 1 + n % 1000 % 20
noncomputable def mK (n : Int) : Int := n % 1000 / 20 % 6
theorem kMade (a b n : Int) : Known Try.prog [] 19 [.int .i64 a, .int .i64 b, .int .i64 n] (.tuple #[.int .i64 (mP a), .int .i64 (mP b), .int .i64 (mS n), .int .i64 (mK n)]) := made_is a b n
noncomputable def kMade_k : List Value → Option Value
  | [.int .i64 a, .int .i64 b, .int .i64 n] => some (.tuple #[.int .i64 (mP a), .int .i64 (mP b), .int .i64 (mS n), .int .i64 (mK n)])
  | _ => none
theorem kMade_ok : ∀ args v, kMade_k args = some v → Known Try.prog [] 19 args v := by
  intro args v h
  unfold kMade_k at h
  split at h
  · injection h with h; subst h; exact kMade _ _ _
  · cases h
theorem kNeeds (p g v q l s k : Int) (hg : (okD p g v q l s k) = true) : Known Try.prog [] 15 [.agg #[.int .i64 p, .int .i64 g, .int .i64 v, .int .i64 q, .int .i64 l], .int .i64 s, .int .i64 k] (.tuple #[.int .i64 (nN p g v q l s k), .int .i64 0]) := pNeeds_all (okD_is.1 hg)
noncomputable def kNeeds_k : List Value → Option (Bool × Value)
  | [.agg ⟨[.int .i64 p, .int .i64 g, .int .i64 v, .int .i64 q, .int .i64 l]⟩, .int .i64 s, .int .i64 k] => some (okD p g v q l s k, .tuple #[.int .i64 (nN p g v q l s k), .int .i64 0])
  | _ => none
theorem kNeeds_ok : ∀ args v, kNeeds_k args = some (true, v) → Known Try.prog [] 15 args v := by
  intro args v h
  unfold kNeeds_k at h
  split at h
  · injection h with h; injection h with hg h; subst h; exact kNeeds _ _ _ _ _ _ _ hg
  · cases h
theorem kStep (p g v q l s k : Int) (hg : (okD p g v q l s k) = true) : Known Try.prog [] 16 [.agg #[.int .i64 p, .int .i64 g, .int .i64 v, .int .i64 q, .int .i64 l], .int .i64 s, .int .i64 k] (.tuple #[.agg #[.int .i64 (tP p g v q s), .int .i64 g, .int .i64 (tV p g v q s), .int .i64 (tQ p g v q l s k), .int .i64 (tL p g v q l s k)], .bool (decide (q = 2)), .int .i64 0]) := pStep_all (okD_is.1 hg)
noncomputable def kStep_k : List Value → Option (Bool × Value)
  | [.agg ⟨[.int .i64 p, .int .i64 g, .int .i64 v, .int .i64 q, .int .i64 l]⟩, .int .i64 s, .int .i64 k] => some (okD p g v q l s k, .tuple #[.agg #[.int .i64 (tP p g v q s), .int .i64 g, .int .i64 (tV p g v q s), .int .i64 (tQ p g v q l s k), .int .i64 (tL p g v q l s k)], .bool (decide (q = 2)), .int .i64 0])
  | _ => none
theorem kStep_ok : ∀ args v, kStep_k args = some (true, v) → Known Try.prog [] 16 args v := by
  intro args v h
  unfold kStep_k at h
  split at h
  · injection h with h; injection h with hg h; subst h; exact kStep _ _ _ _ _ _ _ hg
  · cases h
theorem kCheck (p g v q l : Int) (hg : (okD p g v q l 20 5) = true) : Known Try.prog [] 20 [.agg #[.int .i64 p, .int .i64 g, .int .i64 v, .int .i64 q, .int .i64 l]] (.int .i64 0) := by obtain ⟨a1, a2, a3, a4, a5, a6, _, _, _, _, b2, b3, h⟩ := okD_is.1 hg; exact dCheck_all p g v q l ⟨a1, a2, a3, a4, a5, a6, by decide, by decide, by decide, by decide, b2, b3, h⟩
noncomputable def kCheck_k : List Value → Option (Bool × Value)
  | [.agg ⟨[.int .i64 p, .int .i64 g, .int .i64 v, .int .i64 q, .int .i64 l]⟩] => some (okD p g v q l 20 5, .int .i64 0)
  | _ => none
theorem kCheck_ok : ∀ args v, kCheck_k args = some (true, v) → Known Try.prog [] 20 args v := by
  intro args v h
  unfold kCheck_k at h
  split at h
  · injection h with h; injection h with hg h; subst h; exact kCheck _ _ _ _ _ hg
  · cases h
noncomputable def tabL2 : GTab := (GTab.fn1 19 kMade_k (GTab.fn 15 kNeeds_k (GTab.fn 16 kStep_k (GTab.fn 20 kCheck_k (GTab.fn 23 qMod_k (GTab.fn1 4 (fun l => match l with | [] => some (.bool true) | _ => none) tabT))))))
theorem tabL2_ok : GOk Try.prog [] tabL2 := (GOk.fn1 kMade_ok (GOk.fn kNeeds_ok (GOk.fn kStep_ok (GOk.fn kCheck_ok (GOk.fn qMod_ok (GOk.fn1 (known0 kDK) tabT_ok))))))
end Go.Proofs.Ytkmooakeilkdiaa
