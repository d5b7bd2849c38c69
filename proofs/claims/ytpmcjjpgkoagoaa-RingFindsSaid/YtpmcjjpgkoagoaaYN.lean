/- Layer 5: made, in all cases; Rest. -/
import Derived.Test.YtpmcjjpgkoagoaaOpN
import Derived.Test.YtpmcjjpgkoagoaaYM
namespace Go.Proofs.Ytpmcjjpgkoagoaa
open Go Go.RowKit
set_option linter.unusedVariables false
noncomputable def wN (n : Int) : Int := 1 + n % 32
theorem wN_b (n : Int) : 1 ≤ wN n ∧ wN n ≤ 32 := by unfold wN; omega
theorem made_ex (n : Int) (xs : List Int) : ∃ q : List (Int × Int) × List Int × Int, GoodR (wN n) q.2.2 q.1 ∧ q.2.2 = (q.2.1.length : Int) + 1 ∧ q.2.1.length ≤ 60 ∧ (∀ i : Nat, i < q.2.1.length → el q.2.1 (i : Int) = (i : Int) + 1) ∧
    KnownR Try.prog [] 36 [.val (.int .i64 n), .list (rowA gI xs) xs.length] (.tuple #[.agg #[.int .i64 (wN n), .int .u64 q.2.2, .complex .f64 0 q.1.length], .complex .f64 1 q.2.1.length, .bool true]) [(rowA gH q.1, 35), (rowA gN q.2.1, 22)] := by
  have hb := wN_b n
  have hw : IntKind.i64.wrap (1 + n % 32) = wN n := by unfold wN; exact w8n (by omega) (by omega)
  have hN : 1 ≤ IntKind.i64.wrap (1 + n % 32) ∧ IntKind.i64.wrap (1 + n % 32) ≤ 32 := by rw [hw]; exact hb
  obtain ⟨Y0, Y1, z, c, m, hz, hk, hl⟩ := mdA_go (n := n) (xs := xs) (W := IntKind.i64.wrap (1 + n % 32)) (min xs.length 60) 0 (([] : List Hel)).reverse [] (IntKind.i64.wrap (1 + n % 32)) 1 (by omega) (by simp) ⟨rfl, by simp, ⟨hN.1, hN.2, by omega, by omega, by simp; omega, ⟨by simp, fun x hx => by simp at hx⟩⟩, fun i hi => by simp at hi⟩
  obtain ⟨rfl, hm, hg, hn⟩ := hk
  have ho := mdA_ok n xs hN _ _ _ hz
  dsimp only at ho
  have r := md1 n xs _ _ _ _ _ hN (by simp) ho
  unfold md1_c0 md1_c1 md1_c2 md1_c3 md1_c4 at r
  simp only [goodR_ck hg, beq_self_eq_true, cond_true] at r
  refine ⟨(Y0.reverse, Y1.reverse, m), by rw [← hw]; exact hg, by simp; exact hm, by simp; exact hl, fun i hi => hn i (by simpa using hi), ?_⟩
  rw [← hw]
  exact r
noncomputable def mL (n : Int) (xs : List Int) : List (Int × Int) := (Classical.choose (made_ex n xs)).1
noncomputable def mG (n : Int) (xs : List Int) : List Int := (Classical.choose (made_ex n xs)).2.1
noncomputable def mM (n : Int) (xs : List Int) : Int := (Classical.choose (made_ex n xs)).2.2
theorem made_is (n : Int) (xs : List Int) : KnownR Try.prog [] 36 [.val (.int .i64 n), .list (rowA gI xs) xs.length] (.tuple #[.agg #[.int .i64 (wN n), .int .u64 (mM n xs), .complex .f64 0 (mL n xs).length], .complex .f64 1 (mG n xs).length, .bool true]) [(rowA gH (mL n xs), 35), (rowA gN (mG n xs), 22)] := (Classical.choose_spec (made_ex n xs)).2.2.2.2
theorem made_good (n : Int) (xs : List Int) : GoodR (wN n) (mM n xs) (mL n xs) := (Classical.choose_spec (made_ex n xs)).1
theorem made_next (n : Int) (xs : List Int) : mM n xs = ((mG n xs).length : Int) + 1 := (Classical.choose_spec (made_ex n xs)).2.1
theorem made_len (n : Int) (xs : List Int) : (mG n xs).length ≤ 60 := (Classical.choose_spec (made_ex n xs)).2.2.1
attribute [local irreducible] wN mL mG mM
end Go.Proofs.Ytpmcjjpgkoagoaa
