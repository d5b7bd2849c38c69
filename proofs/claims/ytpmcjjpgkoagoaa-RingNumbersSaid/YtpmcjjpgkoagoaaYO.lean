/- Layer 5: RingNumbers, out of its contract. -/
import Derived.Test.YtpmcjjpgkoagoaaOpP
import Derived.Test.YtpmcjjpgkoagoaaFrL
namespace Go.Proofs.Ytpmcjjpgkoagoaa
open Go Go.RowKit
set_option linter.unusedVariables false
def In64 (n : Int) : Prop := -9223372036854775808 ≤ n ∧ n ≤ 9223372036854775807
theorem nuA_go {n : Int} {xs : List Int} : ∀ (k i : Nat), i + k = (mG n xs).length → nuA_f n xs (k + 1) (i : Int) = some (1, ((mG n xs).length : Int)) := by
  have hl := made_len n xs
  have hn := made_nums n xs
  intro k
  induction k with
  | zero =>
    intro i h
    rw [nuA_fs, bif_dT ⟨by omega, by omega⟩, bif_dF (by omega), show (i : Int) = ((mG n xs).length : Int) by omega]
  | succ k ih =>
    intro i h
    rw [nuA_fs, bif_dT ⟨by omega, by omega⟩, bif_dT (by omega), w8n (n := (i : Int) + 1) (by omega) (by omega), u64n (by omega) (by omega), hn i (by omega)]
    rw [show ((i : Int) + 1 != (i : Int) + 1) = false by simp, cond_false, show (i : Int) + 1 = ((i + 1 : Nat) : Int) by omega]
    exact ih (i + 1) (by omega)
theorem numbers_is (n : Int) (xs : List Int) : KnownR Try.prog [] 6 [.val (.int .i64 n), .list (rowA gI xs) xs.length] (.bool true) [] := by
  have hg := made_good n xs
  have hk := goodR_ck hg
  have hw := wN_b n
  have hl := made_len n xs
  have hm := made_next n xs
  have hL : ((mL n xs).length : Int) ≤ 32 := by have := hg.2.2.2.2.1; omega
  have hz := nuA_go (n := n) (xs := xs) (mG n xs).length 0 (by omega)
  have ho := nuA_ok n xs hk hw (by omega) hm hL _ _ _ hz
  have r := nu1 n xs _ hk hw (by omega) hm hL (by
    rw [show wN n - ((mL n xs).length : Int) + ((mL n xs).length : Int) = wN n by omega, w8n (by omega) (by omega)]
    simp) ho
  have e : nu1_c0 n xs ((mG n xs).length : Int) = true := by
    unfold nu1_c0
    rw [w8n (by omega) (by omega), u64n (by omega) (by omega), hm]
    simp
  rw [e] at r
  exact r
theorem ringNumbers_true (n : Int) (A : Option Addr) (len cap : Nat) (xs : List Int) (w : World) (_ : In64 n) (hl : xs.length = len) (hi : ListIn w (rowA gI xs) len A cap) (hw : ∀ m ∈ xs, rowW gI m) :
    Calls Try.prog 6 #[.int .i64 n, .slice A len cap] w fun e w' => e = .returned (.bool true) ∧ Below w.heap.size w w' := by
  subst hl
  have harg : DIns w [.val (.int .i64 n), .list (rowA gI xs) xs.length] [.int .i64 n, .slice A xs.length cap] :=
    .cons (.val rfl) (.cons (.list hi) .nil)
  exact knownR_law (numbers_is n xs) (LaidL.nil w) harg
end Go.Proofs.Ytpmcjjpgkoagoaa
