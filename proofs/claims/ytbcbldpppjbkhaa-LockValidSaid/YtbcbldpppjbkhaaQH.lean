/- Layer 17: LockValid: the loop comes to its end. -/
import Derived.Test.YtbcbldpppjbkhaaOgM
import Derived.Test.YtbcbldpppjbkhaaFrL
namespace Go.Proofs.Ytbcbldpppjbkhaa
open Go Go.RowKit
set_option linter.unusedVariables false
theorem tail_eq {α : Type} (a : Int) (A B C : α) : (bif (!((a == (0 : Int)) == ((bif a == (0 : Int) then (6 : Int) else (0 : Int)) == (6 : Int)))) then A else (bif (!(a == (0 : Int))) then (bif ((bif a == (0 : Int) then (6 : Int) else (0 : Int)) != (0 : Int)) then B else C) else C)) = C := by
  cases (a == (0 : Int)) <;> rfl
theorem lvA_go {floors : Int} {steps : List Int} : ∀ (k i : Nat) (y0 : List Bool) (y1 : Int) (y3 : Bool), i + k = 30 → i ≤ steps.length → (y0.length : Int) = IntKind.i64.wrap (2 + floors % 10) → ckC y3 y0.reverse = 0 →
    ∃ z, lvA_f floors steps (k + 1) y0 y1 (i : Int) y3 = some (1, z) := by
  intro k
  induction k with
  | zero =>
    intro i y0 y1 y3 h h2 hL hc
    rw [lvA_fs, bif_dT ⟨by omega, by omega, hL, hc⟩]
    by_cases h1 : (i : Int) < (steps.length : Int)
    · rw [bif_dT h1, bif_dF (by omega)]; exact ⟨_, rfl⟩
    · rw [bif_dF h1]; exact ⟨_, rfl⟩
  | succ k ih =>
    intro i y0 y1 y3 h h2 hL hc
    rw [lvA_fs, bif_dT ⟨by omega, by omega, hL, hc⟩]
    by_cases h1 : (i : Int) < (steps.length : Int)
    · rw [bif_dT h1, bif_dT (by omega), w8n (n := (i : Int) + 1) (by omega) (by omega), show (i : Int) + 1 = ((i + 1 : Nat) : Int) by omega]
      generalize el steps (i : Int) % IntKind.i64.wrap ((3 : Int) * IntKind.i64.wrap ((2 : Int) + floors % (10 : Int))) = q
      cases (q.tmod 3 == (0 : Int)) with
      | true =>
        rw [cond_true]
        cases e : (ulA_c2 y3 y0.reverse (IntKind.i64.wrap (q.tdiv 3)) == (0 : Int)) with
        | true =>
          rw [cond_true]
          obtain ⟨a, b⟩ := lock_ulR hc (eq_of_beq e)
          first | exact ih (i + 1) _ _ _ (by omega) (by omega) (by rw [b, List.length_reverse]; exact hL) a | (rw [tail_eq]; exact ih (i + 1) _ _ _ (by omega) (by omega) (by rw [b, List.length_reverse]; exact hL) a)
        | false =>
          rw [cond_false, tail_eq]
          exact ih (i + 1) _ _ _ (by omega) (by omega) hL hc
      | false =>
        rw [cond_false]
        cases (q.tmod 3 == (1 : Int)) with
        | true =>
          rw [cond_true, tail_eq]
          obtain ⟨a, b⟩ := lock_lkR hc
          exact ih (i + 1) _ _ _ (by omega) (by omega) (by rw [b, List.length_reverse]; exact hL) a
        | false =>
          rw [cond_false]
          cases e : (smX y3 y0.reverse == (0 : Int)) with
          | true =>
            rw [cond_true, tail_eq]
            obtain ⟨a, b⟩ := lock_smR hc (eq_of_beq e)
            exact ih (i + 1) _ _ _ (by omega) (by omega) (by rw [b, List.length_reverse]; exact hL) a
          | false =>
            rw [cond_false, tail_eq]
            exact ih (i + 1) _ _ _ (by omega) (by omega) hL hc
    · rw [bif_dF h1]; exact ⟨_, rfl⟩
def In64 (n : Int) : Prop := -9223372036854775808 ≤ n ∧ n ≤ 9223372036854775807
theorem valid_is (floors : Int) (steps : List Int) : KnownR Try.prog [] 7 [.val (.int .i64 floors), .list (rowA gI steps) steps.length] (.bool true) [] := by
  have e1 : IntKind.i64.wrap (2 + floors % 10) = 2 + floors % 10 := w8n (by omega) (by omega)
  have e2 : IntKind.i64.wrap (3 * IntKind.i64.wrap (2 + floors % 10)) = 3 * (2 + floors % 10) := by rw [e1]; exact w8n (by omega) (by omega)
  have hN : 2 ≤ IntKind.i64.wrap (2 + floors % 10) ∧ IntKind.i64.wrap (2 + floors % 10) ≤ 12 := by rw [e1]; omega
  have hM : 0 < IntKind.i64.wrap (3 * IntKind.i64.wrap (2 + floors % 10)) ∧ IntKind.i64.wrap (3 * IntKind.i64.wrap (2 + floors % 10)) ≤ 4611686018427387904 := by rw [e2]; omega
  have hx : nwX (IntKind.i64.wrap (2 + floors % 10)) = 0 := by unfold nwX; rw [if_pos (by omega)]
  have hL : ((nwL (IntKind.i64.wrap (2 + floors % 10))).length : Int) = IntKind.i64.wrap (2 + floors % 10) := by
    unfold nwL; rw [if_pos (by omega), List.length_replicate]; omega
  have hc : ckC (nwC (IntKind.i64.wrap (2 + floors % 10))) (nwL (IntKind.i64.wrap (2 + floors % 10))) = 0 := by
    unfold nwL; rw [if_pos (by omega)]; exact ck_rep (by omega)
  obtain ⟨z, hz⟩ := lvA_go (floors := floors) (steps := steps) 30 0 (nwL (IntKind.i64.wrap (2 + floors % 10))).reverse (nwX (IntKind.i64.wrap (2 + floors % 10))) (nwC (IntKind.i64.wrap (2 + floors % 10))) (by omega) (by omega) (by rw [List.length_reverse]; exact hL) (by rw [List.reverse_reverse]; exact hc)
  have ho := lvA_ok floors steps hN hx hM _ _ _ hz
  apply lvG floors steps _ _ _ _ hN hx hM
  all_goals first | exact ho | exact decide_eq_false (by omega) | exact decide_eq_true (by omega) | (simp; done) | (simp [hx]; done)
theorem lockValid_true (floors : Int) (A : Option Addr) (len cap : Nat) (xs : List Int) (w : World) (_ : In64 floors) (hl : xs.length = len) (hi : ListIn w (rowA gI xs) len A cap) (hw : ∀ m ∈ xs, rowW gI m) :
    Calls Try.prog 7 #[.int .i64 floors, .slice A len cap] w fun e w' => e = .returned (.bool true) ∧ Below w.heap.size w w' := by
  subst hl
  have harg : DIns w [.val (.int .i64 floors), .list (rowA gI xs) xs.length] [.int .i64 floors, .slice A xs.length cap] :=
    .cons (.val rfl) (.cons (.list hi) .nil)
  exact knownR_law (valid_is floors xs) (LaidL.nil w) harg
end Go.Proofs.Ytbcbldpppjbkhaa
