/- Layer 17: the reference's open, of up to 128 landings. -/
import Derived.Test.YtbcbldpppjbkhaaOgQ17
namespace Go.Proofs.Ytbcbldpppjbkhaa
open Go Go.RowKit
set_option linter.unusedVariables false
theorem roB_go {c : Bool} {l : List Bool} (hl : l.length ≤ 128) : ∀ (k : Nat) (y0 : List Int) (i : Nat), i + k = l.length → y0.length ≤ i → roB_f c l (k + 1) y0 (i : Int) = some (0, ((opn (l.drop i) i).reverse ++ y0, (l.length : Int))) := by
  intro k
  induction k with
  | zero =>
    intro y0 i h h0
    rw [roB_fs, bif_dT (by omega), bif_dF (by omega), List.drop_of_length_le (by omega), show (i : Int) = (l.length : Int) by omega]
    simp [opn]
  | succ k ih =>
    intro y0 i h h0
    rw [roB_fs, bif_dT (by omega), bif_dT (by omega), el_drop (l := l) (i := i) (by omega), w8n (n := (i : Int) + 1) (by omega) (by omega), show (i : Int) + 1 = ((i + 1 : Nat) : Int) by omega]
    cases he : el l (i : Int) with
    | true =>
      rw [Bool.not_true, cond_false, ih _ _ (by omega) (by omega)]
      simp only [opn, cond_true]; rfl
    | false =>
      rw [Bool.not_false, cond_true, ih _ _ (by omega) (by simp; omega)]
      simp only [opn, cond_false, List.reverse_cons, List.append_assoc]; rfl
theorem open_all (c : Bool) (l : List Bool) (hl : (l.length : Int) ≤ 128) : KnownR Try.prog [] 46 [.agg [.val (.bool c), .list (rowA gB l) l.length]] (.complex .f64 0 (opn l 0).length) [(rowA gI (opn l 0), 3)] := by
  have hg := roB_go (c := c) (l := l) (by omega) l.length [] 0 (by omega) (by simp)
  have ho := roB_ok c l hl _ _ _ hg
  dsimp only at ho
  have k := roL c l _ _ hl ho
  have e : roL_c0 c l ((opn (l.drop 0) ((0 : Nat) : Int)).reverse ++ []) (l.length : Int) = opn l 0 := by
    unfold roL_c0; simp
  rw [e] at k
  exact k
end Go.Proofs.Ytbcbldpppjbkhaa
