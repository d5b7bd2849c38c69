/- Layer 17: what the reference's loops come to. -/
import Derived.Test.YtbcbldpppjbkhaaOgG
namespace Go.Proofs.Ytbcbldpppjbkhaa
open Go Go.RowKit
set_option linter.unusedVariables false
theorem rnA_go {n : Int} (hn : 2 ≤ n ∧ n ≤ 64) : ∀ (k : Nat) (y0 : List Bool) (i : Nat), i + k = n.toNat → y0.length = n.toNat → ∃ z, rnA_f n (k + 1) y0 (i : Int) = some (0, (z, (n.toNat : Int))) ∧ z.reverse = y0.reverse.take i ++ List.replicate k true := by
  intro k
  induction k with
  | zero =>
    intro y0 i h hl
    refine ⟨y0, ?_, ?_⟩
    · rw [rnA_fs, bif_dT (by omega), bif_dF (by omega), show (i : Int) = (n.toNat : Int) by omega]
    · rw [List.take_of_length_le (by rw [List.length_reverse]; omega)]; simp
  | succ k ih =>
    intro y0 i h hl
    rw [rnA_fs, bif_dT (by omega), bif_dT (by omega), w8n (by omega) (by omega), show (i : Int) + 1 = ((i + 1 : Nat) : Int) by omega]
    obtain ⟨z, h1, h2⟩ := ih ((y0.reverse.set (i : Int).toNat true).reverse) (i + 1) (by omega) (by simp [hl])
    refine ⟨z, h1, h2.trans ?_⟩
    rw [List.reverse_reverse, Int.toNat_natCast, set_take (by rw [List.length_reverse]; omega), List.replicate_succ, List.append_assoc]
    rfl
theorem roA_go {c : Bool} {l : List Bool} (hl : l.length ≤ 70) : ∀ (k : Nat) (y0 : List Int) (i : Nat), i + k = l.length → y0.length ≤ i → roA_f c l (k + 1) y0 (i : Int) = some (0, ((opn (l.drop i) i).reverse ++ y0, (l.length : Int))) := by
  intro k
  induction k with
  | zero =>
    intro y0 i h h0
    rw [roA_fs, bif_dT (by omega), bif_dF (by omega), List.drop_of_length_le (by omega), show (i : Int) = (l.length : Int) by omega]
    simp [opn]
  | succ k ih =>
    intro y0 i h h0
    rw [roA_fs, bif_dT (by omega), bif_dT (by omega), el_drop (l := l) (i := i) (by omega), w8n (n := (i : Int) + 1) (by omega) (by omega), show (i : Int) + 1 = ((i + 1 : Nat) : Int) by omega]
    cases he : el l (i : Int) with
    | true =>
      rw [Bool.not_true, cond_false, ih _ _ (by omega) (by omega)]
      simp only [opn, cond_true]; rfl
    | false =>
      rw [Bool.not_false, cond_true, ih _ _ (by omega) (by simp; omega)]
      simp only [opn, cond_false, List.reverse_cons, List.append_assoc]; rfl
theorem open_is (c : Bool) (l : List Bool) (hl : (l.length : Int) ≤ 70) : KnownR Try.prog [] 46 [.agg [.val (.bool c), .list (rowA gB l) l.length]] (.complex .f64 0 (opn l 0).length) [(rowA gI (opn l 0), 3)] := by
  have hg := roA_go (c := c) (l := l) (by omega) l.length [] 0 (by omega) (by simp)
  have ho := roA_ok c l hl _ _ _ hg
  dsimp only at ho
  have k := roK c l _ _ hl ho
  have e : roK_c0 c l ((opn (l.drop 0) ((0 : Nat) : Int)).reverse ++ []) (l.length : Int) = opn l 0 := by
    unfold roK_c0; simp
  rw [e] at k
  exact k
/-- a new chain: closed, its landings, the error -/
def nwC (n : Int) : Bool := decide (2 ≤ n ∧ n ≤ 64)
def nwL (n : Int) : List Bool := if 2 ≤ n ∧ n ≤ 64 then List.replicate n.toNat true else []
def nwX (n : Int) : Int := if 2 ≤ n ∧ n ≤ 64 then 0 else 2
theorem new_all (n : Int) : KnownR Try.prog [] 17 [.val (.int .i64 n)] (.tuple #[.agg #[.bool (nwC n), .complex .f64 0 (nwL n).length], .int .i64 (nwX n)]) [(rowA gB (nwL n), 4)] := by
  unfold nwC nwL nwX
  by_cases hn : 2 ≤ n ∧ n ≤ 64
  · rw [if_pos hn, if_pos hn, decide_eq_true hn]; exact new_is n hn
  · rw [if_neg hn, if_neg hn, decide_eq_false hn]; exact nwE n hn
theorem rnew_all (n : Int) : KnownR Try.prog [] 23 [.val (.int .i64 n)] (.tuple #[.agg #[.bool (nwC n), .complex .f64 0 (nwL n).length], .int .i64 (nwX n)]) [(rowA gB (nwL n), 4)] := by
  unfold nwC nwL nwX
  by_cases hn : 2 ≤ n ∧ n ≤ 64
  · rw [if_pos hn, if_pos hn, decide_eq_true hn]
    obtain ⟨z, h1, h2⟩ := rnA_go hn n.toNat (List.replicate n.toNat false).reverse 0 (by omega) (by simp)
    have ho := rnA_ok n hn _ _ _ h1
    dsimp only at ho
    have e : z.reverse = List.replicate n.toNat true := by rw [h2]; simp
    have k := rnK n z _ hn (by rw [← List.length_reverse, e, List.length_replicate]) (decide_eq_false (by omega)) (decide_eq_false (by omega)) (decide_eq_true (by omega)) (decide_eq_true (by omega)) ho
    rw [show rnK_c1 n z (n.toNat : Int) = List.replicate n.toNat true from e] at k
    exact k
  · rw [if_neg hn, if_neg hn, decide_eq_false hn]; exact rnE n hn
theorem ck_len {c : Bool} {l : List Bool} (h : ckC c l = 0) : 2 ≤ (l.length : Int) ∧ (l.length : Int) ≤ 64 := by
  unfold ckC at h
  split at h
  · assumption
  · omega
theorem missing_ck (c : Bool) (l : List Bool) (hc : ckC c l = 0) : KnownR Try.prog [] 41 [.agg [.list (rowA gB l) l.length, .val (.bool c)]] (.complex .f64 0 (mis c l).length) [(rowA gI (mis c l), 3)] := missing_is c l (ck_len hc)
end Go.Proofs.Ytbcbldpppjbkhaa
