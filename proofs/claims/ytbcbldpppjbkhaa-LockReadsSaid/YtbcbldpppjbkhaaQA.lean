/- Layer 17: what the loops over a chain's landings come to. -/
import Derived.Test.YtbcbldpppjbkhaaOgB
import Derived.Test.YtbcbldpppjbkhaaOgC
namespace Go.Proofs.Ytbcbldpppjbkhaa
open Go Go.RowKit
set_option linter.unusedVariables false
/-- the places, from z on, that are not locked -/
def opn : List Bool → Int → List Int
  | [], _ => []
  | b :: l, z => bif b then opn l (z + 1) else z :: opn l (z + 1)
/-- how many are not locked -/
def cnF : List Bool → Int
  | [] => 0
  | b :: l => (bif b then 0 else 1) + cnF l
theorem cnF_b : ∀ l : List Bool, 0 ≤ cnF l ∧ cnF l ≤ l.length
  | [] => by simp [cnF]
  | b :: l => by
    have := cnF_b l
    cases b <;> simp only [cnF, cond_true, cond_false, List.length_cons] <;> omega
theorem opn_len : ∀ (l : List Bool) (z : Int), ((opn l z).length : Int) = cnF l
  | [], z => by simp [opn, cnF]
  | b :: l, z => by
    have := opn_len l (z + 1)
    cases b <;> simp only [opn, cnF, cond_true, cond_false, List.length_cons] <;> omega
theorem set_take {l : List Bool} {i : Nat} {b : Bool} (h : i < l.length) : (l.set i b).take (i + 1) = l.take i ++ [b] := by
  rw [List.set_eq_take_append_cons_drop, if_pos h, List.take_append, List.length_take, Nat.min_eq_left (Nat.le_of_lt h), List.take_of_length_le (by simp; omega), show i + 1 - i = 1 by omega]
  rfl
theorem nwA_go {n : Int} (hn : 2 ≤ n ∧ n ≤ 64) : ∀ (k : Nat) (y0 : List Bool) (i : Nat), i + k = n.toNat → y0.length = n.toNat → ∃ z, nwA_f n (k + 1) y0 (i : Int) = some (0, (z, (n.toNat : Int))) ∧ z.reverse = y0.reverse.take i ++ List.replicate k true := by
  intro k
  induction k with
  | zero =>
    intro y0 i h hl
    refine ⟨y0, ?_, ?_⟩
    · rw [nwA_fs, bif_dT (by omega), bif_dF (by omega), show (i : Int) = (n.toNat : Int) by omega]
    · rw [List.take_of_length_le (by rw [List.length_reverse]; omega)]; simp
  | succ k ih =>
    intro y0 i h hl
    rw [nwA_fs, bif_dT (by omega), bif_dT (by omega), w8n (by omega) (by omega), show (i : Int) + 1 = ((i + 1 : Nat) : Int) by omega]
    obtain ⟨z, h1, h2⟩ := ih ((y0.reverse.set (i : Int).toNat true).reverse) (i + 1) (by omega) (by simp [hl])
    refine ⟨z, h1, h2.trans ?_⟩
    rw [List.reverse_reverse, Int.toNat_natCast, set_take (by rw [List.length_reverse]; omega), List.replicate_succ, List.append_assoc]
    rfl
theorem ckA_go {c : Bool} {l : List Bool} (hl : l.length ≤ 64) : ∀ (k : Nat) (y0 : Int) (i : Nat), i + k = l.length → 0 ≤ y0 → y0 ≤ i → ckA_f c l (k + 1) y0 (i : Int) = some (0, (y0 + cnF (l.drop i), (l.length : Int))) := by
  intro k
  induction k with
  | zero =>
    intro y0 i h h0 h1
    rw [ckA_fs, bif_dT (by omega), bif_dF (by omega), List.drop_of_length_le (by omega), show (i : Int) = (l.length : Int) by omega]
    simp [cnF]
  | succ k ih =>
    intro y0 i h h0 h1
    rw [ckA_fs, bif_dT (by omega), bif_dT (by omega), el_drop (l := l) (i := i) (by omega), w8n (n := (i : Int) + 1) (by omega) (by omega), show (i : Int) + 1 = ((i + 1 : Nat) : Int) by omega]
    cases he : el l (i : Int) with
    | true =>
      rw [Bool.not_true, cond_false, ih _ _ (by omega) h0 (by omega)]
      simp only [cnF, cond_true]; congr 3; omega
    | false =>
      rw [Bool.not_false, cond_true, w8n (by omega) (by omega), ih _ _ (by omega) (by omega) (by omega)]
      simp only [cnF, cond_false]; congr 3; omega
theorem msT_go {l : List Bool} (hl : l.length ≤ 64) : ∀ (k : Nat) (y0 : List Int) (i : Nat), i + k = l.length → y0.length ≤ i → msT_f l (k + 1) y0 (i : Int) = some (0, ((opn (l.drop i) i).reverse ++ y0, (l.length : Int))) := by
  intro k
  induction k with
  | zero =>
    intro y0 i h h0
    rw [msT_fs, bif_dT (by omega), bif_dF (by omega), List.drop_of_length_le (by omega), show (i : Int) = (l.length : Int) by omega]
    simp [opn]
  | succ k ih =>
    intro y0 i h h0
    rw [msT_fs, bif_dT (by omega), bif_dT (by omega), el_drop (l := l) (i := i) (by omega), w8n (n := (i : Int) + 1) (by omega) (by omega), show (i : Int) + 1 = ((i + 1 : Nat) : Int) by omega]
    cases he : el l (i : Int) with
    | true =>
      rw [Bool.not_true, cond_false, ih _ _ (by omega) (by omega)]
      simp only [opn, cond_true]; rfl
    | false =>
      rw [Bool.not_false, cond_true, ih _ _ (by omega) (by simp; omega)]
      simp only [opn, cond_false, List.reverse_cons, List.append_assoc]; rfl
theorem msF_go {l : List Bool} (hl : l.length ≤ 64) : ∀ (k : Nat) (y0 : List Int) (i : Nat), i + k = l.length → y0.length ≤ i + 1 → msF_f l (k + 1) y0 (i : Int) = some (0, ((opn (l.drop i) i).reverse ++ y0, (l.length : Int))) := by
  intro k
  induction k with
  | zero =>
    intro y0 i h h0
    rw [msF_fs, bif_dT (by omega), bif_dF (by omega), List.drop_of_length_le (by omega), show (i : Int) = (l.length : Int) by omega]
    simp [opn]
  | succ k ih =>
    intro y0 i h h0
    rw [msF_fs, bif_dT (by omega), bif_dT (by omega), el_drop (l := l) (i := i) (by omega), w8n (n := (i : Int) + 1) (by omega) (by omega), show (i : Int) + 1 = ((i + 1 : Nat) : Int) by omega]
    cases he : el l (i : Int) with
    | true =>
      rw [Bool.not_true, cond_false, ih _ _ (by omega) (by omega)]
      simp only [opn, cond_true]; rfl
    | false =>
      rw [Bool.not_false, cond_true, ih _ _ (by omega) (by simp; omega)]
      simp only [opn, cond_false, List.reverse_cons, List.append_assoc]; rfl
/-- what Check says -/
def ckC (c : Bool) (l : List Bool) : Int := if 2 ≤ (l.length : Int) ∧ (l.length : Int) ≤ 64 then (if cnF l > 1 then 9 else if cnF l = 1 ∧ c = true then 9 else 0) else 2
theorem check_is (c : Bool) (l : List Bool) : KnownR Try.prog [] 25 [.agg [.val (.bool c), .list (rowA gB l) l.length]] (.int .i64 (ckC c l)) [] := by
  by_cases hl : 2 ≤ (l.length : Int) ∧ (l.length : Int) ≤ 64
  · have hg := ckA_go (c := c) (l := l) (by omega) l.length 0 0 (by omega) (by omega) (by omega)
    have ho := ckA_ok c l hl _ _ _ hg
    dsimp only at ho
    have k := ckK c l _ _ hl (decide_eq_true (by omega)) (by rw [decide_eq_true (by omega)]; rfl) ho
    have e : ckK_c0 c l (0 + cnF (l.drop 0)) (l.length : Int) = ckC c l := by
      unfold ckK_c0 ckC
      rw [if_pos hl, List.drop_zero, Int.zero_add]
      by_cases h1 : cnF l > 1
      · rw [bif_dT h1, if_pos h1]
      · rw [bif_dF h1, if_neg h1]
        by_cases h2 : cnF l = 1
        · cases c <;> simp [h2]
        · have hb : (cnF l == 1) = false := by simpa using h2
          rw [hb]; cases c <;> simp [h2]
    rw [e] at k
    exact k
  · have k := ckE c l hl
    unfold ckC
    rw [if_neg hl]
    exact k
/-- what missing says -/
def mis (c : Bool) (l : List Bool) : List Int := (bif c then [] else [-1]) ++ opn l 0
theorem missing_is (c : Bool) (l : List Bool) (hl : 2 ≤ (l.length : Int) ∧ (l.length : Int) ≤ 64) : KnownR Try.prog [] 41 [.agg [.list (rowA gB l) l.length, .val (.bool c)]] (.complex .f64 0 (mis c l).length) [(rowA gI (mis c l), 3)] := by
  cases c with
  | true =>
    have hg := msT_go (l := l) (by omega) l.length [] 0 (by omega) (by simp)
    have ho := msT_ok l hl _ _ _ hg
    dsimp only at ho
    have k := msTK l _ _ hl ho
    have e : msTK_c0 l ((opn (l.drop 0) ((0 : Nat) : Int)).reverse ++ []) (l.length : Int) = mis true l := by
      unfold msTK_c0 mis; simp
    rw [e] at k
    exact k
  | false =>
    have hg := msF_go (l := l) (by omega) l.length [-1] 0 (by omega) (by simp)
    have ho := msF_ok l hl _ _ _ hg
    dsimp only at ho
    have k := msFK l _ _ hl ho
    have e : msFK_c0 l ((opn (l.drop 0) ((0 : Nat) : Int)).reverse ++ [-1]) (l.length : Int) = mis false l := by
      unfold msFK_c0 mis; simp
    rw [e] at k
    exact k
theorem new_is (n : Int) (hn : 2 ≤ n ∧ n ≤ 64) : KnownR Try.prog [] 17 [.val (.int .i64 n)] (.tuple #[.agg #[.bool true, .complex .f64 0 (List.replicate n.toNat true).length], .int .i64 0]) [(rowA gB (List.replicate n.toNat true), 4)] := by
  obtain ⟨z, h1, h2⟩ := nwA_go hn n.toNat (List.replicate n.toNat false).reverse 0 (by omega) (by simp)
  have ho := nwA_ok n hn _ _ _ h1
  dsimp only at ho
  have e : z.reverse = List.replicate n.toNat true := by rw [h2]; simp
  have k := nwK n z _ hn (by rw [← List.length_reverse, e, List.length_replicate]) (decide_eq_true (by omega)) (by rw [decide_eq_true (by omega)]; rfl) (decide_eq_true (by omega)) (decide_eq_true (by omega)) ho
  rw [show nwK_c1 n z (n.toNat : Int) = List.replicate n.toNat true from e] at k
  exact k
end Go.Proofs.Ytbcbldpppjbkhaa
