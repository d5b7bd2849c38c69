/- Layer 17: chains with one open landing; Slam. -/
import Derived.Test.YtbcbldpppjbkhaaOgE
namespace Go.Proofs.Ytbcbldpppjbkhaa
open Go Go.RowKit
set_option linter.unusedVariables false
theorem slA_go {c : Bool} {l : List Bool} (hl : l.length ≤ 64) : ∀ (k i : Nat), i + k = l.length → (opn (l.drop i) i = [] ∧ slA_f c l (k + 1) (i : Int) = some (1, (l.length : Int))) ∨ (∃ z t, opn (l.drop i) i = z :: t ∧ slA_f c l (k + 1) (i : Int) = some (0, z)) := by
  intro k
  induction k with
  | zero =>
    intro i h
    refine .inl ⟨by rw [List.drop_of_length_le (by omega)]; rfl, ?_⟩
    rw [slA_fs, bif_dT (by omega), bif_dF (by omega), show (i : Int) = (l.length : Int) by omega]
  | succ k ih =>
    intro i h
    rw [slA_fs, bif_dT (by omega), bif_dT (by omega), el_drop (l := l) (i := i) (by omega), w8n (n := (i : Int) + 1) (by omega) (by omega), show (i : Int) + 1 = ((i + 1 : Nat) : Int) by omega]
    cases he : el l (i : Int) with
    | true =>
      rw [Bool.not_true, cond_false]
      simp only [opn, cond_true]
      exact ih (i + 1) (by omega)
    | false =>
      rw [Bool.not_false, cond_true]
      simp only [opn, cond_false]
      exact .inr ⟨_, _, rfl, rfl⟩
theorem opn_rep : ∀ (n : Nat) (z : Int), opn (List.replicate n true) z = []
  | 0, z => rfl
  | n + 1, z => by rw [List.replicate_succ]; simp only [opn, cond_true]; exact opn_rep n (z + 1)
theorem opn_one : ∀ (n f : Nat) (z : Int), f < n → opn ((List.replicate n true).set f false) z = [z + f]
  | 0, f, z, h => by omega
  | n + 1, 0, z, h => by rw [List.replicate_succ, List.set_cons_zero]; simp only [opn, cond_false]; rw [opn_rep]; simp
  | n + 1, f + 1, z, h => by
    rw [List.replicate_succ, List.set_cons_succ]; simp only [opn, cond_true]
    rw [opn_one n f (z + 1) (by omega)]
    congr 1; omega
theorem cnF_len (l : List Bool) : cnF l = ((opn l 0).length : Int) := (opn_len l 0).symm
theorem ck_rep {c : Bool} {n : Nat} (h : 2 ≤ n ∧ n ≤ 64) : ckC c (List.replicate n true) = 0 := by
  unfold ckC
  rw [cnF_len, opn_rep, List.length_replicate, if_pos (by omega)]
  simp
theorem ck_one {n f : Nat} (h : 2 ≤ n ∧ n ≤ 64) (hf : f < n) : ckC false ((List.replicate n true).set f false) = 0 := by
  unfold ckC
  rw [cnF_len, opn_one n f 0 hf, List.length_set, List.length_replicate, if_pos (by omega)]
  simp
theorem set_back : ∀ (n f : Nat), ((List.replicate n true).set f false).set f true = List.replicate n true
  | 0, f => by simp
  | n + 1, 0 => by simp [List.replicate_succ]
  | n + 1, f + 1 => by
    rw [List.replicate_succ, List.set_cons_succ, List.set_cons_succ, set_back n f]
/-- the first open landing -/
def fo (l : List Bool) : Int := (opn l 0).headD 0
theorem slam_is (l : List Bool) (hl : 2 ≤ (l.length : Int) ∧ (l.length : Int) ≤ 64) (hc : ckC false l = 0) (hne : (opn l 0).length = 1) : KnownR Try.prog [] 13 [.agg [.val (.bool false), .list (rowA gB l) l.length]] (.tuple #[.agg #[.bool false, .complex .f64 0 (l.set (fo l).toNat true).length], .int .i64 (fo l), .int .i64 0]) [(rowA gB (l.set (fo l).toNat true), 4)] := by
  rcases slA_go (c := false) (l := l) (by omega) l.length 0 (by omega) with ⟨h1, h2⟩ | ⟨z, t, h1, h2⟩
  · rw [List.drop_zero, show ((0 : Nat) : Int) = 0 from rfl] at h1
    rw [h1] at hne; cases hne
  · rw [List.drop_zero, show ((0 : Nat) : Int) = 0 from rfl] at h1
    have hz : fo l = z := by unfold fo; rw [h1]; rfl
    have ho := slA_ok false _ hl hc _ _ _ h2
    have k := slK false _ _ hl hc (by rw [hc]; rfl) rfl ho
    rw [hz]
    exact k
end Go.Proofs.Ytbcbldpppjbkhaa
