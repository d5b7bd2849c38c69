/- Layer 5: Check of both, in of the given program: what the loops come to. -/
import Derived.Test.YtpmcjjpgkoagoaaOpA
namespace Go.Proofs.Ytpmcjjpgkoagoaa
open Go Go.RowKit
set_option linter.unusedVariables false
/-- 0: a number out of range, 1: not ascending, 2: right; and where -/
def rkS (m : Int) : List (Int × Int) → Int → Nat → Nat × Nat
  | [], _, i => (2, i)
  | x :: r, p, i => if x.1 < 1 ∨ m ≤ x.1 then (0, i) else if x.1 ≤ p then (1, i) else rkS m r x.1 (i + 1)
def prevR (l : List (Int × Int)) (i : Nat) : Int := if i = 0 then 0 else (el l ((i : Int) - 1)).1
theorem pcA_go {c m : Int} {l : List Hel} (hl : l.length ≤ 32) : ∀ (k i : Nat), i + k = l.length → pcA_f c m l (k + 1) (i : Int) = some ((rkS m (l.drop i) (prevR l i) i).1, ((rkS m (l.drop i) (prevR l i) i).2 : Int)) := by
  intro k
  induction k with
  | zero =>
    intro i h
    rw [pcA_fs, bif_dT (by omega), bif_dF (by omega), List.drop_of_length_le (by omega)]
    rfl
  | succ k ih =>
    intro i h
    rw [pcA_fs, bif_dT (by omega), bif_dT (by omega), el_drop (l := l) (i := i) (by omega), w8n (n := (i : Int) + 1) (by omega) (by omega), w8n (n := (i : Int) - 1) (by omega) (by omega)]
    have hz := ih (i + 1) (by omega)
    have hp : prevR l (i + 1) = (el l (i : Int)).1 := by
      unfold prevR
      rw [if_neg (by omega), show ((i + 1 : Nat) : Int) - 1 = (i : Int) by omega]
    rw [hp] at hz
    rw [show ((i + 1 : Nat) : Int) = (i : Int) + 1 by omega] at hz
    unfold rkS
    generalize el l (i : Int) = e at *
    by_cases h1 : e.1 < 1
    · rw [bif_dT h1, if_pos (by omega)]
    · rw [bif_dF h1]
      by_cases h2 : e.1 ≥ m
      · rw [bif_dT h2, if_pos (by omega)]
      · rw [bif_dF h2, if_neg (by omega)]
        by_cases h3 : (i : Int) > 0
        · rw [bif_dT h3]
          have : prevR l i = (el l ((i : Int) - 1)).1 := by unfold prevR; rw [if_neg (by omega)]
          rw [this]
          by_cases h4 : e.1 ≤ (el l ((i : Int) - 1)).1
          · rw [bif_dT h4, if_pos h4]
          · rw [bif_dF h4, if_neg h4]; exact hz
        · rw [bif_dF h3]
          have : prevR l i = 0 := by unfold prevR; rw [if_pos (by omega)]
          rw [this, if_neg (by omega)]; exact hz
theorem rkS_b (m : Int) : ∀ (l : List (Int × Int)) (p : Int) (i : Nat), (rkS m l p i).1 = 0 ∨ (rkS m l p i).1 = 1 ∨ (rkS m l p i).1 = 2
  | [], p, i => .inr (.inr rfl)
  | x :: r, p, i => by
    unfold rkS
    split
    · exact .inl rfl
    · split
      · exact .inr (.inl rfl)
      · exact rkS_b m r _ _
/-- Check -/
def okR (c m : Int) (l : List (Int × Int)) : Prop := 1 ≤ c ∧ c ≤ 32 ∧ 1 ≤ m ∧ m ≤ 1099511627777 ∧ (l.length : Int) ≤ c
noncomputable def ckX (c m : Int) (l : List (Int × Int)) : Int := by classical exact if okR c m l then (if (rkS m l 0 0).1 = 0 then 2 else if (rkS m l 0 0).1 = 1 then 8 else 0) else pcE_c0 c m l
noncomputable def ckJ (c m : Int) (l : List (Int × Int)) : Int := by classical exact if okR c m l then (if (rkS m l 0 0).1 = 2 then 0 else ((rkS m l 0 0).2 : Int)) else 0
theorem pcheck_is (c m : Int) (l : List Hel) : KnownR Try.prog [] 14 [.agg [.val (.int .i64 c), .val (.int .u64 m), .list (rowA gH l) l.length]] (.tuple #[.int .i64 (ckX c m l), .int .i64 (ckJ c m l)]) [] := by
  unfold ckX ckJ
  by_cases hE : okR c m l
  · rw [if_pos hE, if_pos hE]
    obtain ⟨h1, h2, h3, h4, h5⟩ := hE
    have hz := pcA_go (c := c) (m := m) (l := l) (by omega) l.length 0 (by omega)
    rw [List.drop_zero, show prevR l 0 = 0 from rfl] at hz
    have ho := pcA_ok c m l ⟨h1, h2⟩ ⟨h3, h4⟩ h5 _ _ _ hz
    rcases rkS_b m l 0 0 with e | e | e
    · rw [e] at ho ⊢
      exact pc0 c m l _ ⟨h1, h2⟩ ⟨h3, h4⟩ h5 (decide_eq_false (by omega)) (decide_eq_false (by omega)) (decide_eq_false (by omega)) (decide_eq_false (by omega)) (decide_eq_false (by omega)) ho
    · rw [e] at ho ⊢
      exact pc1 c m l _ ⟨h1, h2⟩ ⟨h3, h4⟩ h5 (decide_eq_false (by omega)) (decide_eq_false (by omega)) (decide_eq_false (by omega)) (decide_eq_false (by omega)) (decide_eq_false (by omega)) ho
    · rw [e] at ho ⊢
      exact pc2 c m l _ ⟨h1, h2⟩ ⟨h3, h4⟩ h5 (decide_eq_false (by omega)) (decide_eq_false (by omega)) (decide_eq_false (by omega)) (decide_eq_false (by omega)) (decide_eq_false (by omega)) ho
  · rw [if_neg hE, if_neg hE]
    exact pcE c m l hE
/-- of a ring that is right -/
theorem ck_ok {c m : Int} {l : List (Int × Int)} (h : ckX c m l = 0) : okR c m l ∧ (rkS m l 0 0).1 = 2 := by
  unfold ckX at h
  by_cases hE : okR c m l
  · rw [if_pos hE] at h
    refine ⟨hE, ?_⟩
    rcases rkS_b m l 0 0 with e | e | e
    · rw [e] at h; cases h
    · rw [e] at h; cases h
    · exact e
  · rw [if_neg hE] at h
    exfalso
    unfold okR at hE
    unfold pcE_c0 at h
    by_cases h1 : c < 1
    · rw [bif_dT h1] at h; cases h
    · rw [bif_dF h1] at h
      by_cases h2 : c > 32
      · rw [bif_dT h2] at h; cases h
      · rw [bif_dF h2] at h
        by_cases h3 : m < 1
        · rw [bif_dT h3] at h; cases h
        · rw [bif_dF h3] at h
          by_cases h4 : m > 1099511627777
          · rw [bif_dT h4] at h; cases h
          · rw [bif_dF h4] at h; cases h
theorem ck_of {c m : Int} {l : List (Int × Int)} (h : okR c m l) (h2 : (rkS m l 0 0).1 = 2) : ckX c m l = 0 := by
  unfold ckX
  rw [if_pos h, h2]; rfl
/-- a number among others -/
def hasI (w : List Int) (x : Int) : Bool := w.any (· == x)
end Go.Proofs.Ytpmcjjpgkoagoaa
