/- Layer 32: All, of both: the first error, the sights. -/
import Derived.Test.YtkoopcjdpcpknaaOgC
namespace Go.Proofs.Ytkoopcjdpcpknaa
open Go Go.RowKit
set_option linter.unusedVariables false
set_option linter.unusedSimpArgs false
theorem notT {p : Prop} [Decidable p] (h : p) : (!decide p) = false := by rw [decide_eq_true h]; rfl
/-- the error of the first car that has one -/
noncomputable def fsE (gs : List Int) : List Shn → Int
  | [] => 0
  | x :: r => if ckS gs x = 0 then fsE gs r else ckS gs x
/-- the error of cars and a domain -/
noncomputable def alE (gs : List Int) (m : Int) (xs : List Shn) : Int := if ckE gs = 0 then (if fsE gs xs = 0 then (if 1 ≤ m ∧ m ≤ 3 then 0 else 2) else fsE gs xs) else ckE gs
/-- the sights -/
noncomputable def alL (gs : List Int) (m : Int) (xs : List Shn) : List Sgt := if alE gs m xs = 0 then xs.map (shS gs m) else []
theorem paA_go {gs : List Int} {m : Int} {xs : List Shn} (hl : xs.length ≤ 10) : ∀ (n i : Nat), i + n = xs.length → ∃ kk z, paA_f gs m xs (n + 1) (i : Int) = some (kk, z) ∧ ((kk = 0 ∧ 0 ≤ z ∧ z < (xs.length : Int) ∧ fsE gs (xs.drop i) = ckS gs (el xs z) ∧ ckS gs (el xs z) ≠ 0) ∨ (kk = 1 ∧ fsE gs (xs.drop i) = 0)) := by
  intro n
  induction n with
  | zero =>
    intro i h
    rw [paA_fs, bif_dT (by omega), bif_dF (by omega), List.drop_of_length_le (by omega)]
    exact ⟨1, _, rfl, .inr ⟨rfl, rfl⟩⟩
  | succ n ih =>
    intro i h
    rw [paA_fs, bif_dT (by omega), bif_dT (by omega), el_drop (l := xs) (i := i) (by omega), w8n (n := (i : Int) + 1) (by omega) (by omega), show (i : Int) + 1 = ((i + 1 : Nat) : Int) by omega]
    show ∃ kk z, (bif ckS gs (el xs (i : Int)) != 0 then some (0, (i : Int)) else paA_f gs m xs (n + 1) ((i + 1 : Nat) : Int)) = some (kk, z) ∧ _
    by_cases hz : ckS gs (el xs (i : Int)) = 0
    · rw [show (ckS gs (el xs (i : Int)) != 0) = false by simp [hz], cond_false]
      obtain ⟨kk, z, h1, h2⟩ := ih (i + 1) (by omega)
      refine ⟨kk, z, h1, ?_⟩
      have e : fsE gs (el xs (i : Int) :: xs.drop (i + 1)) = fsE gs (xs.drop (i + 1)) := by
        show (if _ then _ else _) = _
        rw [if_pos hz]
      rw [e]
      exact h2
    · rw [show (ckS gs (el xs (i : Int)) != 0) = true by simpa using hz, cond_true]
      refine ⟨0, _, rfl, .inl ⟨rfl, by omega, by omega, ?_, hz⟩⟩
      show (if _ then _ else _) = _
      rw [if_neg hz]
theorem paB_go {gs : List Int} {m : Int} {xs : List Shn} {z0 : Int} (hl : xs.length ≤ 10) : ∀ (n i : Nat) (acc : List Sgt), i + n = xs.length → acc.length ≤ i → ∃ z, paB_f gs m xs z0 (n + 1) acc (i : Int) = some (0, (((xs.drop i).map (shS gs m)).reverse ++ acc, z)) := by
  intro n
  induction n with
  | zero =>
    intro i acc h ha
    rw [paB_fs, bif_dT (by omega), bif_dF (by omega), List.drop_of_length_le (by omega)]
    exact ⟨_, rfl⟩
  | succ n ih =>
    intro i acc h ha
    rw [paB_fs, bif_dT (by omega), bif_dT (by omega), el_drop (l := xs) (i := i) (by omega), w8n (n := (i : Int) + 1) (by omega) (by omega), show (i : Int) + 1 = ((i + 1 : Nat) : Int) by omega]
    obtain ⟨z, hz⟩ := ih (i + 1) (shS gs m (el xs (i : Int)) :: acc) (by omega) (by rw [List.length_cons]; omega)
    refine ⟨z, ?_⟩
    refine hz.trans ?_
    rw [List.map_cons, List.reverse_cons, List.append_assoc]
    rfl
theorem raA_go {gs : List Int} {m : Int} {xs : List Shn} (hl : xs.length ≤ 10) : ∀ (n i : Nat), i + n = xs.length → ∃ kk z, raA_f gs m xs (n + 1) (i : Int) = some (kk, z) ∧ ((kk = 0 ∧ 0 ≤ z ∧ z < (xs.length : Int) ∧ fsE gs (xs.drop i) = ckS gs (el xs z) ∧ ckS gs (el xs z) ≠ 0) ∨ (kk = 1 ∧ fsE gs (xs.drop i) = 0)) := by
  intro n
  induction n with
  | zero =>
    intro i h
    rw [raA_fs, bif_dT (by omega), bif_dF (by omega), List.drop_of_length_le (by omega)]
    exact ⟨1, _, rfl, .inr ⟨rfl, rfl⟩⟩
  | succ n ih =>
    intro i h
    rw [raA_fs, bif_dT (by omega), bif_dT (by omega), el_drop (l := xs) (i := i) (by omega), w8n (n := (i : Int) + 1) (by omega) (by omega), show (i : Int) + 1 = ((i + 1 : Nat) : Int) by omega]
    show ∃ kk z, (bif ckS gs (el xs (i : Int)) != 0 then some (0, (i : Int)) else raA_f gs m xs (n + 1) ((i + 1 : Nat) : Int)) = some (kk, z) ∧ _
    by_cases hz : ckS gs (el xs (i : Int)) = 0
    · rw [show (ckS gs (el xs (i : Int)) != 0) = false by simp [hz], cond_false]
      obtain ⟨kk, z, h1, h2⟩ := ih (i + 1) (by omega)
      refine ⟨kk, z, h1, ?_⟩
      have e : fsE gs (el xs (i : Int) :: xs.drop (i + 1)) = fsE gs (xs.drop (i + 1)) := by
        show (if _ then _ else _) = _
        rw [if_pos hz]
      rw [e]
      exact h2
    · rw [show (ckS gs (el xs (i : Int)) != 0) = true by simpa using hz, cond_true]
      refine ⟨0, _, rfl, .inl ⟨rfl, by omega, by omega, ?_, hz⟩⟩
      show (if _ then _ else _) = _
      rw [if_neg hz]
theorem raB_go {gs : List Int} {m : Int} {xs : List Shn} {z0 : Int} (hl : xs.length ≤ 10) : ∀ (n i : Nat) (acc : List Sgt), i + n = xs.length → acc.length ≤ i → ∃ z, raB_f gs m xs z0 (n + 1) acc (i : Int) = some (0, (((xs.drop i).map (shS gs m)).reverse ++ acc, z)) := by
  intro n
  induction n with
  | zero =>
    intro i acc h ha
    rw [raB_fs, bif_dT (by omega), bif_dF (by omega), List.drop_of_length_le (by omega)]
    exact ⟨_, rfl⟩
  | succ n ih =>
    intro i acc h ha
    rw [raB_fs, bif_dT (by omega), bif_dT (by omega), el_drop (l := xs) (i := i) (by omega), w8n (n := (i : Int) + 1) (by omega) (by omega), show (i : Int) + 1 = ((i + 1 : Nat) : Int) by omega]
    obtain ⟨z, hz⟩ := ih (i + 1) (shS gs m (el xs (i : Int)) :: acc) (by omega) (by rw [List.length_cons]; omega)
    refine ⟨z, ?_⟩
    refine hz.trans ?_
    rw [List.map_cons, List.reverse_cons, List.append_assoc]
    rfl
theorem pall_is (gs : List Int) (m : Int) (xs : List Shn) (hx : gs.length ≤ 70) (hl : xs.length ≤ 10) : KnownR Try.prog [] 9 [.list (rowA gI gs) gs.length, .val (.int .i64 m), .list (rowA gSh xs) xs.length] (.tuple #[.complex .f64 0 (alL gs m xs).length, .int .i64 (alE gs m xs)]) [(rowA gSg (alL gs m xs), 32)] := by
  by_cases hc : ckE gs = 0
  · have k1 : (ckE gs != (0 : Int)) = false := by simp [hc]
    obtain ⟨kk, z, h1, h2⟩ := paA_go (gs := gs) (m := m) (xs := xs) hl xs.length 0 (by omega)
    rw [List.drop_zero] at h2
    have oa := paA_ok gs m xs hx hl hc _ _ _ h1
    rcases h2 with ⟨rfl, g1, g2, g3, g4⟩ | ⟨rfl, g3⟩
    · have e : alE gs m xs = ckS gs (el xs z) := by unfold alE; rw [if_pos hc, g3, if_neg g4]
      have e2 : alL gs m xs = [] := by unfold alL; rw [e, if_neg g4]
      rw [e2, e]
      exact pa0 gs m xs z hx hl hc ⟨g1, g2⟩ k1 oa
    · by_cases hm : 1 ≤ m ∧ m ≤ 3
      · have e : alE gs m xs = 0 := by unfold alE; rw [if_pos hc, g3, if_pos rfl, if_pos hm]
        have e2 : alL gs m xs = xs.map (shS gs m) := by unfold alL; rw [e, if_pos rfl]
        obtain ⟨y, hy⟩ := paB_go (gs := gs) (m := m) (xs := xs) (z0 := z) hl xs.length 0 [] (by omega) (by simp)
        rw [List.drop_zero, List.append_nil] at hy
        have ob := paB_ok gs m xs z hx hl hc hm k1 oa _ _ _ hy
        have r := paK gs m xs z _ _ hx hl hc hm k1 oa (decide_eq_true hm.1) (notT hm.2) ob
        unfold paK_c0 at r
        rw [List.reverse_reverse] at r
        rw [e2, e]
        exact r
      · have e : alE gs m xs = 2 := by unfold alE; rw [if_pos hc, g3, if_pos rfl, if_neg hm]
        have e2 : alL gs m xs = [] := by unfold alL; rw [e]; rfl
        have r := paM gs m xs z hx hl hc hm k1 oa
        rw [e2, e]
        exact r
  · have e : alE gs m xs = ckE gs := by unfold alE; rw [if_neg hc]
    have e2 : alL gs m xs = [] := by unfold alL; rw [e, if_neg hc]
    rw [e2, e]
    exact paE gs m xs hx hl hc
theorem rall_is (gs : List Int) (m : Int) (xs : List Shn) (hx : gs.length ≤ 70) (hl : xs.length ≤ 10) : KnownR Try.prog [] 10 [.list (rowA gI gs) gs.length, .val (.int .i64 m), .list (rowA gSh xs) xs.length] (.tuple #[.complex .f64 0 (alL gs m xs).length, .int .i64 (alE gs m xs)]) [(rowA gSg (alL gs m xs), 32)] := by
  by_cases hc : ckE gs = 0
  · have k1 : (ckE gs != (0 : Int)) = false := by simp [hc]
    obtain ⟨kk, z, h1, h2⟩ := raA_go (gs := gs) (m := m) (xs := xs) hl xs.length 0 (by omega)
    rw [List.drop_zero] at h2
    have oa := raA_ok gs m xs hx hl hc _ _ _ h1
    rcases h2 with ⟨rfl, g1, g2, g3, g4⟩ | ⟨rfl, g3⟩
    · have e : alE gs m xs = ckS gs (el xs z) := by unfold alE; rw [if_pos hc, g3, if_neg g4]
      have e2 : alL gs m xs = [] := by unfold alL; rw [e, if_neg g4]
      rw [e2, e]
      exact ra0 gs m xs z hx hl hc ⟨g1, g2⟩ k1 oa
    · by_cases hm : 1 ≤ m ∧ m ≤ 3
      · have e : alE gs m xs = 0 := by unfold alE; rw [if_pos hc, g3, if_pos rfl, if_pos hm]
        have e2 : alL gs m xs = xs.map (shS gs m) := by unfold alL; rw [e, if_pos rfl]
        obtain ⟨y, hy⟩ := raB_go (gs := gs) (m := m) (xs := xs) (z0 := z) hl xs.length 0 [] (by omega) (by simp)
        rw [List.drop_zero, List.append_nil] at hy
        have ob := raB_ok gs m xs z hx hl hc hm k1 oa _ _ _ hy
        have r := raK gs m xs z _ _ hx hl hc hm k1 oa (decide_eq_false (by omega)) (decide_eq_false (by omega)) ob
        unfold raK_c0 at r
        rw [List.reverse_reverse] at r
        rw [e2, e]
        exact r
      · have e : alE gs m xs = 2 := by unfold alE; rw [if_pos hc, g3, if_pos rfl, if_neg hm]
        have e2 : alL gs m xs = [] := by unfold alL; rw [e]; rfl
        have r := raM gs m xs z hx hl hc hm k1 oa
        rw [e2, e]
        exact r
  · have e : alE gs m xs = ckE gs := by unfold alE; rw [if_neg hc]
    have e2 : alL gs m xs = [] := by unfold alL; rw [e, if_neg hc]
    rw [e2, e]
    exact raE gs m xs hx hl hc
end Go.Proofs.Ytkoopcjdpcpknaa
