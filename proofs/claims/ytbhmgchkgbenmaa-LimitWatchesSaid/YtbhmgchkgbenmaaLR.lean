import Derived.Test.YtbhmgchkgbenmaaOgS
set_option linter.unusedVariables false
namespace Go.Proofs.Ytbhmgchkgbenmaa
open Go Go.RowKit
def csS (u v : Int) (m : Mv) : List Int :=
 (bif decide (m.2.1 > v) then [1] else []) ++ ((bif (decide (m.1 < 0) || decide (m.1 > u)) then [2] else []) ++ ((bif (decide (m.2.1 > 0) && m.2.2.2.1) then [3] else []) ++ ((bif (decide (m.2.1 > 0) && !m.2.2.1) then [4] else []) ++ (bif (m.2.2.1 && decide (m.2.2.2.2 > 0)) then [5] else []))))
theorem rcs_eq (p v : Int) (m b : Bool) (d h s : Int) : rcs_c0 p v m b d h s = csS h s (p, v, m, b, d) := by
 unfold rcs_c0 csS
 dsimp only
 generalize decide (v > s) = b1
 generalize decide (p < 0) = b2
 generalize decide (p > h) = b3
 generalize decide (v > 0) = b4
 generalize decide (d > 0) = b5
 cases b1 <;> cases b2 <;> cases b3 <;> cases b4 <;> cases b5 <;> cases m <;> cases b <;> rfl
theorem rcs_is (p v : Int) (m b : Bool) (d h s : Int) : KnownR Try.prog [] 36 [.val (.agg #[.int .i64 p, .int .i64 v, .bool m, .bool b, .int .i64 d]), .val (.int .i64 h), .val (.int .i64 s)] (.complex .f64 0 (csS h s (p, v, m, b, d)).length) [(rowA gI (csS h s (p, v, m, b, d)), 3)] := by
 have k := rcs p v m b d h s
 rw [rcs_eq] at k
 exact k
open Classical in
noncomputable def wX (xs : List Mv) (u v : Int) : Int := if cAll xs = 0 then (if 0 ≤ u ∧ u ≤ 63000 ∧ 1 ≤ v ∧ v ≤ 20 then 0 else 2) else cAll xs
theorem akA_go (xs : List Mv) (hh s : Int) (hx : xs.length ≤ 10000) : ∀ (n i : Nat), i + n = xs.length → ∃ kk z, akA_f xs hh s (n + 1) (i : Int) = some (kk, z) ∧ ((kk = 0 ∧ chk (el xs z) = cE (xs.drop i) ∧ ¬ cE (xs.drop i) = 0) ∨ (kk = 1 ∧ cE (xs.drop i) = 0)) := by
 intro n
 induction n with
 | zero =>
  intro i h
  refine ⟨1, (i : Int), ?_, .inr ⟨rfl, by rw [List.drop_of_length_le (by omega)]; rfl⟩⟩
  rw [akA_fs, bif_dT (by omega), bif_dF (by omega)]
 | succ n ih =>
  intro i h
  rw [akA_fs, bif_dT (by omega), bif_dT (by omega), el_drop (l := xs) (i := i) (by omega)]
  have e : rChk_c0 (el xs (i : Int)).fst (el xs (i : Int)).snd.fst (el xs (i : Int)).snd.snd.fst (el xs (i : Int)).snd.snd.snd.fst (el xs (i : Int)).snd.snd.snd.snd = chk (el xs (i : Int)) := chk_eq _ _ _ _ _
  rw [e]
  simp only [cE]
  cases hc : (chk (el xs (i : Int)) != 0) with
  | true => exact ⟨0, (i : Int), rfl, .inl ⟨rfl, rfl, by simpa using hc⟩⟩
  | false =>
   have := ih (i + 1) (by omega)
   have hw : IntKind.i64.wrap ((i : Int) + 1) = ((i + 1 : Nat) : Int) := w8n (n := (i : Int) + 1) (by omega) (by omega)
   rw [hw]
   rw [cond_false, cond_false]
   exact this
theorem asked_is (xs : List Mv) (u v : Int) : KnownR Try.prog [] 35 [.list (rowA gM xs) xs.length, .val (.int .i64 u), .val (.int .i64 v)] (.int .i64 (wX xs u v)) [] := by
 unfold wX cAll
 by_cases hx : 10000 < xs.length
 ·rw [if_pos hx, if_neg (by decide)]
  exact akL xs u v hx
 ·rw [if_neg hx]
  obtain ⟨kk, z, h1, h2⟩ := akA_go xs u v (by omega) xs.length 0 (by omega)
  have hk : decide ((xs.length : Int) > 10000) = false := by simp; omega
  have hl := akA_ok xs u v (by omega) (xs.length + 1) kk z h1
  rcases h2 with ⟨rfl, h2, h3⟩ | ⟨rfl, h2⟩
  ·have := ak0 xs u v z (by omega) hk hl
   have e : ak0_c0 xs u v z = cE xs := (chk_eq _ _ _ _ _).trans h2
   rw [e] at this
   rw [if_neg (show ¬ cE xs = 0 from h3)]; exact this
  ·rw [if_pos (show cE xs = 0 from h2)]
   have := ak1 xs u v z (by omega) hk hl
   have e : ak1_c0 xs u v z = if 0 ≤ u ∧ u ≤ 63000 ∧ 1 ≤ v ∧ v ≤ 20 then 0 else 2 := by
    unfold ak1_c0
    by_cases q1 : u < 0
    ·rw [bif_dT q1, if_neg (by omega)]
    ·rw [bif_dF q1]
     by_cases q2 : u > 63000
     ·rw [bif_dT q2, if_neg (by omega)]
     ·rw [bif_dF q2]
      by_cases q3 : v < 1
      ·rw [bif_dT q3, if_neg (by omega)]
      ·rw [bif_dF q3]
       by_cases q4 : v > 20
       ·rw [bif_dT q4, if_neg (by omega)]
       ·rw [bif_dF q4, if_pos (by omega)]
   rw [e] at this; exact this
end Go.Proofs.Ytbhmgchkgbenmaa
