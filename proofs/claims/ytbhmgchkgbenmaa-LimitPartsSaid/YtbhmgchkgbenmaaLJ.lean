import Derived.Test.YtbhmgchkgbenmaaOgG
import Derived.Test.YtbhmgchkgbenmaaLU
set_option linter.unusedVariables false
namespace Go.Proofs.Ytbhmgchkgbenmaa
open Go Go.RowKit
noncomputable def chk (m : Mv) : Int := pChk_c0 m.1 m.2.1 m.2.2.1 m.2.2.2.1 m.2.2.2.2
theorem chk_eq (p s : Int) (m b : Bool) (d : Int) : rChk_c0 p s m b d = pChk_c0 p s m b d := by
 unfold pChk_c0 rChk_c0; rfl
noncomputable def cE : List Mv → Int
 | [] => 0
 | m :: t => bif chk m != 0 then chk m else cE t
noncomputable def cAll (xs : List Mv) : Int := if 10000 < xs.length then 4 else cE xs
theorem caA_go (xs : List Mv) (hx : xs.length ≤ 10000) : ∀ (n i : Nat), i + n = xs.length → ∃ kk z, caA_f xs (n + 1) (i : Int) = some (kk, z) ∧ ((kk = 0 ∧ chk (el xs z) = cE (xs.drop i)) ∨ (kk = 1 ∧ cE (xs.drop i) = 0)) := by
 intro n
 induction n with
 | zero =>
  intro i h
  refine ⟨1, (i : Int), ?_, .inr ⟨rfl, by rw [List.drop_of_length_le (by omega)]; rfl⟩⟩
  rw [caA_fs, bif_dT (by omega), bif_dF (by omega)]
 | succ n ih =>
  intro i h
  rw [caA_fs, bif_dT (by omega), bif_dT (by omega), el_drop (l := xs) (i := i) (by omega)]
  have e : pChk_c0 (el xs (i : Int)).fst (el xs (i : Int)).snd.fst (el xs (i : Int)).snd.snd.fst (el xs (i : Int)).snd.snd.snd.fst (el xs (i : Int)).snd.snd.snd.snd = chk (el xs (i : Int)) := rfl
  rw [e]
  simp only [cE]
  cases hc : (chk (el xs (i : Int)) != 0) with
  | true => exact ⟨0, (i : Int), rfl, .inl ⟨rfl, rfl⟩⟩
  | false =>
   have := ih (i + 1) (by omega)
   have hw : IntKind.i64.wrap ((i : Int) + 1) = ((i + 1 : Nat) : Int) := w8n (n := (i : Int) + 1) (by omega) (by omega)
   rw [hw]
   rw [cond_false, cond_false]
   exact this
theorem raA_go (xs : List Mv) (hh s : Int) (hx : xs.length ≤ 10000) : ∀ (n i : Nat), i + n = xs.length → ∃ kk z, raA_f xs hh s (n + 1) (i : Int) = some (kk, z) ∧ ((kk = 0 ∧ chk (el xs z) = cE (xs.drop i)) ∨ (kk = 1 ∧ cE (xs.drop i) = 0)) := by
 intro n
 induction n with
 | zero =>
  intro i h
  refine ⟨1, (i : Int), ?_, .inr ⟨rfl, by rw [List.drop_of_length_le (by omega)]; rfl⟩⟩
  rw [raA_fs, bif_dT (by omega), bif_dF (by omega)]
 | succ n ih =>
  intro i h
  rw [raA_fs, bif_dT (by omega), bif_dT (by omega), el_drop (l := xs) (i := i) (by omega)]
  have e : rChk_c0 (el xs (i : Int)).fst (el xs (i : Int)).snd.fst (el xs (i : Int)).snd.snd.fst (el xs (i : Int)).snd.snd.snd.fst (el xs (i : Int)).snd.snd.snd.snd = chk (el xs (i : Int)) := chk_eq _ _ _ _ _
  rw [e]
  simp only [cE]
  cases hc : (chk (el xs (i : Int)) != 0) with
  | true => exact ⟨0, (i : Int), rfl, .inl ⟨rfl, rfl⟩⟩
  | false =>
   have := ih (i + 1) (by omega)
   have hw : IntKind.i64.wrap ((i : Int) + 1) = ((i + 1 : Nat) : Int) := w8n (n := (i : Int) + 1) (by omega) (by omega)
   rw [hw]
   rw [cond_false, cond_false]
   exact this
theorem siA_go (xs ys : List Int) (hx : xs.length ≤ 20000) (hy : xs.length = ys.length) : ∀ (n i : Nat), i + n = xs.length → ∃ kk z, siA_f xs ys (n + 1) (i : Int) = some (kk, z) ∧ ((kk = 0 ∧ ¬ xs.drop i = ys.drop i) ∨ (kk = 1 ∧ xs.drop i = ys.drop i)) := by
 intro n
 induction n with
 | zero =>
  intro i h
  refine ⟨1, (i : Int), ?_, .inr ⟨rfl, by rw [List.drop_of_length_le (by omega), List.drop_of_length_le (by omega)]⟩⟩
  rw [siA_fs, bif_dT (by omega), bif_dF (by omega)]
 | succ n ih =>
  intro i h
  rw [siA_fs, bif_dT (by omega), bif_dT (by omega), el_drop (l := xs) (i := i) (by omega), el_drop (l := ys) (i := i) (by omega)]
  cases hc : (el xs (i : Int) != el ys (i : Int)) with
  | true => exact ⟨0, (i : Int), rfl, .inl ⟨rfl, by intro e; injection e with e _; simp [e] at hc⟩⟩
  | false =>
   obtain ⟨kk, z, h1, h2⟩ := ih (i + 1) (by omega)
   have hw : IntKind.i64.wrap ((i : Int) + 1) = ((i + 1 : Nat) : Int) := w8n (n := (i : Int) + 1) (by omega) (by omega)
   rw [hw]
   rw [cond_false]
   have he : el xs (i : Int) = el ys (i : Int) := by simpa using hc
   refine ⟨kk, z, h1, ?_⟩
   rw [he]
   simpa using h2
theorem same_ints (xs ys : List Int) (hx : xs.length ≤ 20000) : KnownR Try.prog [] 17 [.list (rowA gI xs) xs.length, .list (rowA gI ys) ys.length] (.bool (decide (xs = ys))) [] := by
 by_cases hy : xs.length = ys.length
 ·obtain ⟨kk, z, h1, h2⟩ := siA_go xs ys hx hy xs.length 0 (by omega)
  have hl := siA_ok xs ys hx hy (xs.length + 1) kk z h1
  rcases h2 with ⟨rfl, h2⟩ | ⟨rfl, h2⟩
  ·rw [decide_eq_false (by simpa using h2)]
   exact siE xs ys z hx hy (by simp [hy]) hl
  ·rw [decide_eq_true (by simpa using h2)]
   exact siF xs ys z hx hy (by simp [hy]) hl
 ·rw [decide_eq_false (fun e => hy (by rw [e]))]
  exact siL xs ys hy
theorem check_all (xs : List Mv) : KnownR Try.prog [] 43 [.list (rowA gM xs) xs.length] (.int .i64 (cAll xs)) [] := by
 unfold cAll
 split
 ·exact caL xs (by omega)
 ·rename_i hx
  obtain ⟨kk, z, h1, h2⟩ := caA_go xs (by omega) xs.length 0 (by omega)
  have hk : decide ((xs.length : Int) > 10000) = false := by simp; omega
  have hl := caA_ok xs (by omega) (xs.length + 1) kk z h1
  rcases h2 with ⟨rfl, h2⟩ | ⟨rfl, h2⟩
  ·have := caE xs z (by omega) hk hl
   have e : caE_c0 xs z = cE xs := h2
   rw [e] at this; exact this
  ·rw [show cE xs = 0 from h2]
   exact caF xs z (by omega) hk hl
theorem asked_all (xs : List Mv) : KnownR Try.prog [] 35 [.list (rowA gM xs) xs.length, .val (.int .i64 0), .val (.int .i64 1)] (.int .i64 (cAll xs)) [] := by
 unfold cAll
 split
 ·exact raL xs 0 1 (by omega)
 ·rename_i hx
  obtain ⟨kk, z, h1, h2⟩ := raA_go xs 0 1 (by omega) xs.length 0 (by omega)
  have hk : decide ((xs.length : Int) > 10000) = false := by simp; omega
  have hl := raA_ok xs 0 1 (by omega) (xs.length + 1) kk z h1
  rcases h2 with ⟨rfl, h2⟩ | ⟨rfl, h2⟩
  ·have := raE xs 0 1 z (by omega) ⟨rfl, rfl⟩ hk hl
   have e : raE_c0 xs 0 1 z = cE xs := (chk_eq _ _ _ _ _).trans h2
   rw [e] at this; exact this
  ·rw [show cE xs = 0 from h2]
   exact raF xs 0 1 z (by omega) ⟨rfl, rfl⟩ hk hl
end Go.Proofs.Ytbhmgchkgbenmaa
