/- Layer 12: SensorReads: what is read, one way for both. -/
import Derived.Test.YthjdoeeefighkaaOgSR
import Derived.Test.YthjdoeeefighkaaSI4
namespace Go.Proofs.Ythjdoeeefighkaa
open Go Go.RowKit
set_option linter.unusedVariables false
set_option linter.unusedSimpArgs false
theorem aE_ck {gs : List Int} {p t : Int} (h : ckE gs ≠ 0) : aE gs p t = ckE gs := by
  have e := lE_bad (p := p) (f := 0) (t := t) h
  rw [(a_bad (by rw [e]; exact h)).1, e]
theorem ckL_not6 : ∀ (l : List Int) (j : Int), (ckL l j).1 ≠ 6
  | [], j => by simp [ckL]
  | x :: xs, j => by
    simp only [ckL]
    split
    · simp
    · exact ckL_not6 xs (j + 1)
theorem ck_not6 (gs : List Int) : ckE gs ≠ 6 := by
  unfold ckE
  split
  · decide
  · exact ckL_not6 gs 0
theorem rd_eq (gs : List Int) (p t : Int) (b : Bool) : srd_c0 gs p t b = rrd_c0 gs p t b ∧ srd_c1 gs p t b = rrd_c1 gs p t b ∧ srd_c2 gs p t b = rrd_c2 gs p t b ∧ srd_c3 gs p t b = rrd_c3 gs p t b := by
  unfold srd_c0 srd_c1 srd_c2 srd_c3 rrd_c0 rrd_c1 rrd_c2 rrd_c3
  by_cases h : ckE gs = 0
  · simp only [show (ckE gs != 0) = false by simp [h], cond_false]
    by_cases h6 : aE gs p t = 6
    · simp [h6]
      try (cases b <;> simp)
    · simp only [show (aE gs p t == 6) = false by simpa using h6, show (aE gs p t != 6) = true by simpa using h6, cond_false, cond_true]
      exact ⟨trivial, trivial, trivial, trivial⟩
  · have e : aE gs p t = ckE gs := aE_ck h
    have n6 := ck_not6 gs
    simp only [e, show (ckE gs != 0) = true by simpa using h, show (ckE gs != 6) = true by simpa using n6, cond_true]
    exact ⟨trivial, trivial, trivial, trivial⟩
/-- what is read -/
noncomputable def sV (gs : List Int) (p t : Int) (b : Bool) : Value := .tuple #[.agg #[.bool (srd_c0 gs p t b), .int .i64 (srd_c1 gs p t b), .int .i64 (srd_c2 gs p t b)], .int .i64 (srd_c3 gs p t b)]
theorem read_p (gs : List Int) (p t : Int) (b : Bool) (hx : gs.length ≤ 70) : KnownR Try.prog [] 12 [.list (rowA gI gs) gs.length, .val (.int .i64 p), .val (.int .i64 t), .val (.bool b)] (.tuple #[.agg #[.bool (srd_c0 gs p t b), .int .i64 (srd_c1 gs p t b), .int .i64 (srd_c2 gs p t b)], .int .i64 (srd_c3 gs p t b)]) [] :=
  srd gs p t b hx (ht_range gs)
theorem read_r (gs : List Int) (p t : Int) (b : Bool) (hx : gs.length ≤ 70) : KnownR Try.prog [] 13 [.list (rowA gI gs) gs.length, .val (.int .i64 p), .val (.int .i64 t), .val (.bool b)] (.tuple #[.agg #[.bool (srd_c0 gs p t b), .int .i64 (srd_c1 gs p t b), .int .i64 (srd_c2 gs p t b)], .int .i64 (srd_c3 gs p t b)]) [] := by
  obtain ⟨e0, e1, e2, e3⟩ := rd_eq gs p t b
  rw [e0, e1, e2, e3]
  exact rrd gs p t b hx (ht_range gs)
end Go.Proofs.Ythjdoeeefighkaa
