/- Layer 1: Split. -/
import Derived.Test.YteohnhjhdlcpiaaFH
import Derived.Laws.MakeOwn
namespace Go.Proofs.Yteohnhjhdlcpiaa
open Go.RowKit
set_option linter.unusedVariables false

/-- an array of N ints in a block of its own -/
def ArrN (w : World) (g N : Nat) (f : Nat → Int) : Prop := ∀ j, j < N → w.cell? ⟨g, j, none⟩ = some (.int .i64 (f j)) ∧ w.frozen? ⟨g, j, none⟩ = false
theorem ArrN.set {w : World} {g N : Nat} {f : Nat → Int} (h : ArrN w g N f) (i : Nat) (hi : i < N) (x : Int) : ArrN (w.setCell ⟨g, i, none⟩ (.int .i64 x)) g N (fun j => if j = i then x else f j) := fun j hj => by
  refine ⟨?_, by rw [World.frozen?_setCell]; exact (h j hj).2⟩
  by_cases e : j = i
  · subst e
    rw [World.cell?_setCell_same _ _ _ (h j hj).1]; show _ = some (Value.int .i64 (if j = j then x else f j)); rw [if_pos rfl]
  · rw [World.cell?_setCell_other _ _ _ _ (by simp <;> omega), (h j hj).1]; show _ = some (Value.int .i64 (if j = i then x else f j)); rw [if_neg e]
theorem ArrN.cast {w : World} {g N : Nat} {f f' : Nat → Int} (h : ArrN w g N f) (e : ∀ j, j < N → f j = f' j) : ArrN w g N f' := fun j hj => by rw [← e j hj]; exact h j hj
theorem ArrN.ints {w : World} {g N : Nat} {f : Nat → Int} (h : ArrN w g N f) {xs : List Int} (hl : xs.length = N) (e : ∀ j, j < N → nth xs j = f j) : Ints w (some ⟨g, 0, none⟩) xs :=
  .inr ⟨g, 0, rfl, fun i hi => by rw [Nat.zero_add, (h i (by omega)).1, e i (by omega)]⟩
theorem ArrN.made (w : World) (N : Nat) (T : TypeId) : ArrN (w.alloc (.cells (madeCells #[.int .i64 0] N) T)) w.heap.size N (fun _ => 0) := fun j hj => by
  refine ⟨?_, World.frozen?_alloc_at _ _ _ _ rfl⟩
  rw [World.cell?_alloc_at _ _ _ _ rfl]
  show (madeCells #[.int .i64 0] N)[j]? = _
  simp [madeCells, hj, Nat.mod_one]
theorem mk_int (p : Nat) (hp : p ≤ 1000) (W : World) : (Instr.makeSlice 34 (.int .i64 p) (.int .i64 p)).run Try.prog W = .ok (.slice (some ⟨W.heap.size, 0, none⟩) p p) (W.alloc (.cells (madeCells #[.int .i64 0] p) 3)) := by
  obtain ⟨i0, hi, hz0, hz1, hz2⟩ := info_parts info_int
  have h := run_makeSlice (P := Try.prog) W 34 3 i0 (.int .i64 0) Try.underlying34 hi hz0 .i64 .i64 p p (by omega) (by omega) (by rw [hz1]; simp; omega) (by rw [hz2]; omega) (by omega)
  rw [h, hz1]
  simp [Value.cells]

def PF (d m j : Nat) : Int := ((d + if j < m then 1 else 0 : Nat) : Int)
theorem PF_lo {d m j : Nat} (h : j < m) : PF d m j = (d : Int) + 1 := by unfold PF; rw [if_pos h]; simp
theorem PF_hi {d m j : Nat} (h : ¬ j < m) : PF d m j = (d : Int) := by unfold PF; rw [if_neg h]; simp
/-- the parts -/
def spl (n p : Nat) : Nat → List Int
  | 0 => []
  | k + 1 => spl n p k ++ [PF (n / p) (n % p) k]
theorem spl_len (n p : Nat) : ∀ k, (spl n p k).length = k
  | 0 => rfl
  | k + 1 => by simp [spl, spl_len n p k]
theorem spl_nth (n p : Nat) : ∀ k i, i < k → nth (spl n p k) i = PF (n / p) (n % p) i
  | 0, i, h => absurd h (by omega)
  | k + 1, i, h => by
    simp only [spl]
    by_cases hi : i < k
    · rw [nth_append_left (by rw [spl_len]; exact hi)]; exact spl_nth n p k i hi
    · have : i = k := by omega
      subst this
      simp [nth, spl_len]

def SpRel (d m p g : Nat) (w2 : World) (v22 : Value) (wr : World) : Prop :=
  ∃ k : Nat, k ≤ p ∧ v22 = .int .i64 k ∧ ArrN wr g p (fun j => if j < k then PF d m j else 0) ∧ Turn g w2 wr

set_option maxHeartbeats 4000000 in
theorem pSplit (n : Nat) (p : Nat) (w : World) (hn : n ≤ 9223372036854775807) (hp : 1 ≤ p) (hp2 : p ≤ 1000) :
    Calls Try.prog 28 #[.int .i64 n, .int .i64 p] w fun e w' => ∃ A, e = .returned (.tuple #[.slice A p p, .int .i64 0]) ∧ Ints w' A (spl n p p) ∧ Below w.heap.size w w' := by
  have hmk := mk_int p hp2
  have t1 : Int.tdiv (n : Int) (p : Int) = ((n / p : Nat) : Int) := by rw [Int.tdiv_eq_ediv_of_nonneg (by omega)]; simp
  have t2 : Int.tmod (n : Int) (p : Int) = ((n % p : Nat) : Int) := by rw [Int.tmod_eq_emod_of_nonneg (by omega)]; simp
  obtain ⟨d, hd⟩ : ∃ d, d = n / p := ⟨_, rfl⟩
  obtain ⟨m, hm⟩ : ∃ m, m = n % p := ⟨_, rfl⟩
  have hdn : d ≤ n := by rw [hd]; exact Nat.div_le_self _ _
  have hmp : m < p := by rw [hm]; exact Nat.mod_lt _ (by omega)
  have hdm : m = 0 ∨ d < n := by
    by_cases h : m = 0
    · exact .inl h
    · right
      rcases Nat.lt_or_ge d n with h2 | h2
      · exact h2
      · exfalso
        have e : p * d + m = n := by rw [hd, hm]; exact Nat.div_add_mod n p
        have : 1 * d ≤ p * d := Nat.mul_le_mul_right d hp
        omega
  rw [← hd] at t1
  rw [← hm] at t2
  have HD := Lib.hid hd
  have HM := Lib.hid hm
  clear hd hm
  go_enter Try.func28, Try.ntmps28
  go_wp2
  obtain ⟨w2, hw2⟩ : ∃ w2, w2 = w.alloc (.cells (madeCells #[.int .i64 0] p) 3) := ⟨_, rfl⟩
  obtain ⟨g, hg⟩ : ∃ g, g = w.heap.size := ⟨_, rfl⟩
  have ha2 : ArrN w2 g p (fun _ => 0) := by rw [hw2, hg]; exact ArrN.made _ _ _
  have hb2 : Below w.heap.size w w2 := by rw [hw2]; exact (by repeat (first | exact Below.refl _ _ | apply keep_alloc | apply keep_drew | apply keep_drewN | refine keep_step (by assumption) ?_ (by rfl) | refine keep_set ?_ _ _ (by first | exact Nat.le_refl _ | (show _ ≤ _; simp; done) | (show _ ≤ _; simp; omega))))
  have hgw : w.heap.size ≤ g := by omega
  rw [← hw2, ← hg]
  clear hw2 hg
  go_loopw [22] (SpRel d m p g w2) (fun v _ => p - (intOf v).toNat)
  case atStart => exact ⟨0, by omega, rfl, ha2.cast (fun j hj => by rw [if_neg (by omega)]), Turn.refl _ _⟩
  case round =>
    obtain ⟨k, hk, rfl, hak, htr⟩ := hrel
    have hbr : Below w.heap.size w wr := keep_turn htr hb2 hgw
    by_cases hlt : k < p
    · obtain ⟨a1, a2⟩ := hak k hlt
      have hset := hak.set k hlt d
      obtain ⟨b1, b2⟩ := hset k hlt
      by_cases hkm : k < m
      · have hset2 := hset.set k hlt ((d : Int) + 1)
        have hfin : ArrN _ g p (fun j => if j < k + 1 then PF d m j else 0) := hset2.cast fun j hj => by
          by_cases e : j = k
          · rw [if_pos e, if_pos (by omega), PF_lo (by omega)]
          · rw [if_neg e]
            simp only [if_neg e]
            by_cases e2 : j < k
            · rw [if_pos e2, if_pos (by omega)]
            · rw [if_neg e2, if_neg (by omega)]
        clear hset hset2
        go_wp2
        exact ⟨⟨k + 1, by omega, by go_num, hfin, by (repeat (first | exact Turn.refl _ _ | apply Turn.set | apply Turn.alloc | apply Turn.drew | apply Turn.drewN | refine Turn.trans ?_ (by assumption) | refine Turn.below ?_ (by assumption) (by rfl) | refine Turn.setNew ?_ _ _ (by first | exact Nat.le_refl _ | (show _ ≤ _; simp; done) | (show _ ≤ _; simp; omega))))⟩, by simp [intOf]; omega⟩
      · have hfin : ArrN _ g p (fun j => if j < k + 1 then PF d m j else 0) := hset.cast fun j hj => by
          by_cases e : j = k
          · rw [if_pos e, if_pos (by omega), PF_hi (by omega)]
          · rw [if_neg e]
            by_cases e2 : j < k
            · rw [if_pos e2, if_pos (by omega)]
            · rw [if_neg e2, if_neg (by omega)]
        clear hset
        go_wp2
        exact ⟨⟨k + 1, by omega, by go_num, hfin, by (repeat (first | exact Turn.refl _ _ | apply Turn.set | apply Turn.alloc | apply Turn.drew | apply Turn.drewN | refine Turn.trans ?_ (by assumption) | refine Turn.below ?_ (by assumption) (by rfl) | refine Turn.setNew ?_ _ _ (by first | exact Nat.le_refl _ | (show _ ≤ _; simp; done) | (show _ ≤ _; simp; omega))))⟩, by simp [intOf]; omega⟩
    · have hkp : k = p := by omega
      subst hkp
      go_wp2
      go_ret2
      refine ⟨some ⟨g, 0, none⟩, rfl, hak.ints (spl_len _ _ _) fun j hj => ?_, hbr⟩
      rw [spl_nth _ _ _ _ hj, if_pos hj, HD.out, HM.out]
theorem pSplitE (n p : Int) (w : World) (h : n < 0 ∨ (0 ≤ n ∧ p < 1)) :
    Calls Try.prog 28 #[.int .i64 n, .int .i64 p] w fun e w' => e = .returned (.tuple #[.slice none 0 0, .int .i64 2]) ∧ Below w.heap.size w w' := by
  rcases h with h1 | ⟨h1, h2⟩
  all_goals
    go_enter Try.func28, Try.ntmps28
    go_wp2
    go_ret2
    exact ⟨rfl, (by repeat (first | exact Below.refl _ _ | apply keep_alloc | apply keep_drew | apply keep_drewN | refine keep_step (by assumption) ?_ (by rfl) | refine keep_set ?_ _ _ (by first | exact Nat.le_refl _ | (show _ ≤ _; simp; done) | (show _ ≤ _; simp; omega))))⟩
end Go.Proofs.Yteohnhjhdlcpiaa
