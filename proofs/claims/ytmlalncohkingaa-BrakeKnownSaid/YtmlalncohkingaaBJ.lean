/- Layer 10: the laws' own functions. -/
import Derived.Test.YtmlalncohkingaaBI
import Derived.BigQuiet
namespace Go.Proofs.Ytmlalncohkingaa
open Go.RowKit
set_option linter.unusedVariables false

theorem ints_new (w : World) {b : Nat} {xs : List Int} {cs : Array Value} (hb : b = w.heap.size) (h : cs.toList = xs.map (Value.int .i64)) : Ints (w.alloc (.cells cs 3)) (some ⟨b, 0, none⟩) xs := by
  subst hb
  refine .inr ⟨_, _, rfl, fun i hi => ?_⟩
  rw [World.cell?_alloc_at _ _ _ _ rfl]
  have h1 : cs.toList[0 + i]? = some (.int .i64 (nth xs i)) := by rw [h, nth_eq hi]; simp [hi]
  simpa using h1
theorem sameInts_same (A B : Option Addr) (xs : List Int) (n ca cb : Nat) (w : World) (hx : xs.length = n) (hn : n ≤ maxLen) (hA : Ints w A xs) (hB : Ints w B xs) :
    Calls Try.prog 20 #[.slice A n ca, .slice B n cb] w fun e w' => e = .returned (.bool true) ∧ Below w.heap.size w w' :=
  (sameInts_eq A B xs xs n ca cb w hx hx hn hA hB).mono fun e w' ⟨he, hb⟩ => ⟨by rw [he]; simp, hb⟩

theorem pNew (w : World) : Calls Try.prog 14 #[] w fun e w' => e = .returned (.agg #[.int .i64 0, .int .i64 0]) ∧ Below w.heap.size w w' := by
  have y0 := ((((show Below ((w.alloc (.cells #[.int .i64 0, .int .i64 0] 23))).heap.size ((w.alloc (.cells #[.int .i64 0, .int .i64 0] 23))) (w.alloc (.cells #[.int .i64 0, .int .i64 0] 23)) from (by repeat (first | exact Below.refl _ _ | apply keep_alloc | apply keep_drew | apply keep_drewN | refine keep_step (by assumption) ?_ (by rfl) | refine keep_set ?_ _ _ (by first | exact Nat.le_refl _ | (show _ ≤ _; simp; done) | (show _ ≤ _; simp; omega))))).cell (p := ⟨w.heap.size, 0, none⟩) (by simp <;> omega)).trans (by simp [go_sem])) : ((w.alloc (.cells #[.int .i64 0, .int .i64 0] 23))).cell? ⟨w.heap.size, 0, none⟩ = some (.int .i64 0))
  have y1 := ((((show Below ((w.alloc (.cells #[.int .i64 0, .int .i64 0] 23))).heap.size ((w.alloc (.cells #[.int .i64 0, .int .i64 0] 23))) (w.alloc (.cells #[.int .i64 0, .int .i64 0] 23)) from (by repeat (first | exact Below.refl _ _ | apply keep_alloc | apply keep_drew | apply keep_drewN | refine keep_step (by assumption) ?_ (by rfl) | refine keep_set ?_ _ _ (by first | exact Nat.le_refl _ | (show _ ≤ _; simp; done) | (show _ ≤ _; simp; omega))))).cell (p := ⟨w.heap.size, 1, none⟩) (by simp <;> omega)).trans (by simp [go_sem])) : ((w.alloc (.cells #[.int .i64 0, .int .i64 0] 23))).cell? ⟨w.heap.size, 1, none⟩ = some (.int .i64 0))
  go_enter Try.func14, Try.ntmps14
  go_wp2
  refine bodyPost_ret (v := (.agg #[.int .i64 0, .int .i64 0])) (by simp [results, Try.results14, go_sem, set2 y0 y1]) rfl ?_
  exact ⟨rfl, (by repeat (first | exact Below.refl _ _ | apply keep_alloc | apply keep_drew | apply keep_drewN | refine keep_step (by assumption) ?_ (by rfl) | refine keep_set ?_ _ _ (by first | exact Nat.le_refl _ | (show _ ≤ _; simp; done) | (show _ ≤ _; simp; omega))))⟩
theorem rNew (w : World) : Calls Try.prog 25 #[] w fun e w' => e = .returned (.agg #[.int .i64 0, .int .i64 0]) ∧ Below w.heap.size w w' := by
  have y0 := ((((show Below ((w.alloc (.cells #[.int .i64 0, .int .i64 0] 23))).heap.size ((w.alloc (.cells #[.int .i64 0, .int .i64 0] 23))) (w.alloc (.cells #[.int .i64 0, .int .i64 0] 23)) from (by repeat (first | exact Below.refl _ _ | apply keep_alloc | apply keep_drew | apply keep_drewN | refine keep_step (by assumption) ?_ (by rfl) | refine keep_set ?_ _ _ (by first | exact Nat.le_refl _ | (show _ ≤ _; simp; done) | (show _ ≤ _; simp; omega))))).cell (p := ⟨w.heap.size, 0, none⟩) (by simp <;> omega)).trans (by simp [go_sem])) : ((w.alloc (.cells #[.int .i64 0, .int .i64 0] 23))).cell? ⟨w.heap.size, 0, none⟩ = some (.int .i64 0))
  have y1 := ((((show Below ((w.alloc (.cells #[.int .i64 0, .int .i64 0] 23))).heap.size ((w.alloc (.cells #[.int .i64 0, .int .i64 0] 23))) (w.alloc (.cells #[.int .i64 0, .int .i64 0] 23)) from (by repeat (first | exact Below.refl _ _ | apply keep_alloc | apply keep_drew | apply keep_drewN | refine keep_step (by assumption) ?_ (by rfl) | refine keep_set ?_ _ _ (by first | exact Nat.le_refl _ | (show _ ≤ _; simp; done) | (show _ ≤ _; simp; omega))))).cell (p := ⟨w.heap.size, 1, none⟩) (by simp <;> omega)).trans (by simp [go_sem])) : ((w.alloc (.cells #[.int .i64 0, .int .i64 0] 23))).cell? ⟨w.heap.size, 1, none⟩ = some (.int .i64 0))
  go_enter Try.func25, Try.ntmps25
  go_wp2
  refine bodyPost_ret (v := (.agg #[.int .i64 0, .int .i64 0])) (by simp [results, Try.results25, go_sem, set2 y0 y1]) rfl ?_
  exact ⟨rfl, (by repeat (first | exact Below.refl _ _ | apply keep_alloc | apply keep_drew | apply keep_drewN | refine keep_step (by assumption) ?_ (by rfl) | refine keep_set ?_ _ _ (by first | exact Nat.le_refl _ | (show _ ≤ _; simp; done) | (show _ ≤ _; simp; omega))))⟩
theorem pForce (s l : Int) (w : World) : Calls Try.prog 21 #[(.agg #[.int .i64 s, .int .i64 l])] w fun e w' => e = .returned (.agg #[.int .i64 0, .int .i64 0]) ∧ Below w.heap.size w w' := by
  go_enter Try.func21, Try.ntmps21
  go_wp2_with fail
  refine (pNew _).mono ?_
  rintro _ w1 ⟨rfl, hb1⟩
  have x0 := ((((show Below (((w.alloc (.cells #[.int .i64 s, .int .i64 l] 23)).alloc (.cells #[.int .i64 0, .int .i64 0] 23))).heap.size (((w.alloc (.cells #[.int .i64 s, .int .i64 l] 23)).alloc (.cells #[.int .i64 0, .int .i64 0] 23))) w1 from (by repeat (first | exact Below.refl _ _ | apply keep_alloc | apply keep_drew | apply keep_drewN | refine keep_step (by assumption) ?_ (by rfl) | refine keep_set ?_ _ _ (by first | exact Nat.le_refl _ | (show _ ≤ _; simp; done) | (show _ ≤ _; simp; omega))))).cell (p := ⟨w.heap.size, 0, none⟩) (by simp <;> omega)).trans (by simp [go_sem])) : (w1).cell? ⟨w.heap.size, 0, none⟩ = some (.int .i64 s))
  have x1 := ((((show Below (((w.alloc (.cells #[.int .i64 s, .int .i64 l] 23)).alloc (.cells #[.int .i64 0, .int .i64 0] 23))).heap.size (((w.alloc (.cells #[.int .i64 s, .int .i64 l] 23)).alloc (.cells #[.int .i64 0, .int .i64 0] 23))) w1 from (by repeat (first | exact Below.refl _ _ | apply keep_alloc | apply keep_drew | apply keep_drewN | refine keep_step (by assumption) ?_ (by rfl) | refine keep_set ?_ _ _ (by first | exact Nat.le_refl _ | (show _ ≤ _; simp; done) | (show _ ≤ _; simp; omega))))).cell (p := ⟨w.heap.size, 1, none⟩) (by simp <;> omega)).trans (by simp [go_sem])) : (w1).cell? ⟨w.heap.size, 1, none⟩ = some (.int .i64 l))
  have y0 := ((((show Below (((w.alloc (.cells #[.int .i64 s, .int .i64 l] 23)).alloc (.cells #[.int .i64 0, .int .i64 0] 23))).heap.size (((w.alloc (.cells #[.int .i64 s, .int .i64 l] 23)).alloc (.cells #[.int .i64 0, .int .i64 0] 23))) w1 from (by repeat (first | exact Below.refl _ _ | apply keep_alloc | apply keep_drew | apply keep_drewN | refine keep_step (by assumption) ?_ (by rfl) | refine keep_set ?_ _ _ (by first | exact Nat.le_refl _ | (show _ ≤ _; simp; done) | (show _ ≤ _; simp; omega))))).cell (p := ⟨(w.heap.size + 1), 0, none⟩) (by simp <;> omega)).trans (by simp [go_sem])) : (w1).cell? ⟨(w.heap.size + 1), 0, none⟩ = some (.int .i64 0))
  have y1 := ((((show Below (((w.alloc (.cells #[.int .i64 s, .int .i64 l] 23)).alloc (.cells #[.int .i64 0, .int .i64 0] 23))).heap.size (((w.alloc (.cells #[.int .i64 s, .int .i64 l] 23)).alloc (.cells #[.int .i64 0, .int .i64 0] 23))) w1 from (by repeat (first | exact Below.refl _ _ | apply keep_alloc | apply keep_drew | apply keep_drewN | refine keep_step (by assumption) ?_ (by rfl) | refine keep_set ?_ _ _ (by first | exact Nat.le_refl _ | (show _ ≤ _; simp; done) | (show _ ≤ _; simp; omega))))).cell (p := ⟨(w.heap.size + 1), 1, none⟩) (by simp <;> omega)).trans (by simp [go_sem])) : (w1).cell? ⟨(w.heap.size + 1), 1, none⟩ = some (.int .i64 0))
  have z0 := ((((show Below (((w.alloc (.cells #[.int .i64 s, .int .i64 l] 23)).alloc (.cells #[.int .i64 0, .int .i64 0] 23))).heap.size (((w.alloc (.cells #[.int .i64 s, .int .i64 l] 23)).alloc (.cells #[.int .i64 0, .int .i64 0] 23))) w1 from (by repeat (first | exact Below.refl _ _ | apply keep_alloc | apply keep_drew | apply keep_drewN | refine keep_step (by assumption) ?_ (by rfl) | refine keep_set ?_ _ _ (by first | exact Nat.le_refl _ | (show _ ≤ _; simp; done) | (show _ ≤ _; simp; omega))))).frozen (p := ⟨(w.heap.size + 1), 0, none⟩) (by simp <;> omega)).trans (by simp [go_sem])) : (w1).frozen? ⟨(w.heap.size + 1), 0, none⟩ = false)
  have z1 := ((((show Below (((w.alloc (.cells #[.int .i64 s, .int .i64 l] 23)).alloc (.cells #[.int .i64 0, .int .i64 0] 23))).heap.size (((w.alloc (.cells #[.int .i64 s, .int .i64 l] 23)).alloc (.cells #[.int .i64 0, .int .i64 0] 23))) w1 from (by repeat (first | exact Below.refl _ _ | apply keep_alloc | apply keep_drew | apply keep_drewN | refine keep_step (by assumption) ?_ (by rfl) | refine keep_set ?_ _ _ (by first | exact Nat.le_refl _ | (show _ ≤ _; simp; done) | (show _ ≤ _; simp; omega))))).frozen (p := ⟨(w.heap.size + 1), 1, none⟩) (by simp <;> omega)).trans (by simp [go_sem])) : (w1).frozen? ⟨(w.heap.size + 1), 1, none⟩ = false)
  go_wp2
  refine bodyPost_ret (v := (.agg #[.int .i64 0, .int .i64 0])) (by simp [results, Try.results21, go_sem, set2 y0 y1]) rfl ?_
  exact ⟨rfl, (by repeat (first | exact Below.refl _ _ | apply keep_alloc | apply keep_drew | apply keep_drewN | refine keep_step (by assumption) ?_ (by rfl) | refine keep_set ?_ _ _ (by first | exact Nat.le_refl _ | (show _ ≤ _; simp; done) | (show _ ≤ _; simp; omega))))⟩
theorem rForce (s l : Int) (w : World) : Calls Try.prog 30 #[(.agg #[.int .i64 s, .int .i64 l])] w fun e w' => e = .returned (.agg #[.int .i64 0, .int .i64 0]) ∧ Below w.heap.size w w' := by
  have y0 := ((((show Below (((w.alloc (.cells #[.int .i64 s, .int .i64 l] 23)).alloc (.cells #[.int .i64 0, .int .i64 0] 23))).heap.size (((w.alloc (.cells #[.int .i64 s, .int .i64 l] 23)).alloc (.cells #[.int .i64 0, .int .i64 0] 23))) ((w.alloc (.cells #[.int .i64 s, .int .i64 l] 23)).alloc (.cells #[.int .i64 0, .int .i64 0] 23)) from (by repeat (first | exact Below.refl _ _ | apply keep_alloc | apply keep_drew | apply keep_drewN | refine keep_step (by assumption) ?_ (by rfl) | refine keep_set ?_ _ _ (by first | exact Nat.le_refl _ | (show _ ≤ _; simp; done) | (show _ ≤ _; simp; omega))))).cell (p := ⟨(w.heap.size + 1), 0, none⟩) (by simp <;> omega)).trans (by simp [go_sem])) : (((w.alloc (.cells #[.int .i64 s, .int .i64 l] 23)).alloc (.cells #[.int .i64 0, .int .i64 0] 23))).cell? ⟨(w.heap.size + 1), 0, none⟩ = some (.int .i64 0))
  have y1 := ((((show Below (((w.alloc (.cells #[.int .i64 s, .int .i64 l] 23)).alloc (.cells #[.int .i64 0, .int .i64 0] 23))).heap.size (((w.alloc (.cells #[.int .i64 s, .int .i64 l] 23)).alloc (.cells #[.int .i64 0, .int .i64 0] 23))) ((w.alloc (.cells #[.int .i64 s, .int .i64 l] 23)).alloc (.cells #[.int .i64 0, .int .i64 0] 23)) from (by repeat (first | exact Below.refl _ _ | apply keep_alloc | apply keep_drew | apply keep_drewN | refine keep_step (by assumption) ?_ (by rfl) | refine keep_set ?_ _ _ (by first | exact Nat.le_refl _ | (show _ ≤ _; simp; done) | (show _ ≤ _; simp; omega))))).cell (p := ⟨(w.heap.size + 1), 1, none⟩) (by simp <;> omega)).trans (by simp [go_sem])) : (((w.alloc (.cells #[.int .i64 s, .int .i64 l] 23)).alloc (.cells #[.int .i64 0, .int .i64 0] 23))).cell? ⟨(w.heap.size + 1), 1, none⟩ = some (.int .i64 0))
  go_enter Try.func30, Try.ntmps30
  go_wp2
  refine bodyPost_ret (v := (.agg #[.int .i64 0, .int .i64 0])) (by simp [results, Try.results30, go_sem, set2 y0 y1]) rfl ?_
  exact ⟨rfl, (by repeat (first | exact Below.refl _ _ | apply keep_alloc | apply keep_drew | apply keep_drewN | refine keep_step (by assumption) ?_ (by rfl) | refine keep_set ?_ _ _ (by first | exact Nat.le_refl _ | (show _ ≤ _; simp; done) | (show _ ≤ _; simp; omega))))⟩
theorem at_any (s l : Int) (w : World) : Calls Try.prog 11 #[.int .i64 s, .int .i64 l] w fun e w' => e = .returned (.agg #[.int .i64 s, .int .i64 l]) ∧ Below w.heap.size w w' := by
  have y0 := ((((show Below ((w.alloc (.cells #[.int .i64 0, .int .i64 0] 23))).heap.size ((w.alloc (.cells #[.int .i64 0, .int .i64 0] 23))) (w.alloc (.cells #[.int .i64 0, .int .i64 0] 23)) from (by repeat (first | exact Below.refl _ _ | apply keep_alloc | apply keep_drew | apply keep_drewN | refine keep_step (by assumption) ?_ (by rfl) | refine keep_set ?_ _ _ (by first | exact Nat.le_refl _ | (show _ ≤ _; simp; done) | (show _ ≤ _; simp; omega))))).cell (p := ⟨w.heap.size, 0, none⟩) (by simp <;> omega)).trans (by simp [go_sem])) : ((w.alloc (.cells #[.int .i64 0, .int .i64 0] 23))).cell? ⟨w.heap.size, 0, none⟩ = some (.int .i64 0))
  have y1 := ((((show Below ((w.alloc (.cells #[.int .i64 0, .int .i64 0] 23))).heap.size ((w.alloc (.cells #[.int .i64 0, .int .i64 0] 23))) (w.alloc (.cells #[.int .i64 0, .int .i64 0] 23)) from (by repeat (first | exact Below.refl _ _ | apply keep_alloc | apply keep_drew | apply keep_drewN | refine keep_step (by assumption) ?_ (by rfl) | refine keep_set ?_ _ _ (by first | exact Nat.le_refl _ | (show _ ≤ _; simp; done) | (show _ ≤ _; simp; omega))))).cell (p := ⟨w.heap.size, 1, none⟩) (by simp <;> omega)).trans (by simp [go_sem])) : ((w.alloc (.cells #[.int .i64 0, .int .i64 0] 23))).cell? ⟨w.heap.size, 1, none⟩ = some (.int .i64 0))
  go_enter Try.func11, Try.ntmps11
  go_wp2
  refine bodyPost_ret (v := (.agg #[.int .i64 s, .int .i64 l])) (by simp [results, Try.results11, go_sem, set2 y0 y1]) rfl ?_
  exact ⟨rfl, (by repeat (first | exact Below.refl _ _ | apply keep_alloc | apply keep_drew | apply keep_drewN | refine keep_step (by assumption) ?_ (by rfl) | refine keep_set ?_ _ _ (by first | exact Nat.le_refl _ | (show _ ≤ _; simp; done) | (show _ ≤ _; simp; omega))))⟩
/-- a brake is the wanted one, without an error -/
theorem is_true (s l : Int) (w : World) : Calls Try.prog 15 #[(.agg #[.int .i64 s, .int .i64 l]), .int .i64 0, (.agg #[.int .i64 s, .int .i64 l])] w fun e w' => e = .returned (.bool true) ∧ Below w.heap.size w w' := by
  go_enter Try.func15, Try.ntmps15
  go_wp2
  go_ret
  exact ⟨rfl, (by repeat (first | exact Below.refl _ _ | apply keep_alloc | apply keep_drew | apply keep_drewN | refine keep_step (by assumption) ?_ (by rfl) | refine keep_set ?_ _ _ (by first | exact Nat.le_refl _ | (show _ ≤ _; simp; done) | (show _ ≤ _; simp; omega))))⟩

/-- in a new world a brake lies in a block of its own -/
theorem new_brk {w w2 : World} {s l : Int} (h : w2 = w.alloc (.cells #[.int .i64 s, .int .i64 l] 23)) : Brk w2 w.heap.size s l ∧ Below w.heap.size w w2 := by
  rw [h]; exact ⟨Brk.made _ _ _ _, keep_alloc (Below.refl _ _) _⟩

set_option maxHeartbeats 4000000 in
theorem awake_true (w : World) : Calls Try.prog 23 #[] w fun e w' => e = .returned (.bool true) ∧ Below w.heap.size w w' := by
  have r1 : Hid (stOut 2 3 = [1, 2, 2, 2, 2, 3, 0]) := Lib.hid (by decide)
  have r2 : Hid (stE 2 3 = 0) := Lib.hid (by decide)
  go_enter Try.func23, Try.ntmps23
  go_wp2_with fail
  refine (pNew _).mono ?_
  rintro _ w1 ⟨rfl, hb1⟩
  go_wp2_with fail
  refine (pRelease 0 0 2 _).mono ?_
  rintro _ w2 ⟨rfl, hb2⟩
  rw [show begS 0 0 2 0 1 = 1 by decide, show begL 0 0 2 0 = 2 by decide, show begE 0 0 2 0 = 0 by decide]
  go_wp2_with fail
  refine (pStep 1 2 2 _).mono ?_
  rintro _ w4 ⟨rfl, hb4⟩
  rw [show runS 1 2 2 1 = 1 by decide, show runL 1 2 2 1 = 1 by decide, show runE 1 2 2 1 = 0 by decide]
  go_wp2_with fail
  refine (pStates 2 3 _).mono ?_
  rintro _ w6 ⟨A6, c6, rfl, hi6, hl6, hb6⟩
  rw [r1.out] at hi6
  rw [r1.out, r2.out]
  simp only [List.length_cons, List.length_nil]
  obtain ⟨⟨x0, x1⟩, _⟩ := ((Brk.made w2 1 2 23).below (show Below (w2.alloc (.cells #[.int .i64 1, .int .i64 2] 23)).heap.size (w2.alloc (.cells #[.int .i64 1, .int .i64 2] 23)) w6 from (by repeat (first | exact Below.refl _ _ | apply keep_alloc | apply keep_drew | apply keep_drewN | refine keep_step (by assumption) ?_ (by rfl) | refine keep_set ?_ _ _ (by first | exact Nat.le_refl _ | (show _ ≤ _; simp; done) | (show _ ≤ _; simp; omega))))) (by simp))
  obtain ⟨⟨y0, y1⟩, _⟩ := ((Brk.made w4 1 1 23).below hb6 (by simp))
  have hx := World.block_lt_of_cell? w6 _ x0
  have hy := World.block_lt_of_cell? w6 _ y0
  simp only at hx hy
  go_wp2_with fail
  (refine wp_region_head' (C := fun x => ∃ y : Later w6, x = y.w) 16 (by kernel_rfl) (by kernel_rfl) (later_start w6) ?_; have hlat := later_cell w6; simp only [List.take_succ_cons, List.take_zero, List.drop_succ_cons, List.drop_zero]; (repeat (go_big_quiet_step ((first | (go_at_call 11; apply later_of; (first | (with_reducible exact at_any) | (apply at_any <;> first | (with_reducible assumption) | (first | omega | (subst_vars; omega) | (simp only [Bool.not_eq_true', Bool.not_eq_false', beq_iff_eq, beq_eq_false_iff_ne, ne_eq, bne_iff_ne, bne_eq_false_iff_eq, Bool.not_eq_true, Bool.not_eq_false, decide_eq_true_eq, decide_eq_false_iff_not, Bool.and_eq_true, Bool.or_eq_true] at *; first | omega | (subst_vars; omega)) | (simp only [Bool.not_eq_true', Bool.not_eq_false', beq_iff_eq, beq_eq_false_iff_ne, ne_eq, bne_iff_ne, bne_eq_false_iff_eq, Bool.not_eq_true, Bool.not_eq_false, decide_eq_true_eq, decide_eq_false_iff_not, Bool.and_eq_true, Bool.or_eq_true, wrap64] at *; first | omega | (subst_vars; omega)))))) | (go_at_call 15; apply later_of; (first | (with_reducible exact is_true) | (apply is_true <;> first | (with_reducible assumption) | (first | omega | (subst_vars; omega) | (simp only [Bool.not_eq_true', Bool.not_eq_false', beq_iff_eq, beq_eq_false_iff_ne, ne_eq, bne_iff_ne, bne_eq_false_iff_eq, Bool.not_eq_true, Bool.not_eq_false, decide_eq_true_eq, decide_eq_false_iff_not, Bool.and_eq_true, Bool.or_eq_true] at *; first | omega | (subst_vars; omega)) | (simp only [Bool.not_eq_true', Bool.not_eq_false', beq_iff_eq, beq_eq_false_iff_ne, ne_eq, bne_iff_ne, bne_eq_false_iff_eq, Bool.not_eq_true, Bool.not_eq_false, decide_eq_true_eq, decide_eq_false_iff_not, Bool.and_eq_true, Bool.or_eq_true, wrap64] at *; first | omega | (subst_vars; omega)))))))))); refine wpQuiet_nil ?_; rintro w' ⟨⟨xq, hb⟩, hxq⟩; have hxq2 : w' = xq := hxq; clear hxq; subst hxq2; clear hlat)
  go_wp2_with fail
  apply Calls.mono
  focus
    refine sameInts_same _ _ [1, 2, 2, 2, 2, 3, 0] 7 _ _ _ rfl (by decide) ?_ ?_
    · exact hi6.step (by repeat (first | exact Below.refl _ _ | apply keep_alloc | apply keep_drew | apply keep_drewN | refine keep_step (by assumption) ?_ (by rfl) | refine keep_set ?_ _ _ (by first | exact Nat.le_refl _ | (show _ ≤ _; simp; done) | (show _ ≤ _; simp; omega))))
    · exact ints_new _ (by simp) (by rfl)
  rintro _ w8 ⟨rfl, hb8⟩
  go_wp2
  refine NoPanic.normal ?_
  go_wp2
  go_ret
  exact ⟨rfl, (by repeat (first | exact Below.refl _ _ | apply keep_alloc | apply keep_drew | apply keep_drewN | refine keep_step (by assumption) ?_ (by rfl) | refine keep_set ?_ _ _ (by first | exact Nat.le_refl _ | (show _ ≤ _; simp; done) | (show _ ≤ _; simp; omega))))⟩
end Go.Proofs.Ytmlalncohkingaa
