/- Layer 1: quotients: outward, split. -/
import Derived.Test.YteohnhjhdlcpiaaFE
namespace Go.Proofs.Yteohnhjhdlcpiaa
open Go.RowKit
set_option linter.unusedVariables false

/-- whether a quotient q with the rest r moves away from 0 -/
def upB (q r by' : Int) (neg : Bool) (how : Int) : Bool :=
  if how = 3 then (if r ≠ by' - r then decide (by' - r < r) else decide (q % 2 = 1)) else if how = 2 then !neg else neg

theorem and1 (q : Int) : bits .and .u64 (LO q) 1 = q % 2 := by
  obtain ⟨h0, h1⟩ := lo_rng q
  rw [u64_and _ _ h0 h1 (by omega) (by omega)]
  have e : (1 : Int).toNat = 1 := rfl
  rw [e, Nat.and_one_is_mod]
  unfold LO at h0 ⊢
  omega

set_option maxHeartbeats 4000000 in
theorem poutward (q r by' : Int) (neg : Bool) (how : Int) (w : World) (hr : 0 ≤ r) (hrb : r < by') (hb2 : by' ≤ 9223372036854775808) (hhow : how = 1 ∨ how = 2 ∨ how = 3) :
    Calls Try.prog 53 #[(.agg #[.int .u64 (HI q), .int .u64 (LO q)]), .int .u64 r, .int .u64 by', .bool neg, .int .i64 how] w fun e w' => e = .returned (.bool (upB q r by' neg how)) ∧ Below w.heap.size w w' := by
  have HA := and1 q
  rcases hhow with rfl | rfl | rfl
  · go_enter Try.func53, Try.ntmps53
    go_wp2
    go_ret
    exact ⟨rfl, (by repeat (first | exact Below.refl _ _ | apply keep_alloc | apply keep_drew | apply keep_drewN | refine keep_step (by assumption) ?_ (by rfl) | refine keep_set ?_ _ _ (by first | exact Nat.le_refl _ | (show _ ≤ _; simp; done) | (show _ ≤ _; simp; omega))))⟩
  · go_enter Try.func53, Try.ntmps53
    go_wp2
    go_ret
    exact ⟨rfl, (by repeat (first | exact Below.refl _ _ | apply keep_alloc | apply keep_drew | apply keep_drewN | refine keep_step (by assumption) ?_ (by rfl) | refine keep_set ?_ _ _ (by first | exact Nat.le_refl _ | (show _ ≤ _; simp; done) | (show _ ≤ _; simp; omega))))⟩
  · by_cases h : r = by' - r
    · have hb0 : (r != by' - r) = false := by rw [← h]; simp
      have U : Hid (upB q r by' neg 3 = decide (q % 2 = 1)) := Lib.hid (by unfold upB; rw [if_pos rfl, if_neg (by simp [← h])])
      have h3 : r + r = by' := by omega
      clear h
      go_enter Try.func53, Try.ntmps53
      go_wp2
      go_ret
      exact ⟨by rw [U.out]; rfl, (by repeat (first | exact Below.refl _ _ | apply keep_alloc | apply keep_drew | apply keep_drewN | refine keep_step (by assumption) ?_ (by rfl) | refine keep_set ?_ _ _ (by first | exact Nat.le_refl _ | (show _ ≤ _; simp; done) | (show _ ≤ _; simp; omega))))⟩
    · have hb0 : (r != by' - r) = true := by simp [h]
      have U : Hid (upB q r by' neg 3 = decide (by' - r < r)) := Lib.hid (by unfold upB; rw [if_pos rfl, if_pos h])
      clear h
      go_enter Try.func53, Try.ntmps53
      go_wp2
      go_ret
      exact ⟨by rw [U.out]; rfl, (by repeat (first | exact Below.refl _ _ | apply keep_alloc | apply keep_drew | apply keep_drewN | refine keep_step (by assumption) ?_ (by rfl) | refine keep_set ?_ _ _ (by first | exact Nat.le_refl _ | (show _ ≤ _; simp; done) | (show _ ≤ _; simp; omega))))⟩

theorem pdiv0 (l y : Int) (w : World) (hl : 0 ≤ l) (hl2 : l < 18446744073709551616) (hy : 1 ≤ y) : Calls Try.prog 62 #[.int .u64 0, .int .u64 l, .int .u64 y] w fun e w' => e = .returned (.tuple #[.int .u64 (l / y), .int .u64 (l % y)]) ∧ Below w.heap.size w w' := by
  have e0 : l.tdiv y = l / y := Int.tdiv_eq_ediv_of_nonneg hl
  have e1 : 0 ≤ l / y := Int.ediv_nonneg hl (by omega)
  have e2 : l / y ≤ l := Int.ediv_le_self _ hl
  have e3 : IntKind.u64.wrap (l.tdiv y) = l / y := by rw [e0, IntKind.wrap_u64]; omega
  have E3 := Lib.hid e3
  clear e0 e1 e2 e3
  go_enter Try.func62, Try.ntmps62
  go_wp2
  go_quiet (fail)
  go_wp2
  go_ret2
  exact ⟨by rw [← E3.out]; rfl, (by repeat (first | exact Below.refl _ _ | apply keep_alloc | apply keep_drew | apply keep_drewN | refine keep_step (by assumption) ?_ (by rfl) | refine keep_set ?_ _ _ (by first | exact Nat.le_refl _ | (show _ ≤ _; simp; done) | (show _ ≤ _; simp; omega))))⟩

/-- a split that is right: of this number by this one -/
def SplitOK (p y : Int) : Prop := ∀ (g : Nat) (W : World), Num W g p → Calls Try.prog 52 #[.pointer (some ⟨g, 0, none⟩), .int .u64 y] W fun e w' => e = .returned (.int .u64 (p % y)) ∧ Num w' g (p / y) ∧ Turn g W w'


set_option maxHeartbeats 4000000 in
theorem psplit (p y : Int) (h0 : 0 ≤ p) (hp : Is127 p) (hy : 1 ≤ y) (hy2 : y ≤ 9223372036854775808)
    (hD : ∀ W, Calls Try.prog 62 #[.int .u64 (HI p % y), .int .u64 (LO p), .int .u64 y] W fun e w' => e = .returned (.tuple #[.int .u64 (LO (p / y)), .int .u64 (p % y)]) ∧ Below W.heap.size W w') : SplitOK p y := by
  intro g W hn
  obtain ⟨s1, _, _, _, _⟩ := w_split h0 hp hy hy2
  obtain ⟨h1, h2⟩ := hi_rng p
  have E3 := Lib.hid s1
  have HD := Lib.hid hD
  have hlt := hn.lt
  obtain ⟨⟨c0, c1⟩, f0, f1⟩ := id hn
  obtain ⟨l0, l1⟩ := lo_rng p
  clear s1 hD
  go_enter Try.func52, Try.ntmps52
  go_wp2
  go_region_with (first | (go_at_call 62; refine (HD.out _).mono ?_; rintro _ w3 ⟨rfl, hb3⟩; obtain ⟨hc, hf⟩ := bcell (show Below W.heap.size W w3 from (by repeat (first | exact Below.refl _ _ | apply keep_alloc | apply keep_drew | apply keep_drewN | refine keep_step (by assumption) ?_ (by rfl) | refine keep_set ?_ _ _ (by first | exact Nat.le_refl _ | (show _ ≤ _; simp; done) | (show _ ≤ _; simp; omega)))))))
  all_goals
    have hm3 : Wd w3 g (HI p) (LO p) := hn.below (show Below W.heap.size W w3 from (by repeat (first | exact Below.refl _ _ | apply keep_alloc | apply keep_drew | apply keep_drewN | refine keep_step (by assumption) ?_ (by rfl) | refine keep_set ?_ _ _ (by first | exact Nat.le_refl _ | (show _ ≤ _; simp; done) | (show _ ≤ _; simp; omega))))) hlt
    have ht3 : Turn g W w3 := by (repeat (first | exact Turn.refl _ _ | apply Turn.set | apply Turn.alloc | apply Turn.drew | apply Turn.drewN | refine Turn.trans ?_ (by assumption) | refine Turn.below ?_ (by assumption) (by rfl) | refine Turn.setNew ?_ _ _ (by first | exact Nat.le_refl _ | (show _ ≤ _; simp; done) | (show _ ≤ _; simp; omega))))
    go_wp2
    go_ret
    refine ⟨rfl, ?_, by (repeat (first | exact Turn.refl _ _ | apply Turn.set | apply Turn.alloc | apply Turn.drew | apply Turn.drewN | refine Turn.trans ?_ (by assumption) | refine Turn.below ?_ (by assumption) (by rfl) | refine Turn.setNew ?_ _ _ (by first | exact Nat.le_refl _ | (show _ ≤ _; simp; done) | (show _ ≤ _; simp; omega))))⟩
    rw [E3.out]
    exact hm3.putR _ _
theorem split_small {p y : Int} (h0 : 0 ≤ p) (hp : p < 18446744073709551616) (hy : 1 ≤ y) (hy2 : y ≤ 9223372036854775808) : SplitOK p y := by
  have e0 : HI p = 0 := by unfold HI; omega
  have e1 : LO p = p := by unfold LO; omega
  have d0 : 0 ≤ p / y := Int.ediv_nonneg h0 (by omega)
  have d1 : p / y ≤ p := Int.ediv_le_self _ h0
  have e2 : LO (p / y) = p / y := by unfold LO; omega
  refine psplit p y h0 (by unfold Is127; omega) hy hy2 fun W => ?_
  rw [e0, e1, e2, Int.zero_emod]
  exact pdiv0 p y W h0 hp hy
end Go.Proofs.Yteohnhjhdlcpiaa
