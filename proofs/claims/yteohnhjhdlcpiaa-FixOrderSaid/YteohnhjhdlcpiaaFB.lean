/- Layer 1: wide numbers: widen, add, negate. -/
import Derived.Test.YteohnhjhdlcpiaaFA
import Derived.Test.YteohnhjhdlcpiaaLater
import Derived.Test.YteohnhjhdlcpiaaH
import Derived.Test.YteohnhjhdlcpiaaTurn
import Derived.Laws.Externs
import Derived.Laws.BitsAllLaws
import Derived.Lib.Zigzag
namespace Go.Proofs.Yteohnhjhdlcpiaa
open Go.RowKit
set_option linter.unusedVariables false

def Out2 (a b : Int) (w : World) (e : Ending) (w' : World) : Prop := e = .returned (.tuple #[.int .i64 a, .int .i64 b]) ∧ Below w.heap.size w w'
theorem out2 {a b a' b' : Int} {w w' : World} (h1 : a = a') (h2 : b = b') (hb : Below w.heap.size w w') : Out2 a' b' w (.returned (.tuple #[.int .i64 a, .int .i64 b])) w' := by
  subst h1; subst h2; exact ⟨rfl, hb⟩
theorem add64_law (x y c : Int) (hx : 0 ≤ x) (hy : 0 ≤ y) (hc0 : 0 ≤ c) (hc : c ≤ 1) (w : World) :
    (callFunc 59 #[.int .u64 x, .int .u64 y, .int .u64 c]).run Try.prog w = .ok (.value (.tuple #[.int .u64 ((x + y + c) % 18446744073709551616), .int .u64 ((x + y + c) / 18446744073709551616)])) w := by
  rw [run_callFunc_extern Try.func59 (by kernel_rfl) (by kernel_rfl) (by kernel_rfl) (e := add64Entry) (by kernel_rfl), run_add64 x y c hx hy hc0 hc]
  rfl

/-- the block of a wide number -/
def Wd (w : World) (g : Nat) (h l : Int) : Prop :=
  (w.cell? ⟨g, 0, none⟩ = some (.int .u64 h) ∧ w.cell? ⟨g, 1, none⟩ = some (.int .u64 l)) ∧ (w.frozen? ⟨g, 0, none⟩ = false ∧ w.frozen? ⟨g, 1, none⟩ = false)
theorem Wd.lt {w : World} {g : Nat} {s l : Int} (h : Wd w g s l) : g < w.heap.size := World.block_lt_of_cell? w _ h.1.1
theorem Wd.put {w : World} {g : Nat} {s l : Int} (h : Wd w g s l) (x y : Int) : Wd ((w.setCell ⟨g, 0, none⟩ (.int .u64 x)).setCell ⟨g, 1, none⟩ (.int .u64 y)) g x y := by
  obtain ⟨⟨h0, h1⟩, f0, f1⟩ := h
  refine ⟨set2 h0 h1, ?_, ?_⟩
  all_goals (rw [World.frozen?_setCell, World.frozen?_setCell]; assumption)
theorem Wd.below {w w' : World} {g B : Nat} {s l : Int} (h : Wd w g s l) (hb : Below B w w') (hg : g < B) : Wd w' g s l := by
  obtain ⟨⟨h0, h1⟩, f0, f1⟩ := h
  exact ⟨⟨(hb.cell (p := ⟨g, 0, none⟩) hg).trans h0, (hb.cell (p := ⟨g, 1, none⟩) hg).trans h1⟩, (hb.frozen (p := ⟨g, 0, none⟩) hg).trans f0, (hb.frozen (p := ⟨g, 1, none⟩) hg).trans f1⟩
theorem Wd.turn {w w' : World} {g g' : Nat} {s l : Int} (h : Wd w g s l) (t : Turn g' w w') (hg : g ≠ g') : Wd w' g s l := by
  have hlt := h.lt
  obtain ⟨⟨h0, h1⟩, f0, f1⟩ := h
  obtain ⟨tc, tf⟩ := turn_cell t
  exact ⟨⟨(tc g 0 hlt hg).trans h0, (tc g 1 hlt hg).trans h1⟩, (tf g 0 hlt hg).trans f0, (tf g 1 hlt hg).trans f1⟩
theorem Wd.made (w : World) (s l : Int) (T : TypeId) : Wd (w.alloc (.cells #[.int .u64 s, .int .u64 l] T)) w.heap.size s l := by
  refine ⟨⟨?_, ?_⟩, ?_, ?_⟩
  all_goals first | exact World.frozen?_alloc_at _ _ _ _ rfl | (rw [World.cell?_alloc_at _ _ _ _ rfl]; rfl)
theorem Wd.putR {w : World} {g : Nat} {s l : Int} (h : Wd w g s l) (x y : Int) : Wd ((w.setCell ⟨g, 1, none⟩ (.int .u64 y)).setCell ⟨g, 0, none⟩ (.int .u64 x)) g x y := by
  obtain ⟨⟨h0, h1⟩, f0, f1⟩ := h
  refine ⟨⟨World.cell?_setCell_same _ _ _ ((World.cell?_setCell_other _ _ _ _ (by simp)).trans h0), (World.cell?_setCell_other _ _ _ _ (by simp)).trans (World.cell?_setCell_same _ _ _ h1)⟩, ?_, ?_⟩
  all_goals (rw [World.frozen?_setCell, World.frozen?_setCell]; assumption)
theorem Wd.cast {w : World} {g : Nat} {s l s' l' : Int} (h : Wd w g s l) (e1 : s = s') (e2 : l = l') : Wd w g s' l' := by rw [← e1, ← e2]; exact h

set_option maxHeartbeats 4000000 in
theorem padd0 (g : Nat) (h l a b : Int) (w : World) (hm : Wd w g h l) (hh : 0 ≤ h) (hl : 0 ≤ l) (ha : 0 ≤ a) (hb : 0 ≤ b) (hb2 : l + b < 36893488147419103232) :
    Calls Try.prog 46 #[.pointer (some ⟨g, 0, none⟩), (.agg #[.int .u64 (a), .int .u64 (b)])] w fun e w' => e = .returned (.tuple #[]) ∧ Wd w' g ((h + a + (l + b) / 18446744073709551616) % 18446744073709551616) ((l + b) % 18446744073709551616) ∧ Turn g w w' := by
  have hgw := hm.lt
  obtain ⟨w1, hw1⟩ : ∃ w1, w1 = w.alloc (.cells #[.int .u64 a, .int .u64 b] 53) := ⟨_, rfl⟩
  have ht1 : Turn g w w1 := by rw [hw1]; exact (Turn.refl g w).alloc _
  have hb1 : Below w.heap.size w w1 := by rw [hw1]; exact (by repeat (first | exact Below.refl _ _ | apply keep_alloc | apply keep_drew | apply keep_drewN | refine keep_step (by assumption) ?_ (by rfl) | refine keep_set ?_ _ _ (by first | exact Nat.le_refl _ | (show _ ≤ _; simp; done) | (show _ ≤ _; simp; omega))))
  have hm1 := hm.below hb1 hgw
  have hx1 : Wd w1 w.heap.size a b := by rw [hw1]; exact Wd.made _ _ _ _
  obtain ⟨⟨c0, c1⟩, f0, f1⟩ := id hm1
  obtain ⟨⟨x0, x1⟩, x2, x3⟩ := id hx1
  have hsz : w.heap.size < w1.heap.size := hx1.lt
  have hgw1 : g < w1.heap.size := hm1.lt
  have A1 := fun W => add64_law l b 0 hl hb (by omega) (by omega) W
  have A2 := fun W => add64_law h a ((l + b) / 18446744073709551616) hh ha (by omega) (by omega) W
  go_enter Try.func46, Try.ntmps46
  go_wp2
  rw [← hw1]
  clear hw1
  go_quiet (fail)
  go_wp2
  go_quiet (fail)
  go_wp2
  go_returns
  exact ⟨rfl, (hm1.below (B := w1.heap.size) (below_drewN (Below.refl _ _) _) hgw1).put _ _, by (repeat (first | exact Turn.refl _ _ | apply Turn.set | apply Turn.alloc | apply Turn.drew | apply Turn.drewN | refine Turn.trans ?_ (by assumption) | refine Turn.below ?_ (by assumption) (by rfl) | refine Turn.setNew ?_ _ _ (by first | exact Nat.le_refl _ | (show _ ≤ _; simp; done) | (show _ ≤ _; simp; omega))))⟩

/-- the block holds an exact integer -/
def Num (w : World) (g : Nat) (v : Int) : Prop := Wd w g (HI v) (LO v)
theorem Num.lt {w : World} {g : Nat} {v : Int} (h : Num w g v) : g < w.heap.size := Wd.lt h
theorem padd (g : Nat) (v u : Int) (w : World) (hm : Num w g v) :
    Calls Try.prog 46 #[.pointer (some ⟨g, 0, none⟩), (.agg #[.int .u64 (HI u), .int .u64 (LO u)])] w fun e w' => e = .returned (.tuple #[]) ∧ Num w' g (v + u) ∧ Turn g w w' := by
  have h1 := hi_rng v
  have h2 := lo_rng v
  have h3 := hi_rng u
  have h4 := lo_rng u
  obtain ⟨e1, e2⟩ := w_add v u
  exact (padd0 g _ _ _ _ w hm h1.1 h2.1 h3.1 h4.1 (by omega)).mono fun e w' ⟨he, hw, ht⟩ => ⟨he, Wd.cast hw e1 e2, ht⟩

theorem pwiden (n : Int) (w : World) (h64 : In64 n) : Calls Try.prog 44 #[.int .i64 n] w fun e w' => e = .returned (.agg #[.int .u64 (HI n), .int .u64 (LO n)]) ∧ Below w.heap.size w w' := by
  obtain ⟨e1, e2⟩ := w_of h64
  have E1 := Lib.hid e1
  have E2 := Lib.hid e2
  have y0 := ((((show Below ((w.alloc (.cells #[.int .u64 0, .int .u64 0] 53))).heap.size ((w.alloc (.cells #[.int .u64 0, .int .u64 0] 53))) (w.alloc (.cells #[.int .u64 0, .int .u64 0] 53)) from (by repeat (first | exact Below.refl _ _ | apply keep_alloc | apply keep_drew | apply keep_drewN | refine keep_step (by assumption) ?_ (by rfl) | refine keep_set ?_ _ _ (by first | exact Nat.le_refl _ | (show _ ≤ _; simp; done) | (show _ ≤ _; simp; omega))))).cell (p := ⟨w.heap.size, 0, none⟩) (by simp <;> omega)).trans (by simp [go_sem])) : ((w.alloc (.cells #[.int .u64 0, .int .u64 0] 53))).cell? ⟨w.heap.size, 0, none⟩ = some (.int .u64 0))
  have y1 := ((((show Below ((w.alloc (.cells #[.int .u64 0, .int .u64 0] 53))).heap.size ((w.alloc (.cells #[.int .u64 0, .int .u64 0] 53))) (w.alloc (.cells #[.int .u64 0, .int .u64 0] 53)) from (by repeat (first | exact Below.refl _ _ | apply keep_alloc | apply keep_drew | apply keep_drewN | refine keep_step (by assumption) ?_ (by rfl) | refine keep_set ?_ _ _ (by first | exact Nat.le_refl _ | (show _ ≤ _; simp; done) | (show _ ≤ _; simp; omega))))).cell (p := ⟨w.heap.size, 1, none⟩) (by simp <;> omega)).trans (by simp [go_sem])) : ((w.alloc (.cells #[.int .u64 0, .int .u64 0] 53))).cell? ⟨w.heap.size, 1, none⟩ = some (.int .u64 0))
  obtain ⟨n1, n2⟩ := h64
  clear e1 e2
  go_enter Try.func44, Try.ntmps44
  go_wp2
  refine bodyPost_ret (v := (.agg #[.int .u64 (HI n), .int .u64 (LO n)])) (by simp [results, Try.results44, go_sem, set2 y0 y1, E1.out, E2.out, IntKind.wrap_u64]) rfl ?_
  exact ⟨rfl, (by repeat (first | exact Below.refl _ _ | apply keep_alloc | apply keep_drew | apply keep_drewN | refine keep_step (by assumption) ?_ (by rfl) | refine keep_set ?_ _ _ (by first | exact Nat.le_refl _ | (show _ ≤ _; simp; done) | (show _ ≤ _; simp; omega))))⟩

theorem not_u64 (x : Int) (h0 : 0 ≤ x) (h1 : x < 18446744073709551616) : bits .xor .u64 IntKind.u64.max x = 18446744073709551615 - x := by
  obtain ⟨n, rfl⟩ := Int.eq_ofNat_of_zero_le h0
  have e := Lib.xor_ones64 n (by omega)
  rw [show IntKind.u64.max = ((18446744073709551615 : Nat) : Int) by decide, u64_xor_nat _ _ (by omega) (by omega)]
  have e2 : (18446744073709551615 : Nat) ^^^ n = 18446744073709551615 - n := e
  rw [e2]; omega

set_option maxHeartbeats 4000000 in
theorem pnegate (g : Nat) (v : Int) (w : World) (hm : Num w g v) :
    Calls Try.prog 45 #[.pointer (some ⟨g, 0, none⟩)] w fun e w' => e = .returned (.tuple #[]) ∧ Num w' g (-v) ∧ Turn g w w' := by
  obtain ⟨⟨c0, c1⟩, f0, f1⟩ := id hm
  have hgw : g < w.heap.size := hm.lt
  obtain ⟨h0, h1⟩ := hi_rng v
  obtain ⟨l0, l1⟩ := lo_rng v
  go_enter Try.func45, Try.ntmps45
  go_wp2
  have X0 := not_u64 _ h0 h1
  have X1 := not_u64 _ l0 l1
  obtain ⟨n1, n2⟩ := w_not v
  rw [n1] at X0
  rw [n2] at X1
  go_region_with (fail)
  all_goals
    simp only [show IntKind.u64.signed = false from rfl, if_false, Bool.false_eq_true, X0, X1]
    first
    | obtain ⟨w2, hw2⟩ : ∃ w2, w2 = ((w.setCell ⟨g, 0, none⟩ (.int .u64 (HI (-v - 1)))).setCell ⟨g, 1, none⟩ (.int .u64 (LO (-v - 1)))).drew := ⟨_, rfl⟩
      rw [← hw2]
      have hm2 : Num w2 g (-v - 1) := by
        rw [hw2]
        exact Wd.below (hm.put (HI (-v - 1)) (LO (-v - 1))) (keep_drew (Below.refl _ _)) (by simpa using hgw)
      have ht2 : Turn g w w2 := by rw [hw2]; (repeat (first | exact Turn.refl _ _ | apply Turn.set | apply Turn.alloc | apply Turn.drew | apply Turn.drewN | refine Turn.trans ?_ (by assumption) | refine Turn.below ?_ (by assumption) (by rfl) | refine Turn.setNew ?_ _ _ (by first | exact Nat.le_refl _ | (show _ ≤ _; simp; done) | (show _ ≤ _; simp; omega))))
    | obtain ⟨w2, hw2⟩ : ∃ w2, w2 = ((w.setCell ⟨g, 1, none⟩ (.int .u64 (LO (-v - 1)))).setCell ⟨g, 0, none⟩ (.int .u64 (HI (-v - 1)))).drew := ⟨_, rfl⟩
      rw [← hw2]
      have hm2 : Num w2 g (-v - 1) := by
        rw [hw2]
        exact Wd.below (Wd.putR hm (HI (-v - 1)) (LO (-v - 1))) (keep_drew (Below.refl _ _)) (by simpa using hgw)
      have ht2 : Turn g w w2 := by rw [hw2]; (repeat (first | exact Turn.refl _ _ | apply Turn.set | apply Turn.alloc | apply Turn.drew | apply Turn.drewN | refine Turn.trans ?_ (by assumption) | refine Turn.below ?_ (by assumption) (by rfl) | refine Turn.setNew ?_ _ _ (by first | exact Nat.le_refl _ | (show _ ≤ _; simp; done) | (show _ ≤ _; simp; omega))))
    have hlt2 := hm2.lt
    clear hw2
    go_wp2_with fail
    refine (pwiden 1 _ (by unfold In64; omega)).mono ?_
    rintro _ w3 ⟨rfl, hb3⟩
    go_wp2_with fail
    refine (padd g (-v - 1) 1 _ (Wd.below hm2 hb3 hlt2)).mono ?_
    rintro _ w4 ⟨rfl, hm4, ht4⟩
    rw [show -v - 1 + 1 = -v by omega] at hm4
    go_wp2
    go_returns
    exact ⟨rfl, hm4, by (repeat (first | exact Turn.refl _ _ | apply Turn.set | apply Turn.alloc | apply Turn.drew | apply Turn.drewN | refine Turn.trans ?_ (by assumption) | refine Turn.below ?_ (by assumption) (by rfl) | refine Turn.setNew ?_ _ _ (by first | exact Nat.le_refl _ | (show _ ≤ _; simp; done) | (show _ ≤ _; simp; omega))))⟩
end Go.Proofs.Yteohnhjhdlcpiaa
