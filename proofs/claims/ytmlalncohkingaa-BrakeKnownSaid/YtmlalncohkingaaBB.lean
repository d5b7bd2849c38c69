/- Layer 10: the machine. -/
import Derived.Test.YtmlalncohkingaaBA
import Derived.Test.YtmlalncohkingaaTurn
import Derived.Laws.EntriesVeiled
namespace Go.Proofs.Ytmlalncohkingaa
open Go.RowKit
set_option linter.unusedVariables false

/-- a machine lies in block g -/
def Mach (w : World) (g : Nat) (s l n : Int) : Prop :=
  (w.cell? ⟨g, 0, none⟩ = some (.int .i64 s) ∧ w.cell? ⟨g, 1, none⟩ = some (.int .i64 l) ∧ w.cell? ⟨g, 2, none⟩ = some (.int .i64 n)) ∧
  (w.frozen? ⟨g, 0, none⟩ = false ∧ w.frozen? ⟨g, 1, none⟩ = false ∧ w.frozen? ⟨g, 2, none⟩ = false)

def cS (s l : Int) : Int := if 0 < l - 1 then s else if s = 3 then 0 else if s = 1 then 2 else s
def cL (s l : Int) : Int := if 0 < l - 1 then l - 1 else if s = 3 then 0 else if s = 1 then 0 else l - 1

theorem Mach.set0 {w : World} {g : Nat} {s l n : Int} (h : Mach w g s l n) (x : Int) : Mach (w.setCell ⟨g, 0, none⟩ (.int .i64 x)) g x l n := by
  obtain ⟨⟨h0, h1, h2⟩, f0, f1, f2⟩ := h
  refine ⟨⟨World.cell?_setCell_same _ _ _ h0, (World.cell?_setCell_other _ _ _ _ (by simp)).trans h1, (World.cell?_setCell_other _ _ _ _ (by simp)).trans h2⟩, ?_, ?_, ?_⟩
  all_goals (rw [World.frozen?_setCell]; assumption)
theorem Mach.set1 {w : World} {g : Nat} {s l n : Int} (h : Mach w g s l n) (x : Int) : Mach (w.setCell ⟨g, 1, none⟩ (.int .i64 x)) g s x n := by
  obtain ⟨⟨h0, h1, h2⟩, f0, f1, f2⟩ := h
  refine ⟨⟨(World.cell?_setCell_other _ _ _ _ (by simp)).trans h0, World.cell?_setCell_same _ _ _ h1, (World.cell?_setCell_other _ _ _ _ (by simp)).trans h2⟩, ?_, ?_, ?_⟩
  all_goals (rw [World.frozen?_setCell]; assumption)
theorem Mach.lt {w : World} {g : Nat} {s l n : Int} (h : Mach w g s l n) : g < w.heap.size := World.block_lt_of_cell? w _ h.1.1
theorem Mach.below {w w' : World} {g B : Nat} {s l n : Int} (h : Mach w g s l n) (hb : Below B w w') (hg : g < B) : Mach w' g s l n := by
  obtain ⟨⟨h0, h1, h2⟩, f0, f1, f2⟩ := h
  exact ⟨⟨(hb.cell (p := ⟨g, 0, none⟩) hg).trans h0, (hb.cell (p := ⟨g, 1, none⟩) hg).trans h1, (hb.cell (p := ⟨g, 2, none⟩) hg).trans h2⟩, (hb.frozen (p := ⟨g, 0, none⟩) hg).trans f0, (hb.frozen (p := ⟨g, 1, none⟩) hg).trans f1, (hb.frozen (p := ⟨g, 2, none⟩) hg).trans f2⟩
theorem Mach.made (w : World) (s l n : Int) (T : TypeId) : Mach (w.alloc (.cells #[.int .i64 s, .int .i64 l, .int .i64 n] T)) w.heap.size s l n := by
  refine ⟨⟨?_, ?_, ?_⟩, ?_, ?_, ?_⟩
  all_goals first | exact World.frozen?_alloc_at _ _ _ _ rfl | (rw [World.cell?_alloc_at _ _ _ _ rfl]; rfl)

theorem set_any (g : Nat) (s l n t : Int) (w : World) (hm : Mach w g s l n) :
    Calls Try.prog 44 #[(.pointer (some ⟨g, 0, none⟩)), .int .i64 t] w fun e w' => e = .returned (.tuple #[]) ∧ Mach w' g t 0 n ∧ Turn g w w' := by
  obtain ⟨⟨h0, h1, h2⟩, f0, f1, f2⟩ := id hm
  go_enter Try.func44, Try.ntmps44
  go_wp2
  go_returns
  refine ⟨?_, (hm.set0 _).set1 _, by (repeat (first | exact Turn.refl _ _ | apply Turn.set | apply Turn.alloc | apply Turn.drew | apply Turn.drewN | refine Turn.trans ?_ (by assumption) | refine Turn.below ?_ (by assumption) (by rfl) | refine Turn.setNew ?_ _ _ (by first | exact Nat.le_refl _ | (show _ ≤ _; simp; done) | (show _ ≤ _; simp; omega))))⟩
  rfl

theorem Mach.cast {w : World} {g : Nat} {s l n s' l' : Int} (h : Mach w g s l n) (e1 : s = s') (e2 : l = l') : Mach w g s' l' n := by rw [← e1, ← e2]; exact h
theorem cS_def (s l : Int) : cS s l = if 0 < l - 1 then s else if s = 3 then 0 else if s = 1 then 2 else s := rfl
theorem cL_def (s l : Int) : cL s l = if 0 < l - 1 then l - 1 else if s = 3 then 0 else if s = 1 then 0 else l - 1 := rfl

theorem come_any (g : Nat) (s l n : Int) (w : World) (hm : Mach w g s l n) (hl : -1000 ≤ l ∧ l ≤ 1000) :
    Calls Try.prog 42 #[(.pointer (some ⟨g, 0, none⟩))] w fun e w' => e = .returned (.tuple #[]) ∧ Mach w' g (cS s l) (cL s l) n ∧ Turn g w w' := by
  obtain ⟨⟨h0, h1, h2⟩, f0, f1, f2⟩ := id hm
  have hm1 := hm.set1 (l - 1)
  have D := Lib.hid (And.intro (cS_def s l) (cL_def s l))
  go_enter Try.func42, Try.ntmps42
  go_wp2_with (first | (go_at_call 44; refine (set_any g s (l - 1) n _ _ hm1).mono ?_; rintro e w' ⟨rfl, hm2, ht⟩))
  all_goals go_returns
  all_goals (refine ⟨rfl, ?_, by (repeat (first | exact Turn.refl _ _ | apply Turn.set | apply Turn.alloc | apply Turn.drew | apply Turn.drewN | refine Turn.trans ?_ (by assumption) | refine Turn.below ?_ (by assumption) (by rfl) | refine Turn.setNew ?_ _ _ (by first | exact Nat.le_refl _ | (show _ ≤ _; simp; done) | (show _ ≤ _; simp; omega))))⟩)
  all_goals (first | refine hm2.cast ?_ ?_ | refine hm1.cast ?_ ?_)
  all_goals (have d := D.out; (first | omega | (subst_vars; omega) | (simp only [Bool.not_eq_true', Bool.not_eq_false', beq_iff_eq, beq_eq_false_iff_ne, ne_eq, bne_iff_ne, bne_eq_false_iff_eq, Bool.not_eq_true, Bool.not_eq_false, decide_eq_true_eq, decide_eq_false_iff_not, Bool.and_eq_true, Bool.or_eq_true] at *; first | omega | (subst_vars; omega)) | (simp only [Bool.not_eq_true', Bool.not_eq_false', beq_iff_eq, beq_eq_false_iff_ne, ne_eq, bne_iff_ne, bne_eq_false_iff_eq, Bool.not_eq_true, Bool.not_eq_false, decide_eq_true_eq, decide_eq_false_iff_not, Bool.and_eq_true, Bool.or_eq_true, wrap64] at *; first | omega | (subst_vars; omega))))

def beS (t n : Int) : Int := if n = 0 then (if t = 1 then 2 else 0) else t
theorem begin_any (g : Nat) (s l n t : Int) (w : World) (hm : Mach w g s l n) (ht : t = 1 ∨ t = 3) (hn : 0 ≤ n ∧ n ≤ 5) :
    Calls Try.prog 38 #[(.pointer (some ⟨g, 0, none⟩)), .int .i64 t] w fun e w' => e = .returned (.tuple #[]) ∧ Mach w' g (beS t n) n n ∧ Turn g w w' := by
  obtain ⟨hn1, hn2⟩ := hn
  have HT := Lib.hid ht
  clear ht
  by_cases hn0 : n = 0
  · subst hn0
    go_enter Try.func38, Try.ntmps38
    go_wp2_with fail
    refine (set_any g s l 0 t _ hm).mono ?_
    rintro e w1 ⟨rfl, hm1, ht1⟩
    obtain ⟨⟨h0, h1, h2⟩, f0, f1, f2⟩ := id hm1
    have hm2 := hm1.set1 0
    go_wp2_with (first | (go_at_call 42; refine (come_any g t _ 0 _ hm2 ⟨by omega, by omega⟩).mono ?_; rintro e w' ⟨rfl, hm3, ht2⟩))
    go_returns
    refine ⟨rfl, hm3.cast ?_ ?_, by (repeat (first | exact Turn.refl _ _ | apply Turn.set | apply Turn.alloc | apply Turn.drew | apply Turn.drewN | refine Turn.trans ?_ (by assumption) | refine Turn.below ?_ (by assumption) (by rfl) | refine Turn.setNew ?_ _ _ (by first | exact Nat.le_refl _ | (show _ ≤ _; simp; done) | (show _ ≤ _; simp; omega))))⟩
    all_goals (have ht := HT.out; simp only [cS, cL, beS]; rcases ht with rfl | rfl <;> rfl)
  · have hnb : (n == 0) = false := by simp [hn0]
    have HN := Lib.hid hn0
    clear hn0
    go_enter Try.func38, Try.ntmps38
    go_wp2_with fail
    refine (set_any g s l n t _ hm).mono ?_
    rintro e w1 ⟨rfl, hm1, ht1⟩
    obtain ⟨⟨h0, h1, h2⟩, f0, f1, f2⟩ := id hm1
    have hm2 := hm1.set1 n
    go_wp2
    go_returns
    refine ⟨rfl, hm2.cast ?_ rfl, by (repeat (first | exact Turn.refl _ _ | apply Turn.set | apply Turn.alloc | apply Turn.drew | apply Turn.drewN | refine Turn.trans ?_ (by assumption) | refine Turn.below ?_ (by assumption) (by rfl) | refine Turn.setNew ?_ _ _ (by first | exact Nat.le_refl _ | (show _ ≤ _; simp; done) | (show _ ≤ _; simp; omega))))⟩
    unfold beS
    rw [if_neg HN.out]

theorem hold_any (v : Value) (w : World) : Calls Try.prog 43 #[v] w fun e w' => e = .returned (.tuple #[]) ∧ w = w' := by
  go_enter Try.func43, Try.ntmps43
  go_wp2
  go_returns
  exact ⟨rfl, rfl⟩

/-- a tick of a valid brake; so many ticks -/
def tS (s l : Int) : Int := if 1 < l then s else if s = 1 then 2 else if s = 3 then 0 else s
def tL (s l : Int) : Int := if 1 < l then l - 1 else if s = 1 then 0 else if s = 3 then 0 else l
def it (s l : Int) : Nat → Int × Int
  | 0 => (s, l)
  | k + 1 => (tS (it s l k).1 (it s l k).2, tL (it s l k).1 (it s l k).2)
theorem tick_ok {s l n : Int} (h : chk s l n = 0) : chk (tS s l) (tL s l) n = 0 := by
  unfold chk at *; unfold tS tL; omega
theorem it_ok {s l n : Int} (h : chk s l n = 0) : ∀ k, chk (it s l k).1 (it s l k).2 n = 0
  | 0 => h
  | k + 1 => tick_ok (it_ok h k)

def RunRel (s l n : Int) (g : Nat) (w : World) (ticks : Nat) (v12 : Value) (wr : World) : Prop :=
  ∃ k : Nat, k ≤ ticks ∧ v12 = .int .i64 k ∧ Mach wr g (it s l k).1 (it s l k).2 n ∧ Turn g w wr

theorem tick_come {s l n : Int} (h : chk s l n = 0) (h1 : s = 1 ∨ s = 3) : cS s l = tS s l ∧ cL s l = tL s l := by
  unfold chk at h; unfold cS tS cL tL; omega
theorem tick_hold {s l n : Int} (h : chk s l n = 0) (h1 : s ≠ 1 ∧ s ≠ 3) : s = tS s l ∧ l = tL s l := by
  unfold chk at h; unfold tS tL; omega
theorem chk_rng {s l n : Int} (h : chk s l n = 0) : 0 ≤ s ∧ s ≤ 3 ∧ 0 ≤ l ∧ l ≤ 5 := by unfold chk at h; omega

set_option maxHeartbeats 2000000 in
theorem run_any (g : Nat) (s l n : Int) (ticks : Nat) (w : World) (hm : Mach w g s l n) (hv : chk s l n = 0) (ht : ticks ≤ 1000) :
    Calls Try.prog 36 #[(.pointer (some ⟨g, 0, none⟩)), .int .i64 ticks] w fun e w' => e = .returned (.tuple #[]) ∧ Mach w' g (it s l ticks).1 (it s l ticks).2 n ∧ Turn g w w' := by
  obtain ⟨⟨h0, h1, h2⟩, f0, f1, f2⟩ := id hm
  have hg := hm.lt
  have HV := Lib.hid hv
  clear hv
  go_enter Try.func36, Try.ntmps36
  go_wp2
  obtain ⟨w1, hw1⟩ : ∃ w1, w1 = w.alloc (.cells #[.func (.func 42) #[(.pointer (some ⟨g, 0, none⟩))] #[], .func (.func 43) #[(.pointer (some ⟨g, 0, none⟩))] #[]] 57) := ⟨_, rfl⟩
  rw [← hw1]
  have b0 : w1.cell? ⟨w.heap.size, 0, none⟩ = some (.func (.func 42) #[(.pointer (some ⟨g, 0, none⟩))] #[]) := by rw [hw1, World.cell?_alloc_at _ _ _ _ rfl]; rfl
  have b1 : w1.cell? ⟨w.heap.size, 1, none⟩ = some (.func (.func 43) #[(.pointer (some ⟨g, 0, none⟩))] #[]) := by rw [hw1, World.cell?_alloc_at _ _ _ _ rfl]; rfl
  have ht1 : Turn g w w1 := by rw [hw1]; exact (Turn.refl _ _).alloc _
  have hm1 : Mach w1 g s l n := by rw [hw1]; exact hm.below ((Below.refl w.heap.size w).alloc (Nat.le_refl _) _) hg
  have hz1 : w.heap.size < w1.heap.size := World.block_lt_of_cell? w1 _ b0
  have hne : w.heap.size ≠ g := by omega
  clear hw1 h0 h1 h2 f0 f1 f2
  go_loopw [12] (RunRel s l n g w1 ticks) (fun v _ => ticks - (intOf v).toNat)
  case atStart => exact ⟨0, by omega, rfl, hm1, Turn.refl _ _⟩
  case round =>
    obtain ⟨k, hk, rfl, hmk, htk⟩ := hrel
    have hvk := it_ok HV.out k
    obtain ⟨s0, s1, l0, l1⟩ := chk_rng hvk
    obtain ⟨tc, tf⟩ := turn_cell htk
    have c0 := (tc _ 0 hz1 hne).trans b0
    have c1 := (tc _ 1 hz1 hne).trans b1
    clear tc tf
    have STEP : Hid ((it s l (k + 1)).1 = tS (it s l k).1 (it s l k).2 ∧ (it s l (k + 1)).2 = tL (it s l k).1 (it s l k).2) := Lib.hid ⟨rfl, rfl⟩
    by_cases hlt : k < ticks
    · generalize it s l k = p at *
      obtain ⟨sk, lk⟩ := p
      simp only at hvk s0 s1 l0 l1 hmk STEP
      obtain ⟨⟨h0, h1, h2⟩, f0, f1, f2⟩ := id hmk
      by_cases h13 : sk = 1 ∨ sk = 3
      · have TC := Lib.hid (tick_come hvk h13)
        have hb13 : (sk == 1) = true ∨ ((sk == 1) = false ∧ (sk == 3) = true) := by rcases h13 with rfl | rfl <;> simp
        clear h13 hvk
        rcases hb13 with hb1 | ⟨hb1, hb3⟩
        all_goals
          go_wp2_with (first | (go_at_call 42; refine (come_any g sk lk n _ hmk ⟨by omega, by omega⟩).mono ?_; rintro e w' ⟨rfl, hm3, ht2⟩))
          exact ⟨⟨k + 1, by omega, by go_num, hm3.cast (by rw [TC.out.1, STEP.out.1]) (by rw [TC.out.2, STEP.out.2]), by (repeat (first | exact Turn.refl _ _ | apply Turn.set | apply Turn.alloc | apply Turn.drew | apply Turn.drewN | refine Turn.trans ?_ (by assumption) | refine Turn.below ?_ (by assumption) (by rfl) | refine Turn.setNew ?_ _ _ (by first | exact Nat.le_refl _ | (show _ ≤ _; simp; done) | (show _ ≤ _; simp; omega))))⟩, by simp [intOf]; omega⟩
      · have TC := Lib.hid (tick_hold hvk ⟨fun e => h13 (.inl e), fun e => h13 (.inr e)⟩)
        have hb1 : (sk == 1) = false := by simp; omega
        have hb3 : (sk == 3) = false := by simp; omega
        clear h13 hvk
        go_wp2_with (first | (go_at_call 43; refine (hold_any _ _).mono ?_; rintro e w' ⟨rfl, rfl⟩))
        exact ⟨⟨k + 1, by omega, by go_num, hmk.cast (by rw [STEP.out.1, ← TC.out.1]) (by rw [STEP.out.2, ← TC.out.2]), by (repeat (first | exact Turn.refl _ _ | apply Turn.set | apply Turn.alloc | apply Turn.drew | apply Turn.drewN | refine Turn.trans ?_ (by assumption) | refine Turn.below ?_ (by assumption) (by rfl) | refine Turn.setNew ?_ _ _ (by first | exact Nat.le_refl _ | (show _ ≤ _; simp; done) | (show _ ≤ _; simp; omega))))⟩, by simp [intOf]; omega⟩
    · have hkt : k = ticks := by omega
      subst hkt
      go_wp2
      go_returns
      exact ⟨rfl, hmk, by (repeat (first | exact Turn.refl _ _ | apply Turn.set | apply Turn.alloc | apply Turn.drew | apply Turn.drewN | refine Turn.trans ?_ (by assumption) | refine Turn.below ?_ (by assumption) (by rfl) | refine Turn.setNew ?_ _ _ (by first | exact Nat.le_refl _ | (show _ ≤ _; simp; done) | (show _ ≤ _; simp; omega))))⟩
end Go.Proofs.Ytmlalncohkingaa
