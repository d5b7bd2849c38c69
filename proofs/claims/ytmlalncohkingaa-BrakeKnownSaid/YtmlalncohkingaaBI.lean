/- Layer 10: the reference's States. -/
import Derived.Test.YtmlalncohkingaaBH
namespace Go.Proofs.Ytmlalncohkingaa
open Go.RowKit
set_option linter.unusedVariables false

def SrRel (a b : Nat) (g : Nat) (w1 : World) (v7 v8 : Value) (wr : World) : Prop :=
  ∃ k : Nat, k ≤ 2 * a + b ∧ v8 = .int .i64 k ∧ Brk wr g (sp a b k).1 (sp a b k).2 ∧ Mine w1.heap.size wr v7 (sts a b k) ∧ Turn g w1 wr

/-- both cells of the brake stored anew -/
theorem Brk.sets {w : World} {g : Nat} {s l : Int} (h : Brk w g s l) {x y : Int} {w' : World} (e : w' = (w.setCell ⟨g, 0, none⟩ (.int .i64 x)).setCell ⟨g, 1, none⟩ (.int .i64 y)) : Brk w' g x y ∧ Turn g w w' := by
  rw [e]; exact ⟨h.put x y, by (repeat (first | exact Turn.refl _ _ | apply Turn.set | apply Turn.alloc | apply Turn.drew | apply Turn.drewN | refine Turn.trans ?_ (by assumption) | refine Turn.below ?_ (by assumption) (by rfl) | refine Turn.setNew ?_ _ _ (by first | exact Nat.le_refl _ | (show _ ≤ _; simp; done) | (show _ ≤ _; simp; omega))))⟩

set_option maxHeartbeats 16000000 in
theorem rStates (n t : Int) (w : World) : Calls Try.prog 33 #[.int .i64 n, .int .i64 t] w (OutInts (stOut n t) (stE n t) w) := by
  by_cases hbad : n < 0 ∨ 5 < n ∨ t < 0 ∨ 1000 < t
  · have e1 : stE n t = 2 := by unfold stE; rw [if_pos hbad]
    have e2 : stOut n t = [] := by unfold stOut; rw [e1]; rfl
    rw [e1, e2]
    have hb2 : n < 0 ∨ (0 ≤ n ∧ 5 < n) ∨ (0 ≤ n ∧ n ≤ 5 ∧ t < 0) ∨ (0 ≤ n ∧ n ≤ 5 ∧ 0 ≤ t ∧ 1000 < t) := by omega
    clear hbad e1 e2
    rcases hb2 with h1 | ⟨h1, h2⟩ | ⟨h1, h2, h3⟩ | ⟨h1, h2, h3, h4⟩
    all_goals
      go_enter Try.func33, Try.ntmps33
      go_wp2
      go_ret2
      exact outMine (B := 0) (Mine.nil _ _) (by repeat (first | exact Below.refl _ _ | apply keep_alloc | apply keep_drew | apply keep_drewN | refine keep_step (by assumption) ?_ (by rfl) | refine keep_set ?_ _ _ (by first | exact Nat.le_refl _ | (show _ ≤ _; simp; done) | (show _ ≤ _; simp; omega))))
  · obtain ⟨a, rfl⟩ : ∃ a : Nat, n = a := ⟨n.toNat, by omega⟩
    obtain ⟨b, rfl⟩ : ∃ b : Nat, t = b := ⟨t.toNat, by omega⟩
    have e1 : stE a b = 0 := by unfold stE; rw [if_neg hbad]
    have e2 : stOut a b = sts a b (2 * a + b) := by unfold stOut; rw [if_pos e1]; rfl
    rw [e1, e2]
    have ha : a ≤ 5 := by omega
    have hb : b ≤ 1000 := by omega
    have hbe1 : (if (a : Int) = 0 then (2 : Int) else 1) = (sp a b 0).1 := by simp only [sp]; unfold beS; rfl
    have HBE1 := Lib.hid hbe1
    have HBE3 : Hid ((if (a : Int) = 0 then (0 : Int) else 3) = beS 3 a) := Lib.hid (by unfold beS; rfl)
    clear hbad e1 e2 hbe1
    go_enter Try.func33, Try.ntmps33
    go_wp2_with fail
    refine (rbegun 1 2 a _).mono ?_
    rintro _ w0 ⟨rfl, hb0⟩
    rw [HBE1.out]
    go_wp2
    obtain ⟨w1, hw1⟩ : ∃ w1, w1 = w0.alloc (.cells #[.int .i64 (sp a b 0).1, .int .i64 a] 23) := ⟨_, rfl⟩
    rw [← hw1]
    obtain ⟨g, hg⟩ : ∃ g, g = w0.heap.size := ⟨_, rfl⟩
    rw [← hg]
    have hbr1 : Brk w1 g (sp a b 0).1 (sp a b 0).2 := by rw [hw1, hg]; exact Brk.made _ _ _ _
    have hb1 : Below w.heap.size w w1 := by rw [hw1]; exact (by repeat (first | exact Below.refl _ _ | apply keep_alloc | apply keep_drew | apply keep_drewN | refine keep_step (by assumption) ?_ (by rfl) | refine keep_set ?_ _ _ (by first | exact Nat.le_refl _ | (show _ ≤ _; simp; done) | (show _ ≤ _; simp; omega))))
    have hg1 : g < w1.heap.size := hbr1.lt
    have hg0 : w.heap.size ≤ g := by have := hb0.size; omega
    clear hw1 hg
    go_loopw [7, 8] (SrRel a b g w1) (fun _ v _ => 2 * a + b - (intOf v).toNat)
    case atStart => exact ⟨0, by omega, rfl, hbr1, Mine.nil _ _, Turn.refl _ _⟩
    case round =>
      obtain ⟨k, hk, rfl, hbr, hown, htr⟩ := hrel
      have hlen := sts_len a b k
      have HLEN : (sts a b k).length ≤ 17592186044414 := by omega
      clear hlen
      have hlt0 := hbr.lt
      by_cases hlt : k < 2 * a + b
      · by_cases hmid : k = a + b
        · have hkm : ((k : Int) == (a : Int) + (b : Int)) = true := by simp [hmid]
          have E1 : Hid (tS (beS 3 a) a = (sp a b (k + 1)).1) := Lib.hid (by simp only [sp, mid]; rw [if_pos hmid])
          have E2 : Hid (tL (beS 3 a) a = (sp a b (k + 1)).2) := Lib.hid (by simp only [sp, mid]; rw [if_pos hmid])
          have hok := mid_ok (a := a) (b := b) (k := k) (p := (2, 0)) ha (chk20 ha)
          unfold mid at hok
          rw [if_pos hmid] at hok
          simp only at hok
          clear hmid
          go_wp2_with fail
          refine (rbegun 3 0 a _).mono ?_
          rintro _ w2 ⟨rfl, hb2⟩
          rw [HBE3.out]
          have hbr2 := hbr.below hb2 hlt0
          obtain ⟨⟨x0, x1⟩, u0, u1⟩ := id hbr2
          obtain ⟨w3, hw3⟩ : ∃ w3, w3 = (w2.setCell ⟨g, 0, none⟩ (.int .i64 (beS 3 a))).setCell ⟨g, 1, none⟩ (.int .i64 a) := ⟨_, rfl⟩
          obtain ⟨hbr3, ht3⟩ := hbr2.sets hw3
          have hown3 : Mine w1.heap.size w3 u7 (sts a b k) := (hown.step hb2).turn ht3 hg1
          go_wp2_with fail
          rw [← hw3]
          clear hw3 x0 x1 u0 u1
          have hlt3 := hbr3.lt
          obtain ⟨⟨x0, x1⟩, u0, u1⟩ := id hbr3
          have hle := (chk_rng hok)
          obtain ⟨r1, r2, r3, r4⟩ := hle
          go_wp2_with fail
          refine (rstep _ _ _ (by omega)).mono ?_
          rintro _ w4 ⟨rfl, hb4⟩
          have hbr4 := hbr3.below hb4 hlt3
          obtain ⟨⟨x0, x1⟩, u0, u1⟩ := id hbr4
          have hbr5 := hbr4.put (tS (beS 3 a) (a : Int)) (tL (beS 3 a) (a : Int))
          have ht5 : Turn g w4 ((w4.setCell ⟨g, 0, none⟩ (.int .i64 (tS (beS 3 a) (a : Int)))).setCell ⟨g, 1, none⟩ (.int .i64 (tL (beS 3 a) (a : Int)))) := by (repeat (first | exact Turn.refl _ _ | apply Turn.set | apply Turn.alloc | apply Turn.drew | apply Turn.drewN | refine Turn.trans ?_ (by assumption) | refine Turn.below ?_ (by assumption) (by rfl) | refine Turn.setNew ?_ _ _ (by first | exact Nat.le_refl _ | (show _ ≤ _; simp; done) | (show _ ≤ _; simp; omega))))
          have hown5 : Mine w1.heap.size ((w4.setCell ⟨g, 0, none⟩ (.int .i64 (tS (beS 3 a) (a : Int)))).setCell ⟨g, 1, none⟩ (.int .i64 (tL (beS 3 a) (a : Int)))) u7 (sts a b k) := (hown3.step hb4).turn ht5 hg1
          have ht14 : Turn g w1 ((w4.setCell ⟨g, 0, none⟩ (.int .i64 (tS (beS 3 a) (a : Int)))).setCell ⟨g, 1, none⟩ (.int .i64 (tL (beS 3 a) (a : Int)))) := by (repeat (first | exact Turn.refl _ _ | apply Turn.set | apply Turn.alloc | apply Turn.drew | apply Turn.drewN | refine Turn.trans ?_ (by assumption) | refine Turn.below ?_ (by assumption) (by rfl) | refine Turn.setNew ?_ _ _ (by first | exact Nat.le_refl _ | (show _ ≤ _; simp; done) | (show _ ≤ _; simp; omega))))
          have hsz5 := ht14.size
          have hlt5 := hbr5.lt
          go_wp2_with (first | (at_builtin; refine push_intB rfl _ _ (by rfl) (w1.heap.size) _ _ _ (by rfl) (by rfl) (by first | rfl | simp) (hown5) (hsz5) (by first | omega | (simp only [List.length_take]; omega)) ?_; intro v6 w6 hown0 hb6; have hown6 := Lib.hid hown0; clear hown0))
          exact ⟨⟨k + 1, by omega, by go_num, by have h := hbr5.below hb6 hg1; rw [E1.out, E2.out] at h; exact h, by rw [sts, ← E1.out]; exact hown6.out, ht14.belowB hb6 (Nat.le_refl _)⟩, by simp [intOf]; omega⟩
        · have hkm : ((k : Int) == (a : Int) + (b : Int)) = false := by simp; omega
          have E1 : Hid (tS (sp a b k).1 (sp a b k).2 = (sp a b (k + 1)).1) := Lib.hid (by simp only [sp, mid]; rw [if_neg hmid])
          have E2 : Hid (tL (sp a b k).1 (sp a b k).2 = (sp a b (k + 1)).2) := Lib.hid (by simp only [sp, mid]; rw [if_neg hmid])
          have hok := sp_ok a b ha k
          have hbr3 := hbr
          have hown3 := hown
          clear hmid
          have hlt3 := hbr3.lt
          obtain ⟨⟨x0, x1⟩, u0, u1⟩ := id hbr3
          have hle := (chk_rng hok)
          obtain ⟨r1, r2, r3, r4⟩ := hle
          go_wp2_with fail
          refine (rstep _ _ _ (by omega)).mono ?_
          rintro _ w4 ⟨rfl, hb4⟩
          have hbr4 := hbr3.below hb4 hlt3
          obtain ⟨⟨x0, x1⟩, u0, u1⟩ := id hbr4
          have hbr5 := hbr4.put (tS (sp a b k).1 (sp a b k).2) (tL (sp a b k).1 (sp a b k).2)
          have ht5 : Turn g w4 ((w4.setCell ⟨g, 0, none⟩ (.int .i64 (tS (sp a b k).1 (sp a b k).2))).setCell ⟨g, 1, none⟩ (.int .i64 (tL (sp a b k).1 (sp a b k).2))) := by (repeat (first | exact Turn.refl _ _ | apply Turn.set | apply Turn.alloc | apply Turn.drew | apply Turn.drewN | refine Turn.trans ?_ (by assumption) | refine Turn.below ?_ (by assumption) (by rfl) | refine Turn.setNew ?_ _ _ (by first | exact Nat.le_refl _ | (show _ ≤ _; simp; done) | (show _ ≤ _; simp; omega))))
          have hown5 : Mine w1.heap.size ((w4.setCell ⟨g, 0, none⟩ (.int .i64 (tS (sp a b k).1 (sp a b k).2))).setCell ⟨g, 1, none⟩ (.int .i64 (tL (sp a b k).1 (sp a b k).2))) u7 (sts a b k) := (hown3.step hb4).turn ht5 hg1
          have ht14 : Turn g w1 ((w4.setCell ⟨g, 0, none⟩ (.int .i64 (tS (sp a b k).1 (sp a b k).2))).setCell ⟨g, 1, none⟩ (.int .i64 (tL (sp a b k).1 (sp a b k).2))) := by (repeat (first | exact Turn.refl _ _ | apply Turn.set | apply Turn.alloc | apply Turn.drew | apply Turn.drewN | refine Turn.trans ?_ (by assumption) | refine Turn.below ?_ (by assumption) (by rfl) | refine Turn.setNew ?_ _ _ (by first | exact Nat.le_refl _ | (show _ ≤ _; simp; done) | (show _ ≤ _; simp; omega))))
          have hsz5 := ht14.size
          have hlt5 := hbr5.lt
          go_wp2_with (first | (at_builtin; refine push_intB rfl _ _ (by rfl) (w1.heap.size) _ _ _ (by rfl) (by rfl) (by first | rfl | simp) (hown5) (hsz5) (by first | omega | (simp only [List.length_take]; omega)) ?_; intro v6 w6 hown0 hb6; have hown6 := Lib.hid hown0; clear hown0))
          exact ⟨⟨k + 1, by omega, by go_num, by have h := hbr5.below hb6 hg1; rw [E1.out, E2.out] at h; exact h, by rw [sts, ← E1.out]; exact hown6.out, ht14.belowB hb6 (Nat.le_refl _)⟩, by simp [intOf]; omega⟩
      · have hkm : k = 2 * a + b := by omega
        subst hkm
        go_wp2
        go_ret2
        have hbw2 : Below w.heap.size w wr := keep_turn htr hb1 hg0
        exact outMine hown hbw2
end Go.Proofs.Ytmlalncohkingaa
