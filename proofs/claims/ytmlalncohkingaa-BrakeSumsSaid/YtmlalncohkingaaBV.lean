/- Layer 10: BrakeValid. -/
import Derived.Test.YtmlalncohkingaaBM
namespace Go.Proofs.Ytmlalncohkingaa
open Go.RowKit
set_option linter.unusedVariables false

theorem begE_ok {s l n f : Int} (h : chk s l n = 0) : begE s l n f = if s = f then 0 else 9 := by unfold begE; rw [if_pos h]
theorem rel_at {l : Int} {m : Nat} (h : chk 0 l m = 0) : begE 0 l m 0 = 0 ∧ begS 0 l m 0 1 = beS 1 m ∧ begL 0 l m 0 = m := by
  have h1 : begE 0 l m 0 = 0 := by rw [begE_ok h, if_pos rfl]
  exact ⟨h1, by unfold begS; rw [if_pos h1], by unfold begL; rw [if_pos h1]⟩
theorem app_at {l : Int} {m : Nat} (h : chk 2 l m = 0) : begE 2 l m 2 = 0 ∧ begS 2 l m 2 3 = beS 3 m ∧ begL 2 l m 2 = m := by
  have h1 : begE 2 l m 2 = 0 := by rw [begE_ok h, if_pos rfl]
  exact ⟨h1, by unfold begS; rw [if_pos h1], by unfold begL; rw [if_pos h1]⟩
def VlRel (m len : Nat) (g : Nat) (w1 : World) (v7 : Value) (wr : World) : Prop :=
  ∃ k : Nat, k ≤ len ∧ k ≤ 30 ∧ v7 = .int .i64 k ∧ ∃ s l : Int, Brk wr g s l ∧ chk s l m = 0 ∧ Turn g w1 wr

set_option maxRecDepth 20000 in
set_option maxHeartbeats 16000000 in
theorem brakeValid_true (t : Int) (A : Option Addr) (len cap : Nat) (xs : List Int) (w : World) (ht64 : In64 t) (hl : xs.length = len) (hm : len ≤ maxLen) (hA : Ints w A xs) (hb : ∀ x ∈ xs, In64 x) :
    Calls Try.prog 6 #[.int .i64 t, .slice A len cap] w fun e w' => e = .returned (.bool true) ∧ Below w.heap.size w w' := by
  unfold maxLen at hm
  obtain ⟨m, hm'⟩ : ∃ m : Nat, t % 6 = m := ⟨(t % 6).toNat, by omega⟩
  have hm6 : m < 6 := by omega
  have HM := Lib.hid hm'
  have HL := Lib.hid hl
  have HB := Lib.hid hb
  have v00 : chk 0 0 (m : Int) = 0 := by unfold chk; rw [if_neg (by omega)]; simp
  have V00 := Lib.hid v00
  clear hm' hl hb v00
  go_enter Try.func6, Try.ntmps6
  go_wp2_with fail
  refine (mod_any t 6 _ ht64 (by decide)).mono ?_
  rintro _ w0 ⟨rfl, hb0⟩
  rw [if_neg (by decide), HM.out]
  go_wp2_with fail
  refine (pNew _).mono ?_
  rintro _ w1 ⟨rfl, hb1⟩
  go_wp2
  obtain ⟨w3, hw3⟩ : ∃ w3, w3 = w1.alloc (.cells #[.int .i64 0, .int .i64 0] 23) := ⟨_, rfl⟩
  obtain ⟨g, hg⟩ : ∃ g, g = w1.heap.size := ⟨_, rfl⟩
  obtain ⟨hbr3, hb3⟩ := new_brk hw3
  rw [← hw3, ← hg]
  rw [← hg] at hbr3
  have hgw : w.heap.size ≤ g := by
    have := (show Below w.heap.size w w1 from (by repeat (first | exact Below.refl _ _ | apply keep_alloc | apply keep_drew | apply keep_drewN | refine keep_step (by assumption) ?_ (by rfl) | refine keep_set ?_ _ _ (by first | exact Nat.le_refl _ | (show _ ≤ _; simp; done) | (show _ ≤ _; simp; omega))))).size
    omega
  have hbw3 : Below w.heap.size w w3 := (by repeat (first | exact Below.refl _ _ | apply keep_alloc | apply keep_drew | apply keep_drewN | refine keep_step (by assumption) ?_ (by rfl) | refine keep_set ?_ _ _ (by first | exact Nat.le_refl _ | (show _ ≤ _; simp; done) | (show _ ≤ _; simp; omega))))
  clear hw3 hg
  go_loopw [7] (VlRel m len g w3) (fun v _ => 30 - (intOf v).toNat)
  case atStart => exact ⟨0, by omega, by omega, rfl, 0, 0, hbr3, V00.out, Turn.refl _ _⟩
  case round =>
    obtain ⟨k, hk, hk30, rfl, s, l, hbr, hok, htr⟩ := hrel
    have hlt0 := hbr.lt
    have hbwr : Below w.heap.size w wr := keep_turn htr hbw3 hgw
    have hrg := chk_rng hok
    by_cases hlt : k < len ∧ k < 30
    · obtain ⟨hlt, hlt30⟩ := hlt
      have hkl : k < xs.length := by rw [HL.out]; exact hlt
      obtain ⟨b, o, rfl, hcs⟩ := (hA.step hbwr).cell hkl
      have hck := hcs k hkl
      have h64 : In64 (nth xs k) := by rw [nth_eq hkl]; exact HB.out _ (List.getElem_mem hkl)
      have hblt := World.block_lt_of_cell? wr _ hck
      clear hcs
      obtain ⟨⟨x0, x1⟩, x2, x3⟩ := id hbr
      go_wp2_with fail
      obtain ⟨w4, hw4⟩ : ∃ w4, w4 = wr.alloc (.cells #[.int .i64 s, .int .i64 l] 23) := ⟨_, rfl⟩
      obtain ⟨gx, hgx⟩ : ∃ gx, gx = wr.heap.size := ⟨_, rfl⟩
      obtain ⟨hx4, hb4⟩ := new_brk hw4
      rw [← hw4, ← hgx]
      rw [← hgx] at hx4
      have hgxw : wr.heap.size ≤ gx := by omega
      have hne : g ≠ gx := by omega
      have hbr4 := hbr.below hb4 hlt0
      clear hw4 hgx x0 x1 x2 x3
      refine (mod_any (nth xs k) 5 _ h64 (by decide)).mono ?_
      rintro _ w5 ⟨rfl, hb5⟩
      rw [if_neg (by decide)]
      have hx5 := hx4.below hb5 hx4.lt
      have hbr5 := hbr4.below hb5 hbr4.lt
      obtain ⟨d, hd⟩ : ∃ d, d = nth xs k % 5 := ⟨_, rfl⟩
      have hdr : 0 ≤ d ∧ d ≤ 4 := by omega
      rw [← hd]
      clear hd
      obtain ⟨⟨x0, x1⟩, x2, x3⟩ := id hbr5
      obtain ⟨⟨y0, y1⟩, y2, y3⟩ := id hx5
      have hlt5 := hbr5.lt
      have hcase : d = 0 ∨ d = 1 ∨ d = 2 ∨ ((d == 0) = false ∧ (d == 1) = false ∧ (d == 2) = false ∧ 2 < d) := by simp; omega
      rcases hcase with rfl | rfl | rfl | ⟨d0, d1, d2, d3⟩
      · -- Release
        by_cases hs0 : s = 0
        · subst hs0
          obtain ⟨hE, hS, hL⟩ := rel_at (m := m) hok
          have E := Lib.hid hE
          have S := Lib.hid hS
          have L := Lib.hid hL
          have VALID := Lib.hid (up_ok m hm6)
          clear hE hS hL hok
          go_wp2_with fail
          refine (pRelease 0 l m _).mono ?_
          rintro _ w6 ⟨rfl, hb6⟩
          rw [E.out, S.out, L.out]
          have hx6 := hx5.below hb6 hx5.lt
          have hbr6 := hbr5.below hb6 hlt5
          clear x0 x1 x2 x3 y0 y1 y2 y3
          obtain ⟨⟨x0, x1⟩, x2, x3⟩ := id hbr6
          obtain ⟨⟨y0, y1⟩, y2, y3⟩ := id hx6
          obtain ⟨w7, hw7⟩ : ∃ w7, w7 = (w6.setCell ⟨gx, 0, none⟩ (.int .i64 (beS 1 m))).setCell ⟨gx, 1, none⟩ (.int .i64 (m)) := ⟨_, rfl⟩
          obtain ⟨hx7, ht7⟩ := hx6.sets hw7
          have hbr7 := hbr6.turn ht7 hne
          have hb7 : Below wr.heap.size wr w7 := keep_turn ht7 (by repeat (first | exact Below.refl _ _ | apply keep_alloc | apply keep_drew | apply keep_drewN | refine keep_step (by assumption) ?_ (by rfl) | refine keep_set ?_ _ _ (by first | exact Nat.le_refl _ | (show _ ≤ _; simp; done) | (show _ ≤ _; simp; omega)))) hgxw
          go_wp2_with fail
          rw [← hw7]
          clear hw7 x0 x1 x2 x3 y0 y1 y2 y3
          obtain ⟨⟨x0, x1⟩, x2, x3⟩ := id hbr7
          obtain ⟨⟨y0, y1⟩, y2, y3⟩ := id hx7
          have hlt7 := hbr7.lt
          have hlx7 := hx7.lt
          refine (pchk (beS 1 m) (m) m _).mono ?_
          rintro _ w8 ⟨rfl, hb8⟩
          rw [VALID.out]
          have hx8 := hx7.below hb8 hlx7
          have hbr8 := hbr7.below hb8 hlt7
          clear x0 x1 x2 x3 y0 y1 y2 y3
          obtain ⟨⟨x0, x1⟩, x2, x3⟩ := id hbr8
          obtain ⟨⟨y0, y1⟩, y2, y3⟩ := id hx8
          go_wp2
          exact ⟨⟨k + 1, by omega, by omega, by go_num, _, _, hbr8.put _ _, VALID.out, by (repeat (first | exact Turn.refl _ _ | apply Turn.set | apply Turn.alloc | apply Turn.drew | apply Turn.drewN | refine Turn.trans ?_ (by assumption) | refine Turn.below ?_ (by assumption) (by rfl) | refine Turn.setNew ?_ _ _ (by first | exact Nat.le_refl _ | (show _ ≤ _; simp; done) | (show _ ≤ _; simp; omega))))⟩, by simp [intOf]; omega⟩
        · have hE : begE s l m 0 = 9 := by rw [begE_ok hok, if_neg hs0]
          have hS : begS s l m 0 1 = 0 := by unfold begS; rw [if_neg (by omega)]
          have hL : begL s l m 0 = 0 := by unfold begL; rw [if_neg (by omega)]
          have hsb : (s == 0) = false := by simp [hs0]
          have E := Lib.hid hE
          have S := Lib.hid hS
          have L := Lib.hid hL
          have OK := Lib.hid hok
          clear hE hS hL hok
          go_wp2_with fail
          refine (pRelease s l m _).mono ?_
          rintro _ w6 ⟨rfl, hb6⟩
          rw [E.out, S.out, L.out]
          have hx6 := hx5.below hb6 hx5.lt
          have hbr6 := hbr5.below hb6 hlt5
          clear x0 x1 x2 x3 y0 y1 y2 y3
          obtain ⟨⟨x0, x1⟩, x2, x3⟩ := id hbr6
          obtain ⟨⟨y0, y1⟩, y2, y3⟩ := id hx6
          obtain ⟨w7, hw7⟩ : ∃ w7, w7 = (w6.setCell ⟨gx, 0, none⟩ (.int .i64 (0))).setCell ⟨gx, 1, none⟩ (.int .i64 (0)) := ⟨_, rfl⟩
          obtain ⟨hx7, ht7⟩ := hx6.sets hw7
          have hbr7 := hbr6.turn ht7 hne
          have hb7 : Below wr.heap.size wr w7 := keep_turn ht7 (by repeat (first | exact Below.refl _ _ | apply keep_alloc | apply keep_drew | apply keep_drewN | refine keep_step (by assumption) ?_ (by rfl) | refine keep_set ?_ _ _ (by first | exact Nat.le_refl _ | (show _ ≤ _; simp; done) | (show _ ≤ _; simp; omega)))) hgxw
          go_wp2
          rw [← hw7]
          exact ⟨⟨k + 1, by omega, by omega, by go_num, _, _, hbr7, OK.out, by (repeat (first | exact Turn.refl _ _ | apply Turn.set | apply Turn.alloc | apply Turn.drew | apply Turn.drewN | refine Turn.trans ?_ (by assumption) | refine Turn.below ?_ (by assumption) (by rfl) | refine Turn.setNew ?_ _ _ (by first | exact Nat.le_refl _ | (show _ ≤ _; simp; done) | (show _ ≤ _; simp; omega))))⟩, by simp [intOf]; omega⟩
      · -- Apply
        by_cases hs0 : s = 2
        · subst hs0
          obtain ⟨hE, hS, hL⟩ := app_at (m := m) hok
          have E := Lib.hid hE
          have S := Lib.hid hS
          have L := Lib.hid hL
          have VALID := Lib.hid (down_ok m hm6)
          clear hE hS hL hok
          go_wp2_with fail
          refine (pApply 2 l m _).mono ?_
          rintro _ w6 ⟨rfl, hb6⟩
          rw [E.out, S.out, L.out]
          have hx6 := hx5.below hb6 hx5.lt
          have hbr6 := hbr5.below hb6 hlt5
          clear x0 x1 x2 x3 y0 y1 y2 y3
          obtain ⟨⟨x0, x1⟩, x2, x3⟩ := id hbr6
          obtain ⟨⟨y0, y1⟩, y2, y3⟩ := id hx6
          obtain ⟨w7, hw7⟩ : ∃ w7, w7 = (w6.setCell ⟨gx, 0, none⟩ (.int .i64 (beS 3 m))).setCell ⟨gx, 1, none⟩ (.int .i64 (m)) := ⟨_, rfl⟩
          obtain ⟨hx7, ht7⟩ := hx6.sets hw7
          have hbr7 := hbr6.turn ht7 hne
          have hb7 : Below wr.heap.size wr w7 := keep_turn ht7 (by repeat (first | exact Below.refl _ _ | apply keep_alloc | apply keep_drew | apply keep_drewN | refine keep_step (by assumption) ?_ (by rfl) | refine keep_set ?_ _ _ (by first | exact Nat.le_refl _ | (show _ ≤ _; simp; done) | (show _ ≤ _; simp; omega)))) hgxw
          go_wp2_with fail
          rw [← hw7]
          clear hw7 x0 x1 x2 x3 y0 y1 y2 y3
          obtain ⟨⟨x0, x1⟩, x2, x3⟩ := id hbr7
          obtain ⟨⟨y0, y1⟩, y2, y3⟩ := id hx7
          have hlt7 := hbr7.lt
          have hlx7 := hx7.lt
          refine (pchk (beS 3 m) (m) m _).mono ?_
          rintro _ w8 ⟨rfl, hb8⟩
          rw [VALID.out]
          have hx8 := hx7.below hb8 hlx7
          have hbr8 := hbr7.below hb8 hlt7
          clear x0 x1 x2 x3 y0 y1 y2 y3
          obtain ⟨⟨x0, x1⟩, x2, x3⟩ := id hbr8
          obtain ⟨⟨y0, y1⟩, y2, y3⟩ := id hx8
          go_wp2
          exact ⟨⟨k + 1, by omega, by omega, by go_num, _, _, hbr8.put _ _, VALID.out, by (repeat (first | exact Turn.refl _ _ | apply Turn.set | apply Turn.alloc | apply Turn.drew | apply Turn.drewN | refine Turn.trans ?_ (by assumption) | refine Turn.below ?_ (by assumption) (by rfl) | refine Turn.setNew ?_ _ _ (by first | exact Nat.le_refl _ | (show _ ≤ _; simp; done) | (show _ ≤ _; simp; omega))))⟩, by simp [intOf]; omega⟩
        · have hE : begE s l m 2 = 9 := by rw [begE_ok hok, if_neg hs0]
          have hS : begS s l m 2 3 = 0 := by unfold begS; rw [if_neg (by omega)]
          have hL : begL s l m 2 = 0 := by unfold begL; rw [if_neg (by omega)]
          have hsb : (s == 2) = false := by simp [hs0]
          have E := Lib.hid hE
          have S := Lib.hid hS
          have L := Lib.hid hL
          have OK := Lib.hid hok
          clear hE hS hL hok
          go_wp2_with fail
          refine (pApply s l m _).mono ?_
          rintro _ w6 ⟨rfl, hb6⟩
          rw [E.out, S.out, L.out]
          have hx6 := hx5.below hb6 hx5.lt
          have hbr6 := hbr5.below hb6 hlt5
          clear x0 x1 x2 x3 y0 y1 y2 y3
          obtain ⟨⟨x0, x1⟩, x2, x3⟩ := id hbr6
          obtain ⟨⟨y0, y1⟩, y2, y3⟩ := id hx6
          obtain ⟨w7, hw7⟩ : ∃ w7, w7 = (w6.setCell ⟨gx, 0, none⟩ (.int .i64 (0))).setCell ⟨gx, 1, none⟩ (.int .i64 (0)) := ⟨_, rfl⟩
          obtain ⟨hx7, ht7⟩ := hx6.sets hw7
          have hbr7 := hbr6.turn ht7 hne
          have hb7 : Below wr.heap.size wr w7 := keep_turn ht7 (by repeat (first | exact Below.refl _ _ | apply keep_alloc | apply keep_drew | apply keep_drewN | refine keep_step (by assumption) ?_ (by rfl) | refine keep_set ?_ _ _ (by first | exact Nat.le_refl _ | (show _ ≤ _; simp; done) | (show _ ≤ _; simp; omega)))) hgxw
          go_wp2
          rw [← hw7]
          exact ⟨⟨k + 1, by omega, by omega, by go_num, _, _, hbr7, OK.out, by (repeat (first | exact Turn.refl _ _ | apply Turn.set | apply Turn.alloc | apply Turn.drew | apply Turn.drewN | refine Turn.trans ?_ (by assumption) | refine Turn.below ?_ (by assumption) (by rfl) | refine Turn.setNew ?_ _ _ (by first | exact Nat.le_refl _ | (show _ ≤ _; simp; done) | (show _ ≤ _; simp; omega))))⟩, by simp [intOf]; omega⟩
      · -- Force
        have VALID := V00
        go_wp2_with fail
        refine (pForce s l _).mono ?_
        rintro _ w6 ⟨rfl, hb6⟩
        skip
        have hx6 := hx5.below hb6 hx5.lt
        have hbr6 := hbr5.below hb6 hlt5
        clear x0 x1 x2 x3 y0 y1 y2 y3
        obtain ⟨⟨x0, x1⟩, x2, x3⟩ := id hbr6
        obtain ⟨⟨y0, y1⟩, y2, y3⟩ := id hx6
        obtain ⟨w7, hw7⟩ : ∃ w7, w7 = (w6.setCell ⟨gx, 0, none⟩ (.int .i64 (0))).setCell ⟨gx, 1, none⟩ (.int .i64 (0)) := ⟨_, rfl⟩
        obtain ⟨hx7, ht7⟩ := hx6.sets hw7
        have hbr7 := hbr6.turn ht7 hne
        have hb7 : Below wr.heap.size wr w7 := keep_turn ht7 (by repeat (first | exact Below.refl _ _ | apply keep_alloc | apply keep_drew | apply keep_drewN | refine keep_step (by assumption) ?_ (by rfl) | refine keep_set ?_ _ _ (by first | exact Nat.le_refl _ | (show _ ≤ _; simp; done) | (show _ ≤ _; simp; omega)))) hgxw
        go_wp2_with fail
        rw [← hw7]
        clear hw7 x0 x1 x2 x3 y0 y1 y2 y3
        obtain ⟨⟨x0, x1⟩, x2, x3⟩ := id hbr7
        obtain ⟨⟨y0, y1⟩, y2, y3⟩ := id hx7
        have hlt7 := hbr7.lt
        have hlx7 := hx7.lt
        refine (pchk (0) (0) m _).mono ?_
        rintro _ w8 ⟨rfl, hb8⟩
        rw [VALID.out]
        have hx8 := hx7.below hb8 hlx7
        have hbr8 := hbr7.below hb8 hlt7
        clear x0 x1 x2 x3 y0 y1 y2 y3
        obtain ⟨⟨x0, x1⟩, x2, x3⟩ := id hbr8
        obtain ⟨⟨y0, y1⟩, y2, y3⟩ := id hx8
        go_wp2
        exact ⟨⟨k + 1, by omega, by omega, by go_num, _, _, hbr8.put _ _, VALID.out, by (repeat (first | exact Turn.refl _ _ | apply Turn.set | apply Turn.alloc | apply Turn.drew | apply Turn.drewN | refine Turn.trans ?_ (by assumption) | refine Turn.below ?_ (by assumption) (by rfl) | refine Turn.setNew ?_ _ _ (by first | exact Nat.le_refl _ | (show _ ≤ _; simp; done) | (show _ ≤ _; simp; omega))))⟩, by simp [intOf]; omega⟩
      · -- Step
        obtain ⟨r1, r2, r3⟩ := run1 hok
        have E := Lib.hid r1
        have S := Lib.hid r2
        have L := Lib.hid r3
        have VALID : Hid (chk (tS s l) (tL s l) m = 0) := Lib.hid (it_ok hok 1)
        clear r1 r2 r3 hok
        go_wp2_with fail
        refine (pStep s l m _).mono ?_
        rintro _ w6 ⟨rfl, hb6⟩
        rw [E.out, S.out, L.out]
        have hx6 := hx5.below hb6 hx5.lt
        have hbr6 := hbr5.below hb6 hlt5
        clear x0 x1 x2 x3 y0 y1 y2 y3
        obtain ⟨⟨x0, x1⟩, x2, x3⟩ := id hbr6
        obtain ⟨⟨y0, y1⟩, y2, y3⟩ := id hx6
        obtain ⟨w7, hw7⟩ : ∃ w7, w7 = (w6.setCell ⟨gx, 0, none⟩ (.int .i64 (tS s l))).setCell ⟨gx, 1, none⟩ (.int .i64 (tL s l)) := ⟨_, rfl⟩
        obtain ⟨hx7, ht7⟩ := hx6.sets hw7
        have hbr7 := hbr6.turn ht7 hne
        have hb7 : Below wr.heap.size wr w7 := keep_turn ht7 (by repeat (first | exact Below.refl _ _ | apply keep_alloc | apply keep_drew | apply keep_drewN | refine keep_step (by assumption) ?_ (by rfl) | refine keep_set ?_ _ _ (by first | exact Nat.le_refl _ | (show _ ≤ _; simp; done) | (show _ ≤ _; simp; omega)))) hgxw
        go_wp2_with fail
        rw [← hw7]
        clear hw7 x0 x1 x2 x3 y0 y1 y2 y3
        obtain ⟨⟨x0, x1⟩, x2, x3⟩ := id hbr7
        obtain ⟨⟨y0, y1⟩, y2, y3⟩ := id hx7
        have hlt7 := hbr7.lt
        have hlx7 := hx7.lt
        refine (pchk (tS s l) (tL s l) m _).mono ?_
        rintro _ w8 ⟨rfl, hb8⟩
        rw [VALID.out]
        have hx8 := hx7.below hb8 hlx7
        have hbr8 := hbr7.below hb8 hlt7
        clear x0 x1 x2 x3 y0 y1 y2 y3
        obtain ⟨⟨x0, x1⟩, x2, x3⟩ := id hbr8
        obtain ⟨⟨y0, y1⟩, y2, y3⟩ := id hx8
        go_wp2
        exact ⟨⟨k + 1, by omega, by omega, by go_num, _, _, hbr8.put _ _, VALID.out, by (repeat (first | exact Turn.refl _ _ | apply Turn.set | apply Turn.alloc | apply Turn.drew | apply Turn.drewN | refine Turn.trans ?_ (by assumption) | refine Turn.below ?_ (by assumption) (by rfl) | refine Turn.setNew ?_ _ _ (by first | exact Nat.le_refl _ | (show _ ≤ _; simp; done) | (show _ ≤ _; simp; omega))))⟩, by simp [intOf]; omega⟩
    · have hlt' : decide (k < len) = false ∨ (k < len ∧ decide ((k : Int) < 30) = false) := by simp; omega
      clear hlt
      rcases hlt' with h1 | ⟨h1, h2⟩
      all_goals
        go_wp2_with (first | (go_at_call 23; (apply Calls.mono; (focus ((first | (with_reducible exact awake_true) | (apply awake_true <;> first | (with_reducible assumption) | (first | omega | (subst_vars; omega) | (simp only [Bool.not_eq_true', Bool.not_eq_false', beq_iff_eq, beq_eq_false_iff_ne, ne_eq, bne_iff_ne, bne_eq_false_iff_eq, Bool.not_eq_true, Bool.not_eq_false, decide_eq_true_eq, decide_eq_false_iff_not, Bool.and_eq_true, Bool.or_eq_true] at *; first | omega | (subst_vars; omega)) | (simp only [Bool.not_eq_true', Bool.not_eq_false', beq_iff_eq, beq_eq_false_iff_ne, ne_eq, bne_iff_ne, bne_eq_false_iff_eq, Bool.not_eq_true, Bool.not_eq_false, decide_eq_true_eq, decide_eq_false_iff_not, Bool.and_eq_true, Bool.or_eq_true, wrap64] at *; first | omega | (subst_vars; omega))))); done))); rintro e w' ⟨rfl, hb⟩; obtain ⟨hc, hf⟩ := bcell (show Below w.heap.size w w' from (by repeat (first | exact Below.refl _ _ | apply keep_alloc | apply keep_drew | apply keep_drewN | refine keep_step (by assumption) ?_ (by rfl) | refine keep_set ?_ _ _ (by first | exact Nat.le_refl _ | (show _ ≤ _; simp; done) | (show _ ≤ _; simp; omega)))))))
        go_ret
        exact ⟨rfl, (by repeat (first | exact Below.refl _ _ | apply keep_alloc | apply keep_drew | apply keep_drewN | refine keep_step (by assumption) ?_ (by rfl) | refine keep_set ?_ _ _ (by first | exact Nat.le_refl _ | (show _ ≤ _; simp; done) | (show _ ≤ _; simp; omega))))⟩
end Go.Proofs.Ytmlalncohkingaa
