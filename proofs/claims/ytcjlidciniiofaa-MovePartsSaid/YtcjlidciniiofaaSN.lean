import Derived.Test.YtcjlidciniiofaaSM
import Derived.Laws.Externs
set_option linter.unusedVariables false
namespace Go.Proofs.Ytcjlidciniiofaa
open Go.RowKit
theorem add64_law (x y c : Int) (hx : 0 ≤ x) (hy : 0 ≤ y) (hc0 : 0 ≤ c) (hc : c ≤ 1) (w : World) :
  (callFunc 75 #[.int .u64 x, .int .u64 y, .int .u64 c]).run Try.prog w = .ok (.value (.tuple #[.int .u64 ((x + y + c) % 18446744073709551616), .int .u64 ((x + y + c) / 18446744073709551616)])) w := by
 rw [run_callFunc_extern Try.func75 (by kernel_rfl) (by kernel_rfl) (by kernel_rfl) (e := add64Entry) (by kernel_rfl), run_add64 x y c hx hy hc0 hc]
 rfl
def Wd (w : World) (g : Nat) (h l : Int) : Prop :=
 (w.cell? ⟨g, 0, none⟩ = some (.int .u64 h) ∧ w.cell? ⟨g, 1, none⟩ = some (.int .u64 l)) ∧ (w.frozen? ⟨g, 0, none⟩ = false ∧ w.frozen? ⟨g, 1, none⟩ = false)
theorem Wd.lt {w : World} {g : Nat} {s l : Int} (h : Wd w g s l) : g < w.heap.size := World.block_lt_of_cell? w _ h.1.1
theorem Wd.put {w : World} {g : Nat} {s l : Int} (h : Wd w g s l) (x y : Int) : Wd ((w.setCell ⟨g, 0, none⟩ (.int .u64 x)).setCell ⟨g, 1, none⟩ (.int .u64 y)) g x y := by
 obtain ⟨⟨h0, h1⟩, f0, f1⟩ := h
 refine ⟨set2 h0 h1, ?_, ?_⟩
 all_goals (rw [World.frozen?_setCell, World.frozen?_setCell]; assumption)
theorem Wd.below {w w' : World} {g B : Nat} {s l : Int} (h : Wd w g s l) (hb : Below B w w') (hg : g < B) : Wd w' g s l := by
 obtain ⟨⟨h0, h1⟩, f0, f1⟩ := h
 exact ⟨⟨(hb.cell (p := ⟨g, 0, none⟩) hg).trans h0, (hb.cell (p := ⟨g, 1, none⟩) hg).trans h1⟩, (hb.frozen (p := ⟨g, 0, none⟩) hg).trans f0, (hb.frozen (p := ⟨g, 1, none⟩) hg).trans f1⟩
theorem Wd.turn {w w' : World} {g g' : Nat} {s l : Int} (h : Wd w g s l) (t : Turn g' w w') (hg : g ≠ g') : Wd w' g s l := by
 have hlt := h.lt
 obtain ⟨⟨h0, h1⟩, f0, f1⟩ := h
 obtain ⟨tc, tf⟩ := turn_cell t
 exact ⟨⟨(tc g 0 hlt hg).trans h0, (tc g 1 hlt hg).trans h1⟩, (tf g 0 hlt hg).trans f0, (tf g 1 hlt hg).trans f1⟩
theorem Wd.made (w : World) (s l : Int) (T : TypeId) : Wd (w.alloc (.cells #[.int .u64 s, .int .u64 l] T)) w.heap.size s l := by
 refine ⟨⟨?_, ?_⟩, ?_, ?_⟩
 all_goals first | exact World.frozen?_alloc_at _ _ _ _ rfl | (rw [World.cell?_alloc_at _ _ _ _ rfl]; rfl)
theorem pwiden (n : Int) (w : World) (h0 : 0 ≤ n) (h1 : n ≤ 1000000) : Calls Try.prog 67 #[.int .i64 n] w fun e w' => e = .returned (.agg #[.int .u64 (0), .int .u64 (n)]) ∧ Below w.heap.size w w' := by
 have y0 := ((((show Below ((w.alloc (.cells #[.int .u64 0, .int .u64 0] 89))).heap.size ((w.alloc (.cells #[.int .u64 0, .int .u64 0] 89))) (w.alloc (.cells #[.int .u64 0, .int .u64 0] 89)) from (by repeat (first | exact Below.refl _ _ | apply keep_alloc | apply keep_drew | apply keep_drewN | refine keep_step (by assumption) ?_ (by rfl) | refine keep_set ?_ _ _ (by first | exact Nat.le_refl _ | (show _ ≤ _; simp; done) | (show _ ≤ _; simp; omega))))).cell (p := ⟨w.heap.size, 0, none⟩) (by simp <;> omega)).trans (by simp [go_sem])) : ((w.alloc (.cells #[.int .u64 0, .int .u64 0] 89))).cell? ⟨w.heap.size, 0, none⟩ = some (.int .u64 0))
 have y1 := ((((show Below ((w.alloc (.cells #[.int .u64 0, .int .u64 0] 89))).heap.size ((w.alloc (.cells #[.int .u64 0, .int .u64 0] 89))) (w.alloc (.cells #[.int .u64 0, .int .u64 0] 89)) from (by repeat (first | exact Below.refl _ _ | apply keep_alloc | apply keep_drew | apply keep_drewN | refine keep_step (by assumption) ?_ (by rfl) | refine keep_set ?_ _ _ (by first | exact Nat.le_refl _ | (show _ ≤ _; simp; done) | (show _ ≤ _; simp; omega))))).cell (p := ⟨w.heap.size, 1, none⟩) (by simp <;> omega)).trans (by simp [go_sem])) : ((w.alloc (.cells #[.int .u64 0, .int .u64 0] 89))).cell? ⟨w.heap.size, 1, none⟩ = some (.int .u64 0))
 go_enter Try.func67, Try.ntmps67
 have hz : n / 9223372036854775808 = 0 := by omega
 go_wp2
 refine bodyPost_ret (v := (.agg #[.int .u64 (0), .int .u64 (n)])) (by simp [results, Try.results67, go_sem, set2 y0 y1, hz]) rfl ?_
 exact ⟨rfl, (by repeat (first | exact Below.refl _ _ | apply keep_alloc | apply keep_drew | apply keep_drewN | refine keep_step (by assumption) ?_ (by rfl) | refine keep_set ?_ _ _ (by first | exact Nat.le_refl _ | (show _ ≤ _; simp; done) | (show _ ≤ _; simp; omega))))⟩
set_option maxHeartbeats 4000000 in
theorem padd (g : Nat) (h l a b : Int) (w : World) (hm : Wd w g h l) (hh : 0 ≤ h) (hl : 0 ≤ l) (ha : 0 ≤ a) (hb : 0 ≤ b) (hb2 : l + b < 36893488147419103232) :
  Calls Try.prog 66 #[.pointer (some ⟨g, 0, none⟩), (.agg #[.int .u64 (a), .int .u64 (b)])] w fun e w' => e = .returned (.tuple #[]) ∧ Wd w' g ((h + a + (l + b) / 18446744073709551616) % 18446744073709551616) ((l + b) % 18446744073709551616) ∧ Turn g w w' := by
 have hgw := hm.lt
 obtain ⟨w1, hw1⟩ : ∃ w1, w1 = w.alloc (.cells #[.int .u64 a, .int .u64 b] 89) := ⟨_, rfl⟩
 have hb1 : Below w.heap.size w w1 := by rw [hw1]; exact (by repeat (first | exact Below.refl _ _ | apply keep_alloc | apply keep_drew | apply keep_drewN | refine keep_step (by assumption) ?_ (by rfl) | refine keep_set ?_ _ _ (by first | exact Nat.le_refl _ | (show _ ≤ _; simp; done) | (show _ ≤ _; simp; omega))))
 have hm1 := hm.below hb1 hgw
 have hx1 : Wd w1 w.heap.size a b := by rw [hw1]; exact Wd.made _ _ _ _
 obtain ⟨⟨c0, c1⟩, f0, f1⟩ := id hm1
 obtain ⟨⟨x0, x1⟩, x2, x3⟩ := id hx1
 have hsz : w.heap.size < w1.heap.size := hx1.lt
 have hgw1 : g < w1.heap.size := hm1.lt
 have A1 := fun W => add64_law l b 0 hl hb (by omega) (by omega) W
 have A2 := fun W => add64_law h a ((l + b) / 18446744073709551616) hh ha (by omega) (by omega) W
 go_enter Try.func66, Try.ntmps66
 go_wp2
 rw [← hw1]
 clear hw1
 go_quiet (fail)
 go_wp2
 go_quiet (fail)
 go_wp2
 go_returns
 exact ⟨rfl, (hm1.below (B := w1.heap.size) (below_drewN (Below.refl _ _) _) hgw1).put _ _, by (repeat (first | exact Turn.refl _ _ | apply Turn.set | apply Turn.alloc | apply Turn.drew | apply Turn.drewN | refine Turn.trans ?_ (by assumption) | refine Turn.below ?_ (by assumption) (by rfl) | refine Turn.setNew ?_ _ _ (by first | exact Nat.le_refl _ | (show _ ≤ _; simp; done) | (show _ ≤ _; simp; omega))))⟩
def TtRel (gs : List Int) (n g : Nat) (w2 : World) (v8 : Value) (wr : World) : Prop :=
 ∃ k : Nat, k ≤ n ∧ v8 = .int .i64 k ∧ Wd wr g 0 (pos gs k) ∧ Turn g w2 wr
set_option maxHeartbeats 4000000 in
theorem ptotal (gs : List Int) (A : Option Addr) (n cap : Nat) (w : World) (hn : gs.length = n) (hF : Fine gs) (hA : Ints w A gs) :
  Calls Try.prog 57 #[.slice A n cap] w fun e w' => e = .returned (.agg #[.int .u64 (0), .int .u64 (pos gs n)]) ∧ Below w.heap.size w w' := by
 have HN := Lib.hid hn
 have hn63 : n ≤ 63 := by rw [← hn]; exact hF.2.1
 have HF := Lib.hid hF
 clear hF hn
 go_enter Try.func57, Try.ntmps57
 go_wp2
 obtain ⟨w2, hw2⟩ : ∃ w2, w2 = (w.alloc (.cells #[.int .u64 0, .int .u64 0] 89)).alloc (.cells #[.int .u64 0, .int .u64 0] 89) := ⟨_, rfl⟩
 obtain ⟨g, hg⟩ : ∃ g, g = w.heap.size + 1 := ⟨_, rfl⟩
 have hm2 : Wd w2 g 0 0 := by
  have h := Wd.made (w.alloc (.cells #[.int .u64 0, .int .u64 0] 89)) 0 0 89
  rw [hw2, hg]; simpa using h
 have hr2 : Wd w2 w.heap.size 0 0 := by
  rw [hw2]
  exact (Wd.made w 0 0 89).below (B := (w.alloc (.cells #[.int .u64 0, .int .u64 0] 89)).heap.size) ((Below.refl _ _).alloc (Nat.le_refl _) _) (by simp)
 have hb2 : Below w.heap.size w w2 := by rw [hw2]; exact (by repeat (first | exact Below.refl _ _ | apply keep_alloc | apply keep_drew | apply keep_drewN | refine keep_step (by assumption) ?_ (by rfl) | refine keep_set ?_ _ _ (by first | exact Nat.le_refl _ | (show _ ≤ _; simp; done) | (show _ ≤ _; simp; omega))))
 have hgw : w.heap.size ≤ g := by omega
 have hgr : w.heap.size ≠ g := by omega
 have hrlt : w.heap.size < w2.heap.size := hr2.lt
 rw [← hw2, ← hg]
 clear hw2 hg
 go_loopw [8] (TtRel gs n g w2) (fun v _ => n - (intOf v).toNat)
 case atStart => exact ⟨0, by omega, rfl, hm2, Turn.refl _ _⟩
 case round =>
  obtain ⟨k, hk, rfl, hm, htr⟩ := hrel
  have hbr : Below w.heap.size w wr := keep_turn htr hb2 hgw
  have hmlt := hm.lt
  by_cases hlt : k < n
  ·obtain ⟨b, o, rfl, hc⟩ := (hA.step hbr).cell (k := k) (by rw [HN.out]; exact hlt)
   have c1 := hc k (by rw [HN.out]; exact hlt)
   clear hc
   have hp := pos_low HF.out k (by rw [HN.out]; omega)
   have hg1 := (good_and _).1 (HF.out.2.2 k (by rw [HN.out]; exact hlt))
   have e1 : (0 + 0 + (pos gs k + nth gs k) / 18446744073709551616) % 18446744073709551616 = (0 : Int) := by omega
   have e2 : (pos gs k + nth gs k) % 18446744073709551616 = pos gs (k + 1) := by
    show _ = pos gs k + nth gs k
    omega
   have E1 := Lib.hid e1
   have E2 := Lib.hid e2
   clear e1 e2
   go_wp2_with fail
   refine (pwiden (nth gs k) _ (by omega) (by omega)).mono ?_
   rintro _ w3 ⟨rfl, hb3⟩
   go_wp2_with fail
   refine (padd g 0 (pos gs k) 0 (nth gs k) _ (hm.below hb3 hmlt) (by omega) (by omega) (by omega) (by omega) (by omega)).mono ?_
   rintro _ w4 ⟨rfl, hm4, ht4⟩
   rw [E1.out, E2.out] at hm4
   go_wp2
   exact ⟨⟨k + 1, by omega, by go_num, hm4, by (repeat (first | exact Turn.refl _ _ | apply Turn.set | apply Turn.alloc | apply Turn.drew | apply Turn.drewN | refine Turn.trans ?_ (by assumption) | refine Turn.below ?_ (by assumption) (by rfl) | refine Turn.setNew ?_ _ _ (by first | exact Nat.le_refl _ | (show _ ≤ _; simp; done) | (show _ ≤ _; simp; omega))))⟩, by simp [intOf]; omega⟩
  ·have hkn : k = n := by omega
   subst hkn
   have hr := hr2.turn htr hgr
   obtain ⟨⟨c0, c1⟩, f0, f1⟩ := id hm
   obtain ⟨⟨y0, y1⟩, y2, y3⟩ := id hr
   go_wp2
   refine bodyPost_ret (v := (.agg #[.int .u64 (0), .int .u64 (pos gs k)])) (by simp [results, Try.results57, go_sem, set2 y0 y1]) rfl ?_
   exact ⟨rfl, (by repeat (first | exact Below.refl _ _ | apply keep_alloc | apply keep_drew | apply keep_drewN | refine keep_step (by assumption) ?_ (by rfl) | refine keep_set ?_ _ _ (by first | exact Nat.le_refl _ | (show _ ≤ _; simp; done) | (show _ ≤ _; simp; omega))))⟩
end Go.Proofs.Ytcjlidciniiofaa
