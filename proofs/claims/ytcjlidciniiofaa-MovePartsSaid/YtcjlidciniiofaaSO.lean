import Derived.Test.YtcjlidciniiofaaSN
set_option linter.unusedVariables false
namespace Go.Proofs.Ytcjlidciniiofaa
open Go.RowKit
theorem pfixCheck (w : World) : Calls Try.prog 56 #[(.agg #[.int .i64 0, .int .i64 63000])] w fun e w' => e = .returned (.int .i64 0) ∧ Below w.heap.size w w' := by
 go_enter Try.func56, Try.ntmps56
 go_wp2
 go_ret
 exact ⟨rfl, (by repeat (first | exact Below.refl _ _ | apply keep_alloc | apply keep_drew | apply keep_drewN | refine keep_step (by assumption) ?_ (by rfl) | refine keep_set ?_ _ _ (by first | exact Nat.le_refl _ | (show _ ≤ _; simp; done) | (show _ ≤ _; simp; omega))))⟩
set_option maxHeartbeats 4000000 in
theorem pwithin (n : Int) (w : World) (h0 : 0 ≤ n) (h1 : n ≤ 63000) : Calls Try.prog 58 #[(.agg #[.int .u64 (0), .int .u64 (n)]), (.agg #[.int .i64 0, .int .i64 63000])] w (Out2 n 0 w) := by
 obtain ⟨w1, hw1⟩ : ∃ w1, w1 = (w.alloc (.cells #[.int .u64 0, .int .u64 n] 89)).alloc (.cells #[.int .i64 0, .int .i64 63000] 72) := ⟨_, rfl⟩
 obtain ⟨g, hg⟩ : ∃ g, g = w.heap.size + 1 := ⟨_, rfl⟩
 have hb1 : Below w.heap.size w w1 := by rw [hw1]; exact (by repeat (first | exact Below.refl _ _ | apply keep_alloc | apply keep_drew | apply keep_drewN | refine keep_step (by assumption) ?_ (by rfl) | refine keep_set ?_ _ _ (by first | exact Nat.le_refl _ | (show _ ≤ _; simp; done) | (show _ ≤ _; simp; omega))))
 have hm1 : Wd w1 w.heap.size 0 n := by
  rw [hw1]
  exact (Wd.made w 0 n 89).below (B := (w.alloc (.cells #[.int .u64 0, .int .u64 n] 89)).heap.size) ((Below.refl _ _).alloc (Nat.le_refl _) _) (by simp)
 have z0 : w1.cell? ⟨g, 0, none⟩ = some (.int .i64 0) := by rw [hw1, hg, World.cell?_alloc_at _ _ _ _ (by simp)]; rfl
 have z1 : w1.cell? ⟨g, 1, none⟩ = some (.int .i64 63000) := by rw [hw1, hg, World.cell?_alloc_at _ _ _ _ (by simp)]; rfl
 obtain ⟨⟨x0, x1⟩, x2, x3⟩ := id hm1
 have hlt1 := hm1.lt
 have hlt2 : g < w1.heap.size := World.block_lt_of_cell? w1 _ z0
 go_enter Try.func58, Try.ntmps58
 go_wp2
 rw [← hw1, ← hg]
 clear hw1 hg
 have hd0 : decide (n < 0) = false := by simp; omega
 have hd1 : decide (63000 < n) = false := by simp; omega
 (refine wp_region_calm (C := fun x => ∃ y : Later w1, x = y.w) (by kernel_rfl) (by kernel_rfl) (later_start w1) ?_; have hlat := later_cell w1; (repeat (go_big_quiet_step ((first | (go_at_call 67; apply later_of; (first | (with_reducible exact pwiden) | (apply pwiden <;> first | (with_reducible assumption) | (first | omega | (subst_vars; omega) | (simp only [Bool.not_eq_true', Bool.not_eq_false', beq_iff_eq, beq_eq_false_iff_ne, ne_eq, bne_iff_ne, bne_eq_false_iff_eq, Bool.not_eq_true, Bool.not_eq_false, decide_eq_true_eq, decide_eq_false_iff_not, Bool.and_eq_true, Bool.or_eq_true] at *; first | omega | (subst_vars; omega)) | (simp only [Bool.not_eq_true', Bool.not_eq_false', beq_iff_eq, beq_eq_false_iff_ne, ne_eq, bne_iff_ne, bne_eq_false_iff_eq, Bool.not_eq_true, Bool.not_eq_false, decide_eq_true_eq, decide_eq_false_iff_not, Bool.and_eq_true, Bool.or_eq_true, wrap64] at *; first | omega | (subst_vars; omega)))))))))); refine wpQuiet_nil ?_; rintro w' ⟨⟨xq, hb⟩, hxq⟩; have hxq2 : w' = xq := hxq; clear hxq; subst hxq2; clear hlat)
 go_wp2
 go_ret2
 exact out2 rfl rfl (by repeat (first | exact Below.refl _ _ | apply keep_alloc | apply keep_drew | apply keep_drewN | refine keep_step (by assumption) ?_ (by rfl) | refine keep_set ?_ _ _ (by first | exact Nat.le_refl _ | (show _ ≤ _; simp; done) | (show _ ≤ _; simp; omega))))
set_option maxHeartbeats 4000000 in
theorem psum (gs : List Int) (A : Option Addr) (n cap : Nat) (w : World) (hn : gs.length = n) (hF : Fine gs) (hA : Ints w A gs) :
  Calls Try.prog 42 #[(.agg #[.int .i64 0, .int .i64 63000]), .slice A n cap] w (Out2 (pos gs n) 0 w) := by
 have HF := Lib.hid hF
 have hn63 : n ≤ 63 := by rw [← hn]; exact hF.2.1
 obtain ⟨p1, p2⟩ := pos_low hF n (by omega)
 obtain ⟨w1, hw1⟩ : ∃ w1, w1 = w.alloc (.cells #[.int .i64 0, .int .i64 63000] 72) := ⟨_, rfl⟩
 have hb1 : Below w.heap.size w w1 := by rw [hw1]; exact (by repeat (first | exact Below.refl _ _ | apply keep_alloc | apply keep_drew | apply keep_drewN | refine keep_step (by assumption) ?_ (by rfl) | refine keep_set ?_ _ _ (by first | exact Nat.le_refl _ | (show _ ≤ _; simp; done) | (show _ ≤ _; simp; omega))))
 have z0 : w1.cell? ⟨w.heap.size, 0, none⟩ = some (.int .i64 0) := by rw [hw1, World.cell?_alloc_at _ _ _ _ rfl]; rfl
 have z1 : w1.cell? ⟨w.heap.size, 1, none⟩ = some (.int .i64 63000) := by rw [hw1, World.cell?_alloc_at _ _ _ _ rfl]; rfl
 have hlt : w.heap.size < w1.heap.size := World.block_lt_of_cell? w1 _ z0
 clear hF
 go_enter Try.func42, Try.ntmps42
 go_wp2_with fail
 rw [← hw1]
 refine (pfixCheck _).mono ?_
 rintro _ w2 ⟨rfl, hb2⟩
 clear hw1
 have y0 := (hb2.cell (p := ⟨w.heap.size, 0, none⟩) hlt).trans z0
 have y1 := (hb2.cell (p := ⟨w.heap.size, 1, none⟩) hlt).trans z1
 have hlt2 : w.heap.size < w2.heap.size := World.block_lt_of_cell? w2 _ y0
 have hA2 : Ints w2 A gs := hA.step (by repeat (first | exact Below.refl _ _ | apply keep_alloc | apply keep_drew | apply keep_drewN | refine keep_step (by assumption) ?_ (by rfl) | refine keep_set ?_ _ _ (by first | exact Nat.le_refl _ | (show _ ≤ _; simp; done) | (show _ ≤ _; simp; omega))))
 go_wp2
 (refine wp_region_calm (C := fun x => ∃ y : Later w2, x = y.w) (by kernel_rfl) (by kernel_rfl) (later_start w2) ?_; have hlat := later_cell w2; (repeat (go_big_quiet_step ((first | (go_at_call 57; apply later_of; exact ptotal gs A n cap _ hn HF.out (hA2.step (Later.kept _))) | (go_at_call 58; apply later_of; exact pwithin _ _ (by omega) (by omega)))))); refine wpQuiet_nil ?_; rintro w' ⟨⟨xq, hb⟩, hxq⟩; have hxq2 : w' = xq := hxq; clear hxq; subst hxq2; clear hlat)
 go_wp2
 go_ret2
 exact out2 rfl rfl (by repeat (first | exact Below.refl _ _ | apply keep_alloc | apply keep_drew | apply keep_drewN | refine keep_step (by assumption) ?_ (by rfl) | refine keep_set ?_ _ _ (by first | exact Nat.le_refl _ | (show _ ≤ _; simp; done) | (show _ ≤ _; simp; omega))))
theorem pHeight (gs : List Int) (A : Option Addr) (n cap : Nat) (w : World) (hn : gs.length = n) (hm : n ≤ 1000) (hA : Ints w A gs) :
  Calls Try.prog 22 #[.slice A n cap] w (Out2 (htV gs) (ckE gs) w) := by
 by_cases hck : ckE gs = 0
 ·rw [htV_ok hck, hck, hn]
  have HCK := Lib.hid hck
  have HF := Lib.hid (fine_of hck)
  clear hck
  go_enter Try.func22, Try.ntmps22
  go_wp2_with fail
  refine (pCheck gs A n cap _ hn hm (hA.step (by repeat (first | exact Below.refl _ _ | apply keep_alloc | apply keep_drew | apply keep_drewN | refine keep_step (by assumption) ?_ (by rfl) | refine keep_set ?_ _ _ (by first | exact Nat.le_refl _ | (show _ ≤ _; simp; done) | (show _ ≤ _; simp; omega)))))).mono ?_
  rintro _ w1 ⟨rfl, hb1⟩
  rw [HCK.out]
  go_wp2_with fail
  refine (psum gs A n cap _ hn HF.out (hA.step (by repeat (first | exact Below.refl _ _ | apply keep_alloc | apply keep_drew | apply keep_drewN | refine keep_step (by assumption) ?_ (by rfl) | refine keep_set ?_ _ _ (by first | exact Nat.le_refl _ | (show _ ≤ _; simp; done) | (show _ ≤ _; simp; omega)))))).mono ?_
  rintro _ w2 ⟨rfl, hb2⟩
  go_wp2
  go_ret2
  exact out2 rfl rfl (by repeat (first | exact Below.refl _ _ | apply keep_alloc | apply keep_drew | apply keep_drewN | refine keep_step (by assumption) ?_ (by rfl) | refine keep_set ?_ _ _ (by first | exact Nat.le_refl _ | (show _ ≤ _; simp; done) | (show _ ≤ _; simp; omega))))
 ·have hb0 : (ckE gs != 0) = true := by simp [hck]
  rw [htV_bad hck]
  clear hck
  go_enter Try.func22, Try.ntmps22
  go_wp2_with fail
  refine (pCheck gs A n cap _ hn hm (hA.step (by repeat (first | exact Below.refl _ _ | apply keep_alloc | apply keep_drew | apply keep_drewN | refine keep_step (by assumption) ?_ (by rfl) | refine keep_set ?_ _ _ (by first | exact Nat.le_refl _ | (show _ ≤ _; simp; done) | (show _ ≤ _; simp; omega)))))).mono ?_
  rintro _ w1 ⟨rfl, hb1⟩
  go_wp2
  go_ret2
  exact out2 rfl rfl (by repeat (first | exact Below.refl _ _ | apply keep_alloc | apply keep_drew | apply keep_drewN | refine keep_step (by assumption) ?_ (by rfl) | refine keep_set ?_ _ _ (by first | exact Nat.le_refl _ | (show _ ≤ _; simp; done) | (show _ ≤ _; simp; omega))))
end Go.Proofs.Ytcjlidciniiofaa
