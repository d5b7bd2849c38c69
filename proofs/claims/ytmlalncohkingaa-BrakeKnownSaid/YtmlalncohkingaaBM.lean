/- Layer 10: BrakeTimes. -/
import Derived.Test.YtmlalncohkingaaBL
namespace Go.Proofs.Ytmlalncohkingaa
open Go.RowKit
set_option linter.unusedVariables false

theorem run1 {s l n : Int} (h : chk s l n = 0) : runE s l n 1 = 0 ∧ runS s l n 1 = tS s l ∧ runL s l n 1 = tL s l := by
  have h1 : runE s l n 1 = 0 := by unfold runE; rw [if_pos h, if_neg (by omega)]
  exact ⟨h1, by unfold runS; rw [h1]; rfl, by unfold runL; rw [h1]; rfl⟩

theorem up_free : ∀ m : Nat, m < 6 → ∀ i : Nat, i < m → freeB (it (beS 1 (m : Int)) m i).1 (it (beS 1 (m : Int)) m i).2 m = false := by decide
theorem up_end : ∀ m : Nat, m < 6 → it (beS 1 (m : Int)) m m = (2, 0) := by decide
theorem up_ok : ∀ m : Nat, m < 6 → chk (beS 1 (m : Int)) m m = 0 := by decide
theorem down_ok : ∀ m : Nat, m < 6 → chk (beS 3 (m : Int)) m m = 0 := by decide
theorem down_end : ∀ m : Nat, m < 6 → it (beS 3 (m : Int)) m m = (0, 0) := by decide
theorem down_mid : ∀ m : Nat, m < 6 → ∀ i : Nat, i < m → (it (beS 3 (m : Int)) m i).1 ≠ 0 := by decide
theorem rel_new : ∀ m : Nat, m < 6 → begE 0 0 (m : Int) 0 = 0 ∧ begS 0 0 (m : Int) 0 1 = beS 1 m ∧ begL 0 0 (m : Int) 0 = m := by decide
theorem app_open : ∀ m : Nat, m < 6 → begE 2 0 (m : Int) 2 = 0 ∧ begS 2 0 (m : Int) 2 3 = beS 3 m ∧ begL 2 0 (m : Int) 2 = m ∧ freeB 2 0 (m : Int) = true ∧ chk 2 0 (m : Int) = 0 := by decide

def TmRel (s : Int) (m : Nat) (g : Nat) (w1 : World) (v5 v6 : Value) (wr : World) : Prop :=
  ∃ k : Nat, k ≤ m ∧ v6 = .int .i64 k ∧ v5 = .int .i64 0 ∧ Brk wr g (it s m k).1 (it s m k).2 ∧ Turn g w1 wr

set_option maxHeartbeats 16000000 in
theorem brakeTimes_true (t : Int) (w : World) (ht64 : In64 t) : Calls Try.prog 7 #[.int .i64 t] w fun e w' => e = .returned (.bool true) ∧ Below w.heap.size w w' := by
  obtain ⟨m, hm⟩ : ∃ m : Nat, t % 6 = m := ⟨(t % 6).toNat, by omega⟩
  have hm6 : m < 6 := by omega
  obtain ⟨n1, n2, n3⟩ := rel_new m hm6
  obtain ⟨o1, o2, o3, o4, o5⟩ := app_open m hm6
  have N1 := Lib.hid n1
  have N2 := Lib.hid n2
  have N3 := Lib.hid n3
  have O1 := Lib.hid o1
  have O2 := Lib.hid o2
  have O3 := Lib.hid o3
  have O4 := Lib.hid o4
  have O5 := Lib.hid o5
  have UE := Lib.hid (up_end m hm6)
  have DE := Lib.hid (down_end m hm6)
  have HM := Lib.hid hm
  clear n1 n2 n3 o1 o2 o3 o4 o5 hm
  go_enter Try.func7, Try.ntmps7
  go_wp2_with fail
  refine (mod_any t 6 _ ht64 (by decide)).mono ?_
  rintro _ w0 ⟨rfl, hb0⟩
  rw [if_neg (by decide), HM.out]
  go_wp2_with fail
  refine (pNew _).mono ?_
  rintro _ w1 ⟨rfl, hb1⟩
  go_wp2_with fail
  refine (pRelease 0 0 m _).mono ?_
  rintro _ w2 ⟨rfl, hb2⟩
  rw [N1.out, N2.out, N3.out]
  go_wp2
  obtain ⟨w3, hw3⟩ : ∃ w3, w3 = w2.alloc (.cells #[.int .i64 (beS 1 m), .int .i64 m] 23) := ⟨_, rfl⟩
  obtain ⟨g, hg⟩ : ∃ g, g = w2.heap.size := ⟨_, rfl⟩
  obtain ⟨hbr3, hb3⟩ := new_brk hw3
  rw [← hw3, ← hg]
  rw [← hg] at hbr3
  have hgw : w.heap.size ≤ g := by
    have := (show Below w.heap.size w w2 from (by repeat (first | exact Below.refl _ _ | apply keep_alloc | apply keep_drew | apply keep_drewN | refine keep_step (by assumption) ?_ (by rfl) | refine keep_set ?_ _ _ (by first | exact Nat.le_refl _ | (show _ ≤ _; simp; done) | (show _ ≤ _; simp; omega))))).size
    omega
  have hbw3 : Below w.heap.size w w3 := (by repeat (first | exact Below.refl _ _ | apply keep_alloc | apply keep_drew | apply keep_drewN | refine keep_step (by assumption) ?_ (by rfl) | refine keep_set ?_ _ _ (by first | exact Nat.le_refl _ | (show _ ≤ _; simp; done) | (show _ ≤ _; simp; omega))))
  clear hw3 hg
  go_loopw [5, 6] (TmRel (beS 1 m) m g w3) (fun _ v _ => m - (intOf v).toNat)
  case atStart => exact ⟨0, by omega, rfl, rfl, hbr3, Turn.refl _ _⟩
  case round =>
    obtain ⟨k, hk, rfl, rfl, hbr, htr⟩ := hrel
    have hok := it_ok (up_ok m hm6) k
    have hlt0 := hbr.lt
    by_cases hlt : k < m
    · have hfree := up_free m hm6 k hlt
      obtain ⟨r1, r2, r3⟩ := run1 hok
      have R1 := Lib.hid r1
      have R2 := Lib.hid r2
      have R3 := Lib.hid r3
      have F := Lib.hid hfree
      have OK := Lib.hid hok
      clear r1 r2 r3 hfree hok
      obtain ⟨⟨x0, x1⟩, x2, x3⟩ := id hbr
      go_wp2_with fail
      refine (pFree _ _ m _).mono ?_
      rintro _ w4 ⟨rfl, hb4⟩
      rw [F.out, OK.out]
      have hbr4 := hbr.below hb4 hlt0
      clear x0 x1 x2 x3
      obtain ⟨⟨x0, x1⟩, x2, x3⟩ := id hbr4
      have hlt4 := hbr4.lt
      go_wp2_with fail
      refine (pStep _ _ m _).mono ?_
      rintro _ w5 ⟨rfl, hb5⟩
      rw [R1.out, R2.out, R3.out]
      have hbr5 := hbr4.below hb5 hlt4
      clear x0 x1 x2 x3
      obtain ⟨⟨x0, x1⟩, x2, x3⟩ := id hbr5
      go_wp2
      exact ⟨⟨k + 1, by omega, by go_num, rfl, hbr5.put _ _, by (repeat (first | exact Turn.refl _ _ | apply Turn.set | apply Turn.alloc | apply Turn.drew | apply Turn.drewN | refine Turn.trans ?_ (by assumption) | refine Turn.below ?_ (by assumption) (by rfl) | refine Turn.setNew ?_ _ _ (by first | exact Nat.le_refl _ | (show _ ≤ _; simp; done) | (show _ ≤ _; simp; omega))))⟩, by simp [intOf]; omega⟩
    · have hkm : k = m := by omega
      subst hkm
      rw [UE.out] at hbr
      simp only at hbr
      clear hok
      obtain ⟨⟨x0, x1⟩, x2, x3⟩ := id hbr
      have hbwr : Below w.heap.size w wr := keep_turn htr hbw3 hgw
      go_wp2_with fail
      refine (pFree 2 0 k _).mono ?_
      rintro _ w4 ⟨rfl, hb4⟩
      rw [O4.out, O5.out]
      have hbr4 := hbr.below hb4 hlt0
      clear x0 x1 x2 x3
      obtain ⟨⟨x0, x1⟩, x2, x3⟩ := id hbr4
      have hlt4 := hbr4.lt
      go_wp2_with fail
      refine (pApply 2 0 k _).mono ?_
      rintro _ w5 ⟨rfl, hb5⟩
      rw [O1.out, O2.out, O3.out]
      have hbr5 := hbr4.below hb5 hlt4
      clear x0 x1 x2 x3
      obtain ⟨⟨x0, x1⟩, x2, x3⟩ := id hbr5
      obtain ⟨w6, hw6⟩ : ∃ w6, w6 = (w5.setCell ⟨g, 0, none⟩ (.int .i64 (beS 3 k))).setCell ⟨g, 1, none⟩ (.int .i64 k) := ⟨_, rfl⟩
      obtain ⟨hbr6, ht6⟩ := hbr5.sets hw6
      have hbw6 : Below w.heap.size w w6 := keep_turn ht6 (by repeat (first | exact Below.refl _ _ | apply keep_alloc | apply keep_drew | apply keep_drewN | refine keep_step (by assumption) ?_ (by rfl) | refine keep_set ?_ _ _ (by first | exact Nat.le_refl _ | (show _ ≤ _; simp; done) | (show _ ≤ _; simp; omega)))) hgw
      go_wp2
      rw [← hw6]
      clear hw6 x0 x1 x2 x3
      go_loopw [5, 11] (TmRel (beS 3 k) k g w6) (fun _ v _ => k - (intOf v).toNat)
      case atStart => exact ⟨0, by omega, rfl, rfl, hbr6, Turn.refl _ _⟩
      case round =>
        obtain ⟨j, hj, rfl, rfl, hbrj, htj⟩ := hrel
        have hok := it_ok (down_ok k hm6) j
        have hltj := hbrj.lt
        by_cases hlt2 : j < k
        · have hmid := down_mid k hm6 j hlt2
          obtain ⟨r1, r2, r3⟩ := run1 hok
          have R1 := Lib.hid r1
          have R2 := Lib.hid r2
          have R3 := Lib.hid r3
          have hmb : ((it (beS 3 (k : Int)) k j).1 == 0) = false := by simp [hmid]
          have MID := Lib.hid hmid
          clear r1 r2 r3 hmid hok
          obtain ⟨⟨x0, x1⟩, x2, x3⟩ := id hbrj
          go_wp2_with fail
          (refine wp_region_calm (C := fun x => ∃ y : Later wr, x = y.w) (by kernel_rfl) (by kernel_rfl) (later_start wr) ?_; have hlat := later_cell wr; (repeat (go_big_quiet_step ((first | (go_at_call 14; apply later_of; (first | (with_reducible exact pNew) | (apply pNew <;> first | (with_reducible assumption) | (first | omega | (subst_vars; omega) | (simp only [Bool.not_eq_true', Bool.not_eq_false', beq_iff_eq, beq_eq_false_iff_ne, ne_eq, bne_iff_ne, bne_eq_false_iff_eq, Bool.not_eq_true, Bool.not_eq_false, decide_eq_true_eq, decide_eq_false_iff_not, Bool.and_eq_true, Bool.or_eq_true] at *; first | omega | (subst_vars; omega)) | (simp only [Bool.not_eq_true', Bool.not_eq_false', beq_iff_eq, beq_eq_false_iff_ne, ne_eq, bne_iff_ne, bne_eq_false_iff_eq, Bool.not_eq_true, Bool.not_eq_false, decide_eq_true_eq, decide_eq_false_iff_not, Bool.and_eq_true, Bool.or_eq_true, wrap64] at *; first | omega | (subst_vars; omega)))))))))); refine wpQuiet_nil ?_; rintro w' ⟨⟨xq, hb⟩, hxq⟩; have hxq2 : w' = xq := hxq; clear hxq; subst hxq2; clear hlat)
          have hbrk := hbrj.below hb hltj
          have hltk := hbrk.lt
          clear x0 x1 x2 x3
          obtain ⟨⟨x0, x1⟩, x2, x3⟩ := id hbrk
          go_wp2_with fail
          refine (pStep _ _ k _).mono ?_
          rintro _ w8 ⟨rfl, hb8⟩
          rw [R1.out, R2.out, R3.out]
          have hbr8 := hbrk.below hb8 hltk
          clear x0 x1 x2 x3
          obtain ⟨⟨x0, x1⟩, x2, x3⟩ := id hbr8
          go_wp2
          exact ⟨⟨j + 1, by omega, by go_num, rfl, hbr8.put _ _, by (repeat (first | exact Turn.refl _ _ | apply Turn.set | apply Turn.alloc | apply Turn.drew | apply Turn.drewN | refine Turn.trans ?_ (by assumption) | refine Turn.below ?_ (by assumption) (by rfl) | refine Turn.setNew ?_ _ _ (by first | exact Nat.le_refl _ | (show _ ≤ _; simp; done) | (show _ ≤ _; simp; omega))))⟩, by simp [intOf]; omega⟩
        · have hjk : j = k := by omega
          subst hjk
          rw [DE.out] at hbrj
          simp only at hbrj
          clear hok
          obtain ⟨⟨x0, x1⟩, x2, x3⟩ := id hbrj
          have hbwj : Below w.heap.size w wr := keep_turn htj hbw6 hgw
          go_wp2_with fail
          (refine wp_region_calm (C := fun x => ∃ y : Later wr, x = y.w) (by kernel_rfl) (by kernel_rfl) (later_start wr) ?_; have hlat := later_cell wr; (repeat (go_big_quiet_step ((first | (go_at_call 14; apply later_of; (first | (with_reducible exact pNew) | (apply pNew <;> first | (with_reducible assumption) | (first | omega | (subst_vars; omega) | (simp only [Bool.not_eq_true', Bool.not_eq_false', beq_iff_eq, beq_eq_false_iff_ne, ne_eq, bne_iff_ne, bne_eq_false_iff_eq, Bool.not_eq_true, Bool.not_eq_false, decide_eq_true_eq, decide_eq_false_iff_not, Bool.and_eq_true, Bool.or_eq_true] at *; first | omega | (subst_vars; omega)) | (simp only [Bool.not_eq_true', Bool.not_eq_false', beq_iff_eq, beq_eq_false_iff_ne, ne_eq, bne_iff_ne, bne_eq_false_iff_eq, Bool.not_eq_true, Bool.not_eq_false, decide_eq_true_eq, decide_eq_false_iff_not, Bool.and_eq_true, Bool.or_eq_true, wrap64] at *; first | omega | (subst_vars; omega)))))) | (go_at_call 15; apply later_of; (first | (with_reducible exact is_true) | (apply is_true <;> first | (with_reducible assumption) | (first | omega | (subst_vars; omega) | (simp only [Bool.not_eq_true', Bool.not_eq_false', beq_iff_eq, beq_eq_false_iff_ne, ne_eq, bne_iff_ne, bne_eq_false_iff_eq, Bool.not_eq_true, Bool.not_eq_false, decide_eq_true_eq, decide_eq_false_iff_not, Bool.and_eq_true, Bool.or_eq_true] at *; first | omega | (subst_vars; omega)) | (simp only [Bool.not_eq_true', Bool.not_eq_false', beq_iff_eq, beq_eq_false_iff_ne, ne_eq, bne_iff_ne, bne_eq_false_iff_eq, Bool.not_eq_true, Bool.not_eq_false, decide_eq_true_eq, decide_eq_false_iff_not, Bool.and_eq_true, Bool.or_eq_true, wrap64] at *; first | omega | (subst_vars; omega)))))) | (go_at_call 23; apply later_of; (first | (with_reducible exact awake_true) | (apply awake_true <;> first | (with_reducible assumption) | (first | omega | (subst_vars; omega) | (simp only [Bool.not_eq_true', Bool.not_eq_false', beq_iff_eq, beq_eq_false_iff_ne, ne_eq, bne_iff_ne, bne_eq_false_iff_eq, Bool.not_eq_true, Bool.not_eq_false, decide_eq_true_eq, decide_eq_false_iff_not, Bool.and_eq_true, Bool.or_eq_true] at *; first | omega | (subst_vars; omega)) | (simp only [Bool.not_eq_true', Bool.not_eq_false', beq_iff_eq, beq_eq_false_iff_ne, ne_eq, bne_iff_ne, bne_eq_false_iff_eq, Bool.not_eq_true, Bool.not_eq_false, decide_eq_true_eq, decide_eq_false_iff_not, Bool.and_eq_true, Bool.or_eq_true, wrap64] at *; first | omega | (subst_vars; omega)))))))))); refine wpQuiet_nil ?_; rintro w' ⟨⟨xq, hb⟩, hxq⟩; have hxq2 : w' = xq := hxq; clear hxq; subst hxq2; clear hlat)
          go_wp2
          go_ret
          exact ⟨rfl, (by repeat (first | exact Below.refl _ _ | apply keep_alloc | apply keep_drew | apply keep_drewN | refine keep_step (by assumption) ?_ (by rfl) | refine keep_set ?_ _ _ (by first | exact Nat.le_refl _ | (show _ ≤ _; simp; done) | (show _ ≤ _; simp; omega))))⟩
end Go.Proofs.Ytmlalncohkingaa
