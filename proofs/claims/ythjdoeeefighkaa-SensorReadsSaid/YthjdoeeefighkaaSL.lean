/- Layer 7: the program's Level, At, Distance. -/
import Derived.Test.YthjdoeeefighkaaSK
namespace Go.Proofs.Ythjdoeeefighkaa
open Go.RowKit
set_option linter.unusedVariables false

theorem inS_d {gs : List Int} {p : Int} : inS gs p = true ↔ 0 ≤ p ∧ p ≤ pos gs gs.length := by simp [inS]
theorem inF_d {gs : List Int} {p : Int} : inF gs p = true ↔ 0 ≤ p ∧ p ≤ gs.length := by simp [inF]
theorem lE_two {gs : List Int} {p f t : Int} (h : ckE gs = 0) (h2 : inS gs p = false ∨ inF gs f = false ∨ t < 0 ∨ 20 < t) : lE gs p f t = 2 := by
  refine lE_rng h ?_
  unfold Askable
  rcases h2 with h2 | h2 | h2 | h2
  · simp only [inS, decide_eq_false_iff_not] at h2; omega
  · simp only [inF, decide_eq_false_iff_not] at h2; omega
  · omega
  · omega
theorem lE_fine {gs : List Int} {p f t : Int} (h : ckE gs = 0) (h1 : inS gs p = true) (h2 : inF gs f = true) (h3 : 0 ≤ t) (h4 : t ≤ 20) : lE gs p f t = 0 := by
  refine lE_ok h ?_
  have := inS_d.1 h1
  have := inF_d.1 h2
  unfold Askable
  omega

set_option maxHeartbeats 4000000 in
theorem pLevel (gs : List Int) (A : Option Addr) (n cap : Nat) (p f t : Int) (w : World) (hn : gs.length = n) (hm : n ≤ 1000) (hA : Ints w A gs) :
    Calls Try.prog 56 #[.slice A n cap, .int .i64 p, .int .i64 f, .int .i64 t] w (OutF (lV gs p f t) (lE gs p f t) w) := by
  obtain ⟨N, hN⟩ : ∃ N, N = n + 1 := ⟨_, rfl⟩
  have HN := Lib.hid hN
  clear hN
  by_cases hck : ckE gs = 0
  · have HF := Lib.hid (fine_of hck)
    have HCK := Lib.hid hck
    have bad : ∀ (h2 : inS gs p = false ∨ inF gs f = false ∨ t < 0 ∨ 20 < t), lV gs p f t = false ∧ lE gs p f t = 2 := fun h2 => by
      have := lE_two (t := t) hck h2
      exact ⟨lV_bad (by rw [this]; decide), this⟩
    have BAD := Lib.hid bad
    clear bad hck
    cases hin : inS gs p
    · rw [(BAD.out (.inl hin)).1, (BAD.out (.inl hin)).2]
      have HIN := Lib.hid hin
      clear hin
      go_enter Try.func56, Try.ntmps56
      go_wp2_with fail
      refine (pPlaceN gs A n N cap _ hn HN.out hm (hA.step (by repeat (first | exact Below.refl _ _ | apply keep_alloc | apply keep_drew | apply keep_drewN | refine keep_step (by assumption) ?_ (by rfl) | refine keep_set ?_ _ _ (by first | exact Nat.le_refl _ | (show _ ≤ _; simp; done) | (show _ ≤ _; simp; omega))))) HCK.out).mono ?_
      rintro _ w1 ⟨B, rfl, hi1, hb1⟩
      go_wp2_with fail
      refine (pisPos gs B n N N p _ HF.out hn HN.out (show Spots _ gs N B from hi1)).mono ?_
      rintro _ w2 ⟨rfl, hb2⟩
      rw [HIN.out]
      go_wp2
      go_ret2
      exact outFl rfl rfl (by repeat (first | exact Below.refl _ _ | apply keep_alloc | apply keep_drew | apply keep_drewN | refine keep_step (by assumption) ?_ (by rfl) | refine keep_set ?_ _ _ (by first | exact Nat.le_refl _ | (show _ ≤ _; simp; done) | (show _ ≤ _; simp; omega))))
    · cases hfl : inF gs f
      · rw [(BAD.out (.inr (.inl hfl))).1, (BAD.out (.inr (.inl hfl))).2]
        have HIN := Lib.hid hin
        have HFL := Lib.hid hfl
        clear hin hfl
        go_enter Try.func56, Try.ntmps56
        go_wp2_with fail
        refine (pPlaceN gs A n N cap _ hn HN.out hm (hA.step (by repeat (first | exact Below.refl _ _ | apply keep_alloc | apply keep_drew | apply keep_drewN | refine keep_step (by assumption) ?_ (by rfl) | refine keep_set ?_ _ _ (by first | exact Nat.le_refl _ | (show _ ≤ _; simp; done) | (show _ ≤ _; simp; omega))))) HCK.out).mono ?_
        rintro _ w1 ⟨B, rfl, hi1, hb1⟩
        go_wp2_with fail
        refine (pisPos gs B n N N p _ HF.out hn HN.out (show Spots _ gs N B from hi1)).mono ?_
        rintro _ w2 ⟨rfl, hb2⟩
        rw [HIN.out]
        go_wp2_with fail
        refine (pisFloor gs B n N N f _ hn HN.out hm).mono ?_
        rintro _ w3 ⟨rfl, hb3⟩
        rw [HFL.out]
        go_wp2
        go_ret2
        exact outFl rfl rfl (by repeat (first | exact Below.refl _ _ | apply keep_alloc | apply keep_drew | apply keep_drewN | refine keep_step (by assumption) ?_ (by rfl) | refine keep_set ?_ _ _ (by first | exact Nat.le_refl _ | (show _ ≤ _; simp; done) | (show _ ≤ _; simp; omega))))
      · by_cases ht : t < 0 ∨ 20 < t
        · rw [(BAD.out (.inr (.inr ht))).1, (BAD.out (.inr (.inr ht))).2]
          have HIN := Lib.hid hin
          have HFL := Lib.hid hfl
          clear hin hfl
          rcases (show t < 0 ∨ (0 ≤ t ∧ 20 < t) by omega) with g1 | ⟨g1, g2⟩
          all_goals
            clear ht
            go_enter Try.func56, Try.ntmps56
            go_wp2_with fail
            refine (pPlaceN gs A n N cap _ hn HN.out hm (hA.step (by repeat (first | exact Below.refl _ _ | apply keep_alloc | apply keep_drew | apply keep_drewN | refine keep_step (by assumption) ?_ (by rfl) | refine keep_set ?_ _ _ (by first | exact Nat.le_refl _ | (show _ ≤ _; simp; done) | (show _ ≤ _; simp; omega))))) HCK.out).mono ?_
            rintro _ w1 ⟨B, rfl, hi1, hb1⟩
            go_wp2_with fail
            refine (pisPos gs B n N N p _ HF.out hn HN.out (show Spots _ gs N B from hi1)).mono ?_
            rintro _ w2 ⟨rfl, hb2⟩
            rw [HIN.out]
            go_wp2_with fail
            refine (pisFloor gs B n N N f _ hn HN.out hm).mono ?_
            rintro _ w3 ⟨rfl, hb3⟩
            rw [HFL.out]
            go_wp2
            go_ret2
            exact outFl rfl rfl (by repeat (first | exact Below.refl _ _ | apply keep_alloc | apply keep_drew | apply keep_drewN | refine keep_step (by assumption) ?_ (by rfl) | refine keep_set ?_ _ _ (by first | exact Nat.le_refl _ | (show _ ≤ _; simp; done) | (show _ ≤ _; simp; omega))))
        · have g1 : 0 ≤ t := by omega
          have g2 : t ≤ 20 := by omega
          have hE := lE_fine HCK.out hin hfl g1 g2
          have hi := inS_d.1 hin
          have hf := inF_d.1 hfl
          obtain ⟨k, rfl⟩ : ∃ k : Nat, f = k := ⟨f.toNat, by omega⟩
          have hk : k ≤ n := by omega
          rw [lV_ok hE, hE, show ((k : Int)).toNat = k by omega]
          have HIN := Lib.hid hin
          have HFL := Lib.hid hfl
          have HD := Lib.hid (ab_def (pos gs k) p)
          obtain ⟨q1, q2⟩ := near_pos HF.out (k := k) (by omega)
          obtain ⟨q3, q4⟩ := near_ask HF.out hi.1 hi.2
          clear hin hfl ht hE hi hf
          go_enter Try.func56, Try.ntmps56
          go_wp2_with fail
          refine (pPlaceN gs A n N cap _ hn HN.out hm (hA.step (by repeat (first | exact Below.refl _ _ | apply keep_alloc | apply keep_drew | apply keep_drewN | refine keep_step (by assumption) ?_ (by rfl) | refine keep_set ?_ _ _ (by first | exact Nat.le_refl _ | (show _ ≤ _; simp; done) | (show _ ≤ _; simp; omega))))) HCK.out).mono ?_
          rintro _ w1 ⟨B, rfl, hi1, hb1⟩
          obtain ⟨b, o, rfl, hbw, hc⟩ := (show Spots w1 gs N B from hi1).cells (by rw [HN.out]; omega)
          have c1 := hc k (by rw [HN.out]; omega)
          clear hc
          have hkN : (k : Int) < (N : Int) := by rw [HN.out]; omega
          go_wp2_with fail
          refine (pisPos gs _ n N N p _ HF.out hn HN.out (show Spots _ gs N _ from hi1)).mono ?_
          rintro _ w2 ⟨rfl, hb2⟩
          rw [HIN.out]
          go_wp2_with fail
          refine (pisFloor gs _ n N N k _ hn HN.out hm).mono ?_
          rintro _ w3 ⟨rfl, hb3⟩
          rw [HFL.out]
          have hb4 : Below w1.heap.size w1 w3 := (by repeat (first | exact Below.refl _ _ | apply keep_alloc | apply keep_drew | apply keep_drewN | refine keep_step (by assumption) ?_ (by rfl) | refine keep_set ?_ _ _ (by first | exact Nat.le_refl _ | (show _ ≤ _; simp; done) | (show _ ≤ _; simp; omega))))
          have c2 := (hb4.cell (p := ⟨b, o + k, none⟩) hbw).trans c1
          go_wp2
          go_quiet (fail)
          go_wp2
          all_goals go_ret2
          all_goals (refine outFl ?_ rfl (by repeat (first | exact Below.refl _ _ | apply keep_alloc | apply keep_drew | apply keep_drewN | refine keep_step (by assumption) ?_ (by rfl) | refine keep_set ?_ _ _ (by first | exact Nat.le_refl _ | (show _ ≤ _; simp; done) | (show _ ≤ _; simp; omega)))); have h1 := HD.out; rw [decide_eq_decide]; (first | omega | (subst_vars; omega) | (simp only [Bool.not_eq_true', Bool.not_eq_false', beq_iff_eq, beq_eq_false_iff_ne, ne_eq, bne_iff_ne, bne_eq_false_iff_eq, Bool.not_eq_true, Bool.not_eq_false, decide_eq_true_eq, decide_eq_false_iff_not, Bool.and_eq_true, Bool.or_eq_true] at *; first | omega | (subst_vars; omega)) | (simp only [Bool.not_eq_true', Bool.not_eq_false', beq_iff_eq, beq_eq_false_iff_ne, ne_eq, bne_iff_ne, bne_eq_false_iff_eq, Bool.not_eq_true, Bool.not_eq_false, decide_eq_true_eq, decide_eq_false_iff_not, Bool.and_eq_true, Bool.or_eq_true, wrap64] at *; first | omega | (subst_vars; omega))))
  · have hb0 : (ckE gs != 0) = true := by simp [hck]
    rw [lV_bad (by rw [lE_bad hck]; exact hck), lE_bad hck]
    go_enter Try.func56, Try.ntmps56
    go_wp2_with fail
    refine (pPlaceE gs A n cap _ hn hm (hA.step (by repeat (first | exact Below.refl _ _ | apply keep_alloc | apply keep_drew | apply keep_drewN | refine keep_step (by assumption) ?_ (by rfl) | refine keep_set ?_ _ _ (by first | exact Nat.le_refl _ | (show _ ≤ _; simp; done) | (show _ ≤ _; simp; omega))))) hck).mono ?_
    rintro _ w1 ⟨rfl, hb1⟩
    clear hck
    go_wp2
    go_ret2
    exact outFl rfl rfl (by repeat (first | exact Below.refl _ _ | apply keep_alloc | apply keep_drew | apply keep_drewN | refine keep_step (by assumption) ?_ (by rfl) | refine keep_set ?_ _ _ (by first | exact Nat.le_refl _ | (show _ ≤ _; simp; done) | (show _ ≤ _; simp; omega))))

theorem lE_sameF {gs : List Int} {p t : Int} {m : Nat} (hm : m ≤ gs.length) : lE gs p m t = lE gs p 0 t := by
  by_cases hck : ckE gs = 0
  · by_cases ha : Askable gs p 0 t
    · rw [lE_ok hck ha, lE_ok hck (by unfold Askable at ha ⊢; omega)]
    · rw [lE_rng hck ha, lE_rng hck (by unfold Askable at ha ⊢; omega)]
  · rw [lE_bad hck, lE_bad hck]
theorem lE_noS {gs : List Int} {p t : Int} (h : lE gs p 0 0 ≠ 0) : lE gs p 0 t = lE gs p 0 0 := by
  by_cases hck : ckE gs = 0
  · by_cases ha : Askable gs p 0 0
    · exact absurd (lE_ok hck ha) h
    · rw [lE_rng hck ha, lE_rng hck (by unfold Askable at ha ⊢; omega)]
  · rw [lE_bad hck, lE_bad hck]

theorem pAt (gs : List Int) (A : Option Addr) (n cap : Nat) (p t : Int) (w : World) (hn : gs.length = n) (hm : n ≤ 1000) (hA : Ints w A gs) :
    Calls Try.prog 38 #[.slice A n cap, .int .i64 p, .int .i64 t] w (Out2 (aV gs p t) (aE gs p t) w) := by
  by_cases hE : lE gs p 0 0 = 0
  · have HE0 := Lib.hid hE
    have HNV := Lib.hid (nV_ok hE)
    have A1 := Lib.hid (fun h => a_ok (gs := gs) (p := p) (t := t) h)
    have A2 := Lib.hid (fun h => a_far (gs := gs) (p := p) (t := t) h)
    have A3 := Lib.hid (fun h => a_bad (gs := gs) (p := p) (t := t) h)
    have hml := near_le gs p gs.length
    have HLF := Lib.hid (lE_sameF (p := p) (t := t) hml)
    have LV := Lib.hid (fun h => lV_ok (gs := gs) (p := p) (f := (nearF gs p gs.length : Nat)) (t := t) h)
    have LB := Lib.hid (fun h => lV_bad (gs := gs) (p := p) (f := (nearF gs p gs.length : Nat)) (t := t) h)
    rw [hn] at hml HLF HNV A1 A2 LV LB
    clear hE
    by_cases hT : lE gs p 0 t = 0
    · have HT := Lib.hid hT
      by_cases hfar : t < ab (pos gs (nearF gs p n)) p
      · rw [(A2.out hT hfar).1, (A2.out hT hfar).2]
        have V := Lib.hid (LV.out (by rw [HLF.out, hT]))
        rw [show (((nearF gs p n : Nat) : Int)).toNat = nearF gs p n by omega] at V
        have V2 : Hid (lV gs p (nearF gs p n : Nat) t = false) := Lib.hid (by rw [V.out]; simp; omega)
        clear hfar hT hml
        go_enter Try.func38, Try.ntmps38
        go_wp2_with fail
        refine (pNearest gs A n cap p _ hn hm (hA.step (by repeat (first | exact Below.refl _ _ | apply keep_alloc | apply keep_drew | apply keep_drewN | refine keep_step (by assumption) ?_ (by rfl) | refine keep_set ?_ _ _ (by first | exact Nat.le_refl _ | (show _ ≤ _; simp; done) | (show _ ≤ _; simp; omega)))))).mono ?_
        rintro _ w1 ⟨rfl, hb1⟩
        rw [HE0.out, HNV.out]
        go_wp2_with fail
        refine (pLevel gs A n cap p _ t _ hn hm (hA.step (by repeat (first | exact Below.refl _ _ | apply keep_alloc | apply keep_drew | apply keep_drewN | refine keep_step (by assumption) ?_ (by rfl) | refine keep_set ?_ _ _ (by first | exact Nat.le_refl _ | (show _ ≤ _; simp; done) | (show _ ≤ _; simp; omega)))))).mono ?_
        rintro _ w2 ⟨rfl, hb2⟩
        rw [V2.out, HLF.out, HT.out]
        go_wp2
        go_ret2
        exact out2 rfl rfl (by repeat (first | exact Below.refl _ _ | apply keep_alloc | apply keep_drew | apply keep_drewN | refine keep_step (by assumption) ?_ (by rfl) | refine keep_set ?_ _ _ (by first | exact Nat.le_refl _ | (show _ ≤ _; simp; done) | (show _ ≤ _; simp; omega))))
      · rw [(A1.out hT hfar).1, (A1.out hT hfar).2]
        have V := Lib.hid (LV.out (by rw [HLF.out, hT]))
        rw [show (((nearF gs p n : Nat) : Int)).toNat = nearF gs p n by omega] at V
        have V2 : Hid (lV gs p (nearF gs p n : Nat) t = true) := Lib.hid (by rw [V.out]; simp; omega)
        clear hfar hT hml
        go_enter Try.func38, Try.ntmps38
        go_wp2_with fail
        refine (pNearest gs A n cap p _ hn hm (hA.step (by repeat (first | exact Below.refl _ _ | apply keep_alloc | apply keep_drew | apply keep_drewN | refine keep_step (by assumption) ?_ (by rfl) | refine keep_set ?_ _ _ (by first | exact Nat.le_refl _ | (show _ ≤ _; simp; done) | (show _ ≤ _; simp; omega)))))).mono ?_
        rintro _ w1 ⟨rfl, hb1⟩
        rw [HE0.out, HNV.out]
        go_wp2_with fail
        refine (pLevel gs A n cap p _ t _ hn hm (hA.step (by repeat (first | exact Below.refl _ _ | apply keep_alloc | apply keep_drew | apply keep_drewN | refine keep_step (by assumption) ?_ (by rfl) | refine keep_set ?_ _ _ (by first | exact Nat.le_refl _ | (show _ ≤ _; simp; done) | (show _ ≤ _; simp; omega)))))).mono ?_
        rintro _ w2 ⟨rfl, hb2⟩
        rw [V2.out, HLF.out, HT.out]
        go_wp2
        go_ret2
        exact out2 rfl rfl (by repeat (first | exact Below.refl _ _ | apply keep_alloc | apply keep_drew | apply keep_drewN | refine keep_step (by assumption) ?_ (by rfl) | refine keep_set ?_ _ _ (by first | exact Nat.le_refl _ | (show _ ≤ _; simp; done) | (show _ ≤ _; simp; omega))))
    · rw [(A3.out hT).1, (A3.out hT).2]
      have hb0 : (lE gs p 0 t != 0) = true := by simp [hT]
      have V2 : Hid (lV gs p (nearF gs p n : Nat) t = false) := Lib.hid (LB.out (by rw [HLF.out]; exact hT))
      clear hT hml
      go_enter Try.func38, Try.ntmps38
      go_wp2_with fail
      refine (pNearest gs A n cap p _ hn hm (hA.step (by repeat (first | exact Below.refl _ _ | apply keep_alloc | apply keep_drew | apply keep_drewN | refine keep_step (by assumption) ?_ (by rfl) | refine keep_set ?_ _ _ (by first | exact Nat.le_refl _ | (show _ ≤ _; simp; done) | (show _ ≤ _; simp; omega)))))).mono ?_
      rintro _ w1 ⟨rfl, hb1⟩
      rw [HE0.out, HNV.out]
      go_wp2_with fail
      refine (pLevel gs A n cap p _ t _ hn hm (hA.step (by repeat (first | exact Below.refl _ _ | apply keep_alloc | apply keep_drew | apply keep_drewN | refine keep_step (by assumption) ?_ (by rfl) | refine keep_set ?_ _ _ (by first | exact Nat.le_refl _ | (show _ ≤ _; simp; done) | (show _ ≤ _; simp; omega)))))).mono ?_
      rintro _ w2 ⟨rfl, hb2⟩
      rw [V2.out, HLF.out]
      go_wp2
      go_ret2
      exact out2 rfl rfl (by repeat (first | exact Below.refl _ _ | apply keep_alloc | apply keep_drew | apply keep_drewN | refine keep_step (by assumption) ?_ (by rfl) | refine keep_set ?_ _ _ (by first | exact Nat.le_refl _ | (show _ ≤ _; simp; done) | (show _ ≤ _; simp; omega))))
  · have e1 := lE_noS (t := t) hE
    have hb0 : (lE gs p 0 0 != 0) = true := by simp [hE]
    rw [(a_bad (by rw [e1]; exact hE)).1, (a_bad (by rw [e1]; exact hE)).2, e1]
    clear hE e1
    go_enter Try.func38, Try.ntmps38
    go_wp2_with fail
    refine (pNearest gs A n cap p _ hn hm (hA.step (by repeat (first | exact Below.refl _ _ | apply keep_alloc | apply keep_drew | apply keep_drewN | refine keep_step (by assumption) ?_ (by rfl) | refine keep_set ?_ _ _ (by first | exact Nat.le_refl _ | (show _ ≤ _; simp; done) | (show _ ≤ _; simp; omega)))))).mono ?_
    rintro _ w1 ⟨rfl, hb1⟩
    go_wp2
    go_ret2
    exact out2 rfl rfl (by repeat (first | exact Below.refl _ _ | apply keep_alloc | apply keep_drew | apply keep_drewN | refine keep_step (by assumption) ?_ (by rfl) | refine keep_set ?_ _ _ (by first | exact Nat.le_refl _ | (show _ ≤ _; simp; done) | (show _ ≤ _; simp; omega))))
end Go.Proofs.Ythjdoeeefighkaa
