/- Layer 7: the reference's Nearest, At. -/
import Derived.Test.YtkoopcjdpcpknaaSF
namespace Go.Proofs.Ytkoopcjdpcpknaa
open Go.RowKit
set_option linter.unusedVariables false

def nV (gs : List Int) (p : Int) : Int := if lE gs p 0 0 = 0 then nearF gs p gs.length else 0
theorem nV_bad {gs : List Int} {p : Int} (h : lE gs p 0 0 ≠ 0) : nV gs p = 0 := by unfold nV; rw [if_neg h]
theorem nV_ok {gs : List Int} {p : Int} (h : lE gs p 0 0 = 0) : nV gs p = nearF gs p gs.length := by unfold nV; rw [if_pos h]

def NrRel (gs : List Int) (p : Int) (n : Nat) (w : World) (v8 v9 : Value) (wr : World) : Prop :=
  ∃ j : Nat, j ≤ n ∧ v9 = .int .i64 ((j : Int) + 1) ∧ v8 = .int .i64 (nearF gs p j) ∧ Below w.heap.size w wr

set_option maxHeartbeats 4000000 in
theorem rNearest (gs : List Int) (A : Option Addr) (n cap : Nat) (p : Int) (w : World) (hn : gs.length = n) (hm : n ≤ 1000) (hA : Ints w A gs) :
    Calls Try.prog 37 #[.slice A n cap, .int .i64 p] w (Out2 (nV gs p) (lE gs p 0 0) w) := by
  by_cases hE : lE gs p 0 0 = 0
  · obtain ⟨hck, ha⟩ := lE_zero hE
    have HF := Lib.hid (fine_of hck)
    have HE := Lib.hid hE
    rw [nV_ok hE, hE, hn]
    unfold Askable at ha
    obtain ⟨a1, a2, _, _, _, _⟩ := ha
    have np := near_ask HF.out a1 a2
    have hn63 : n ≤ 63 := by rw [← hn]; exact HF.out.2.1
    have HN := Lib.hid hn
    clear hE hck
    go_enter Try.func37, Try.ntmps37
    go_wp2_with fail
    refine (rasked gs A n cap p 0 0 _ hn hm (hA.step (by repeat (first | exact Below.refl _ _ | apply keep_alloc | apply keep_drew | apply keep_drewN | refine keep_step (by assumption) ?_ (by rfl) | refine keep_set ?_ _ _ (by first | exact Nat.le_refl _ | (show _ ≤ _; simp; done) | (show _ ≤ _; simp; omega)))))).mono ?_
    rintro _ w1 ⟨rfl, hb1⟩
    rw [HE.out]
    go_wp2_with fail
    refine (rpositions gs A n cap _ hn HF.out (hA.step (by repeat (first | exact Below.refl _ _ | apply keep_alloc | apply keep_drew | apply keep_drewN | refine keep_step (by assumption) ?_ (by rfl) | refine keep_set ?_ _ _ (by first | exact Nat.le_refl _ | (show _ ≤ _; simp; done) | (show _ ≤ _; simp; omega)))))).mono ?_
    rintro _ w2 ⟨B, c, rfl, hi2, hb2⟩
    obtain ⟨b, o, rfl, hc⟩ := hi2.cell (k := 0) (by rw [posl_len]; omega)
    have HC := Lib.hid hc
    clear hc hi2 hA a1 a2 hn
    go_wp2
    go_loopw [8, 9] (NrRel gs p n w2) (fun _ v _ => n + 1 - (intOf v).toNat)
    case atStart => exact ⟨0, by omega, rfl, rfl, Below.refl _ _⟩
    case round =>
      obtain ⟨j, hj, rfl, rfl, hbl⟩ := hrel
      by_cases hlt : j < n
      · obtain ⟨m, hmm⟩ : ∃ m, m = nearF gs p j := ⟨_, rfl⟩
        have hmj : m ≤ j := by rw [hmm]; exact near_le gs p j
        have hstep : nearF gs p (j + 1) = if ab (pos gs (j + 1)) p < ab (pos gs m) p then j + 1 else m := by rw [hmm]; rfl
        rw [← hmm]
        have STEP := Lib.hid hstep
        have hlen := posl_len gs (n + 1)
        have nj := near_pos HF.out (k := j + 1) (by rw [HN.out]; omega)
        have nm := near_pos HF.out (k := m) (by rw [HN.out]; omega)
        have c1 := (hbl.cell (p := ⟨b, o + (j + 1), none⟩) (World.block_lt_of_cell? w2 _ (HC.out (j + 1) (by rw [hlen]; omega)))).trans (HC.out (j + 1) (by rw [hlen]; omega))
        have c2 := (hbl.cell (p := ⟨b, o + m, none⟩) (World.block_lt_of_cell? w2 _ (HC.out m (by rw [hlen]; omega)))).trans (HC.out m (by rw [hlen]; omega))
        rw [posl_nth _ _ _ (by omega)] at c1 c2
        have hb8 : b < wr.heap.size := World.block_lt_of_cell? wr _ c1
        clear hstep hmm hlen
        by_cases hcmp : ab (pos gs (j + 1)) p < ab (pos gs m) p
        · have e1 : nearF gs p (j + 1) = j + 1 := by rw [STEP.out, if_pos hcmp]
          have E1 := Lib.hid e1
          clear e1
          go_wp2_with fail
          (refine wp_region_calm (C := fun x => ∃ y : Later wr, x = y.w) (by kernel_rfl) (by kernel_rfl) (later_start wr) ?_; have hlat := later_cell wr; (repeat (go_big_quiet_step ((first | (go_at_call 49; apply later_of; (first | (with_reducible exact rapart) | (apply rapart <;> first | (with_reducible assumption) | (first | omega | (subst_vars; omega) | (simp only [Bool.not_eq_true', Bool.not_eq_false', beq_iff_eq, beq_eq_false_iff_ne, ne_eq, bne_iff_ne, bne_eq_false_iff_eq, Bool.not_eq_true, Bool.not_eq_false, decide_eq_true_eq, decide_eq_false_iff_not, Bool.and_eq_true, Bool.or_eq_true] at *; first | omega | (subst_vars; omega)) | (simp only [Bool.not_eq_true', Bool.not_eq_false', beq_iff_eq, beq_eq_false_iff_ne, ne_eq, bne_iff_ne, bne_eq_false_iff_eq, Bool.not_eq_true, Bool.not_eq_false, decide_eq_true_eq, decide_eq_false_iff_not, Bool.and_eq_true, Bool.or_eq_true, wrap64] at *; first | omega | (subst_vars; omega)))))))))); refine wpQuiet_nil ?_; rintro w' ⟨⟨xq, hb⟩, hxq⟩; have hxq2 : w' = xq := hxq; clear hxq; subst hxq2; clear hlat)
          go_wp2
          exact ⟨⟨j + 1, by omega, by go_num, by rw [E1.out]; go_num, (by repeat (first | exact Below.refl _ _ | apply keep_alloc | apply keep_drew | apply keep_drewN | refine keep_step (by assumption) ?_ (by rfl) | refine keep_set ?_ _ _ (by first | exact Nat.le_refl _ | (show _ ≤ _; simp; done) | (show _ ≤ _; simp; omega))))⟩, by simp [intOf]; omega⟩
        · have e1 : nearF gs p (j + 1) = m := by rw [STEP.out, if_neg hcmp]
          have E1 := Lib.hid e1
          clear e1
          go_wp2_with fail
          (refine wp_region_calm (C := fun x => ∃ y : Later wr, x = y.w) (by kernel_rfl) (by kernel_rfl) (later_start wr) ?_; have hlat := later_cell wr; (repeat (go_big_quiet_step ((first | (go_at_call 49; apply later_of; (first | (with_reducible exact rapart) | (apply rapart <;> first | (with_reducible assumption) | (first | omega | (subst_vars; omega) | (simp only [Bool.not_eq_true', Bool.not_eq_false', beq_iff_eq, beq_eq_false_iff_ne, ne_eq, bne_iff_ne, bne_eq_false_iff_eq, Bool.not_eq_true, Bool.not_eq_false, decide_eq_true_eq, decide_eq_false_iff_not, Bool.and_eq_true, Bool.or_eq_true] at *; first | omega | (subst_vars; omega)) | (simp only [Bool.not_eq_true', Bool.not_eq_false', beq_iff_eq, beq_eq_false_iff_ne, ne_eq, bne_iff_ne, bne_eq_false_iff_eq, Bool.not_eq_true, Bool.not_eq_false, decide_eq_true_eq, decide_eq_false_iff_not, Bool.and_eq_true, Bool.or_eq_true, wrap64] at *; first | omega | (subst_vars; omega)))))))))); refine wpQuiet_nil ?_; rintro w' ⟨⟨xq, hb⟩, hxq⟩; have hxq2 : w' = xq := hxq; clear hxq; subst hxq2; clear hlat)
          go_wp2
          exact ⟨⟨j + 1, by omega, by go_num, by rw [E1.out], (by repeat (first | exact Below.refl _ _ | apply keep_alloc | apply keep_drew | apply keep_drewN | refine keep_step (by assumption) ?_ (by rfl) | refine keep_set ?_ _ _ (by first | exact Nat.le_refl _ | (show _ ≤ _; simp; done) | (show _ ≤ _; simp; omega))))⟩, by simp [intOf]; omega⟩
      · have hjn : j = n := by omega
        subst hjn
        go_wp2
        go_ret2
        exact out2 rfl rfl (by repeat (first | exact Below.refl _ _ | apply keep_alloc | apply keep_drew | apply keep_drewN | refine keep_step (by assumption) ?_ (by rfl) | refine keep_set ?_ _ _ (by first | exact Nat.le_refl _ | (show _ ≤ _; simp; done) | (show _ ≤ _; simp; omega))))
  · have hb0 : (lE gs p 0 0 != 0) = true := by simp [hE]
    rw [nV_bad hE]
    clear hE
    go_enter Try.func37, Try.ntmps37
    go_wp2_with fail
    refine (rasked gs A n cap p 0 0 _ hn hm (hA.step (by repeat (first | exact Below.refl _ _ | apply keep_alloc | apply keep_drew | apply keep_drewN | refine keep_step (by assumption) ?_ (by rfl) | refine keep_set ?_ _ _ (by first | exact Nat.le_refl _ | (show _ ≤ _; simp; done) | (show _ ≤ _; simp; omega)))))).mono ?_
    rintro _ w1 ⟨rfl, hb1⟩
    go_wp2
    go_ret2
    exact out2 rfl rfl (by repeat (first | exact Below.refl _ _ | apply keep_alloc | apply keep_drew | apply keep_drewN | refine keep_step (by assumption) ?_ (by rfl) | refine keep_set ?_ _ _ (by first | exact Nat.le_refl _ | (show _ ≤ _; simp; done) | (show _ ≤ _; simp; omega))))

theorem lE_tol {gs : List Int} {p t : Int} (h : lE gs p 0 t = 0) : lE gs p 0 0 = 0 := by
  obtain ⟨h1, h2⟩ := lE_zero h
  unfold Askable at h2
  refine lE_ok h1 ?_
  unfold Askable; omega
def aE (gs : List Int) (p t : Int) : Int := if lE gs p 0 t = 0 then if t < ab (pos gs (nearF gs p gs.length)) p then 6 else 0 else lE gs p 0 t
def aV (gs : List Int) (p t : Int) : Int := if aE gs p t = 0 then nearF gs p gs.length else 0
theorem a_bad {gs : List Int} {p t : Int} (h : lE gs p 0 t ≠ 0) : aE gs p t = lE gs p 0 t ∧ aV gs p t = 0 := by
  have h1 : aE gs p t = lE gs p 0 t := by unfold aE; rw [if_neg h]
  exact ⟨h1, by unfold aV; rw [h1, if_neg h]⟩
theorem a_far {gs : List Int} {p t : Int} (h : lE gs p 0 t = 0) (h2 : t < ab (pos gs (nearF gs p gs.length)) p) : aE gs p t = 6 ∧ aV gs p t = 0 := by
  have h1 : aE gs p t = 6 := by unfold aE; rw [if_pos h, if_pos h2]
  exact ⟨h1, by unfold aV; rw [h1]; rfl⟩
theorem a_ok {gs : List Int} {p t : Int} (h : lE gs p 0 t = 0) (h2 : ¬ t < ab (pos gs (nearF gs p gs.length)) p) : aE gs p t = 0 ∧ aV gs p t = nearF gs p gs.length := by
  have h1 : aE gs p t = 0 := by unfold aE; rw [if_pos h, if_neg h2]
  exact ⟨h1, by unfold aV; rw [h1]; rfl⟩

end Go.Proofs.Ytkoopcjdpcpknaa
