/- Layer 7: the program's Nearest, Level. -/
import Derived.Test.YtkoopcjdpcpknaaSJ
namespace Go.Proofs.Ytkoopcjdpcpknaa
open Go.RowKit
set_option linter.unusedVariables false

set_option maxHeartbeats 4000000 in
theorem pnearest (gs : List Int) (B : Option Addr) (n N cap : Nat) (x : Int) (w : World) (hF : Fine gs) (hn : gs.length = n) (hN : N = n + 1) (hB : Spots w gs N B) (h0 : 0 ≤ x) (h1 : x ≤ pos gs n) :
    Calls Try.prog 47 #[.slice B N cap, .int .i64 x] w fun e w' => e = .returned (.int .i64 (nearF gs x n)) ∧ Below w.heap.size w w' := by
  obtain ⟨b, o, rfl, hbw, hc⟩ := hB.cells (by omega)
  have HC := Lib.hid hc
  have HF := Lib.hid hF
  have HN := Lib.hid hN
  have HL := Lib.hid hn
  have hN64 : N ≤ 1000 := by have := hF.2.1; omega
  clear hc hF hN hn
  go_enter Try.func47, Try.ntmps47
  go_wp2_with fail
  refine (pfrom gs _ N cap x _ HF.out (by rw [HN.out, HL.out]) hB).mono ?_
  rintro _ w1 ⟨r, rfl, hr, hlow, hup, hb1⟩
  have hN' := HN.out
  have hrn : r ≤ n := by
    rcases Nat.lt_or_ge n r with h | h
    · have := hlow n h; omega
    · exact h
  have hx := hup r (Nat.le_refl _) (by omega)
  have HNR := Lib.hid (near_prog HF.out (by rw [HL.out]; exact hrn) hlow hx)
  rw [HL.out] at HNR
  have HHL := HL.out
  have nr := near_pos HF.out (k := r) (by omega)
  obtain ⟨nr1, nr2⟩ := nr
  have c1 := (hb1.cell (p := ⟨b, o + r, none⟩) hbw).trans (HC.out r (by omega))
  clear hlow hup
  by_cases hr0 : r = 0
  · have e1 : nearF gs x n = r := by rw [HNR.out, if_neg (by omega)]
    subst hr0
    have E1 := Lib.hid e1
    clear hN' HHL e1
    go_wp2
    go_quiet (fail)
    go_wp2
    go_ret
    exact ⟨by rw [E1.out]; first | rfl | simp, (by repeat (first | exact Below.refl _ _ | apply keep_alloc | apply keep_drew | apply keep_drewN | refine keep_step (by assumption) ?_ (by rfl) | refine keep_set ?_ _ _ (by first | exact Nat.le_refl _ | (show _ ≤ _; simp; done) | (show _ ≤ _; simp; omega))))⟩
  · obtain ⟨q, rfl⟩ : ∃ q, r = q + 1 := ⟨r - 1, by omega⟩
    have c2 := (hb1.cell (p := ⟨b, o + q, none⟩) hbw).trans (HC.out q (by omega))
    obtain ⟨nq1, nq2⟩ := near_pos HF.out (k := q) (by omega)
    have hqN : (q : Int) + 1 < (N : Int) := by omega
    by_cases hcmp : x - pos gs q ≤ pos gs (q + 1) - x
    · have e1 : nearF gs x n = q := by rw [HNR.out, if_pos ⟨by omega, by simpa using hcmp⟩]; simp
      have E1 := Lib.hid e1
      clear hN' HHL e1 hr0
      go_wp2
      go_quiet (fail)
      go_wp2
      go_ret
      exact ⟨by rw [E1.out]; first | rfl | (simp; done), (by repeat (first | exact Below.refl _ _ | apply keep_alloc | apply keep_drew | apply keep_drewN | refine keep_step (by assumption) ?_ (by rfl) | refine keep_set ?_ _ _ (by first | exact Nat.le_refl _ | (show _ ≤ _; simp; done) | (show _ ≤ _; simp; omega))))⟩
    · have e1 : nearF gs x n = q + 1 := by rw [HNR.out, if_neg (by simp only [Nat.add_sub_cancel]; omega)]
      have E1 := Lib.hid e1
      clear hN' HHL e1 hr0
      go_wp2
      go_quiet (fail)
      go_wp2
      go_ret
      exact ⟨by rw [E1.out]; first | rfl | (simp; done), (by repeat (first | exact Below.refl _ _ | apply keep_alloc | apply keep_drew | apply keep_drewN | refine keep_step (by assumption) ?_ (by rfl) | refine keep_set ?_ _ _ (by first | exact Nat.le_refl _ | (show _ ≤ _; simp; done) | (show _ ≤ _; simp; omega))))⟩

theorem lE_in {gs : List Int} {p : Int} (h : ckE gs = 0) (h2 : inS gs p = true) : lE gs p 0 0 = 0 ∧ 0 ≤ p ∧ p ≤ pos gs gs.length := by
  simp only [inS, decide_eq_true_eq] at h2
  refine ⟨lE_ok h ?_, h2⟩
  unfold Askable; omega
theorem lE_out {gs : List Int} {p f t : Int} (h : ckE gs = 0) (h2 : inS gs p = false) : lE gs p f t = 2 := by
  simp only [inS, decide_eq_false_iff_not] at h2
  refine lE_rng h ?_
  unfold Askable; omega

theorem pNearest (gs : List Int) (A : Option Addr) (n cap : Nat) (p : Int) (w : World) (hn : gs.length = n) (hm : n ≤ 1000) (hA : Ints w A gs) :
    Calls Try.prog 36 #[.slice A n cap, .int .i64 p] w (Out2 (nV gs p) (lE gs p 0 0) w) := by
  obtain ⟨N, hN⟩ : ∃ N, N = n + 1 := ⟨_, rfl⟩
  have HN := Lib.hid hN
  clear hN
  by_cases hck : ckE gs = 0
  · have HF := Lib.hid (fine_of hck)
    cases hin : inS gs p
    · have hE : lE gs p 0 0 = 2 := lE_out hck hin
      rw [nV_bad (by rw [hE]; decide), hE]
      have HIN := Lib.hid hin
      go_enter Try.func36, Try.ntmps36
      go_wp2_with fail
      refine (pPlaceN gs A n N cap _ hn HN.out hm (hA.step (by repeat (first | exact Below.refl _ _ | apply keep_alloc | apply keep_drew | apply keep_drewN | refine keep_step (by assumption) ?_ (by rfl) | refine keep_set ?_ _ _ (by first | exact Nat.le_refl _ | (show _ ≤ _; simp; done) | (show _ ≤ _; simp; omega))))) hck).mono ?_
      rintro _ w1 ⟨B, rfl, hi1, hb1⟩
      clear hck hin
      go_wp2_with fail
      refine (pisPos gs B n N N p _ HF.out hn HN.out (show Spots _ gs N B from hi1)).mono ?_
      rintro _ w2 ⟨rfl, hb2⟩
      rw [HIN.out]
      go_wp2
      go_ret2
      exact out2 rfl rfl (by repeat (first | exact Below.refl _ _ | apply keep_alloc | apply keep_drew | apply keep_drewN | refine keep_step (by assumption) ?_ (by rfl) | refine keep_set ?_ _ _ (by first | exact Nat.le_refl _ | (show _ ≤ _; simp; done) | (show _ ≤ _; simp; omega))))
    · obtain ⟨hE, h0, h1⟩ := lE_in hck hin
      rw [nV_ok hE, hE, hn]
      rw [hn] at h1
      have HIN := Lib.hid hin
      go_enter Try.func36, Try.ntmps36
      go_wp2_with fail
      refine (pPlaceN gs A n N cap _ hn HN.out hm (hA.step (by repeat (first | exact Below.refl _ _ | apply keep_alloc | apply keep_drew | apply keep_drewN | refine keep_step (by assumption) ?_ (by rfl) | refine keep_set ?_ _ _ (by first | exact Nat.le_refl _ | (show _ ≤ _; simp; done) | (show _ ≤ _; simp; omega))))) hck).mono ?_
      rintro _ w1 ⟨B, rfl, hi1, hb1⟩
      clear hck hin hE
      go_wp2_with fail
      refine (pisPos gs B n N N p _ HF.out hn HN.out (show Spots _ gs N B from hi1)).mono ?_
      rintro _ w2 ⟨rfl, hb2⟩
      rw [HIN.out]
      go_wp2_with fail
      refine (pnearest gs B n N N p _ HF.out hn HN.out (show Spots _ gs N B from hi1.step (by repeat (first | exact Below.refl _ _ | apply keep_alloc | apply keep_drew | apply keep_drewN | refine keep_step (by assumption) ?_ (by rfl) | refine keep_set ?_ _ _ (by first | exact Nat.le_refl _ | (show _ ≤ _; simp; done) | (show _ ≤ _; simp; omega))))) h0 h1).mono ?_
      rintro _ w3 ⟨rfl, hb3⟩
      go_wp2
      go_ret2
      exact out2 rfl rfl (by repeat (first | exact Below.refl _ _ | apply keep_alloc | apply keep_drew | apply keep_drewN | refine keep_step (by assumption) ?_ (by rfl) | refine keep_set ?_ _ _ (by first | exact Nat.le_refl _ | (show _ ≤ _; simp; done) | (show _ ≤ _; simp; omega))))
  · have hb0 : (ckE gs != 0) = true := by simp [hck]
    rw [nV_bad (by rw [lE_bad hck]; exact hck), lE_bad hck]
    go_enter Try.func36, Try.ntmps36
    go_wp2_with fail
    refine (pPlaceE gs A n cap _ hn hm (hA.step (by repeat (first | exact Below.refl _ _ | apply keep_alloc | apply keep_drew | apply keep_drewN | refine keep_step (by assumption) ?_ (by rfl) | refine keep_set ?_ _ _ (by first | exact Nat.le_refl _ | (show _ ≤ _; simp; done) | (show _ ≤ _; simp; omega))))) hck).mono ?_
    rintro _ w1 ⟨rfl, hb1⟩
    clear hck
    go_wp2
    go_ret2
    exact out2 rfl rfl (by repeat (first | exact Below.refl _ _ | apply keep_alloc | apply keep_drew | apply keep_drewN | refine keep_step (by assumption) ?_ (by rfl) | refine keep_set ?_ _ _ (by first | exact Nat.le_refl _ | (show _ ≤ _; simp; done) | (show _ ≤ _; simp; omega))))
end Go.Proofs.Ytkoopcjdpcpknaa
