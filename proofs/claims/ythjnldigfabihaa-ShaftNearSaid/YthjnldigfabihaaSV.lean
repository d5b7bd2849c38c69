/- Layer 7: ShaftNear. -/
import Derived.Test.YthjnldigfabihaaSU
namespace Go.Proofs.Ythjnldigfabihaa
open Go.RowKit
set_option linter.unusedVariables false

theorem near_own {gs : List Int} (h : Fine gs) {i : Nat} (hi : i ≤ gs.length) : nearF gs (pos gs i) gs.length = i := by
  have h0 : ab (pos gs i) (pos gs i) = 0 := by unfold ab; rw [if_pos (Int.le_refl _)]; omega
  refine near_is hi (fun j hj => ?_) (fun j hj => ?_)
  · rw [h0]; unfold ab; split <;> omega
  · rw [h0]
    have := pos_mono h j i hj hi
    unfold ab; split <;> omega

def NeRel (n : Nat) (w : World) (v : Value) (wr : World) : Prop := ∃ j : Nat, j ≤ n + 1 ∧ v = .int .i64 j ∧ Below w.heap.size w wr

set_option maxRecDepth 20000 in
set_option maxHeartbeats 8000000 in
theorem shaftNear_true (A : Option Addr) (len cap : Nat) (xs : List Int) (x y : Int) (w : World) (hl : xs.length = len) (hm : len ≤ maxLen) (hA : Ints w A xs) (hb : ∀ x ∈ xs, In64 x) (hx64 : In64 x) (hy64 : In64 y) :
    Calls Try.prog 7 #[.slice A len cap, .int .i64 x, .int .i64 y] w fun e w' => e = .returned (.bool true) ∧ Below w.heap.size w w' := by
  have HM := Lib.hid hm
  have HB := Lib.hid hb
  clear hm hb
  go_enter Try.func7, Try.ntmps7
  go_wp2_with fail
  refine (shaftKnown_true _).mono ?_
  rintro _ w1 ⟨rfl, hb1⟩
  go_wp2_with fail
  refine (made_any A len cap xs _ hl HM.out (hA.step (by repeat (first | exact Below.refl _ _ | apply keep_alloc | apply keep_drew | apply keep_drewN | refine keep_step (by assumption) ?_ (by rfl) | refine keep_set ?_ _ _ (by first | exact Nat.le_refl _ | (show _ ≤ _; simp; done) | (show _ ≤ _; simp; omega))))) HB.out).mono ?_
  rintro _ w2 ⟨gs, B, n, c, hF, hn, hn41, rfl, hi2, hb2⟩
  have HF := Lib.hid hF
  have HCK := Lib.hid (ck_of hF)
  have HN := Lib.hid hn
  have hn1000 : n ≤ 1000 := by omega
  have h1n : 1 ≤ n := by rw [← hn]; exact hF.1
  obtain ⟨p1, p2⟩ := pos_low hF n (by omega)
  obtain ⟨N, hN⟩ : ∃ N, N = n + 1 := ⟨_, rfl⟩
  have PO := Lib.hid (posOut_ok (ck_of hF))
  have hpl := posl_len gs N
  rw [hn, ← hN] at PO
  have NN := Lib.hid hN
  have PL := Lib.hid hpl
  have hN1000 : N ≤ 1000 := by omega
  have hNpos : 0 < (N : Int) := by omega
  have hnb : ((N : Int) != (n : Int) + 1) = false := by simp [hN]
  have hnN : (n : Int) < (N : Int) := by omega
  have hpb : decide (pos gs n < 1) = false := by simp; omega
  clear hl hF hn hN hpl
  go_wp2_with fail
  refine (pPositions gs B n c _ HN.out hn1000 (hi2.step (by repeat (first | exact Below.refl _ _ | apply keep_alloc | apply keep_drew | apply keep_drewN | refine keep_step (by assumption) ?_ (by rfl) | refine keep_set ?_ _ _ (by first | exact Nat.le_refl _ | (show _ ≤ _; simp; done) | (show _ ≤ _; simp; omega)))))).mono ?_
  rintro _ w3 ⟨A3, c3, rfl, hi3, _, hb3⟩
  rw [PO.out] at hi3
  rw [PO.out, PL.out, HCK.out]
  obtain ⟨b3, o3, rfl, hc3⟩ := hi3.cell (k := 0) (by rw [PL.out]; omega)
  have HC : Hid (∀ i, i < N → w3.cell? ⟨b3, o3 + i, none⟩ = some (.int .i64 (pos gs i))) := Lib.hid fun i hi => by
    have := hc3 i (by rw [PL.out]; exact hi)
    rwa [posl_nth _ _ _ hi] at this
  have d1 := HC.out n (by omega)
  have hb3w : b3 < w3.heap.size := World.block_lt_of_cell? w3 _ d1
  clear hc3
  go_wp2_with fail
  refine (mod_any x (pos gs n + 1) _ hx64 (by omega)).mono ?_
  rintro _ w4 ⟨rfl, hb4⟩
  rw [if_neg (by omega)]
  have x1 := Int.emod_nonneg x (b := pos gs n + 1) (by omega)
  have x2 := Int.emod_lt_of_pos x (b := pos gs n + 1) (by omega)
  obtain ⟨P, hP⟩ : ∃ P : Int, P = x % (pos gs n + 1) := ⟨_, rfl⟩
  rw [← hP] at x1 x2 ⊢
  clear hP
  go_wp2_with fail
  refine (mod_any y 21 _ hy64 (by decide)).mono ?_
  rintro _ w5 ⟨rfl, hb5⟩
  rw [if_neg (by decide)]
  obtain ⟨T, hT⟩ : ∃ T : Int, T = y % 21 := ⟨_, rfl⟩
  have t1 : 0 ≤ T ∧ T ≤ 20 := by omega
  rw [← hT]
  clear hT
  have hE : lE gs P 0 0 = 0 := lE_ok HCK.out (by unfold Askable; rw [HN.out]; omega)
  have hE2 : lE gs P 0 T = 0 := lE_ok HCK.out (by unfold Askable; rw [HN.out]; omega)
  have HE := Lib.hid hE
  have HE2 := Lib.hid hE2
  have HNV := Lib.hid (nV_ok hE)
  have hml := near_le gs P gs.length
  have HMIN := Lib.hid (near_min gs P gs.length)
  have HLOW := Lib.hid (near_low gs P gs.length)
  have HLS := Lib.hid (lE_sameF (p := P) (t := T) hml)
  have A1 := Lib.hid (a_ok (t := T) hE2)
  have A2 := Lib.hid (a_far (t := T) hE2)
  rw [HN.out] at HNV hml HMIN HLOW HLS A1 A2
  obtain ⟨m, hmm⟩ : ∃ m, m = nearF gs P n := ⟨_, rfl⟩
  rw [← hmm] at HNV hml HMIN HLOW HLS A1 A2
  clear hE hE2 hmm
  go_wp2_with fail
  refine (pNearest gs B n c P _ HN.out hn1000 (hi2.step (by repeat (first | exact Below.refl _ _ | apply keep_alloc | apply keep_drew | apply keep_drewN | refine keep_step (by assumption) ?_ (by rfl) | refine keep_set ?_ _ _ (by first | exact Nat.le_refl _ | (show _ ≤ _; simp; done) | (show _ ≤ _; simp; omega)))))).mono ?_
  rintro _ w6 ⟨rfl, hb6⟩
  rw [HNV.out, HE.out]
  have hmN : (m : Int) < (N : Int) := by omega
  have hbw6 : Below w3.heap.size w3 w6 := (by repeat (first | exact Below.refl _ _ | apply keep_alloc | apply keep_drew | apply keep_drewN | refine keep_step (by assumption) ?_ (by rfl) | refine keep_set ?_ _ _ (by first | exact Nat.le_refl _ | (show _ ≤ _; simp; done) | (show _ ≤ _; simp; omega))))
  have c1 := (hbw6.cell (p := ⟨b3, o3 + m, none⟩) hb3w).trans (HC.out m (by omega))
  obtain ⟨q1, q2⟩ := near_pos HF.out (k := m) (by rw [HN.out]; exact hml)
  have hz1 : decide (N ≤ m) = false := by simp; omega
  have hz2 : decide ((m : Int) < 0) = false := by simp
  rcases (show pos gs m < P ∨ P < pos gs m ∨ (pos gs m ≤ P ∧ P ≤ pos gs m) by omega) with g1 | g1 | ⟨g1, g2⟩
  · have hab : ab (pos gs m) P = P - pos gs m := by unfold ab; split <;> omega
    go_wp2
    go_quiet (fail)
    go_wp2
    obtain ⟨far, hf⟩ : ∃ far, far = P - pos gs m := ⟨_, rfl⟩
    rw [← hf] at hab ⊢
    have HFAR := Lib.hid hf
    clear hf g1
    rw [hab] at HMIN HLOW A1 A2
    go_loopw [15] (NeRel n w6) (fun v _ => N - (intOf v).toNat)
    case atStart => exact ⟨0, by omega, rfl, (by repeat (first | exact Below.refl _ _ | apply keep_alloc | apply keep_drew | apply keep_drewN | refine keep_step (by assumption) ?_ (by rfl) | refine keep_set ?_ _ _ (by first | exact Nat.le_refl _ | (show _ ≤ _; simp; done) | (show _ ≤ _; simp; omega))))⟩
    case round =>
      obtain ⟨j, hj, rfl, hbl⟩ := hrel
      have hj2 := NN.out
      by_cases hlt : j < N
      · have hjN : j ≤ n := by omega
        have hbw7 : Below w3.heap.size w3 wr := (by repeat (first | exact Below.refl _ _ | apply keep_alloc | apply keep_drew | apply keep_drewN | refine keep_step (by assumption) ?_ (by rfl) | refine keep_set ?_ _ _ (by first | exact Nat.le_refl _ | (show _ ≤ _; simp; done) | (show _ ≤ _; simp; omega))))
        have c2 := (hbw7.cell (p := ⟨b3, o3 + j, none⟩) hb3w).trans (HC.out j hlt)
        obtain ⟨r1, r2⟩ := near_pos HF.out (k := j) (by rw [HN.out]; exact hjN)
        have hge := HMIN.out j hjN
        have hlow := HLOW.out j
        have hpj := pos_low HF.out j (by rw [HN.out]; exact hjN)
        have hpn := pos_le HF.out (i := j) (j := n) hjN (by rw [HN.out]; exact Nat.le_refl _)
        have OWE := Lib.hid (lE_ok HCK.out (p := pos gs j) (f := 0) (t := 0) (by unfold Askable; rw [HN.out]; omega))
        have OWN := Lib.hid (nV_ok OWE.out)
        rw [near_own HF.out (by rw [HN.out]; exact hjN)] at OWN
        clear hj2 hpj hpn hbw7
        rcases (show pos gs j < P ∨ P < pos gs j ∨ (pos gs j ≤ P ∧ P ≤ pos gs j) by omega) with g1 | g1 | ⟨g1, g2⟩
        · have hd' : ab (pos gs j) P = P - pos gs j := by unfold ab; split <;> omega
          rw [hd'] at hge hlow
          clear hd'
          go_wp2
          go_quiet (fail)
          obtain ⟨d, hd⟩ : ∃ d, d = P - pos gs j := ⟨_, rfl⟩
          rw [← hd] at hge hlow
          have HD := Lib.hid hd
          clear hd
          go_wp2_with fail
          rw [← HD.out]
          go_wp2_with fail
          refine (pNearest gs B n c (pos gs j) _ HN.out hn1000 (hi2.step (by repeat (first | exact Below.refl _ _ | apply keep_alloc | apply keep_drew | apply keep_drewN | refine keep_step (by assumption) ?_ (by rfl) | refine keep_set ?_ _ _ (by first | exact Nat.le_refl _ | (show _ ≤ _; simp; done) | (show _ ≤ _; simp; omega)))))).mono ?_
          rintro _ w8 ⟨rfl, hb8⟩
          rw [OWN.out, OWE.out]
          have hq1 : decide (d < far) = false := by simp; omega
          by_cases hde : d = far
          · have hq2 : (d == far) = true := by simp [hde]
            have hmj : m ≤ j := by omega
            have hq3 : decide (j < m) = false := by simp; omega
            have hq4 : decide ((j : Int) < (m : Int)) = false := by simp; omega
            have HDE := Lib.hid hde
            clear hde
            clear hlow c1 c2 d1 hab r1 r2 q1 q2 p1 p2 x1 x2 t1 hpb hnb
            go_wp2
            exact ⟨⟨j + 1, by omega, by go_num, (by repeat (first | exact Below.refl _ _ | apply keep_alloc | apply keep_drew | apply keep_drewN | refine keep_step (by assumption) ?_ (by rfl) | refine keep_set ?_ _ _ (by first | exact Nat.le_refl _ | (show _ ≤ _; simp; done) | (show _ ≤ _; simp; omega))))⟩, by simp [intOf]; omega⟩
          · have hq2 : (d == far) = false := by simp [hde]
            have HDE := Lib.hid hde
            clear hde
            clear hlow c1 c2 d1 hab r1 r2 q1 q2 p1 p2 x1 x2 t1 hpb hnb
            go_wp2
            exact ⟨⟨j + 1, by omega, by go_num, (by repeat (first | exact Below.refl _ _ | apply keep_alloc | apply keep_drew | apply keep_drewN | refine keep_step (by assumption) ?_ (by rfl) | refine keep_set ?_ _ _ (by first | exact Nat.le_refl _ | (show _ ≤ _; simp; done) | (show _ ≤ _; simp; omega))))⟩, by simp [intOf]; omega⟩
        · have hd' : ab (pos gs j) P = pos gs j - P := by unfold ab; split <;> omega
          rw [hd'] at hge hlow
          clear hd'
          go_wp2
          go_quiet (fail)
          obtain ⟨d, hd⟩ : ∃ d, d = pos gs j - P := ⟨_, rfl⟩
          rw [← hd] at hge hlow
          have HD := Lib.hid hd
          clear hd
          go_wp2_with fail
          rw [← HD.out]
          go_wp2_with fail
          refine (pNearest gs B n c (pos gs j) _ HN.out hn1000 (hi2.step (by repeat (first | exact Below.refl _ _ | apply keep_alloc | apply keep_drew | apply keep_drewN | refine keep_step (by assumption) ?_ (by rfl) | refine keep_set ?_ _ _ (by first | exact Nat.le_refl _ | (show _ ≤ _; simp; done) | (show _ ≤ _; simp; omega)))))).mono ?_
          rintro _ w8 ⟨rfl, hb8⟩
          rw [OWN.out, OWE.out]
          have hq1 : decide (d < far) = false := by simp; omega
          by_cases hde : d = far
          · have hq2 : (d == far) = true := by simp [hde]
            have hmj : m ≤ j := by omega
            have hq3 : decide (j < m) = false := by simp; omega
            have hq4 : decide ((j : Int) < (m : Int)) = false := by simp; omega
            have HDE := Lib.hid hde
            clear hde
            clear hlow c1 c2 d1 hab r1 r2 q1 q2 p1 p2 x1 x2 t1 hpb hnb
            go_wp2
            exact ⟨⟨j + 1, by omega, by go_num, (by repeat (first | exact Below.refl _ _ | apply keep_alloc | apply keep_drew | apply keep_drewN | refine keep_step (by assumption) ?_ (by rfl) | refine keep_set ?_ _ _ (by first | exact Nat.le_refl _ | (show _ ≤ _; simp; done) | (show _ ≤ _; simp; omega))))⟩, by simp [intOf]; omega⟩
          · have hq2 : (d == far) = false := by simp [hde]
            have HDE := Lib.hid hde
            clear hde
            clear hlow c1 c2 d1 hab r1 r2 q1 q2 p1 p2 x1 x2 t1 hpb hnb
            go_wp2
            exact ⟨⟨j + 1, by omega, by go_num, (by repeat (first | exact Below.refl _ _ | apply keep_alloc | apply keep_drew | apply keep_drewN | refine keep_step (by assumption) ?_ (by rfl) | refine keep_set ?_ _ _ (by first | exact Nat.le_refl _ | (show _ ≤ _; simp; done) | (show _ ≤ _; simp; omega))))⟩, by simp [intOf]; omega⟩
        · have hd' : ab (pos gs j) P = 0 := by unfold ab; split <;> omega
          rw [hd'] at hge hlow
          clear hd'
          go_wp2
          go_quiet (fail)
          go_wp2_with fail
          refine (pNearest gs B n c (pos gs j) _ HN.out hn1000 (hi2.step (by repeat (first | exact Below.refl _ _ | apply keep_alloc | apply keep_drew | apply keep_drewN | refine keep_step (by assumption) ?_ (by rfl) | refine keep_set ?_ _ _ (by first | exact Nat.le_refl _ | (show _ ≤ _; simp; done) | (show _ ≤ _; simp; omega)))))).mono ?_
          rintro _ w8 ⟨rfl, hb8⟩
          rw [OWN.out, OWE.out]
          have hq1 : decide ((0 : Int) < far) = false := by simp; omega
          by_cases hde : (0 : Int) = far
          · have hq2 : ((0 : Int) == far) = true := by simp [hde]
            have hmj : m ≤ j := by omega
            have hq3 : decide (j < m) = false := by simp; omega
            have hq4 : decide ((j : Int) < (m : Int)) = false := by simp; omega
            have HDE := Lib.hid hde
            clear hde
            clear hlow c1 c2 d1 hab r1 r2 q1 q2 p1 p2 x1 x2 t1 hpb hnb
            go_wp2
            exact ⟨⟨j + 1, by omega, by go_num, (by repeat (first | exact Below.refl _ _ | apply keep_alloc | apply keep_drew | apply keep_drewN | refine keep_step (by assumption) ?_ (by rfl) | refine keep_set ?_ _ _ (by first | exact Nat.le_refl _ | (show _ ≤ _; simp; done) | (show _ ≤ _; simp; omega))))⟩, by simp [intOf]; omega⟩
          · have hq2 : ((0 : Int) == far) = false := by simp [hde]
            have HDE := Lib.hid hde
            clear hde
            clear hlow c1 c2 d1 hab r1 r2 q1 q2 p1 p2 x1 x2 t1 hpb hnb
            go_wp2
            exact ⟨⟨j + 1, by omega, by go_num, (by repeat (first | exact Below.refl _ _ | apply keep_alloc | apply keep_drew | apply keep_drewN | refine keep_step (by assumption) ?_ (by rfl) | refine keep_set ?_ _ _ (by first | exact Nat.le_refl _ | (show _ ≤ _; simp; done) | (show _ ≤ _; simp; omega))))⟩, by simp [intOf]; omega⟩
      · have hjn : j = N := by omega
        subst hjn
        clear hj2
        by_cases hfar2 : T < far
        · go_wp2_with fail
          refine (pAt gs B n c P T _ HN.out hn1000 (hi2.step (by repeat (first | exact Below.refl _ _ | apply keep_alloc | apply keep_drew | apply keep_drewN | refine keep_step (by assumption) ?_ (by rfl) | refine keep_set ?_ _ _ (by first | exact Nat.le_refl _ | (show _ ≤ _; simp; done) | (show _ ≤ _; simp; omega)))))).mono ?_
          rintro _ w8 ⟨rfl, hb8⟩
          rw [(A2.out hfar2).1, (A2.out hfar2).2]
          go_wp2
          go_ret
          exact ⟨rfl, (by repeat (first | exact Below.refl _ _ | apply keep_alloc | apply keep_drew | apply keep_drewN | refine keep_step (by assumption) ?_ (by rfl) | refine keep_set ?_ _ _ (by first | exact Nat.le_refl _ | (show _ ≤ _; simp; done) | (show _ ≤ _; simp; omega))))⟩
        · have hle := Int.not_lt.1 hfar2
          have LV : Hid (lV gs P m T = true) := Lib.hid (by
            rw [lV_ok (by rw [HLS.out]; exact HE2.out), show ((m : Int)).toNat = m by omega, hab]
            simpa using hle)
          have AA := Lib.hid (show aE gs P T = 0 ∧ aV gs P T = m by first | exact A1.out hfar2 | exact A1.out hle)
          go_wp2_with fail
          refine (pAt gs B n c P T _ HN.out hn1000 (hi2.step (by repeat (first | exact Below.refl _ _ | apply keep_alloc | apply keep_drew | apply keep_drewN | refine keep_step (by assumption) ?_ (by rfl) | refine keep_set ?_ _ _ (by first | exact Nat.le_refl _ | (show _ ≤ _; simp; done) | (show _ ≤ _; simp; omega)))))).mono ?_
          rintro _ w8 ⟨rfl, hb8⟩
          rw [AA.out.1, AA.out.2]
          go_wp2_with fail
          refine (pLevel gs B n c P m T _ HN.out hn1000 (hi2.step (by repeat (first | exact Below.refl _ _ | apply keep_alloc | apply keep_drew | apply keep_drewN | refine keep_step (by assumption) ?_ (by rfl) | refine keep_set ?_ _ _ (by first | exact Nat.le_refl _ | (show _ ≤ _; simp; done) | (show _ ≤ _; simp; omega)))))).mono ?_
          rintro _ w9 ⟨rfl, hb9⟩
          rw [LV.out, HLS.out, HE2.out]
          go_wp2
          go_ret
          exact ⟨by simp, (by repeat (first | exact Below.refl _ _ | apply keep_alloc | apply keep_drew | apply keep_drewN | refine keep_step (by assumption) ?_ (by rfl) | refine keep_set ?_ _ _ (by first | exact Nat.le_refl _ | (show _ ≤ _; simp; done) | (show _ ≤ _; simp; omega))))⟩
  · have hab : ab (pos gs m) P = pos gs m - P := by unfold ab; split <;> omega
    go_wp2
    go_quiet (fail)
    go_wp2
    obtain ⟨far, hf⟩ : ∃ far, far = pos gs m - P := ⟨_, rfl⟩
    rw [← hf] at hab ⊢
    have HFAR := Lib.hid hf
    clear hf g1
    rw [hab] at HMIN HLOW A1 A2
    go_loopw [15] (NeRel n w6) (fun v _ => N - (intOf v).toNat)
    case atStart => exact ⟨0, by omega, rfl, (by repeat (first | exact Below.refl _ _ | apply keep_alloc | apply keep_drew | apply keep_drewN | refine keep_step (by assumption) ?_ (by rfl) | refine keep_set ?_ _ _ (by first | exact Nat.le_refl _ | (show _ ≤ _; simp; done) | (show _ ≤ _; simp; omega))))⟩
    case round =>
      obtain ⟨j, hj, rfl, hbl⟩ := hrel
      have hj2 := NN.out
      by_cases hlt : j < N
      · have hjN : j ≤ n := by omega
        have hbw7 : Below w3.heap.size w3 wr := (by repeat (first | exact Below.refl _ _ | apply keep_alloc | apply keep_drew | apply keep_drewN | refine keep_step (by assumption) ?_ (by rfl) | refine keep_set ?_ _ _ (by first | exact Nat.le_refl _ | (show _ ≤ _; simp; done) | (show _ ≤ _; simp; omega))))
        have c2 := (hbw7.cell (p := ⟨b3, o3 + j, none⟩) hb3w).trans (HC.out j hlt)
        obtain ⟨r1, r2⟩ := near_pos HF.out (k := j) (by rw [HN.out]; exact hjN)
        have hge := HMIN.out j hjN
        have hlow := HLOW.out j
        have hpj := pos_low HF.out j (by rw [HN.out]; exact hjN)
        have hpn := pos_le HF.out (i := j) (j := n) hjN (by rw [HN.out]; exact Nat.le_refl _)
        have OWE := Lib.hid (lE_ok HCK.out (p := pos gs j) (f := 0) (t := 0) (by unfold Askable; rw [HN.out]; omega))
        have OWN := Lib.hid (nV_ok OWE.out)
        rw [near_own HF.out (by rw [HN.out]; exact hjN)] at OWN
        clear hj2 hpj hpn hbw7
        rcases (show pos gs j < P ∨ P < pos gs j ∨ (pos gs j ≤ P ∧ P ≤ pos gs j) by omega) with g1 | g1 | ⟨g1, g2⟩
        · have hd' : ab (pos gs j) P = P - pos gs j := by unfold ab; split <;> omega
          rw [hd'] at hge hlow
          clear hd'
          go_wp2
          go_quiet (fail)
          obtain ⟨d, hd⟩ : ∃ d, d = P - pos gs j := ⟨_, rfl⟩
          rw [← hd] at hge hlow
          have HD := Lib.hid hd
          clear hd
          go_wp2_with fail
          rw [← HD.out]
          go_wp2_with fail
          refine (pNearest gs B n c (pos gs j) _ HN.out hn1000 (hi2.step (by repeat (first | exact Below.refl _ _ | apply keep_alloc | apply keep_drew | apply keep_drewN | refine keep_step (by assumption) ?_ (by rfl) | refine keep_set ?_ _ _ (by first | exact Nat.le_refl _ | (show _ ≤ _; simp; done) | (show _ ≤ _; simp; omega)))))).mono ?_
          rintro _ w8 ⟨rfl, hb8⟩
          rw [OWN.out, OWE.out]
          have hq1 : decide (d < far) = false := by simp; omega
          by_cases hde : d = far
          · have hq2 : (d == far) = true := by simp [hde]
            have hmj : m ≤ j := by omega
            have hq3 : decide (j < m) = false := by simp; omega
            have hq4 : decide ((j : Int) < (m : Int)) = false := by simp; omega
            have HDE := Lib.hid hde
            clear hde
            clear hlow c1 c2 d1 hab r1 r2 q1 q2 p1 p2 x1 x2 t1 hpb hnb
            go_wp2
            exact ⟨⟨j + 1, by omega, by go_num, (by repeat (first | exact Below.refl _ _ | apply keep_alloc | apply keep_drew | apply keep_drewN | refine keep_step (by assumption) ?_ (by rfl) | refine keep_set ?_ _ _ (by first | exact Nat.le_refl _ | (show _ ≤ _; simp; done) | (show _ ≤ _; simp; omega))))⟩, by simp [intOf]; omega⟩
          · have hq2 : (d == far) = false := by simp [hde]
            have HDE := Lib.hid hde
            clear hde
            clear hlow c1 c2 d1 hab r1 r2 q1 q2 p1 p2 x1 x2 t1 hpb hnb
            go_wp2
            exact ⟨⟨j + 1, by omega, by go_num, (by repeat (first | exact Below.refl _ _ | apply keep_alloc | apply keep_drew | apply keep_drewN | refine keep_step (by assumption) ?_ (by rfl) | refine keep_set ?_ _ _ (by first | exact Nat.le_refl _ | (show _ ≤ _; simp; done) | (show _ ≤ _; simp; omega))))⟩, by simp [intOf]; omega⟩
        · have hd' : ab (pos gs j) P = pos gs j - P := by unfold ab; split <;> omega
          rw [hd'] at hge hlow
          clear hd'
          go_wp2
          go_quiet (fail)
          obtain ⟨d, hd⟩ : ∃ d, d = pos gs j - P := ⟨_, rfl⟩
          rw [← hd] at hge hlow
          have HD := Lib.hid hd
          clear hd
          go_wp2_with fail
          rw [← HD.out]
          go_wp2_with fail
          refine (pNearest gs B n c (pos gs j) _ HN.out hn1000 (hi2.step (by repeat (first | exact Below.refl _ _ | apply keep_alloc | apply keep_drew | apply keep_drewN | refine keep_step (by assumption) ?_ (by rfl) | refine keep_set ?_ _ _ (by first | exact Nat.le_refl _ | (show _ ≤ _; simp; done) | (show _ ≤ _; simp; omega)))))).mono ?_
          rintro _ w8 ⟨rfl, hb8⟩
          rw [OWN.out, OWE.out]
          have hq1 : decide (d < far) = false := by simp; omega
          by_cases hde : d = far
          · have hq2 : (d == far) = true := by simp [hde]
            have hmj : m ≤ j := by omega
            have hq3 : decide (j < m) = false := by simp; omega
            have hq4 : decide ((j : Int) < (m : Int)) = false := by simp; omega
            have HDE := Lib.hid hde
            clear hde
            clear hlow c1 c2 d1 hab r1 r2 q1 q2 p1 p2 x1 x2 t1 hpb hnb
            go_wp2
            exact ⟨⟨j + 1, by omega, by go_num, (by repeat (first | exact Below.refl _ _ | apply keep_alloc | apply keep_drew | apply keep_drewN | refine keep_step (by assumption) ?_ (by rfl) | refine keep_set ?_ _ _ (by first | exact Nat.le_refl _ | (show _ ≤ _; simp; done) | (show _ ≤ _; simp; omega))))⟩, by simp [intOf]; omega⟩
          · have hq2 : (d == far) = false := by simp [hde]
            have HDE := Lib.hid hde
            clear hde
            clear hlow c1 c2 d1 hab r1 r2 q1 q2 p1 p2 x1 x2 t1 hpb hnb
            go_wp2
            exact ⟨⟨j + 1, by omega, by go_num, (by repeat (first | exact Below.refl _ _ | apply keep_alloc | apply keep_drew | apply keep_drewN | refine keep_step (by assumption) ?_ (by rfl) | refine keep_set ?_ _ _ (by first | exact Nat.le_refl _ | (show _ ≤ _; simp; done) | (show _ ≤ _; simp; omega))))⟩, by simp [intOf]; omega⟩
        · have hd' : ab (pos gs j) P = 0 := by unfold ab; split <;> omega
          rw [hd'] at hge hlow
          clear hd'
          go_wp2
          go_quiet (fail)
          go_wp2_with fail
          refine (pNearest gs B n c (pos gs j) _ HN.out hn1000 (hi2.step (by repeat (first | exact Below.refl _ _ | apply keep_alloc | apply keep_drew | apply keep_drewN | refine keep_step (by assumption) ?_ (by rfl) | refine keep_set ?_ _ _ (by first | exact Nat.le_refl _ | (show _ ≤ _; simp; done) | (show _ ≤ _; simp; omega)))))).mono ?_
          rintro _ w8 ⟨rfl, hb8⟩
          rw [OWN.out, OWE.out]
          have hq1 : decide ((0 : Int) < far) = false := by simp; omega
          by_cases hde : (0 : Int) = far
          · have hq2 : ((0 : Int) == far) = true := by simp [hde]
            have hmj : m ≤ j := by omega
            have hq3 : decide (j < m) = false := by simp; omega
            have hq4 : decide ((j : Int) < (m : Int)) = false := by simp; omega
            have HDE := Lib.hid hde
            clear hde
            clear hlow c1 c2 d1 hab r1 r2 q1 q2 p1 p2 x1 x2 t1 hpb hnb
            go_wp2
            exact ⟨⟨j + 1, by omega, by go_num, (by repeat (first | exact Below.refl _ _ | apply keep_alloc | apply keep_drew | apply keep_drewN | refine keep_step (by assumption) ?_ (by rfl) | refine keep_set ?_ _ _ (by first | exact Nat.le_refl _ | (show _ ≤ _; simp; done) | (show _ ≤ _; simp; omega))))⟩, by simp [intOf]; omega⟩
          · have hq2 : ((0 : Int) == far) = false := by simp [hde]
            have HDE := Lib.hid hde
            clear hde
            clear hlow c1 c2 d1 hab r1 r2 q1 q2 p1 p2 x1 x2 t1 hpb hnb
            go_wp2
            exact ⟨⟨j + 1, by omega, by go_num, (by repeat (first | exact Below.refl _ _ | apply keep_alloc | apply keep_drew | apply keep_drewN | refine keep_step (by assumption) ?_ (by rfl) | refine keep_set ?_ _ _ (by first | exact Nat.le_refl _ | (show _ ≤ _; simp; done) | (show _ ≤ _; simp; omega))))⟩, by simp [intOf]; omega⟩
      · have hjn : j = N := by omega
        subst hjn
        clear hj2
        by_cases hfar2 : T < far
        · go_wp2_with fail
          refine (pAt gs B n c P T _ HN.out hn1000 (hi2.step (by repeat (first | exact Below.refl _ _ | apply keep_alloc | apply keep_drew | apply keep_drewN | refine keep_step (by assumption) ?_ (by rfl) | refine keep_set ?_ _ _ (by first | exact Nat.le_refl _ | (show _ ≤ _; simp; done) | (show _ ≤ _; simp; omega)))))).mono ?_
          rintro _ w8 ⟨rfl, hb8⟩
          rw [(A2.out hfar2).1, (A2.out hfar2).2]
          go_wp2
          go_ret
          exact ⟨rfl, (by repeat (first | exact Below.refl _ _ | apply keep_alloc | apply keep_drew | apply keep_drewN | refine keep_step (by assumption) ?_ (by rfl) | refine keep_set ?_ _ _ (by first | exact Nat.le_refl _ | (show _ ≤ _; simp; done) | (show _ ≤ _; simp; omega))))⟩
        · have hle := Int.not_lt.1 hfar2
          have LV : Hid (lV gs P m T = true) := Lib.hid (by
            rw [lV_ok (by rw [HLS.out]; exact HE2.out), show ((m : Int)).toNat = m by omega, hab]
            simpa using hle)
          have AA := Lib.hid (show aE gs P T = 0 ∧ aV gs P T = m by first | exact A1.out hfar2 | exact A1.out hle)
          go_wp2_with fail
          refine (pAt gs B n c P T _ HN.out hn1000 (hi2.step (by repeat (first | exact Below.refl _ _ | apply keep_alloc | apply keep_drew | apply keep_drewN | refine keep_step (by assumption) ?_ (by rfl) | refine keep_set ?_ _ _ (by first | exact Nat.le_refl _ | (show _ ≤ _; simp; done) | (show _ ≤ _; simp; omega)))))).mono ?_
          rintro _ w8 ⟨rfl, hb8⟩
          rw [AA.out.1, AA.out.2]
          go_wp2_with fail
          refine (pLevel gs B n c P m T _ HN.out hn1000 (hi2.step (by repeat (first | exact Below.refl _ _ | apply keep_alloc | apply keep_drew | apply keep_drewN | refine keep_step (by assumption) ?_ (by rfl) | refine keep_set ?_ _ _ (by first | exact Nat.le_refl _ | (show _ ≤ _; simp; done) | (show _ ≤ _; simp; omega)))))).mono ?_
          rintro _ w9 ⟨rfl, hb9⟩
          rw [LV.out, HLS.out, HE2.out]
          go_wp2
          go_ret
          exact ⟨by simp, (by repeat (first | exact Below.refl _ _ | apply keep_alloc | apply keep_drew | apply keep_drewN | refine keep_step (by assumption) ?_ (by rfl) | refine keep_set ?_ _ _ (by first | exact Nat.le_refl _ | (show _ ≤ _; simp; done) | (show _ ≤ _; simp; omega))))⟩
  · have hab : ab (pos gs m) P = 0 := by unfold ab; split <;> omega
    go_wp2
    go_quiet (fail)
    go_wp2
    clear g1 g2
    rw [hab] at HMIN HLOW A1 A2
    go_loopw [15] (NeRel n w6) (fun v _ => N - (intOf v).toNat)
    case atStart => exact ⟨0, by omega, rfl, (by repeat (first | exact Below.refl _ _ | apply keep_alloc | apply keep_drew | apply keep_drewN | refine keep_step (by assumption) ?_ (by rfl) | refine keep_set ?_ _ _ (by first | exact Nat.le_refl _ | (show _ ≤ _; simp; done) | (show _ ≤ _; simp; omega))))⟩
    case round =>
      obtain ⟨j, hj, rfl, hbl⟩ := hrel
      have hj2 := NN.out
      by_cases hlt : j < N
      · have hjN : j ≤ n := by omega
        have hbw7 : Below w3.heap.size w3 wr := (by repeat (first | exact Below.refl _ _ | apply keep_alloc | apply keep_drew | apply keep_drewN | refine keep_step (by assumption) ?_ (by rfl) | refine keep_set ?_ _ _ (by first | exact Nat.le_refl _ | (show _ ≤ _; simp; done) | (show _ ≤ _; simp; omega))))
        have c2 := (hbw7.cell (p := ⟨b3, o3 + j, none⟩) hb3w).trans (HC.out j hlt)
        obtain ⟨r1, r2⟩ := near_pos HF.out (k := j) (by rw [HN.out]; exact hjN)
        have hge := HMIN.out j hjN
        have hlow := HLOW.out j
        have hpj := pos_low HF.out j (by rw [HN.out]; exact hjN)
        have hpn := pos_le HF.out (i := j) (j := n) hjN (by rw [HN.out]; exact Nat.le_refl _)
        have OWE := Lib.hid (lE_ok HCK.out (p := pos gs j) (f := 0) (t := 0) (by unfold Askable; rw [HN.out]; omega))
        have OWN := Lib.hid (nV_ok OWE.out)
        rw [near_own HF.out (by rw [HN.out]; exact hjN)] at OWN
        clear hj2 hpj hpn hbw7
        rcases (show pos gs j < P ∨ P < pos gs j ∨ (pos gs j ≤ P ∧ P ≤ pos gs j) by omega) with g1 | g1 | ⟨g1, g2⟩
        · have hd' : ab (pos gs j) P = P - pos gs j := by unfold ab; split <;> omega
          rw [hd'] at hge hlow
          clear hd'
          go_wp2
          go_quiet (fail)
          obtain ⟨d, hd⟩ : ∃ d, d = P - pos gs j := ⟨_, rfl⟩
          rw [← hd] at hge hlow
          have HD := Lib.hid hd
          clear hd
          go_wp2_with fail
          rw [← HD.out]
          go_wp2_with fail
          refine (pNearest gs B n c (pos gs j) _ HN.out hn1000 (hi2.step (by repeat (first | exact Below.refl _ _ | apply keep_alloc | apply keep_drew | apply keep_drewN | refine keep_step (by assumption) ?_ (by rfl) | refine keep_set ?_ _ _ (by first | exact Nat.le_refl _ | (show _ ≤ _; simp; done) | (show _ ≤ _; simp; omega)))))).mono ?_
          rintro _ w8 ⟨rfl, hb8⟩
          rw [OWN.out, OWE.out]
          have hq1 : decide (d < (0 : Int)) = false := by simp; omega
          by_cases hde : d = (0 : Int)
          · have hq2 : (d == (0 : Int)) = true := by simp [hde]
            have hmj : m ≤ j := by omega
            have hq3 : decide (j < m) = false := by simp; omega
            have hq4 : decide ((j : Int) < (m : Int)) = false := by simp; omega
            have HDE := Lib.hid hde
            clear hde
            clear hlow c1 c2 d1 hab r1 r2 q1 q2 p1 p2 x1 x2 t1 hpb hnb
            go_wp2
            exact ⟨⟨j + 1, by omega, by go_num, (by repeat (first | exact Below.refl _ _ | apply keep_alloc | apply keep_drew | apply keep_drewN | refine keep_step (by assumption) ?_ (by rfl) | refine keep_set ?_ _ _ (by first | exact Nat.le_refl _ | (show _ ≤ _; simp; done) | (show _ ≤ _; simp; omega))))⟩, by simp [intOf]; omega⟩
          · have hq2 : (d == (0 : Int)) = false := by simp [hde]
            have HDE := Lib.hid hde
            clear hde
            clear hlow c1 c2 d1 hab r1 r2 q1 q2 p1 p2 x1 x2 t1 hpb hnb
            go_wp2
            exact ⟨⟨j + 1, by omega, by go_num, (by repeat (first | exact Below.refl _ _ | apply keep_alloc | apply keep_drew | apply keep_drewN | refine keep_step (by assumption) ?_ (by rfl) | refine keep_set ?_ _ _ (by first | exact Nat.le_refl _ | (show _ ≤ _; simp; done) | (show _ ≤ _; simp; omega))))⟩, by simp [intOf]; omega⟩
        · have hd' : ab (pos gs j) P = pos gs j - P := by unfold ab; split <;> omega
          rw [hd'] at hge hlow
          clear hd'
          go_wp2
          go_quiet (fail)
          obtain ⟨d, hd⟩ : ∃ d, d = pos gs j - P := ⟨_, rfl⟩
          rw [← hd] at hge hlow
          have HD := Lib.hid hd
          clear hd
          go_wp2_with fail
          rw [← HD.out]
          go_wp2_with fail
          refine (pNearest gs B n c (pos gs j) _ HN.out hn1000 (hi2.step (by repeat (first | exact Below.refl _ _ | apply keep_alloc | apply keep_drew | apply keep_drewN | refine keep_step (by assumption) ?_ (by rfl) | refine keep_set ?_ _ _ (by first | exact Nat.le_refl _ | (show _ ≤ _; simp; done) | (show _ ≤ _; simp; omega)))))).mono ?_
          rintro _ w8 ⟨rfl, hb8⟩
          rw [OWN.out, OWE.out]
          have hq1 : decide (d < (0 : Int)) = false := by simp; omega
          by_cases hde : d = (0 : Int)
          · have hq2 : (d == (0 : Int)) = true := by simp [hde]
            have hmj : m ≤ j := by omega
            have hq3 : decide (j < m) = false := by simp; omega
            have hq4 : decide ((j : Int) < (m : Int)) = false := by simp; omega
            have HDE := Lib.hid hde
            clear hde
            clear hlow c1 c2 d1 hab r1 r2 q1 q2 p1 p2 x1 x2 t1 hpb hnb
            go_wp2
            exact ⟨⟨j + 1, by omega, by go_num, (by repeat (first | exact Below.refl _ _ | apply keep_alloc | apply keep_drew | apply keep_drewN | refine keep_step (by assumption) ?_ (by rfl) | refine keep_set ?_ _ _ (by first | exact Nat.le_refl _ | (show _ ≤ _; simp; done) | (show _ ≤ _; simp; omega))))⟩, by simp [intOf]; omega⟩
          · have hq2 : (d == (0 : Int)) = false := by simp [hde]
            have HDE := Lib.hid hde
            clear hde
            clear hlow c1 c2 d1 hab r1 r2 q1 q2 p1 p2 x1 x2 t1 hpb hnb
            go_wp2
            exact ⟨⟨j + 1, by omega, by go_num, (by repeat (first | exact Below.refl _ _ | apply keep_alloc | apply keep_drew | apply keep_drewN | refine keep_step (by assumption) ?_ (by rfl) | refine keep_set ?_ _ _ (by first | exact Nat.le_refl _ | (show _ ≤ _; simp; done) | (show _ ≤ _; simp; omega))))⟩, by simp [intOf]; omega⟩
        · have hd' : ab (pos gs j) P = 0 := by unfold ab; split <;> omega
          rw [hd'] at hge hlow
          clear hd'
          go_wp2
          go_quiet (fail)
          go_wp2_with fail
          refine (pNearest gs B n c (pos gs j) _ HN.out hn1000 (hi2.step (by repeat (first | exact Below.refl _ _ | apply keep_alloc | apply keep_drew | apply keep_drewN | refine keep_step (by assumption) ?_ (by rfl) | refine keep_set ?_ _ _ (by first | exact Nat.le_refl _ | (show _ ≤ _; simp; done) | (show _ ≤ _; simp; omega)))))).mono ?_
          rintro _ w8 ⟨rfl, hb8⟩
          rw [OWN.out, OWE.out]
          have hmj : m ≤ j := by omega
          have hq3 : decide (j < m) = false := by simp; omega
          have hq4 : decide ((j : Int) < (m : Int)) = false := by simp; omega
          clear hlow c1 c2 d1 hab r1 r2 q1 q2 p1 p2 x1 x2 t1 hpb hnb
          go_wp2
          exact ⟨⟨j + 1, by omega, by go_num, (by repeat (first | exact Below.refl _ _ | apply keep_alloc | apply keep_drew | apply keep_drewN | refine keep_step (by assumption) ?_ (by rfl) | refine keep_set ?_ _ _ (by first | exact Nat.le_refl _ | (show _ ≤ _; simp; done) | (show _ ≤ _; simp; omega))))⟩, by simp [intOf]; omega⟩
      · have hjn : j = N := by omega
        subst hjn
        clear hj2
        by_cases hfar2 : T < (0 : Int)
        · go_wp2_with fail
          refine (pAt gs B n c P T _ HN.out hn1000 (hi2.step (by repeat (first | exact Below.refl _ _ | apply keep_alloc | apply keep_drew | apply keep_drewN | refine keep_step (by assumption) ?_ (by rfl) | refine keep_set ?_ _ _ (by first | exact Nat.le_refl _ | (show _ ≤ _; simp; done) | (show _ ≤ _; simp; omega)))))).mono ?_
          rintro _ w8 ⟨rfl, hb8⟩
          rw [(A2.out hfar2).1, (A2.out hfar2).2]
          go_wp2
          go_ret
          exact ⟨rfl, (by repeat (first | exact Below.refl _ _ | apply keep_alloc | apply keep_drew | apply keep_drewN | refine keep_step (by assumption) ?_ (by rfl) | refine keep_set ?_ _ _ (by first | exact Nat.le_refl _ | (show _ ≤ _; simp; done) | (show _ ≤ _; simp; omega))))⟩
        · have hle := Int.not_lt.1 hfar2
          have LV : Hid (lV gs P m T = true) := Lib.hid (by
            rw [lV_ok (by rw [HLS.out]; exact HE2.out), show ((m : Int)).toNat = m by omega, hab]
            simpa using hle)
          have AA := Lib.hid (show aE gs P T = 0 ∧ aV gs P T = m by first | exact A1.out hfar2 | exact A1.out hle)
          go_wp2_with fail
          refine (pAt gs B n c P T _ HN.out hn1000 (hi2.step (by repeat (first | exact Below.refl _ _ | apply keep_alloc | apply keep_drew | apply keep_drewN | refine keep_step (by assumption) ?_ (by rfl) | refine keep_set ?_ _ _ (by first | exact Nat.le_refl _ | (show _ ≤ _; simp; done) | (show _ ≤ _; simp; omega)))))).mono ?_
          rintro _ w8 ⟨rfl, hb8⟩
          rw [AA.out.1, AA.out.2]
          go_wp2_with fail
          refine (pLevel gs B n c P m T _ HN.out hn1000 (hi2.step (by repeat (first | exact Below.refl _ _ | apply keep_alloc | apply keep_drew | apply keep_drewN | refine keep_step (by assumption) ?_ (by rfl) | refine keep_set ?_ _ _ (by first | exact Nat.le_refl _ | (show _ ≤ _; simp; done) | (show _ ≤ _; simp; omega)))))).mono ?_
          rintro _ w9 ⟨rfl, hb9⟩
          rw [LV.out, HLS.out, HE2.out]
          go_wp2
          go_ret
          exact ⟨by simp, (by repeat (first | exact Below.refl _ _ | apply keep_alloc | apply keep_drew | apply keep_drewN | refine keep_step (by assumption) ?_ (by rfl) | refine keep_set ?_ _ _ (by first | exact Nat.le_refl _ | (show _ ≤ _; simp; done) | (show _ ≤ _; simp; omega))))⟩
end Go.Proofs.Ythjnldigfabihaa
