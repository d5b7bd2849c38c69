/- Layer 7: the program's Distance, Between. -/
import Derived.Test.YthjnldigfabihaaSL
namespace Go.Proofs.Ythjnldigfabihaa
open Go.RowKit
set_option linter.unusedVariables false

theorem lE0_f {gs : List Int} {f : Int} (h : ckE gs = 0) : lE gs 0 f 0 = if inF gs f = true then 0 else 2 := by
  have h0 : inS gs 0 = true := inS_d.2 ⟨by omega, by have := pos_low (fine_of h) gs.length (Nat.le_refl _); omega⟩
  by_cases h1 : inF gs f = true
  · rw [if_pos h1, lE_fine h h0 h1 (by omega) (by omega)]
  · rw [if_neg h1, lE_two h (.inr (.inl (by simpa using h1)))]
theorem lE0_p {gs : List Int} {p : Int} (h : ckE gs = 0) : lE gs p 0 0 = if inS gs p = true then 0 else 2 := by
  by_cases h1 : inS gs p = true
  · rw [if_pos h1, lE_fine h h1 (inF_d.2 ⟨by omega, by omega⟩) (by omega) (by omega)]
  · rw [if_neg h1, lE_two h (.inl (by simpa using h1))]

theorem pDistance (gs : List Int) (A : Option Addr) (n cap : Nat) (p q : Int) (w : World) (hn : gs.length = n) (hm : n ≤ 1000) (hA : Ints w A gs) :
    Calls Try.prog 18 #[.slice A n cap, .int .i64 p, .int .i64 q] w (Out2 (dV gs p q) (dE gs p q) w) := by
  obtain ⟨N, hN⟩ : ∃ N, N = n + 1 := ⟨_, rfl⟩
  have HN := Lib.hid hN
  clear hN
  by_cases hck : ckE gs = 0
  · have HF := Lib.hid (fine_of hck)
    have HCK := Lib.hid hck
    have hd : dE gs p q = if inF gs p = true ∧ inF gs q = true then 0 else 2 := by
      unfold dE
      rw [lE0_f hck, lE0_f hck]
      cases inF gs p <;> cases inF gs q <;> rfl
    clear hck
    cases hfp : inF gs p
    · have h2 : dE gs p q = 2 := by rw [hd, hfp]; rfl
      rw [dV_bad (by rw [h2]; decide), h2]
      have HFP := Lib.hid hfp
      clear hfp hd h2
      go_enter Try.func18, Try.ntmps18
      go_wp2_with fail
      refine (pPlaceN gs A n N cap _ hn HN.out hm (hA.step (by repeat (first | exact Below.refl _ _ | apply keep_alloc | apply keep_drew | apply keep_drewN | refine keep_step (by assumption) ?_ (by rfl) | refine keep_set ?_ _ _ (by first | exact Nat.le_refl _ | (show _ ≤ _; simp; done) | (show _ ≤ _; simp; omega))))) HCK.out).mono ?_
      rintro _ w1 ⟨B, rfl, hi1, hb1⟩
      go_wp2_with fail
      refine (pisFloor gs B n N N p _ hn HN.out hm).mono ?_
      rintro _ w2 ⟨rfl, hb2⟩
      rw [HFP.out]
      go_wp2
      go_ret2
      exact out2 rfl rfl (by repeat (first | exact Below.refl _ _ | apply keep_alloc | apply keep_drew | apply keep_drewN | refine keep_step (by assumption) ?_ (by rfl) | refine keep_set ?_ _ _ (by first | exact Nat.le_refl _ | (show _ ≤ _; simp; done) | (show _ ≤ _; simp; omega))))
    · cases hfq : inF gs q
      · have h2 : dE gs p q = 2 := by rw [hd, hfp, hfq]; rfl
        rw [dV_bad (by rw [h2]; decide), h2]
        have HFP := Lib.hid hfp
        have HFQ := Lib.hid hfq
        clear hfp hfq hd h2
        go_enter Try.func18, Try.ntmps18
        go_wp2_with fail
        refine (pPlaceN gs A n N cap _ hn HN.out hm (hA.step (by repeat (first | exact Below.refl _ _ | apply keep_alloc | apply keep_drew | apply keep_drewN | refine keep_step (by assumption) ?_ (by rfl) | refine keep_set ?_ _ _ (by first | exact Nat.le_refl _ | (show _ ≤ _; simp; done) | (show _ ≤ _; simp; omega))))) HCK.out).mono ?_
        rintro _ w1 ⟨B, rfl, hi1, hb1⟩
        go_wp2_with fail
        refine (pisFloor gs B n N N p _ hn HN.out hm).mono ?_
        rintro _ w2 ⟨rfl, hb2⟩
        rw [HFP.out]
        go_wp2_with fail
        refine (pisFloor gs B n N N q _ hn HN.out hm).mono ?_
        rintro _ w3 ⟨rfl, hb3⟩
        rw [HFQ.out]
        go_wp2
        go_ret2
        exact out2 rfl rfl (by repeat (first | exact Below.refl _ _ | apply keep_alloc | apply keep_drew | apply keep_drewN | refine keep_step (by assumption) ?_ (by rfl) | refine keep_set ?_ _ _ (by first | exact Nat.le_refl _ | (show _ ≤ _; simp; done) | (show _ ≤ _; simp; omega))))
      · have h2 : dE gs p q = 0 := by rw [hd, hfp, hfq]; rfl
        rw [dV_ok h2, h2]
        have h3 := inF_d.1 hfp
        have h4 := inF_d.1 hfq
        obtain ⟨i, rfl⟩ : ∃ i : Nat, p = i := ⟨p.toNat, by omega⟩
        obtain ⟨j, rfl⟩ : ∃ j : Nat, q = j := ⟨q.toNat, by omega⟩
        rw [show ((i : Int)).toNat = i by omega, show ((j : Int)).toNat = j by omega]
        have HFP := Lib.hid hfp
        have HFQ := Lib.hid hfq
        have hi : i < n + 1 := by omega
        have hj : j < n + 1 := by omega
        clear hfp hfq hd h2 h3 h4
        go_enter Try.func18, Try.ntmps18
        go_wp2_with fail
        refine (pPlaceN gs A n N cap _ hn HN.out hm (hA.step (by repeat (first | exact Below.refl _ _ | apply keep_alloc | apply keep_drew | apply keep_drewN | refine keep_step (by assumption) ?_ (by rfl) | refine keep_set ?_ _ _ (by first | exact Nat.le_refl _ | (show _ ≤ _; simp; done) | (show _ ≤ _; simp; omega))))) HCK.out).mono ?_
        rintro _ w1 ⟨B, rfl, hi1, hb1⟩
        go_wp2_with fail
        refine (pisFloor gs B n N N i _ hn HN.out hm).mono ?_
        rintro _ w2 ⟨rfl, hb2⟩
        rw [HFP.out]
        go_wp2_with fail
        refine (pisFloor gs B n N N j _ hn HN.out hm).mono ?_
        rintro _ w3 ⟨rfl, hb3⟩
        rw [HFQ.out]
        go_wp2_with fail
        refine (pdistance gs B N N i j _ HF.out (by rw [HN.out, hn]) (by rw [HN.out]; exact hi) (by rw [HN.out]; exact hj) (show Spots _ gs N B from hi1.step (by repeat (first | exact Below.refl _ _ | apply keep_alloc | apply keep_drew | apply keep_drewN | refine keep_step (by assumption) ?_ (by rfl) | refine keep_set ?_ _ _ (by first | exact Nat.le_refl _ | (show _ ≤ _; simp; done) | (show _ ≤ _; simp; omega)))))).mono ?_
        rintro _ w4 ⟨rfl, hb4⟩
        go_wp2
        go_ret2
        exact out2 rfl rfl (by repeat (first | exact Below.refl _ _ | apply keep_alloc | apply keep_drew | apply keep_drewN | refine keep_step (by assumption) ?_ (by rfl) | refine keep_set ?_ _ _ (by first | exact Nat.le_refl _ | (show _ ≤ _; simp; done) | (show _ ≤ _; simp; omega))))
  · have hb0 : (ckE gs != 0) = true := by simp [hck]
    have h2 : dE gs p q = ckE gs := by unfold dE; rw [lE_bad hck, lE_bad hck]; split <;> rfl
    rw [dV_bad (by rw [h2]; exact hck), h2]
    go_enter Try.func18, Try.ntmps18
    go_wp2_with fail
    refine (pPlaceE gs A n cap _ hn hm (hA.step (by repeat (first | exact Below.refl _ _ | apply keep_alloc | apply keep_drew | apply keep_drewN | refine keep_step (by assumption) ?_ (by rfl) | refine keep_set ?_ _ _ (by first | exact Nat.le_refl _ | (show _ ≤ _; simp; done) | (show _ ≤ _; simp; omega))))) hck).mono ?_
    rintro _ w1 ⟨rfl, hb1⟩
    clear hck h2
    go_wp2
    go_ret2
    exact out2 rfl rfl (by repeat (first | exact Below.refl _ _ | apply keep_alloc | apply keep_drew | apply keep_drewN | refine keep_step (by assumption) ?_ (by rfl) | refine keep_set ?_ _ _ (by first | exact Nat.le_refl _ | (show _ ≤ _; simp; done) | (show _ ≤ _; simp; omega))))

theorem bE_bad {gs : List Int} {lo hi : Int} (h : bE gs lo hi ≠ 0) : bV gs lo hi = [] := by unfold bV; rw [if_neg h]
theorem bE_is {gs : List Int} {lo hi : Int} (h : ckE gs = 0) : bE gs lo hi = if inS gs lo = true ∧ inS gs hi = true ∧ ¬ hi < lo then 0 else 2 := by
  unfold bE
  rw [lE0_p h, lE0_p h]
  cases inS gs lo <;> cases inS gs hi <;> by_cases h5 : hi < lo <;> simp [h5] <;> omega

def BpRel (gs : List Int) (lo hi : Int) (r n : Nat) (w : World) (v10 v11 : Value) (wr : World) : Prop :=
  ∃ k : Nat, r ≤ k ∧ k ≤ n + 1 ∧ v11 = .int .i64 k ∧ Mine w.heap.size wr v10 (btl gs lo hi k) ∧ Below w.heap.size w wr

set_option maxHeartbeats 4000000 in
theorem pBetween (gs : List Int) (A : Option Addr) (n cap : Nat) (lo hi : Int) (w : World) (hn : gs.length = n) (hm : n ≤ 1000) (hA : Ints w A gs) :
    Calls Try.prog 26 #[.slice A n cap, .int .i64 lo, .int .i64 hi] w (OutInts (bV gs lo hi) (bE gs lo hi) w) := by
  obtain ⟨N, hN⟩ : ∃ N, N = n + 1 := ⟨_, rfl⟩
  have HN := Lib.hid hN
  clear hN
  by_cases hck : ckE gs = 0
  · have HF := Lib.hid (fine_of hck)
    have HCK := Lib.hid hck
    have hd := bE_is (lo := lo) (hi := hi) hck
    clear hck
    cases hlo : inS gs lo
    · have h2 : bE gs lo hi = 2 := by rw [hd, hlo]; simp
      rw [bE_bad (by rw [h2]; decide), h2]
      have HLO := Lib.hid hlo
      clear hlo hd h2
      go_enter Try.func26, Try.ntmps26
      go_wp2_with fail
      refine (pPlaceN gs A n N cap _ hn HN.out hm (hA.step (by repeat (first | exact Below.refl _ _ | apply keep_alloc | apply keep_drew | apply keep_drewN | refine keep_step (by assumption) ?_ (by rfl) | refine keep_set ?_ _ _ (by first | exact Nat.le_refl _ | (show _ ≤ _; simp; done) | (show _ ≤ _; simp; omega))))) HCK.out).mono ?_
      rintro _ w1 ⟨B, rfl, hi1, hb1⟩
      go_wp2_with fail
      refine (pisPos gs B n N N lo _ HF.out hn HN.out (show Spots _ gs N B from hi1)).mono ?_
      rintro _ w2 ⟨rfl, hb2⟩
      rw [HLO.out]
      go_wp2
      go_ret2
      exact outMine (B := 0) (Mine.nil _ _) (by repeat (first | exact Below.refl _ _ | apply keep_alloc | apply keep_drew | apply keep_drewN | refine keep_step (by assumption) ?_ (by rfl) | refine keep_set ?_ _ _ (by first | exact Nat.le_refl _ | (show _ ≤ _; simp; done) | (show _ ≤ _; simp; omega))))
    · cases hhi : inS gs hi
      · have h2 : bE gs lo hi = 2 := by rw [hd, hlo, hhi]; simp
        rw [bE_bad (by rw [h2]; decide), h2]
        have HLO := Lib.hid hlo
        have HHI := Lib.hid hhi
        clear hlo hhi hd h2
        go_enter Try.func26, Try.ntmps26
        go_wp2_with fail
        refine (pPlaceN gs A n N cap _ hn HN.out hm (hA.step (by repeat (first | exact Below.refl _ _ | apply keep_alloc | apply keep_drew | apply keep_drewN | refine keep_step (by assumption) ?_ (by rfl) | refine keep_set ?_ _ _ (by first | exact Nat.le_refl _ | (show _ ≤ _; simp; done) | (show _ ≤ _; simp; omega))))) HCK.out).mono ?_
        rintro _ w1 ⟨B, rfl, hi1, hb1⟩
        go_wp2_with fail
        refine (pisPos gs B n N N lo _ HF.out hn HN.out (show Spots _ gs N B from hi1)).mono ?_
        rintro _ w2 ⟨rfl, hb2⟩
        rw [HLO.out]
        go_wp2_with fail
        refine (pisPos gs B n N N hi _ HF.out hn HN.out (show Spots _ gs N B from hi1.step (by repeat (first | exact Below.refl _ _ | apply keep_alloc | apply keep_drew | apply keep_drewN | refine keep_step (by assumption) ?_ (by rfl) | refine keep_set ?_ _ _ (by first | exact Nat.le_refl _ | (show _ ≤ _; simp; done) | (show _ ≤ _; simp; omega)))))).mono ?_
        rintro _ w3 ⟨rfl, hb3⟩
        rw [HHI.out]
        go_wp2
        go_ret2
        exact outMine (B := 0) (Mine.nil _ _) (by repeat (first | exact Below.refl _ _ | apply keep_alloc | apply keep_drew | apply keep_drewN | refine keep_step (by assumption) ?_ (by rfl) | refine keep_set ?_ _ _ (by first | exact Nat.le_refl _ | (show _ ≤ _; simp; done) | (show _ ≤ _; simp; omega))))
      · by_cases hrev : hi < lo
        · have h2 : bE gs lo hi = 2 := by rw [hd, hlo, hhi]; simp [hrev]
          rw [bE_bad (by rw [h2]; decide), h2]
          have HLO := Lib.hid hlo
          have HHI := Lib.hid hhi
          clear hlo hhi hd h2
          go_enter Try.func26, Try.ntmps26
          go_wp2_with fail
          refine (pPlaceN gs A n N cap _ hn HN.out hm (hA.step (by repeat (first | exact Below.refl _ _ | apply keep_alloc | apply keep_drew | apply keep_drewN | refine keep_step (by assumption) ?_ (by rfl) | refine keep_set ?_ _ _ (by first | exact Nat.le_refl _ | (show _ ≤ _; simp; done) | (show _ ≤ _; simp; omega))))) HCK.out).mono ?_
          rintro _ w1 ⟨B, rfl, hi1, hb1⟩
          go_wp2_with fail
          refine (pisPos gs B n N N lo _ HF.out hn HN.out (show Spots _ gs N B from hi1)).mono ?_
          rintro _ w2 ⟨rfl, hb2⟩
          rw [HLO.out]
          go_wp2_with fail
          refine (pisPos gs B n N N hi _ HF.out hn HN.out (show Spots _ gs N B from hi1.step (by repeat (first | exact Below.refl _ _ | apply keep_alloc | apply keep_drew | apply keep_drewN | refine keep_step (by assumption) ?_ (by rfl) | refine keep_set ?_ _ _ (by first | exact Nat.le_refl _ | (show _ ≤ _; simp; done) | (show _ ≤ _; simp; omega)))))).mono ?_
          rintro _ w3 ⟨rfl, hb3⟩
          rw [HHI.out]
          go_wp2
          go_ret2
          exact outMine (B := 0) (Mine.nil _ _) (by repeat (first | exact Below.refl _ _ | apply keep_alloc | apply keep_drew | apply keep_drewN | refine keep_step (by assumption) ?_ (by rfl) | refine keep_set ?_ _ _ (by first | exact Nat.le_refl _ | (show _ ≤ _; simp; done) | (show _ ≤ _; simp; omega))))
        · have h2 : bE gs lo hi = 0 := by rw [hd, hlo, hhi]; simp; omega
          have h3 : bV gs lo hi = btl gs lo hi (n + 1) := by unfold bV; rw [if_pos h2, hn]
          rw [h3, h2]
          have hlo2 := inS_d.1 hlo
          have HLO := Lib.hid hlo
          have HHI := Lib.hid hhi
          have HL := Lib.hid hn
          have hn63 : n ≤ 63 := by rw [← hn]; exact HF.out.2.1
          have hle : lo ≤ hi := by omega
          clear hlo hhi hd h2 h3 hrev
          go_enter Try.func26, Try.ntmps26
          go_wp2_with fail
          refine (pPlaceN gs A n N cap _ hn HN.out hm (hA.step (by repeat (first | exact Below.refl _ _ | apply keep_alloc | apply keep_drew | apply keep_drewN | refine keep_step (by assumption) ?_ (by rfl) | refine keep_set ?_ _ _ (by first | exact Nat.le_refl _ | (show _ ≤ _; simp; done) | (show _ ≤ _; simp; omega))))) HCK.out).mono ?_
          rintro _ w1 ⟨B, rfl, hi1, hb1⟩
          go_wp2_with fail
          refine (pisPos gs B n N N lo _ HF.out hn HN.out (show Spots _ gs N B from hi1)).mono ?_
          rintro _ w2 ⟨rfl, hb2⟩
          rw [HLO.out]
          go_wp2_with fail
          refine (pisPos gs B n N N hi _ HF.out hn HN.out (show Spots _ gs N B from hi1.step (by repeat (first | exact Below.refl _ _ | apply keep_alloc | apply keep_drew | apply keep_drewN | refine keep_step (by assumption) ?_ (by rfl) | refine keep_set ?_ _ _ (by first | exact Nat.le_refl _ | (show _ ≤ _; simp; done) | (show _ ≤ _; simp; omega)))))).mono ?_
          rintro _ w3 ⟨rfl, hb3⟩
          rw [HHI.out]
          have hi3 : Ints w3 B (posl gs N) := hi1.step (by repeat (first | exact Below.refl _ _ | apply keep_alloc | apply keep_drew | apply keep_drewN | refine keep_step (by assumption) ?_ (by rfl) | refine keep_set ?_ _ _ (by first | exact Nat.le_refl _ | (show _ ≤ _; simp; done) | (show _ ≤ _; simp; omega))))
          go_wp2_with fail
          refine (pfrom gs B N N lo _ HF.out (by rw [HN.out, HL.out]) hi3).mono ?_
          rintro _ w4 ⟨r, rfl, hr, hlow, hup, hb4⟩
          have hrn : r ≤ n := by
            rcases Nat.lt_or_ge n r with h | h
            · have := hlow n h; rw [HL.out] at hlo2; omega
            · exact h
          have hsk := btl_skip (lo := lo) (hi := hi) r hlow
          have HUP := Lib.hid hup
          have HN63 : N ≤ 64 := by rw [HN.out]; omega
          obtain ⟨b, o, rfl, hbw, hc⟩ := (show Spots w4 gs N B from hi3.step (by repeat (first | exact Below.refl _ _ | apply keep_alloc | apply keep_drew | apply keep_drewN | refine keep_step (by assumption) ?_ (by rfl) | refine keep_set ?_ _ _ (by first | exact Nat.le_refl _ | (show _ ≤ _; simp; done) | (show _ ≤ _; simp; omega))))).cells (by rw [HN.out]; omega)
          have HC := Lib.hid hc
          have hbw4 : Below w.heap.size w w4 := (by repeat (first | exact Below.refl _ _ | apply keep_alloc | apply keep_drew | apply keep_drewN | refine keep_step (by assumption) ?_ (by rfl) | refine keep_set ?_ _ _ (by first | exact Nat.le_refl _ | (show _ ≤ _; simp; done) | (show _ ≤ _; simp; omega))))
          clear hc hlow hup hi3 hi1 hr hlo2 hn
          go_wp2
          go_loopw [10, 11] (BpRel gs lo hi r n w4) (fun _ v _ => n + 1 - (intOf v).toNat)
          case atStart => exact ⟨r, by omega, by omega, rfl, by rw [hsk]; exact Mine.nil _ _, Below.refl _ _⟩
          case round =>
            obtain ⟨k, hrk, hk, rfl, hown, hbl⟩ := hrel
            by_cases hlt : k < n + 1
            · have c1 := (hbl.cell (p := ⟨b, o + k, none⟩) hbw).trans (HC.out k (by rw [HN.out]; omega))
              have hl8 := btl_len gs lo hi k
              have hlen2 : (btl gs lo hi k).length ≤ 17592186044414 := by omega
              have hkN : (k : Int) < (N : Int) := by rw [HN.out]; omega
              have hlk := HUP.out k hrk (by rw [HN.out]; omega)
              clear hl8
              by_cases hcmp : pos gs k ≤ hi
              · have e1 := Lib.hid (btl_in hlk hcmp)
                go_wp2_with (first | (at_builtin; refine push_int rfl _ _ (by rfl) w4 _ _ _ (by rfl) (by rfl) (by first | rfl | simp) (hown.step (by repeat (first | exact Below.refl _ _ | apply keep_alloc | apply keep_drew | apply keep_drewN | refine keep_step (by assumption) ?_ (by rfl) | refine keep_set ?_ _ _ (by first | exact Nat.le_refl _ | (show _ ≤ _; simp; done) | (show _ ≤ _; simp; omega))))) (by repeat (first | exact Below.refl _ _ | apply keep_alloc | apply keep_drew | apply keep_drewN | refine keep_step (by assumption) ?_ (by rfl) | refine keep_set ?_ _ _ (by first | exact Nat.le_refl _ | (show _ ≤ _; simp; done) | (show _ ≤ _; simp; omega)))) (by first | omega | (simp only [List.length_take]; omega)) ?_; intro v5 w5 hown0 hbl5; have hown5 := Lib.hid hown0; clear hown0))
                exact ⟨⟨k + 1, by omega, by omega, by go_num, by rw [e1.out]; exact hown5.out, hbl5⟩, by simp [intOf]; omega⟩
              · have e1 : btl gs lo hi (n + 1) = btl gs lo hi k := by
                  have := btl_stop (gs := gs) (lo := lo) (hi := hi) k (n + 1 - k) fun i h1 h2 => by
                    by_cases e : i = k
                    · rw [e]; omega
                    · have := pos_mono HF.out k i (by omega) (by rw [HL.out]; omega); omega
                  rwa [show k + (n + 1 - k) = n + 1 by omega] at this
                have E1 := Lib.hid e1
                have hc2 : hi < pos gs k := by omega
                clear e1 hcmp
                go_wp2
                go_ret2
                rw [E1.out]
                exact outMine hown (by repeat (first | exact Below.refl _ _ | apply keep_alloc | apply keep_drew | apply keep_drewN | refine keep_step (by assumption) ?_ (by rfl) | refine keep_set ?_ _ _ (by first | exact Nat.le_refl _ | (show _ ≤ _; simp; done) | (show _ ≤ _; simp; omega))))
            · have hkn : k = n + 1 := by omega
              have hkN : (k : Int) = (N : Int) := by rw [HN.out, hkn]
              have E1 := Lib.hid hkn
              clear hkn hlt
              go_wp2
              go_ret2
              rw [E1.out] at hown
              exact outMine hown (by repeat (first | exact Below.refl _ _ | apply keep_alloc | apply keep_drew | apply keep_drewN | refine keep_step (by assumption) ?_ (by rfl) | refine keep_set ?_ _ _ (by first | exact Nat.le_refl _ | (show _ ≤ _; simp; done) | (show _ ≤ _; simp; omega))))
  · have hb0 : (ckE gs != 0) = true := by simp [hck]
    have h2 : bE gs lo hi = ckE gs := by unfold bE; rw [lE_bad hck, lE_bad hck, if_neg hck]
    rw [bE_bad (by rw [h2]; exact hck), h2]
    go_enter Try.func26, Try.ntmps26
    go_wp2_with fail
    refine (pPlaceE gs A n cap _ hn hm (hA.step (by repeat (first | exact Below.refl _ _ | apply keep_alloc | apply keep_drew | apply keep_drewN | refine keep_step (by assumption) ?_ (by rfl) | refine keep_set ?_ _ _ (by first | exact Nat.le_refl _ | (show _ ≤ _; simp; done) | (show _ ≤ _; simp; omega))))) hck).mono ?_
    rintro _ w1 ⟨rfl, hb1⟩
    clear hck h2
    go_wp2
    go_ret2
    exact outMine (B := 0) (Mine.nil _ _) (by repeat (first | exact Below.refl _ _ | apply keep_alloc | apply keep_drew | apply keep_drewN | refine keep_step (by assumption) ?_ (by rfl) | refine keep_set ?_ _ _ (by first | exact Nat.le_refl _ | (show _ ≤ _; simp; done) | (show _ ≤ _; simp; omega))))
end Go.Proofs.Ythjnldigfabihaa
