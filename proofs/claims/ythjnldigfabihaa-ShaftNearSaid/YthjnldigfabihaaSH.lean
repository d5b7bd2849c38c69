/- Layer 7: the reference's Between. -/
import Derived.Test.YthjnldigfabihaaSG
namespace Go.Proofs.Ythjnldigfabihaa
open Go.RowKit
set_option linter.unusedVariables false

def bE (gs : List Int) (lo hi : Int) : Int := if lE gs lo 0 0 = 0 then if lE gs hi 0 0 = 0 then if hi < lo then 2 else 0 else lE gs hi 0 0 else lE gs lo 0 0
def bV (gs : List Int) (lo hi : Int) : List Int := if bE gs lo hi = 0 then btl gs lo hi (gs.length + 1) else []
theorem b_lo {gs : List Int} {lo hi : Int} (h : lE gs lo 0 0 ≠ 0) : bE gs lo hi = lE gs lo 0 0 ∧ bV gs lo hi = [] := by
  have h1 : bE gs lo hi = lE gs lo 0 0 := by unfold bE; rw [if_neg h]
  exact ⟨h1, by unfold bV; rw [h1, if_neg h]⟩
theorem b_hi {gs : List Int} {lo hi : Int} (h : lE gs lo 0 0 = 0) (h2 : lE gs hi 0 0 ≠ 0) : bE gs lo hi = lE gs hi 0 0 ∧ bV gs lo hi = [] := by
  have h1 : bE gs lo hi = lE gs hi 0 0 := by unfold bE; rw [if_pos h, if_neg h2]
  exact ⟨h1, by unfold bV; rw [h1, if_neg h2]⟩
theorem b_rev {gs : List Int} {lo hi : Int} (h : lE gs lo 0 0 = 0) (h2 : lE gs hi 0 0 = 0) (h3 : hi < lo) : bE gs lo hi = 2 ∧ bV gs lo hi = [] := by
  have h1 : bE gs lo hi = 2 := by unfold bE; rw [if_pos h, if_pos h2, if_pos h3]
  exact ⟨h1, by unfold bV; rw [h1]; rfl⟩
theorem b_ok {gs : List Int} {lo hi : Int} (h : lE gs lo 0 0 = 0) (h2 : lE gs hi 0 0 = 0) (h3 : ¬ hi < lo) : bE gs lo hi = 0 ∧ bV gs lo hi = btl gs lo hi (gs.length + 1) := by
  have h1 : bE gs lo hi = 0 := by unfold bE; rw [if_pos h, if_pos h2, if_neg h3]
  exact ⟨h1, by unfold bV; rw [h1]; rfl⟩

def BtRel (gs : List Int) (lo hi : Int) (n : Nat) (w : World) (v10 v11 : Value) (wr : World) : Prop :=
  ∃ k : Nat, k ≤ n + 1 ∧ v11 = .int .i64 k ∧ Mine w.heap.size wr v10 (btl gs lo hi k) ∧ Below w.heap.size w wr

set_option maxHeartbeats 4000000 in
theorem rBetween (gs : List Int) (A : Option Addr) (n cap : Nat) (lo hi : Int) (w : World) (hn : gs.length = n) (hm : n ≤ 1000) (hA : Ints w A gs) :
    Calls Try.prog 27 #[.slice A n cap, .int .i64 lo, .int .i64 hi] w (OutInts (bV gs lo hi) (bE gs lo hi) w) := by
  by_cases h1 : lE gs lo 0 0 = 0
  · by_cases h2 : lE gs hi 0 0 = 0
    · by_cases h3 : hi < lo
      · rw [(b_rev h1 h2 h3).1, (b_rev h1 h2 h3).2]
        have H1 := Lib.hid h1
        have H2 := Lib.hid h2
        clear h1 h2
        go_enter Try.func27, Try.ntmps27
        go_wp2_with fail
        refine (rasked gs A n cap lo 0 0 _ hn hm (hA.step (by repeat (first | exact Below.refl _ _ | apply keep_alloc | apply keep_drew | apply keep_drewN | refine keep_step (by assumption) ?_ (by rfl) | refine keep_set ?_ _ _ (by first | exact Nat.le_refl _ | (show _ ≤ _; simp; done) | (show _ ≤ _; simp; omega)))))).mono ?_
        rintro _ w1 ⟨rfl, hb1⟩
        rw [H1.out]
        go_wp2_with fail
        refine (rasked gs A n cap hi 0 0 _ hn hm (hA.step (by repeat (first | exact Below.refl _ _ | apply keep_alloc | apply keep_drew | apply keep_drewN | refine keep_step (by assumption) ?_ (by rfl) | refine keep_set ?_ _ _ (by first | exact Nat.le_refl _ | (show _ ≤ _; simp; done) | (show _ ≤ _; simp; omega)))))).mono ?_
        rintro _ w2 ⟨rfl, hb2⟩
        rw [H2.out]
        go_wp2
        go_ret2
        exact outMine (B := 0) (Mine.nil _ _) (by repeat (first | exact Below.refl _ _ | apply keep_alloc | apply keep_drew | apply keep_drewN | refine keep_step (by assumption) ?_ (by rfl) | refine keep_set ?_ _ _ (by first | exact Nat.le_refl _ | (show _ ≤ _; simp; done) | (show _ ≤ _; simp; omega))))
      · rw [(b_ok h1 h2 h3).1, (b_ok h1 h2 h3).2, hn]
        have H1 := Lib.hid h1
        have H2 := Lib.hid h2
        obtain ⟨hck, ha⟩ := lE_zero h1
        have HF := Lib.hid (fine_of hck)
        have HN := Lib.hid hn
        have hn63 : n ≤ 63 := by rw [← hn]; exact HF.out.2.1
        have h4 : lo ≤ hi := by omega
        clear h1 h2 hck ha h3
        go_enter Try.func27, Try.ntmps27
        go_wp2_with fail
        refine (rasked gs A n cap lo 0 0 _ hn hm (hA.step (by repeat (first | exact Below.refl _ _ | apply keep_alloc | apply keep_drew | apply keep_drewN | refine keep_step (by assumption) ?_ (by rfl) | refine keep_set ?_ _ _ (by first | exact Nat.le_refl _ | (show _ ≤ _; simp; done) | (show _ ≤ _; simp; omega)))))).mono ?_
        rintro _ w1 ⟨rfl, hb1⟩
        rw [H1.out]
        go_wp2_with fail
        refine (rasked gs A n cap hi 0 0 _ hn hm (hA.step (by repeat (first | exact Below.refl _ _ | apply keep_alloc | apply keep_drew | apply keep_drewN | refine keep_step (by assumption) ?_ (by rfl) | refine keep_set ?_ _ _ (by first | exact Nat.le_refl _ | (show _ ≤ _; simp; done) | (show _ ≤ _; simp; omega)))))).mono ?_
        rintro _ w2 ⟨rfl, hb2⟩
        rw [H2.out]
        go_wp2_with fail
        refine (rpositions gs A n cap _ hn HF.out (hA.step (by repeat (first | exact Below.refl _ _ | apply keep_alloc | apply keep_drew | apply keep_drewN | refine keep_step (by assumption) ?_ (by rfl) | refine keep_set ?_ _ _ (by first | exact Nat.le_refl _ | (show _ ≤ _; simp; done) | (show _ ≤ _; simp; omega)))))).mono ?_
        rintro _ w3 ⟨B, c, rfl, hi3, hb3⟩
        obtain ⟨b, o, rfl, hc⟩ := hi3.cell (k := 0) (by rw [posl_len]; omega)
        have HC := Lib.hid hc
        clear hc hi3 hA hn
        go_wp2
        go_loopw [10, 11] (BtRel gs lo hi n w3) (fun _ v _ => n + 1 - (intOf v).toNat)
        case atStart => exact ⟨0, by omega, rfl, Mine.nil _ _, Below.refl _ _⟩
        case round =>
          obtain ⟨k, hk, rfl, hown, hbl⟩ := hrel
          by_cases hlt : k < n + 1
          · have hlen := posl_len gs (n + 1)
            have c1 := (hbl.cell (p := ⟨b, o + k, none⟩) (World.block_lt_of_cell? w3 _ (HC.out k (by rw [hlen]; omega)))).trans (HC.out k (by rw [hlen]; omega))
            rw [posl_nth _ _ _ (by omega)] at c1
            have hb8 : b < wr.heap.size := World.block_lt_of_cell? wr _ c1
            have hl8 := btl_len gs lo hi k
            have hlen2 : (btl gs lo hi k).length ≤ 17592186044414 := by omega
            clear hlen hl8
            by_cases hcmp : lo ≤ pos gs k ∧ pos gs k ≤ hi
            · have e1 := Lib.hid (btl_in hcmp.1 hcmp.2)
              obtain ⟨g1, g2⟩ := hcmp
              go_wp2_with (first | (at_builtin; refine push_int rfl _ _ (by rfl) w3 _ _ _ (by rfl) (by rfl) (by first | rfl | simp) (hown.step (by repeat (first | exact Below.refl _ _ | apply keep_alloc | apply keep_drew | apply keep_drewN | refine keep_step (by assumption) ?_ (by rfl) | refine keep_set ?_ _ _ (by first | exact Nat.le_refl _ | (show _ ≤ _; simp; done) | (show _ ≤ _; simp; omega))))) (by repeat (first | exact Below.refl _ _ | apply keep_alloc | apply keep_drew | apply keep_drewN | refine keep_step (by assumption) ?_ (by rfl) | refine keep_set ?_ _ _ (by first | exact Nat.le_refl _ | (show _ ≤ _; simp; done) | (show _ ≤ _; simp; omega)))) (by first | omega | (simp only [List.length_take]; omega)) ?_; intro v4 w4 hown0 hbl4; have hown4 := Lib.hid hown0; clear hown0))
              exact ⟨⟨k + 1, by omega, by go_num, by rw [e1.out]; exact hown4.out, hbl4⟩, by simp [intOf]; omega⟩
            · have e1 := Lib.hid (btl_out (gs := gs) (lo := lo) (hi := hi) (k := k) (by omega))
              rcases (show pos gs k < lo ∨ (lo ≤ pos gs k ∧ hi < pos gs k) by omega) with g1 | ⟨g1, g2⟩
              all_goals
                clear hcmp
                go_wp2
                exact ⟨⟨k + 1, by omega, by go_num, by rw [e1.out]; exact hown, hbl⟩, by simp [intOf]; omega⟩
          · have hkn : k = n + 1 := by omega
            subst hkn
            go_wp2
            go_ret2
            exact outMine hown (by repeat (first | exact Below.refl _ _ | apply keep_alloc | apply keep_drew | apply keep_drewN | refine keep_step (by assumption) ?_ (by rfl) | refine keep_set ?_ _ _ (by first | exact Nat.le_refl _ | (show _ ≤ _; simp; done) | (show _ ≤ _; simp; omega))))
    · have hb0 : (lE gs hi 0 0 != 0) = true := by simp [h2]
      have hb9 : (lE gs hi 0 0 == 0) = false := by simp [h2]
      rw [(b_hi h1 h2).1, (b_hi h1 h2).2]
      have H1 := Lib.hid h1
      clear h1 h2
      go_enter Try.func27, Try.ntmps27
      go_wp2_with fail
      refine (rasked gs A n cap lo 0 0 _ hn hm (hA.step (by repeat (first | exact Below.refl _ _ | apply keep_alloc | apply keep_drew | apply keep_drewN | refine keep_step (by assumption) ?_ (by rfl) | refine keep_set ?_ _ _ (by first | exact Nat.le_refl _ | (show _ ≤ _; simp; done) | (show _ ≤ _; simp; omega)))))).mono ?_
      rintro _ w1 ⟨rfl, hb1⟩
      rw [H1.out]
      go_wp2_with fail
      refine (rasked gs A n cap hi 0 0 _ hn hm (hA.step (by repeat (first | exact Below.refl _ _ | apply keep_alloc | apply keep_drew | apply keep_drewN | refine keep_step (by assumption) ?_ (by rfl) | refine keep_set ?_ _ _ (by first | exact Nat.le_refl _ | (show _ ≤ _; simp; done) | (show _ ≤ _; simp; omega)))))).mono ?_
      rintro _ w2 ⟨rfl, hb2⟩
      go_wp2
      go_ret2
      exact outMine (B := 0) (Mine.nil _ _) (by repeat (first | exact Below.refl _ _ | apply keep_alloc | apply keep_drew | apply keep_drewN | refine keep_step (by assumption) ?_ (by rfl) | refine keep_set ?_ _ _ (by first | exact Nat.le_refl _ | (show _ ≤ _; simp; done) | (show _ ≤ _; simp; omega))))
  · have hb0 : (lE gs lo 0 0 != 0) = true := by simp [h1]
    have hb9 : (lE gs lo 0 0 == 0) = false := by simp [h1]
    rw [(b_lo h1).1, (b_lo h1).2]
    clear h1
    go_enter Try.func27, Try.ntmps27
    go_wp2_with fail
    refine (rasked gs A n cap lo 0 0 _ hn hm (hA.step (by repeat (first | exact Below.refl _ _ | apply keep_alloc | apply keep_drew | apply keep_drewN | refine keep_step (by assumption) ?_ (by rfl) | refine keep_set ?_ _ _ (by first | exact Nat.le_refl _ | (show _ ≤ _; simp; done) | (show _ ≤ _; simp; omega)))))).mono ?_
    rintro _ w1 ⟨rfl, hb1⟩
    go_wp2
    go_ret2
    exact outMine (B := 0) (Mine.nil _ _) (by repeat (first | exact Below.refl _ _ | apply keep_alloc | apply keep_drew | apply keep_drewN | refine keep_step (by assumption) ?_ (by rfl) | refine keep_set ?_ _ _ (by first | exact Nat.le_refl _ | (show _ ≤ _; simp; done) | (show _ ≤ _; simp; omega))))
end Go.Proofs.Ythjnldigfabihaa
