/- Layer 1: FixList. -/
import Derived.Test.YteohnhjhdlcpiaaFN
namespace Go.Proofs.Yteohnhjhdlcpiaa
open Go.RowKit
set_option linter.unusedVariables false

def RvRel (ys : List Int) (m : Nat) (w : World) (v10 v11 : Value) (wr : World) : Prop :=
  ∃ k : Nat, k ≤ m ∧ v11 = .int .i64 ((m : Int) - 1 - k) ∧ Mine w.heap.size wr v10 (rev ys k) ∧ Below w.heap.size w wr
def LpRel (p : Nat) (w : World) (v : Value) (wr : World) : Prop := ∃ j : Nat, j + 1 ≤ p ∧ v = .int .i64 ((j : Int) + 1) ∧ Below w.heap.size w wr
theorem ok_all2 {v : Int} (h : -9223372036854775808 ≤ v ∧ v ≤ 9223372036854775807) : okV (-9223372036854775808) 9223372036854775807 v = v ∧ okE (-9223372036854775808) 9223372036854775807 v = 0 := by
  unfold okV okE; rw [if_pos h, if_pos h]; exact ⟨rfl, rfl⟩

set_option maxRecDepth 20000 in
set_option maxHeartbeats 16000000 in
theorem fixList_true (A : Option Addr) (len cap : Nat) (xs : List Int) (lo hi n parts : Int) (w : World) (hl : xs.length = len) (hm : len ≤ maxLen) (hA : Ints w A xs) (hb : ∀ x ∈ xs, In64 x) (hcap : len ≤ cap) (hlo : In64 lo) (hhi : In64 hi) (hn64 : In64 n) (hp64 : In64 parts) :
    Calls Try.prog 9 #[.slice A len cap, .agg #[.int .i64 lo, .int .i64 hi], .int .i64 n, .int .i64 parts] w fun e w' => e = .returned (.bool true) ∧ Below w.heap.size w w' := by
  unfold maxLen at hm
  obtain ⟨w1, hw1⟩ : ∃ w1, w1 = w.alloc (.cells #[.int .i64 lo, .int .i64 hi] 23) := ⟨_, rfl⟩
  obtain ⟨g, hg⟩ : ∃ g, g = w.heap.size := ⟨_, rfl⟩
  have hb1 : Below w.heap.size w w1 := by rw [hw1]; exact (by repeat (first | exact Below.refl _ _ | apply keep_alloc | apply keep_drew | apply keep_drewN | refine keep_step (by assumption) ?_ (by rfl) | refine keep_set ?_ _ _ (by first | exact Nat.le_refl _ | (show _ ≤ _; simp; done) | (show _ ≤ _; simp; omega))))
  have z0 : w1.cell? ⟨g, 0, none⟩ = some (.int .i64 lo) := by rw [hw1, hg, World.cell?_alloc_at _ _ _ _ (by simp)]; rfl
  have z1 : w1.cell? ⟨g, 1, none⟩ = some (.int .i64 hi) := by rw [hw1, hg, World.cell?_alloc_at _ _ _ _ (by simp)]; rfl
  have hgl : g < w1.heap.size := World.block_lt_of_cell? w1 _ z0
  obtain ⟨m, hmd⟩ : ∃ m, m = min len 50 := ⟨_, rfl⟩
  have hm50 : m ≤ 50 ∧ m ≤ len := by omega
  have hmin : ∀ W, (Builtin.min_ #[3, 3] 3 #[.int .i64 len, .int .i64 50]).run Try.prog W = .ok (.int .i64 m) W := fun W => by
    simp [Builtin.min_, Builtin.min2]; omega
  have HM := Lib.hid hm
  have HMD := Lib.hid hmd
  clear hmd
  go_enter Try.func9, Try.ntmps9
  go_wp2_with fail
  rw [← hw1, ← hg]
  clear hw1 hg
  refine (fixKnown_true _).mono ?_
  rintro _ w2 ⟨rfl, hb2⟩
  have hmc : m ≤ cap := by omega
  obtain ⟨ys, hys⟩ : ∃ ys, ys = xs.take m := ⟨_, rfl⟩
  have hyl : ys.length = m := by rw [hys]; simp; omega
  have hyi : ∀ x ∈ ys, In64 x := fun x hx => hb x (by rw [hys] at hx; exact List.mem_of_mem_take hx)
  have hAy : Ints w A ys := by rw [hys]; exact hA.take m
  have YL := Lib.hid hyl
  have YI := Lib.hid hyi
  have hb2w : Below w.heap.size w w2 := (by repeat (first | exact Below.refl _ _ | apply keep_alloc | apply keep_drew | apply keep_drewN | refine keep_step (by assumption) ?_ (by rfl) | refine keep_set ?_ _ _ (by first | exact Nat.le_refl _ | (show _ ≤ _; simp; done) | (show _ ≤ _; simp; omega))))
  have hA2 : Ints w2 A ys := hAy.step hb2w
  clear hys hyl hyi hb hl hA
  go_wp2
  go_loopw [10, 11] (RvRel ys m w2) (fun _ v _ => (intOf v + 1).toNat)
  case atStart => exact ⟨0, by omega, by simp, Mine.nil _ _, Below.refl _ _⟩
  case round =>
    obtain ⟨k, hk, rfl, hown, hbl⟩ := hrel
    have hlen2 : (rev ys k).length ≤ 17592186044414 := by rw [rev_len]; omega
    by_cases hlt : k < m
    · obtain ⟨b, o, rfl, hc⟩ := (hA2.step hbl).cell (k := m - 1 - k) (by rw [YL.out]; omega)
      have c1 := hc (m - 1 - k) (by rw [YL.out]; omega)
      have hi0 : (0 : Int) ≤ (m : Int) - 1 - k := by omega
      have hi1 : (m : Int) - 1 - k < (m : Int) := by omega
      have hi2 : ((m : Int) - 1 - k).toNat = m - 1 - k := by omega
      have er : rev ys (k + 1) = rev ys k ++ [nth ys (m - 1 - k)] := by rw [← YL.out]; rfl
      have ER := Lib.hid er
      clear hc er
      go_wp2_with (first | (at_builtin; refine push_int rfl _ _ (by rfl) w2 _ _ _ (by rfl) (by rfl) (by first | rfl | simp) (hown.step (by repeat (first | exact Below.refl _ _ | apply keep_alloc | apply keep_drew | apply keep_drewN | refine keep_step (by assumption) ?_ (by rfl) | refine keep_set ?_ _ _ (by first | exact Nat.le_refl _ | (show _ ≤ _; simp; done) | (show _ ≤ _; simp; omega))))) (by repeat (first | exact Below.refl _ _ | apply keep_alloc | apply keep_drew | apply keep_drewN | refine keep_step (by assumption) ?_ (by rfl) | refine keep_set ?_ _ _ (by first | exact Nat.le_refl _ | (show _ ≤ _; simp; done) | (show _ ≤ _; simp; omega)))) (by first | omega | (simp only [List.length_take]; omega)) ?_; intro v3 w3 hown0 hbl3; have hown3 := Lib.hid hown0; clear hown0))
      exact ⟨⟨k + 1, by omega, by congr 1; omega, by rw [ER.out]; exact hown3.out, hbl3⟩, by simp [intOf]; omega⟩
    · have hkm : k = m := by omega
      subst hkm
      obtain ⟨A10, c10, rfl, hi10, hl10⟩ := hown.slice
      have hbw : Below w.heap.size w wr := (by repeat (first | exact Below.refl _ _ | apply keep_alloc | apply keep_drew | apply keep_drewN | refine keep_step (by assumption) ?_ (by rfl) | refine keep_set ?_ _ _ (by first | exact Nat.le_refl _ | (show _ ≤ _; simp; done) | (show _ ≤ _; simp; omega))))
      have hAr : Ints wr A ys := hA2.step hbl
      have hb1r : Below w1.heap.size w1 wr := keep_step hbl hb2 rfl
      have q0 := (hb1r.cell (p := ⟨g, 0, none⟩) hgl).trans z0
      have q1 := (hb1r.cell (p := ⟨g, 1, none⟩) hgl).trans z1
      have hgr : g < wr.heap.size := World.block_lt_of_cell? wr _ q0
      have tr := tot_rev ys k (by rw [YL.out]; exact Nat.le_refl _)
      rw [YL.out, Nat.sub_self] at tr
      have tr2 : tot (rev ys k) k = tot ys k := by rw [tr]; simp [tot]
      have S1 := sm_all (xs := ys) (by rw [YL.out]; omega)
      have S2 := sm_all (xs := rev ys k) (by rw [rev_len]; omega)
      rw [YL.out] at S1
      rw [rev_len, tr2] at S2
      have RL := Lib.hid (rev_len ys k)
      have RI := Lib.hid (rev_in YI.out k (by rw [YL.out]; exact Nat.le_refl _))
      have E1 := Lib.hid S1
      have E2 := Lib.hid S2
      clear tr tr2 S1 S2 hown hlen2 hmin hlt hk
      rw [RL.out]
      -- Sum of both
      go_wp2_with fail
      refine (all_any _).mono ?_
      rintro _ w3 ⟨rfl, hb3⟩
      go_wp2_with fail
      refine (pSum _ _ ys A k cap _ (by unfold In64; omega) (by unfold In64; omega) YL.out (by omega) YI.out (hAr.step (by repeat (first | exact Below.refl _ _ | apply keep_alloc | apply keep_drew | apply keep_drewN | refine keep_step (by assumption) ?_ (by rfl) | refine keep_set ?_ _ _ (by first | exact Nat.le_refl _ | (show _ ≤ _; simp; done) | (show _ ≤ _; simp; omega)))))).mono ?_
      rintro _ w4 ⟨rfl, hb4⟩
      rw [E1.out.1, E1.out.2]
      go_wp2_with fail
      refine (all_any _).mono ?_
      rintro _ w5 ⟨rfl, hb5⟩
      go_wp2_with fail
      refine (pSum _ _ (rev ys k) A10 k c10 _ (by unfold In64; omega) (by unfold In64; omega) RL.out (by omega) RI.out (hi10.step (by repeat (first | exact Below.refl _ _ | apply keep_alloc | apply keep_drew | apply keep_drewN | refine keep_step (by assumption) ?_ (by rfl) | refine keep_set ?_ _ _ (by first | exact Nat.le_refl _ | (show _ ≤ _; simp; done) | (show _ ≤ _; simp; omega)))))).mono ?_
      rintro _ w6 ⟨rfl, hb6⟩
      rw [E2.out.1, E2.out.2]
      -- the parts
      go_wp2_with fail
      refine (mod_any parts 50 _ hp64 (by decide)).mono ?_
      rintro _ w7 ⟨rfl, hb7⟩
      rw [if_neg (by decide)]
      obtain ⟨p0, hp0⟩ : ∃ p0 : Nat, parts % 50 = p0 := ⟨(parts % 50).toNat, by omega⟩
      rw [hp0]
      have hp50 : p0 < 50 := by omega
      obtain ⟨p, hp⟩ : ∃ p : Nat, (p : Int) = 1 + (p0 : Int) := ⟨1 + p0, by omega⟩
      have p1 : 1 ≤ p ∧ p ≤ 50 := by omega
      obtain ⟨nn, hnn⟩ : ∃ nn : Nat, (nn : Int) = if 0 < n then n else 0 := ⟨(if 0 < n then n else 0).toNat, by split <;> omega⟩
      have hnn2 : nn ≤ 9223372036854775807 := by have := hn64.2; split at hnn <;> omega
      have hmax : ∀ W, (Builtin.max_ #[3, 3] 3 #[.int .i64 0, .int .i64 n]).run Try.prog W = .ok (.int .i64 nn) W := fun W => by
        rw [hnn]; simp [Builtin.max_, Builtin.max2]
      have HNN := Lib.hid hnn
      have HPP := Lib.hid hp
      have hpp2 : 1 + (p0 : Int) = (p : Int) := hp.symm
      clear hnn hp hp0
      have hbr7 : Below wr.heap.size wr w7 := (by repeat (first | exact Below.refl _ _ | apply keep_alloc | apply keep_drew | apply keep_drewN | refine keep_step (by assumption) ?_ (by rfl) | refine keep_set ?_ _ _ (by first | exact Nat.le_refl _ | (show _ ≤ _; simp; done) | (show _ ≤ _; simp; omega))))
      go_wp2_with fail
      refine (pSplit nn p _ hnn2 p1.1 (by omega)).mono ?_
      rintro _ w8 ⟨A8, rfl, hi8, hb8⟩
      go_wp2_with fail
      refine (all_any _).mono ?_
      rintro _ w9 ⟨rfl, hb9⟩
      have SL := Lib.hid (spl_len nn p p)
      have S3 := sm_all (xs := spl nn p p) (by rw [SL.out]; omega)
      rw [SL.out, spl_sum nn p p1.1, (ok_all2 (v := (nn : Int)) (by omega)).1, (ok_all2 (v := (nn : Int)) (by omega)).2] at S3
      have E3 := Lib.hid S3
      clear S3
      go_wp2_with fail
      refine (pSum _ _ (spl nn p p) A8 p p _ (by unfold In64; omega) (by unfold In64; omega) SL.out (by omega) (spl_in nn p hnn2 p1.1) (hi8.step (by repeat (first | exact Below.refl _ _ | apply keep_alloc | apply keep_drew | apply keep_drewN | refine keep_step (by assumption) ?_ (by rfl) | refine keep_set ?_ _ _ (by first | exact Nat.le_refl _ | (show _ ≤ _; simp; done) | (show _ ≤ _; simp; omega)))))).mono ?_
      rintro _ w10 ⟨rfl, hb10⟩
      rw [E3.out.1, E3.out.2]
      go_wp2_with fail
      refine (gives_true nn _).mono ?_
      rintro _ w11 ⟨rfl, hb11⟩
      have hb8' : Below w8.heap.size w8 w11 := (by repeat (first | exact Below.refl _ _ | apply keep_alloc | apply keep_drew | apply keep_drewN | refine keep_step (by assumption) ?_ (by rfl) | refine keep_set ?_ _ _ (by first | exact Nat.le_refl _ | (show _ ≤ _; simp; done) | (show _ ≤ _; simp; omega))))
      have hi11 : Ints w11 A8 (spl nn p p) := hi8.step hb8'
      have hbr11 : Below wr.heap.size wr w11 := (by repeat (first | exact Below.refl _ _ | apply keep_alloc | apply keep_drew | apply keep_drewN | refine keep_step (by assumption) ?_ (by rfl) | refine keep_set ?_ _ _ (by first | exact Nat.le_refl _ | (show _ ≤ _; simp; done) | (show _ ≤ _; simp; omega))))
      have hbw11 : Below w.heap.size w w11 := keep_step hbr11 hbw rfl
      have r0 := (hbr11.cell (p := ⟨g, 0, none⟩) hgr).trans q0
      have r1 := (hbr11.cell (p := ⟨g, 1, none⟩) hgr).trans q1
      have hg11 : g < w11.heap.size := World.block_lt_of_cell? w11 _ r0
      obtain ⟨b8, o8, rfl, hc8⟩ := hi11.cell (k := 0) (by rw [SL.out]; omega)
      have HC : Hid (∀ i, i < p → w11.cell? ⟨b8, o8 + i, none⟩ = some (.int .i64 (PF (nn / p) (nn % p) i))) := Lib.hid fun i hi => by
        have := hc8 i (by rw [SL.out]; exact hi)
        rwa [spl_nth _ _ _ _ hi] at this
      have hdn : nn / p ≤ nn := Nat.div_le_self _ _
      obtain ⟨d, hd⟩ : ∃ d, d = nn / p := ⟨_, rfl⟩
      obtain ⟨mm, hmm⟩ : ∃ mm, mm = nn % p := ⟨_, rfl⟩
      rw [← hd] at hdn HC
      rw [← hmm] at HC
      have hb8w : b8 < w11.heap.size := World.block_lt_of_cell? w11 _ (HC.out 0 (by omega))
      clear hc8 hi8 hi11 q0 q1 hb1r hb3 hb4 hb5 hb6 hb7 hb8 hb9 hb10 hb11 hb8' hbr7 hbr11 hbl hAr hA2 hAy hi10 hmax hd hmm hb2 hb1 z0 z1
      have d0 : w11.cell? ⟨b8, o8, none⟩ = some (.int .i64 (PF d mm 0)) := HC.out 0 (by omega)
      go_wp2
      go_loopw [21] (LpRel p w11) (fun v _ => p - (intOf v).toNat)
      case atStart => exact ⟨0, by omega, rfl, Below.refl _ _⟩
      case round =>
        obtain ⟨j, hj, rfl, hbl⟩ := hrel
        by_cases hlt : j + 1 < p
        · have e0 := (hbl.cell (p := ⟨b8, o8, none⟩) hb8w).trans d0
          have e1 := (hbl.cell (p := ⟨b8, o8 + j, none⟩) hb8w).trans (HC.out j (by omega))
          have e2 := (hbl.cell (p := ⟨b8, o8 + (j + 1), none⟩) hb8w).trans (HC.out (j + 1) hlt)
          have f1 : PF d mm (j + 1) ≤ PF d mm j := by
            by_cases h1 : j + 1 < mm
            · rw [PF_lo h1, PF_lo (by omega)]; exact Int.le_refl _
            · rw [PF_hi h1]; by_cases h2 : j < mm
              · rw [PF_lo h2]; omega
              · rw [PF_hi h2]; exact Int.le_refl _
          have f2 : PF d mm 0 - PF d mm (j + 1) ≤ 1 := by
            by_cases h1 : j + 1 < mm
            · rw [PF_lo h1, PF_lo (by omega)]; omega
            · rw [PF_hi h1]; by_cases h2 : 0 < mm
              · rw [PF_lo h2]; omega
              · rw [PF_hi h2]; omega
          have f3 : ∀ i, (0 : Int) ≤ PF d mm i ∧ PF d mm i ≤ 9223372036854775807 + 1 := fun i => by
            by_cases h1 : i < mm
            · rw [PF_lo h1]; omega
            · rw [PF_hi h1]; omega
          obtain ⟨g0, g0'⟩ := f3 0
          obtain ⟨g1, g1'⟩ := f3 j
          obtain ⟨g2, g2'⟩ := f3 (j + 1)
          have k1 : decide (PF d mm j < PF d mm (j + 1)) = false := by simp; omega
          have k2 : decide (1 < PF d mm 0 - PF d mm (j + 1)) = false := by simp; omega
          clear f3
          go_wp2
          go_quiet (fail)
          go_wp2
          exact ⟨⟨j + 1, by omega, by go_num, (by repeat (first | exact Below.refl _ _ | apply keep_alloc | apply keep_drew | apply keep_drewN | refine keep_step (by assumption) ?_ (by rfl) | refine keep_set ?_ _ _ (by first | exact Nat.le_refl _ | (show _ ≤ _; simp; done) | (show _ ≤ _; simp; omega))))⟩, by simp [intOf]; omega⟩
        · have hjp : (p : Int) ≤ (j : Int) + 1 := by omega
          have s0 := (hbl.cell (p := ⟨g, 0, none⟩) hg11).trans r0
          have s1 := (hbl.cell (p := ⟨g, 1, none⟩) hg11).trans r1
          have hgw : g < wr.heap.size := World.block_lt_of_cell? wr _ s0
          clear r0 r1
          by_cases hrev : hi < lo
          · have CW := Lib.hid (chkW_bad hrev)
            go_wp2_with fail
            refine (pClamp lo hi n _).mono ?_
            rintro _ w12 ⟨rfl, hb12⟩
            rw [CW.out]
            have v0 := (hb12.cell (p := ⟨g, 0, none⟩) hgw).trans s0
            have v1 := (hb12.cell (p := ⟨g, 1, none⟩) hgw).trans s1
            go_wp2
            go_ret
            exact ⟨rfl, (by repeat (first | exact Below.refl _ _ | apply keep_alloc | apply keep_drew | apply keep_drewN | refine keep_step (by assumption) ?_ (by rfl) | refine keep_set ?_ _ _ (by first | exact Nat.le_refl _ | (show _ ≤ _; simp; done) | (show _ ≤ _; simp; omega))))⟩
          · have CW := Lib.hid (chkW_ok hrev)
            obtain ⟨k1, k2, k3, k4⟩ := cl_in (n := n) (show lo ≤ hi by omega)
            have hle : lo ≤ hi := by omega
            obtain ⟨c, hc⟩ : ∃ c, c = clV lo hi n := ⟨_, rfl⟩
            have HCC := Lib.hid hc
            rw [← hc] at k1 k2 k3 k4
            have K3 := Lib.hid k3
            clear hc k3 hrev
            go_wp2_with fail
            refine (pClamp lo hi n _).mono ?_
            rintro _ w12 ⟨rfl, hb12⟩
            rw [CW.out, ← HCC.out]
            have v0 := (hb12.cell (p := ⟨g, 0, none⟩) hgw).trans s0
            have v1 := (hb12.cell (p := ⟨g, 1, none⟩) hgw).trans s1
            have hgw12 : g < w12.heap.size := World.block_lt_of_cell? w12 _ v0
            go_wp2_with fail
            refine (pClamp lo hi c _).mono ?_
            rintro _ w13 ⟨rfl, hb13⟩
            rw [CW.out, K3.out]
            have u0 := (hb13.cell (p := ⟨g, 0, none⟩) hgw12).trans v0
            have u1 := (hb13.cell (p := ⟨g, 1, none⟩) hgw12).trans v1
            have hgw13 : g < w13.heap.size := World.block_lt_of_cell? w13 _ u0
            clear s0 s1 v0 v1
            go_wp2_with fail
            refine (gives_true c _).mono ?_
            rintro _ w14 ⟨rfl, hb14⟩
            have t0 := (hb14.cell (p := ⟨g, 0, none⟩) hgw13).trans u0
            have t1 := (hb14.cell (p := ⟨g, 1, none⟩) hgw13).trans u1
            clear u0 u1
            have hfin : Below w.heap.size w w14 := (by repeat (first | exact Below.refl _ _ | apply keep_alloc | apply keep_drew | apply keep_drewN | refine keep_step (by assumption) ?_ (by rfl) | refine keep_set ?_ _ _ (by first | exact Nat.le_refl _ | (show _ ≤ _; simp; done) | (show _ ≤ _; simp; omega))))
            go_wp2
            all_goals go_ret
            all_goals exact ⟨by first | rfl | (simp; done) | (simp; omega), hfin⟩
end Go.Proofs.Yteohnhjhdlcpiaa
