/- Layer 7: ShaftAscends. -/
import Derived.Test.YthjnldigfabihaaST
namespace Go.Proofs.Ythjnldigfabihaa
open Go.RowKit
set_option linter.unusedVariables false

theorem min3 (p q r : Int) : ∃ lo : Int, (∀ W, (Builtin.min_ #[3, 3, 3] 3 #[.int .i64 p, .int .i64 q, .int .i64 r]).run Try.prog W = .ok (.int .i64 lo) W) ∧ lo ≤ p ∧ lo ≤ q ∧ lo ≤ r ∧ (lo = p ∨ lo = q ∨ lo = r) := by
  refine ⟨if r < (if q < p then q else p) then r else (if q < p then q else p), fun W => by simp [Builtin.min_, Builtin.min2], ?_⟩
  omega
theorem max3 (p q r : Int) : ∃ lo : Int, (∀ W, (Builtin.max_ #[3, 3, 3] 3 #[.int .i64 p, .int .i64 q, .int .i64 r]).run Try.prog W = .ok (.int .i64 lo) W) ∧ p ≤ lo ∧ q ≤ lo ∧ r ≤ lo ∧ (lo = p ∨ lo = q ∨ lo = r) := by
  refine ⟨if r > (if q > p then q else p) then r else (if q > p then q else p), fun W => by simp [Builtin.max_, Builtin.max2], ?_⟩
  omega
theorem d_in {gs : List Int} (h : Fine gs) {a b : Int} (ha : 0 ≤ a ∧ a ≤ gs.length) (hb : 0 ≤ b ∧ b ≤ gs.length) : dE gs a b = 0 ∧ dV gs a b = ab (pos gs a.toNat) (pos gs b.toNat) := by
  have e : dE gs a b = 0 := by
    unfold dE
    rw [lE0_f (ck_of h), lE0_f (ck_of h), if_pos (inF_d.2 ha), if_pos (inF_d.2 hb)]
    rfl
  exact ⟨e, dV_ok e⟩
theorem pos_le {gs : List Int} (h : Fine gs) {i j : Nat} (hij : i ≤ j) (hj : j ≤ gs.length) : pos gs i ≤ pos gs j := by
  by_cases e : i = j
  · rw [e]; exact Int.le_refl _
  · have := pos_mono h i j (by omega) hj; omega
theorem d_sum {gs : List Int} (h : Fine gs) {lo mid hi : Int} (h1 : 0 ≤ lo) (h2 : lo ≤ mid) (h3 : mid ≤ hi) (h4 : hi ≤ gs.length) :
    ∃ x1 x2 x3 : Int, dV gs lo mid = x1 ∧ dV gs hi mid = x2 ∧ dV gs lo hi = x3 ∧ x1 + x2 = x3 ∧ 0 ≤ x1 ∧ 0 ≤ x2 ∧ x3 ≤ 1000000 ∧ dE gs lo mid = 0 ∧ dE gs hi mid = 0 ∧ dE gs lo hi = 0 := by
  obtain ⟨e1, v1⟩ := d_in h (a := lo) (b := mid) ⟨by omega, by omega⟩ ⟨by omega, by omega⟩
  obtain ⟨e2, v2⟩ := d_in h (a := hi) (b := mid) ⟨by omega, by omega⟩ ⟨by omega, by omega⟩
  obtain ⟨e3, v3⟩ := d_in h (a := lo) (b := hi) ⟨by omega, by omega⟩ ⟨by omega, by omega⟩
  have p1 := pos_le h (i := lo.toNat) (j := mid.toNat) (by omega) (by omega)
  have p2 := pos_le h (i := mid.toNat) (j := hi.toNat) (by omega) (by omega)
  obtain ⟨q1, q2⟩ := near_pos h (k := lo.toNat) (by omega)
  obtain ⟨q3, q4⟩ := near_pos h (k := hi.toNat) (by omega)
  have q5 := pos_low h lo.toNat (by omega)
  refine ⟨_, _, _, v1, v2, v3, ?_, ?_, ?_, ?_, e1, e2, e3⟩
  all_goals (unfold ab; (repeat split) <;> omega)

def AsRel (n : Nat) (w : World) (v : Value) (wr : World) : Prop := ∃ j : Nat, j ≤ n ∧ v = .int .i64 ((j : Int) + 1) ∧ Below w.heap.size w wr

set_option maxRecDepth 20000 in
set_option maxHeartbeats 8000000 in
theorem shaftAscends_true (A : Option Addr) (len cap : Nat) (xs : List Int) (x y z : Int) (w : World) (hl : xs.length = len) (hm : len ≤ maxLen) (hA : Ints w A xs) (hb : ∀ x ∈ xs, In64 x) (hx64 : In64 x) (hy64 : In64 y) (hz64 : In64 z) :
    Calls Try.prog 6 #[.slice A len cap, .int .i64 x, .int .i64 y, .int .i64 z] w fun e w' => e = .returned (.bool true) ∧ Below w.heap.size w w' := by
  have HM := Lib.hid hm
  have HB := Lib.hid hb
  clear hm hb
  go_enter Try.func6, Try.ntmps6
  go_wp2_with fail
  refine (shaftKnown_true _).mono ?_
  rintro _ w1 ⟨rfl, hb1⟩
  go_wp2_with fail
  refine (made_any A len cap xs _ hl HM.out (hA.step (by repeat (first | exact Below.refl _ _ | apply keep_alloc | apply keep_drew | apply keep_drewN | refine keep_step (by assumption) ?_ (by rfl) | refine keep_set ?_ _ _ (by first | exact Nat.le_refl _ | (show _ ≤ _; simp; done) | (show _ ≤ _; simp; omega))))) HB.out).mono ?_
  rintro _ w2 ⟨gs, B, n, c, hF, hn, hn41, rfl, hi2, hb2⟩
  have HF := Lib.hid hF
  have HTV := Lib.hid (htV_ok (ck_of hF))
  have HCK := Lib.hid (ck_of hF)
  have HN := Lib.hid hn
  have hn1000 : n ≤ 1000 := by omega
  have h1n : 1 ≤ n := by rw [← hn]; exact hF.1
  obtain ⟨p1, p2⟩ := pos_low hF n (by omega)
  rw [hn] at HTV
  obtain ⟨N, hN⟩ : ∃ N, N = n + 1 := ⟨_, rfl⟩
  obtain ⟨e3, v3⟩ := b_whole hF (lo := 0) (hi := pos gs gs.length) (by omega) (by rw [hn]; omega) (by omega)
  obtain ⟨hfl, hfn⟩ := btl_full hF (gs.length + 1) (Nat.le_refl _)
  have PO := Lib.hid (posOut_ok (ck_of hF))
  have hpl := posl_len gs N
  rw [hn, ← hN] at v3 hfl hfn PO
  rw [hn] at e3
  rw [← v3] at hfl hfn
  have FL := Lib.hid hfl
  have FN := Lib.hid hfn
  have E3 := Lib.hid e3
  have NN := Lib.hid hN
  have PL := Lib.hid hpl
  have hN1000 : N ≤ 1000 := by omega
  have hNpos : 0 < (N : Int) := by omega
  have hnb : ((N : Int) != (n : Int) + 1) = false := by simp [hN]
  have hnN : (n : Int) < (N : Int) := by omega
  clear hl hF hn hN e3 v3 hfl hfn hpl
  go_wp2_with fail
  refine (pPositions gs B n c _ HN.out hn1000 (hi2.step (by repeat (first | exact Below.refl _ _ | apply keep_alloc | apply keep_drew | apply keep_drewN | refine keep_step (by assumption) ?_ (by rfl) | refine keep_set ?_ _ _ (by first | exact Nat.le_refl _ | (show _ ≤ _; simp; done) | (show _ ≤ _; simp; omega)))))).mono ?_
  rintro _ w3 ⟨A3, c3, rfl, hi3, _, hb3⟩
  rw [PO.out] at hi3
  rw [PO.out, PL.out, HCK.out]
  go_wp2_with fail
  refine (pHeight gs B n c _ HN.out hn1000 (hi2.step (by repeat (first | exact Below.refl _ _ | apply keep_alloc | apply keep_drew | apply keep_drewN | refine keep_step (by assumption) ?_ (by rfl) | refine keep_set ?_ _ _ (by first | exact Nat.le_refl _ | (show _ ≤ _; simp; done) | (show _ ≤ _; simp; omega)))))).mono ?_
  rintro _ w4 ⟨rfl, hb4⟩
  rw [HTV.out, HCK.out]
  go_wp2_with fail
  refine (pBetween gs B n c 0 (pos gs n) _ HN.out hn1000 (hi2.step (by repeat (first | exact Below.refl _ _ | apply keep_alloc | apply keep_drew | apply keep_drewN | refine keep_step (by assumption) ?_ (by rfl) | refine keep_set ?_ _ _ (by first | exact Nat.le_refl _ | (show _ ≤ _; simp; done) | (show _ ≤ _; simp; omega)))))).mono ?_
  rintro _ w5 ⟨A5, c5, rfl, hi5, _, hb5⟩
  rw [FL.out, E3.out]
  have hi2' : Ints w5 B gs := hi2.step (by repeat (first | exact Below.refl _ _ | apply keep_alloc | apply keep_drew | apply keep_drewN | refine keep_step (by assumption) ?_ (by rfl) | refine keep_set ?_ _ _ (by first | exact Nat.le_refl _ | (show _ ≤ _; simp; done) | (show _ ≤ _; simp; omega))))
  obtain ⟨b2, o2, rfl, hc2⟩ := hi2'.cell (k := 0) (by rw [HN.out]; omega)
  have hi3' : Ints w5 A3 (posl gs N) := hi3.step (by repeat (first | exact Below.refl _ _ | apply keep_alloc | apply keep_drew | apply keep_drewN | refine keep_step (by assumption) ?_ (by rfl) | refine keep_set ?_ _ _ (by first | exact Nat.le_refl _ | (show _ ≤ _; simp; done) | (show _ ≤ _; simp; omega))))
  obtain ⟨b3, o3, rfl, hc3⟩ := hi3'.cell (k := 0) (by rw [PL.out]; omega)
  obtain ⟨b5, o5, rfl, hc5⟩ := hi5.cell (k := 0) (by rw [FL.out]; omega)
  have d0 : w5.cell? ⟨b3, o3, none⟩ = some (.int .i64 0) := by
    have := hc3 0 (by rw [PL.out]; omega)
    rw [posl_nth _ _ _ (by omega)] at this
    exact this
  have d1 : w5.cell? ⟨b3, o3 + n, none⟩ = some (.int .i64 (pos gs n)) := by
    have := hc3 n (by rw [PL.out, NN.out]; omega)
    rw [posl_nth _ _ _ (by rw [NN.out]; omega)] at this
    exact this
  have HC2 := Lib.hid hc2
  have HC3 := Lib.hid hc3
  have HC5 := Lib.hid hc5
  clear hc2 hc3 hc5 hi2 hi3
  go_wp2
  go_loopw [17] (AsRel n w5) (fun v _ => N - (intOf v).toNat)
  case atStart => exact ⟨0, by omega, rfl, Below.refl _ _⟩
  case round =>
    obtain ⟨j, hj, rfl, hbl⟩ := hrel
    by_cases hlt : j < n
    · have hjN : (j : Int) + 1 < (N : Int) := by omega
      have c1 := (hbl.cell (p := ⟨b2, o2 + j, none⟩) (World.block_lt_of_cell? w5 _ (HC2.out j (by rw [HN.out]; omega)))).trans (HC2.out j (by rw [HN.out]; omega))
      have c2 := (hbl.cell (p := ⟨b3, o3 + j, none⟩) (World.block_lt_of_cell? w5 _ (HC3.out j (by rw [PL.out]; omega)))).trans (HC3.out j (by rw [PL.out]; omega))
      have c3' := (hbl.cell (p := ⟨b3, o3 + (j + 1), none⟩) (World.block_lt_of_cell? w5 _ (HC3.out (j + 1) (by rw [PL.out]; omega)))).trans (HC3.out (j + 1) (by rw [PL.out]; omega))
      have c5' := (hbl.cell (p := ⟨b5, o5 + (j + 1), none⟩) (World.block_lt_of_cell? w5 _ (HC5.out (j + 1) (by rw [FL.out]; omega)))).trans (HC5.out (j + 1) (by rw [FL.out]; omega))
      rw [posl_nth _ _ _ (by omega)] at c2 c3'
      rw [FN.out _ (by omega)] at c5'
      have q1 := pos_low HF.out j (by rw [HN.out]; omega)
      have q2 := (good_and _).1 (HF.out.2.2 j (by rw [HN.out]; exact hlt))
      simp only [pos] at c3'
      have hbx : ((pos gs j + nth gs j - pos gs j) != nth gs j) = false := by simp; omega
      go_wp2
      go_quiet (fail)
      go_wp2
      exact ⟨⟨j + 1, by omega, by go_num, (by repeat (first | exact Below.refl _ _ | apply keep_alloc | apply keep_drew | apply keep_drewN | refine keep_step (by assumption) ?_ (by rfl) | refine keep_set ?_ _ _ (by first | exact Nat.le_refl _ | (show _ ≤ _; simp; done) | (show _ ≤ _; simp; omega))))⟩, by simp [intOf]; omega⟩
    · have hjn : j = n := by omega
      subst hjn
      have hjN : (N : Int) = (j : Int) + 1 := by rw [NN.out]; simp
      have JN := Lib.hid hjN
      have hjN2 : (N : Int) ≤ (j : Int) + 1 := by omega
      clear hjN
      go_wp2_with fail
      refine (mod_any x N _ hx64 (by omega)).mono ?_
      rintro _ w6 ⟨rfl, hb6⟩
      rw [if_neg (by omega)]
      go_wp2_with fail
      refine (mod_any y N _ hy64 (by omega)).mono ?_
      rintro _ w7 ⟨rfl, hb7⟩
      rw [if_neg (by omega)]
      go_wp2_with fail
      refine (mod_any z N _ hz64 (by omega)).mono ?_
      rintro _ w8 ⟨rfl, hb8⟩
      rw [if_neg (by omega)]
      have x1 := Int.emod_nonneg x (b := (N : Int)) (by omega)
      have x2 := Int.emod_lt_of_pos x hNpos
      have y1 := Int.emod_nonneg y (b := (N : Int)) (by omega)
      have y2 := Int.emod_lt_of_pos y hNpos
      have z1 := Int.emod_nonneg z (b := (N : Int)) (by omega)
      have z2 := Int.emod_lt_of_pos z hNpos
      obtain ⟨p, hp⟩ : ∃ p : Int, p = x % (N : Int) := ⟨_, rfl⟩
      obtain ⟨q, hq⟩ : ∃ q : Int, q = y % (N : Int) := ⟨_, rfl⟩
      obtain ⟨r, hr⟩ : ∃ r : Int, r = z % (N : Int) := ⟨_, rfl⟩
      rw [← hp] at x1 x2 ⊢
      rw [← hq] at y1 y2 ⊢
      rw [← hr] at z1 z2 ⊢
      clear hp hq hr
      obtain ⟨lo, hmin, l1, l2, l3, l4⟩ := min3 p q r
      obtain ⟨hi, hmax, m1, m2, m3, m4⟩ := max3 p q r
      have hlo0 : 0 ≤ lo ∧ lo ≤ hi ∧ hi < N := by omega
      have hmid : lo ≤ p + q + r - lo - hi ∧ p + q + r - lo - hi ≤ hi := by omega
      have hlj : hi ≤ gs.length := by rw [HN.out]; have := JN.out; omega
      obtain ⟨x1', x2', x3', v1, v2, v3, hsum, k1, k2, k3, e1, e2, e3⟩ := d_sum HF.out hlo0.1 hmid.1 hmid.2 hlj
      have V1 := Lib.hid v1
      have V2 := Lib.hid v2
      have V3 := Lib.hid v3
      have E1 := Lib.hid e1
      have E2 := Lib.hid e2
      have E4 := Lib.hid e3
      have SUM := Lib.hid hsum
      have hbs : (x1' + x2' == x3') = true := by simp [hsum]
      clear v1 v2 v3 e1 e2 e3 hsum hlj l4 m4
      go_wp2_with fail
      refine (pDistance gs _ j c lo _ _ HN.out hn1000 (hi2'.step (by repeat (first | exact Below.refl _ _ | apply keep_alloc | apply keep_drew | apply keep_drewN | refine keep_step (by assumption) ?_ (by rfl) | refine keep_set ?_ _ _ (by first | exact Nat.le_refl _ | (show _ ≤ _; simp; done) | (show _ ≤ _; simp; omega)))))).mono ?_
      rintro _ w9 ⟨rfl, hb9⟩
      rw [V1.out, E1.out]
      go_wp2_with fail
      refine (pDistance gs _ j c hi _ _ HN.out hn1000 (hi2'.step (by repeat (first | exact Below.refl _ _ | apply keep_alloc | apply keep_drew | apply keep_drewN | refine keep_step (by assumption) ?_ (by rfl) | refine keep_set ?_ _ _ (by first | exact Nat.le_refl _ | (show _ ≤ _; simp; done) | (show _ ≤ _; simp; omega)))))).mono ?_
      rintro _ w10 ⟨rfl, hb10⟩
      rw [V2.out, E2.out]
      go_wp2_with fail
      refine (pDistance gs _ j c lo hi _ HN.out hn1000 (hi2'.step (by repeat (first | exact Below.refl _ _ | apply keep_alloc | apply keep_drew | apply keep_drewN | refine keep_step (by assumption) ?_ (by rfl) | refine keep_set ?_ _ _ (by first | exact Nat.le_refl _ | (show _ ≤ _; simp; done) | (show _ ≤ _; simp; omega)))))).mono ?_
      rintro _ w11 ⟨rfl, hb11⟩
      rw [V3.out, E4.out]
      have hb12 : x1' + x2' ≤ 1000000 := by rw [SUM.out]; exact k3
      go_wp2
      go_ret
      exact ⟨by simp [SUM.out], (by repeat (first | exact Below.refl _ _ | apply keep_alloc | apply keep_drew | apply keep_drewN | refine keep_step (by assumption) ?_ (by rfl) | refine keep_set ?_ _ _ (by first | exact Nat.le_refl _ | (show _ ≤ _; simp; done) | (show _ ≤ _; simp; omega))))⟩
end Go.Proofs.Ythjnldigfabihaa
