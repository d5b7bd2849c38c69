/- Layer 7: ShaftParts. -/
import Derived.Test.YthjnldigfabihaaSS
namespace Go.Proofs.Ythjnldigfabihaa
open Go.RowKit
set_option linter.unusedVariables false

theorem wpList_unguard {P : Program} {ops : Array Oper} {Q : Exit → Act → World → Prop} {a : Act} {w : World} {rest : List Oper} {o : Oper} (hw : Region.wanted o (yielded ops a.tmps) = true) (h : wpList P ops Q ({ o with guard := none } :: rest) a w) : wpList P ops Q (o :: rest) a w := by
  unfold wpList at h ⊢
  rw [if_pos hw]
  rw [if_pos (by rfl)] at h
  exact h

theorem btl_cut {gs : List Int} (h : Fine gs) {cut top : Int} (h1 : 0 ≤ cut) (h2 : cut ≤ top) : ∀ k, k ≤ gs.length + 1 → btl gs 0 cut k ++ btl gs (cut + 1) top k = btl gs 0 top k
  | 0, _ => rfl
  | k + 1, hk => by
    have ih := btl_cut h h1 h2 k (by omega)
    have hp := pos_low h k (by omega)
    by_cases hc : pos gs k ≤ cut
    · have hs : btl gs (cut + 1) top k = [] := btl_skip k fun i hi => by
        have := pos_mono h i k hi (by omega); omega
      rw [hs, List.append_nil] at ih
      rw [btl_in (by omega) hc, btl_out (.inl (by omega)), hs, List.append_nil, btl_in (by omega) (by omega), ih]
    · rw [btl_out (.inr (by omega))]
      by_cases ht : pos gs k ≤ top
      · rw [btl_in (by omega) ht, btl_in (by omega) ht, ← List.append_assoc, ih]
      · rw [btl_out (.inr (by omega)), btl_out (.inr (by omega)), ih]
theorem btl_full {gs : List Int} (h : Fine gs) : ∀ k, k ≤ gs.length + 1 → (btl gs 0 (pos gs gs.length) k).length = k ∧ ∀ i, i < k → nth (btl gs 0 (pos gs gs.length) k) i = i
  | 0, _ => ⟨rfl, fun i hi => absurd hi (by omega)⟩
  | k + 1, hk => by
    obtain ⟨h1, h2⟩ := btl_full h k (by omega)
    have hp := pos_low h k (by omega)
    have hle : pos gs k ≤ pos gs gs.length := by
      by_cases e : k = gs.length
      · rw [e]; exact Int.le_refl _
      · have := pos_mono h k gs.length (by omega) (Nat.le_refl _); omega
    rw [btl_in (by omega) hle]
    refine ⟨by simp [h1], fun i hi => ?_⟩
    by_cases e : i < k
    · rw [nth_append_left (by rw [h1]; exact e)]; exact h2 i e
    · have : i = k := by omega
      subst this
      rw [nth_eq (by simp [h1])]
      simp [h1]
theorem ck_of {gs : List Int} (h : Fine gs) : ckE gs = 0 := (ck_fine h).1
theorem b_whole {gs : List Int} (h : Fine gs) {lo hi : Int} (h1 : 0 ≤ lo) (h2 : lo ≤ hi) (h3 : hi ≤ pos gs gs.length) : bE gs lo hi = 0 ∧ bV gs lo hi = btl gs lo hi (gs.length + 1) := by
  have e : bE gs lo hi = 0 := by
    rw [bE_is (ck_of h), if_pos]
    exact ⟨inS_d.2 ⟨h1, by omega⟩, inS_d.2 ⟨by omega, h3⟩, by omega⟩
  exact ⟨e, by unfold bV; rw [if_pos e]⟩

set_option maxRecDepth 20000 in
set_option maxHeartbeats 8000000 in
theorem shaftParts_true (A : Option Addr) (len cap : Nat) (xs : List Int) (t : Int) (w : World) (hl : xs.length = len) (hm : len ≤ maxLen) (hA : Ints w A xs) (hb : ∀ x ∈ xs, In64 x) (ht64 : In64 t) :
    Calls Try.prog 8 #[.slice A len cap, .int .i64 t] w fun e w' => e = .returned (.bool true) ∧ Below w.heap.size w w' := by
  have HM := Lib.hid hm
  have HB := Lib.hid hb
  clear hm hb
  go_enter Try.func8, Try.ntmps8
  go_wp2_with fail
  refine (shaftKnown_true _).mono ?_
  rintro _ w1 ⟨rfl, hb1⟩
  go_wp2_with fail
  refine (made_any A len cap xs _ hl HM.out (hA.step (by repeat (first | exact Below.refl _ _ | apply keep_alloc | apply keep_drew | apply keep_drewN | refine keep_step (by assumption) ?_ (by rfl) | refine keep_set ?_ _ _ (by first | exact Nat.le_refl _ | (show _ ≤ _; simp; done) | (show _ ≤ _; simp; omega))))) HB.out).mono ?_
  rintro _ w2 ⟨gs, B, n, c, hF, hn, hn41, rfl, hi2, hb2⟩
  have HL := Lib.hid hl
  clear hl
  have HF := Lib.hid hF
  have HTV := Lib.hid (htV_ok (ck_of hF))
  have HCK := Lib.hid (ck_of hF)
  have hn1000 : n ≤ 1000 := by omega
  have h1n : 1 ≤ n := by rw [← hn]; exact hF.1
  obtain ⟨p1, p2⟩ := pos_low hF n (by omega)
  rw [hn] at HTV
  go_wp2_with fail
  refine (pHeight gs B n c _ hn hn1000 (hi2.step (by repeat (first | exact Below.refl _ _ | apply keep_alloc | apply keep_drew | apply keep_drewN | refine keep_step (by assumption) ?_ (by rfl) | refine keep_set ?_ _ _ (by first | exact Nat.le_refl _ | (show _ ≤ _; simp; done) | (show _ ≤ _; simp; omega)))))).mono ?_
  rintro _ w3 ⟨rfl, hb3⟩
  rw [HTV.out, HCK.out]
  obtain ⟨h, hh⟩ : ∃ h, h = pos gs n := ⟨_, rfl⟩
  rw [← hh] at p1 p2 ⊢
  have hpos : 1 ≤ h := by omega
  have HH := Lib.hid hh
  clear hh
  go_wp2_with fail
  refine (mod_any t h _ ht64 (by omega)).mono ?_
  rintro _ w4 ⟨rfl, hb4⟩
  rw [if_neg (by omega)]
  have hc1 := Int.emod_nonneg t (b := h) (by omega)
  have hc2 := Int.emod_lt_of_pos t (b := h) (by omega)
  obtain ⟨d, hd⟩ : ∃ d, d = t % h := ⟨_, rfl⟩
  rw [← hd] at hc1 hc2 ⊢
  have hph : h = pos gs gs.length := by rw [hn]; exact HH.out
  obtain ⟨e1, v1⟩ := b_whole HF.out (lo := 0) (hi := d) (by omega) (by omega) (by omega)
  obtain ⟨e2, v2⟩ := b_whole HF.out (lo := d + 1) (hi := h) (by omega) (by omega) (by omega)
  obtain ⟨e3, v3⟩ := b_whole HF.out (lo := 0) (hi := h) (by omega) (by omega) (by omega)
  have hcut := btl_cut HF.out (cut := d) (top := h) hc1 (by omega) (gs.length + 1) (Nat.le_refl _)
  have hfull := (btl_full HF.out (gs.length + 1) (Nat.le_refl _)).1
  rw [← hph] at hfull
  rw [hn] at hcut hfull v1 v2 v3
  have hla := btl_len gs 0 d (n + 1)
  have hlb := btl_len gs (d + 1) h (n + 1)
  obtain ⟨xa, hxa⟩ : ∃ xa, xa = btl gs 0 d (n + 1) := ⟨_, rfl⟩
  obtain ⟨xb, hxb⟩ : ∃ xb, xb = btl gs (d + 1) h (n + 1) := ⟨_, rfl⟩
  obtain ⟨xc, hxc⟩ : ∃ xc, xc = btl gs 0 h (n + 1) := ⟨_, rfl⟩
  rw [← hxa] at v1 hcut hla
  rw [← hxb] at v2 hcut hlb
  rw [← hxc] at v3 hcut hfull
  have E1 := Lib.hid e1
  have E2 := Lib.hid e2
  have E3 := Lib.hid e3
  have V1 := Lib.hid v1
  have V2 := Lib.hid v2
  have V3 := Lib.hid v3
  have CUT := Lib.hid hcut
  have FULL := Lib.hid hfull
  clear hd hph e1 e2 e3 v1 v2 v3 hcut hfull hxa hxb hxc hF
  have HN := Lib.hid hn
  clear hn
  go_wp2_with fail
  refine (pBetween gs B n c 0 d _ HN.out hn1000 (hi2.step (by repeat (first | exact Below.refl _ _ | apply keep_alloc | apply keep_drew | apply keep_drewN | refine keep_step (by assumption) ?_ (by rfl) | refine keep_set ?_ _ _ (by first | exact Nat.le_refl _ | (show _ ≤ _; simp; done) | (show _ ≤ _; simp; omega)))))).mono ?_
  rintro _ w5 ⟨A5, c5, rfl, hi5, _, hb5⟩
  rw [V1.out] at hi5
  rw [V1.out, E1.out]
  go_wp2_with fail
  refine (pBetween gs B n c (d + 1) h _ HN.out hn1000 (hi2.step (by repeat (first | exact Below.refl _ _ | apply keep_alloc | apply keep_drew | apply keep_drewN | refine keep_step (by assumption) ?_ (by rfl) | refine keep_set ?_ _ _ (by first | exact Nat.le_refl _ | (show _ ≤ _; simp; done) | (show _ ≤ _; simp; omega)))))).mono ?_
  rintro _ w6 ⟨A6, c6, rfl, hi6, _, hb6⟩
  rw [V2.out] at hi6
  rw [V2.out, E2.out]
  go_wp2_with fail
  refine (pBetween gs B n c 0 h _ HN.out hn1000 (hi2.step (by repeat (first | exact Below.refl _ _ | apply keep_alloc | apply keep_drew | apply keep_drewN | refine keep_step (by assumption) ?_ (by rfl) | refine keep_set ?_ _ _ (by first | exact Nat.le_refl _ | (show _ ≤ _; simp; done) | (show _ ≤ _; simp; omega)))))).mono ?_
  rintro _ w7 ⟨A7, c7, rfl, hi7, _, hb7⟩
  rw [V3.out] at hi7
  rw [V3.out, E3.out]
  go_wp2_with fail
  refine (ownInts_mine A5 xa.length c5 xa _ rfl (by omega) (hi5.step (by repeat (first | exact Below.refl _ _ | apply keep_alloc | apply keep_drew | apply keep_drewN | refine keep_step (by assumption) ?_ (by rfl) | refine keep_set ?_ _ _ (by first | exact Nat.le_refl _ | (show _ ≤ _; simp; done) | (show _ ≤ _; simp; omega)))))).mono ?_
  rintro _ w8 ⟨v8, rfl, hm8, hb8⟩
  have hi6' : Ints w8 A6 xb := hi6.step (by repeat (first | exact Below.refl _ _ | apply keep_alloc | apply keep_drew | apply keep_drewN | refine keep_step (by assumption) ?_ (by rfl) | refine keep_set ?_ _ _ (by first | exact Nat.le_refl _ | (show _ ≤ _; simp; done) | (show _ ≤ _; simp; omega))))
  have hlen : xa.length + xb.length ≤ 17592186044415 := by omega
  go_wp2_with (first | (at_builtin; refine wpList_unguard (by rfl) ?_; refine join_int rfl _ _ rfl w7 _ xa xb A6 xb.length c6 rfl rfl rfl hi6' hm8 hb8 hlen ?_; intro v9 w9 hown9 hb9))
  have hown9' : Mine w7.heap.size w9 v9 xc := by rw [← CUT.out]; exact hown9
  obtain ⟨A9, c9, rfl, hi9, hl9⟩ := hown9'.slice
  clear hown9
  go_wp2_with fail
  apply Calls.mono
  focus
    refine sameInts_same _ _ xc _ _ _ _ rfl hl9 ?_ ?_
    · exact hi9.step (by repeat (first | exact Below.refl _ _ | apply keep_alloc | apply keep_drew | apply keep_drewN | refine keep_step (by assumption) ?_ (by rfl) | refine keep_set ?_ _ _ (by first | exact Nat.le_refl _ | (show _ ≤ _; simp; done) | (show _ ≤ _; simp; omega))))
    · exact hi7.step (by repeat (first | exact Below.refl _ _ | apply keep_alloc | apply keep_drew | apply keep_drewN | refine keep_step (by assumption) ?_ (by rfl) | refine keep_set ?_ _ _ (by first | exact Nat.le_refl _ | (show _ ≤ _; simp; done) | (show _ ≤ _; simp; omega))))
  rintro _ w10 ⟨rfl, hb10⟩
  have hL := FULL.out
  have hg := HN.out
  have hbool : ((xc.length : Int) == (n : Int) + 1) = true := by simp [hL]
  clear hL hg
  go_wp2
  go_ret
  exact ⟨rfl, (by repeat (first | exact Below.refl _ _ | apply keep_alloc | apply keep_drew | apply keep_drewN | refine keep_step (by assumption) ?_ (by rfl) | refine keep_set ?_ _ _ (by first | exact Nat.le_refl _ | (show _ ≤ _; simp; done) | (show _ ≤ _; simp; omega))))⟩
end Go.Proofs.Ythjnldigfabihaa
