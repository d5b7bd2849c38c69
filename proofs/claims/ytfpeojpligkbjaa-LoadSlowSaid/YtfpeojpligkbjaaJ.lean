/- Layer 11: tipstaffref11.Changes, Total. -/
import Derived.Test.YtfpeojpligkbjaaG
namespace Go.Proofs.Ytfpeojpligkbjaa
open Go.RowKit
set_option linter.unusedVariables false

def ChgRel2 (l : List Int) (w1 : World) (v8 v9 : Value) (wr : World) : Prop :=
  ∃ k : Nat, (k = 0 ∨ k + 1 ≤ l.length) ∧ v9 = .int .i64 ((k : Int) + 1) ∧ Mine w1.heap.size wr v8 (chg l (k + 1)) ∧ Below w1.heap.size w1 wr

set_option maxHeartbeats 4000000 in
theorem rchanges (e f s : Int) (A : Option Addr) (n cap : Nat) (hs : List Int) (w : World) (he : In64 e) (hf : In64 f) (hs' : In64 s) (hn : hs.length = n) (hm : n ≤ maxLen) (hA : Ints w A hs) :
    Calls Try.prog 22 #[(.agg #[.int .i64 e, .int .i64 f, .int .i64 s]), .slice A n cap] w (OutInts (chgOut e f s hs) (runErr e f s hs) w) := by
  have hm' := hm
  unfold maxLen at hm
  have HN := Lib.hid hn
  clear hn
  by_cases h0 : runErr e f s hs = 0
  · have hb0 : (runErr e f s hs != 0) = false := by simp [h0]
    have H0 := Lib.hid h0
    clear h0
    go_enter Try.func22, Try.ntmps22
    go_wp2_with fail
    refine (rrun e f s A n cap hs _ he hf hs' HN.out hm' (hA.step (by repeat (first | exact Below.refl _ _ | apply keep_alloc | apply keep_drew | apply keep_drewN | refine keep_step (by assumption) ?_ (by rfl))))).mono ?_
    rintro _ w1 ⟨A1, c1, rfl, hi1, hl1, hb1⟩
    have hl1 := runOut_len e f s hs
    go_wp2
    go_loopw [8, 9] (ChgRel2 (runOut e f s hs) w1) (fun _ i _ => (runOut e f s hs).length + 1 - (intOf i).toNat)
    case atStart => exact ⟨0, .inl rfl, rfl, by rw [chg_miss (by omega)]; exact Mine.nil _ _, Below.refl _ _⟩
    case round =>
      obtain ⟨k, hk, rfl, hown, hbl⟩ := hrel
      have hlen := chg_len (runOut e f s hs) (k + 1)
      have HK := Lib.hid hk
      clear hk
      by_cases hlt : k + 1 < (runOut e f s hs).length
      · obtain ⟨b, o, rfl, hcs⟩ := (hi1.step hbl).cell hlt
        have hck := hcs (k + 1) hlt
        have hck1 := hcs k (by omega)
        have h1 := (show IntKind.i64.wrap ((k : Int) + 1) = (k : Int) + 1 from Go.IntWalk.i64_in _ ⟨by omega, by omega⟩)
        have h2 : IntKind.i64.wrap ((k : Int) + 1 - 1) = (k : Int) := by rw [Go.IntWalk.i64_in _ ⟨by omega, by omega⟩]; omega
        have h3 : (0 : Int) ≤ (k : Int) + 1 := by omega
        have h4 : (k : Int) + 1 < (runOut e f s hs).length := by omega
        have h5 : (0 : Int) ≤ (k : Int) := by omega
        have h6 : (k : Int) < (runOut e f s hs).length := by omega
        have h7 : ((k : Int) + 1).toNat = k + 1 := by omega
        have h8 : ((k : Int) + 1 - 1) = (k : Int) := by omega
        clear hcs
        by_cases hd : nth (runOut e f s hs) (k + 1) = nth (runOut e f s hs) k
        · have hdb : (nth (runOut e f s hs) (k + 1) != nth (runOut e f s hs) k) = false := by simp [hd]
          have HD := Lib.hid hd
          clear hd
          go_wp2
          go_quiet (fail)
          go_wp2
          exact ⟨⟨k + 1, .inr (by omega), by go_num, by rw [chg_miss (by simp; exact HD.out)]; exact hown, (by repeat (first | exact Below.refl _ _ | apply keep_alloc | apply keep_drew | apply keep_drewN | refine keep_step (by assumption) ?_ (by rfl)))⟩, by simp [intOf]; omega⟩
        · have hdb : (nth (runOut e f s hs) (k + 1) != nth (runOut e f s hs) k) = true := by simp [hd]
          have HD := Lib.hid hd
          clear hd
          go_wp2
          go_quiet (fail)
          go_wp2_with (first | (at_builtin; refine push_int rfl _ _ rfl w1 _ _ _ rfl rfl (hown.step (by repeat (first | exact Below.refl _ _ | apply keep_alloc | apply keep_drew | apply keep_drewN | refine keep_step (by assumption) ?_ (by rfl)))) (by repeat (first | exact Below.refl _ _ | apply keep_alloc | apply keep_drew | apply keep_drewN | refine keep_step (by assumption) ?_ (by rfl))) (by first | omega | (simp only [List.length_take]; omega)) ?_; intro v2 w2 hown0 hbl2; have hown2 := Lib.hid hown0; clear hown0) | go_in)
          exact ⟨⟨k + 1, .inr (by omega), by go_num, by rw [chg_hit (by omega) (by simp; exact HD.out)]; simpa using hown2.out, hbl2⟩, by simp [intOf]; omega⟩
      · have hfin : chg (runOut e f s hs) (k + 1) = chgOut e f s hs := by
          unfold chgOut
          have hk := HK.out
          by_cases h9 : (runOut e f s hs).length = k + 1
          · rw [h9]
          · have h10 : (runOut e f s hs).length = k := by omega
            rw [h10]
            rcases k with _ | k
            · rw [chg_miss (by omega)]
            · omega
        have HF := Lib.hid hfin
        clear hfin
        go_wp2
        go_ret2
        rw [H0.out, ← HF.out]
        exact outMine' hown (by repeat (first | exact Below.refl _ _ | apply keep_alloc | apply keep_drew | apply keep_drewN | refine keep_step (by assumption) ?_ (by rfl)))
  · have hb0 : (runErr e f s hs != 0) = true := by simp [h0]
    have H0 := Lib.hid h0
    clear h0
    go_enter Try.func22, Try.ntmps22
    go_wp2_with fail
    refine (rrun e f s A n cap hs _ he hf hs' HN.out hm' (hA.step (by repeat (first | exact Below.refl _ _ | apply keep_alloc | apply keep_drew | apply keep_drewN | refine keep_step (by assumption) ?_ (by rfl))))).mono ?_
    rintro _ w1 ⟨A1, c1, rfl, hi1, hl1, hb1⟩
    go_wp2
    go_ret2
    rw [chgOut_err H0.out]
    exact outMine' (B := 0) (Mine.nil _ _) (by repeat (first | exact Below.refl _ _ | apply keep_alloc | apply keep_drew | apply keep_drewN | refine keep_step (by assumption) ?_ (by rfl)))
end Go.Proofs.Ytfpeojpligkbjaa
