/- Layer 11: tipstaffref11.Run. -/
import Derived.Test.YtfpeojpligkbjaaD
import Derived.Test.YtfpeojpligkbjaaLater
import Derived.BigQuiet
import Derived.IntWalk
namespace Go.Proofs.Ytfpeojpligkbjaa
open Go.RowKit
set_option linter.unusedVariables false

def RRel (e f s : Int) (hs : List Int) (n : Nat) (w1 : World) (v8 v9 : Value) (wr : World) : Prop :=
  ∃ k : Nat, k ≤ n ∧ v9 = .int .i64 k ∧ Mine w1.heap.size wr v8 ((runL e f s hs).take k) ∧ Below w1.heap.size w1 wr
def RCheck (hs : List Int) (n : Nat) (v6 v7 : Value) : Prop :=
  ∃ k : Nat, k ≤ n ∧ v7 = .int .i64 k ∧ ((v6 = .int .i64 0 ∧ (hs.take k).all isl = true) ∨ (v6 = .int .i64 2 ∧ hs.all isl = false))

set_option maxHeartbeats 4000000 in
theorem rrun_loop (e f s : Int) (A : Option Addr) (n cap : Nat) (hs : List Int) (w : World) (he : In64 e) (hf : In64 f) (hs' : In64 s) (hn : hs.length = n) (hm : n ≤ 2000) (hA : Ints w A hs) (h0 : chk e f s = 0) :
    Calls Try.prog 20 #[(.agg #[.int .i64 e, .int .i64 f, .int .i64 s]), .slice A n cap] w (OutInts (runOut e f s hs) (runErr e f s hs) w) := by
  have HN := Lib.hid hn
  clear hn
  have hnice := nice_of h0
  go_enter Try.func20, Try.ntmps20
  go_wp2_with (go_at_call 16; go_call rchk as e w' ⟨rfl, hb⟩; obtain ⟨hc, hf⟩ := bcell (show Below w.heap.size w w' from (by repeat (first | exact Below.refl _ _ | apply keep_alloc | apply keep_drew | apply keep_drewN | refine keep_step (by assumption) ?_ (by rfl)))); obtain ⟨hx0, hx1, hx2⟩ := box3 (show Below (w.alloc (.cells #[.int .i64 e, .int .i64 f, .int .i64 s] 23)).heap.size (w.alloc (.cells #[.int .i64 e, .int .i64 f, .int .i64 s] 23)) w' from (by repeat (first | exact Below.refl _ _ | apply keep_alloc | apply keep_drew | apply keep_drewN | refine keep_step (by assumption) ?_ (by rfl)))))
  obtain ⟨w1, hw1⟩ : ∃ w1 : World, w1 = w' := ⟨_, rfl⟩
  subst hw1
  go_loop [6, 7] (RCheck hs n) (fun v6 v7 => n - (intOf v7).toNat)
  case atStart => exact ⟨0, by omega, rfl, .inl ⟨rfl, rfl⟩⟩
  case round =>
    obtain ⟨k, hk, rfl, ⟨rfl, hall⟩ | ⟨rfl, hbad⟩⟩ := hrel
    · have HALL := Lib.hid hall
      clear hall
      by_cases hlt : k < n
      · have hkl : k < hs.length := by rw [HN.out]; exact hlt
        obtain ⟨b, o, rfl, hcs⟩ := (hA.step (w' := w1) (by repeat (first | exact Below.refl _ _ | apply keep_alloc | apply keep_drew | apply keep_drewN | refine keep_step (by assumption) ?_ (by rfl)))).cell hkl
        have hck := hcs k hkl
        clear hcs
        by_cases hi : isl (nth hs k) = true
        · have hi1 : 0 ≤ nth hs k ∧ nth hs k ≤ 10000 := by simpa [isl] using hi
          have HALL2 := Lib.hid (all_take hkl HALL.out hi)
          clear hi
          go_wp2
          exact ⟨⟨k + 1, by omega, by go_num, .inl ⟨rfl, HALL2.out⟩⟩, by simp [intOf]; omega⟩
        · have hi1 : nth hs k < 0 ∨ 10000 < nth hs k := by simp [isl] at hi; omega
          have HBAD := Lib.hid (all_not hkl hi)
          clear hi
          rcases hi1 with hi1 | hi1
          · have hd : decide (0 ≤ nth hs k) = false := by simp; omega
            go_wp2
            exact ⟨⟨k + 1, by omega, by go_num, .inr ⟨rfl, HBAD.out⟩⟩, by simp [intOf]; omega⟩
          · have hd : decide (nth hs k ≤ 10000) = false := by simp; omega
            go_wp2
            exact ⟨⟨k + 1, by omega, by go_num, .inr ⟨rfl, HBAD.out⟩⟩, by simp [intOf]; omega⟩
      · have HE : Hid (runErr e f s hs = 0) := by
          refine Lib.hid ?_
          unfold runErr
          rw [if_neg (by omega), if_neg (by rw [HN.out]; omega), all_full (by rw [HN.out]; omega) HALL.out]; simp
        go_wp2
        go_loopw [8, 9] (RRel e f s hs n w1) (fun _ i _ => n - (intOf i).toNat)
        case atStart => exact ⟨0, by omega, rfl, Mine.nil _ _, Below.refl _ _⟩
        case round =>
          obtain ⟨j, hj, rfl, hown, hbl⟩ := hrel
          obtain ⟨hcr, hfr⟩ := bcell (show Below w.heap.size w wr from (by repeat (first | exact Below.refl _ _ | apply keep_alloc | apply keep_drew | apply keep_drewN | refine keep_step (by assumption) ?_ (by rfl))))
          obtain ⟨hr0, hr1, hr2⟩ := box3 (show Below (w.alloc (.cells #[.int .i64 e, .int .i64 f, .int .i64 s] 23)).heap.size (w.alloc (.cells #[.int .i64 e, .int .i64 f, .int .i64 s] 23)) wr from (by repeat (first | exact Below.refl _ _ | apply keep_alloc | apply keep_drew | apply keep_drewN | refine keep_step (by assumption) ?_ (by rfl))))
          by_cases hlt2 : j < n
          · have hjl : j < hs.length := by rw [HN.out]; exact hlt2
            have hrng := afterK_rng e f s hs j (by omega)
            obtain ⟨b, o, rfl, hcs⟩ := (hA.step (w' := wr) (by repeat (first | exact Below.refl _ _ | apply keep_alloc | apply keep_drew | apply keep_drewN | refine keep_step (by assumption) ?_ (by rfl)))).cell hjl
            have hck := hcs j hjl
            clear hcs
            have STEP := Lib.hid (afterK_step e f s hs j hjl)
            by_cases hj0 : j = 0
            · subst hj0
              simp only [Nat.add_zero] at hck
              have hn0 : (0 : Int) < n := by omega
              go_wp2
              have hbr : b < wr.heap.size := World.block_lt_of_cell? wr _ hck
              have hwr : w.heap.size < wr.heap.size := World.block_lt_of_cell? wr _ hr0
              (refine wp_region_head' (C := fun x => ∃ y : Later wr, x = y.w) 6 (by kernel_rfl) (by kernel_rfl) (later_start wr) ?_; have hlat := later_cell wr; simp only [List.take_succ_cons, List.take_zero, List.drop_succ_cons, List.drop_zero]; (repeat (go_big_quiet_step ((go_at_call 38; exact later_of (rband _ _ _ _ _))))); refine wpQuiet_nil ?_; rintro _ ⟨⟨w', hb⟩, rfl⟩; clear hlat)
              (go_wp2_with (first | (at_builtin; refine push_int rfl _ _ rfl w1 _ _ _ rfl rfl (hown.step (by repeat (first | exact Below.refl _ _ | apply keep_alloc | apply keep_drew | apply keep_drewN | refine keep_step (by assumption) ?_ (by rfl)))) (by repeat (first | exact Below.refl _ _ | apply keep_alloc | apply keep_drew | apply keep_drewN | refine keep_step (by assumption) ?_ (by rfl))) (by first | omega | (simp only [List.length_take]; omega)) ?_; intro v2 w2 hown0 hbl2; have hown2 := Lib.hid hown0; clear hown0) | go_in)); refine NoPanic.normal ?_
              go_wp2
              have e1 : bnd e f s (nth hs 0) = afterK e f s hs 1 := by rw [STEP.out, if_pos trivial]
              exact ⟨⟨1, by omega, by go_num, by rw [runL_take _ _ _ _ _ hjl, ← e1]; exact hown2.out, hbl2⟩, by simp [intOf]; omega⟩
            · have hjb : ((j : Int) == 0) = false := by simp [hj0]
              have HJ := Lib.hid hj0
              clear hj0
              have hj1 : j - 1 < (runL e f s hs).length := by rw [runL_len]; omega
              have hpre : nth ((runL e f s hs).take j) (j - 1) = afterK e f s hs j := by
                have h6 : j - 1 < ((runL e f s hs).take j).length := by rw [List.length_take, runL_len]; have := HJ.out; omega
                rw [nth_eq h6, List.getElem_take, ← nth_eq hj1, afterK, if_neg HJ.out]
              have hln : ((runL e f s hs).take j).length = j := by rw [List.length_take, runL_len]; omega
              obtain ⟨A8, c8, rfl, hi8, hl8⟩ := hown.slice
              obtain ⟨b8, o8, rfl, hc8⟩ := hi8.cell (k := j - 1) (by rw [hln]; have := HJ.out; omega)
              have hck8 := hc8 (j - 1) (by rw [hln]; have := HJ.out; omega)
              rw [hpre] at hck8
              clear hc8 hpre
              have HLN := Lib.hid hln
              clear hln
              have hb8 : b8 < wr.heap.size := World.block_lt_of_cell? wr _ hck8
              have hbr : b < wr.heap.size := World.block_lt_of_cell? wr _ hck
              have hwr : w.heap.size < wr.heap.size := World.block_lt_of_cell? wr _ hr0
              have hjpos : 0 < j := by have := HJ.out; omega
              have hs1 := (show IntKind.i64.wrap ((j : Int) - 1) = (j : Int) - 1 from Go.IntWalk.i64_in _ ⟨by omega, by omega⟩)
              have hj2 : (0 : Int) ≤ (j : Int) - 1 := by omega
              have hj3 : (j : Int) - 1 < (((runL e f s hs).take j).length : Int) := by rw [HLN.out]; omega
              have hj4 : ((j : Int) - 1).toNat = j - 1 := by omega
              have hj5 : (0 : Int) ≤ (j : Int) := by omega
              have hj6 : (j : Int) < (n : Int) := by omega
              go_wp2
              (refine wp_region_head' (C := fun x => ∃ y : Later wr, x = y.w) 12 (by kernel_rfl) (by kernel_rfl) (later_start wr) ?_; have hlat := later_cell wr; simp only [List.take_succ_cons, List.take_zero, List.drop_succ_cons, List.drop_zero]; (repeat (go_big_quiet_step ((go_at_call 41; exact later_of (rheld _ _ _ _ _ _ hnice))))); refine wpQuiet_nil ?_; rintro _ ⟨⟨w', hb⟩, rfl⟩; clear hlat)
              (go_wp2_with (first | (at_builtin; refine push_int rfl _ _ rfl w1 _ _ _ rfl rfl (hown.step (by repeat (first | exact Below.refl _ _ | apply keep_alloc | apply keep_drew | apply keep_drewN | refine keep_step (by assumption) ?_ (by rfl)))) (by repeat (first | exact Below.refl _ _ | apply keep_alloc | apply keep_drew | apply keep_drewN | refine keep_step (by assumption) ?_ (by rfl))) (by first | omega | (simp only [List.length_take]; omega)) ?_; intro v2 w2 hown0 hbl2; have hown2 := Lib.hid hown0; clear hown0) | go_in)); refine NoPanic.normal ?_
              go_wp2
              have e1 : hld e f s (afterK e f s hs j) (nth hs j) = afterK e f s hs (j + 1) := by rw [STEP.out, if_neg HJ.out]
              exact ⟨⟨j + 1, by omega, by go_num, by rw [runL_take _ _ _ _ _ hjl, ← e1]; exact hown2.out, hbl2⟩, by simp [intOf]; omega⟩
          · go_wp2
            go_ret2
            have hown' : Mine w1.heap.size wr u8 (runL e f s hs) := by rwa [List.take_of_length_le (by rw [runL_len, HN.out]; omega)] at hown
            exact outMine HE.out hown' (by repeat (first | exact Below.refl _ _ | apply keep_alloc | apply keep_drew | apply keep_drewN | refine keep_step (by assumption) ?_ (by rfl)))
    · have HBAD := Lib.hid hbad
      clear hbad
      by_cases hlt : k < n
      all_goals
        go_wp2
        go_ret2
        exact outNone (by unfold runErr; rw [if_neg (by omega), if_neg (by rw [HN.out]; omega), HBAD.out]; simp) (by repeat (first | exact Below.refl _ _ | apply keep_alloc | apply keep_drew | apply keep_drewN | refine keep_step (by assumption) ?_ (by rfl)))

set_option maxHeartbeats 1000000 in
theorem rrun (e f s : Int) (A : Option Addr) (n cap : Nat) (hs : List Int) (w : World) (he : In64 e) (hf : In64 f) (hs' : In64 s) (hn : hs.length = n) (hm : n ≤ maxLen) (hA : Ints w A hs) :
    Calls Try.prog 20 #[(.agg #[.int .i64 e, .int .i64 f, .int .i64 s]), .slice A n cap] w (OutInts (runOut e f s hs) (runErr e f s hs) w) := by
  unfold maxLen at hm
  by_cases h0 : chk e f s = 0
  · by_cases hlong : n ≤ 2000
    · exact rrun_loop e f s A n cap hs w he hf hs' hn hlong hA h0
    · have HE : Hid (runErr e f s hs = 4) := by
        refine Lib.hid ?_
        unfold runErr
        rw [if_neg (by omega), if_pos (by omega)]
      clear hn
      go_enter Try.func20, Try.ntmps20
      go_wp2_with (go_at_call 16; go_call rchk as e w' ⟨rfl, hb⟩; obtain ⟨hc, hf⟩ := bcell (show Below w.heap.size w w' from (by repeat (first | exact Below.refl _ _ | apply keep_alloc | apply keep_drew | apply keep_drewN | refine keep_step (by assumption) ?_ (by rfl)))); obtain ⟨hx0, hx1, hx2⟩ := box3 (show Below (w.alloc (.cells #[.int .i64 e, .int .i64 f, .int .i64 s] 23)).heap.size (w.alloc (.cells #[.int .i64 e, .int .i64 f, .int .i64 s] 23)) w' from (by repeat (first | exact Below.refl _ _ | apply keep_alloc | apply keep_drew | apply keep_drewN | refine keep_step (by assumption) ?_ (by rfl)))))
      go_loop [6, 7] (fun v6 v7 => v6 = .int .i64 4 ∧ ∃ k : Nat, v7 = .int .i64 k) (fun v6 v7 => n - (intOf v7).toNat)
      case atStart => exact ⟨rfl, 0, rfl⟩
      case round =>
        obtain ⟨rfl, k, rfl⟩ := hrel
        by_cases hlt : k < n
        all_goals
          go_wp2
          go_ret2
          exact outNone HE.out (by repeat (first | exact Below.refl _ _ | apply keep_alloc | apply keep_drew | apply keep_drewN | refine keep_step (by assumption) ?_ (by rfl)))
  · have HE : Hid (runErr e f s hs = chk e f s) := by
      refine Lib.hid ?_
      unfold runErr
      rw [if_pos (by omega)]
    have hb0 : (chk e f s != 0) = true := by simp [h0]
    have hb1 : (chk e f s == 0) = false := by simp [h0]
    have H0 := Lib.hid h0
    clear h0 hn
    go_enter Try.func20, Try.ntmps20
    go_wp2_with (go_at_call 16; go_call rchk as e w' ⟨rfl, hb⟩; obtain ⟨hc, hf⟩ := bcell (show Below w.heap.size w w' from (by repeat (first | exact Below.refl _ _ | apply keep_alloc | apply keep_drew | apply keep_drewN | refine keep_step (by assumption) ?_ (by rfl)))); obtain ⟨hx0, hx1, hx2⟩ := box3 (show Below (w.alloc (.cells #[.int .i64 e, .int .i64 f, .int .i64 s] 23)).heap.size (w.alloc (.cells #[.int .i64 e, .int .i64 f, .int .i64 s] 23)) w' from (by repeat (first | exact Below.refl _ _ | apply keep_alloc | apply keep_drew | apply keep_drewN | refine keep_step (by assumption) ?_ (by rfl)))))
    go_loop [6, 7] (fun v6 v7 => v6 = .int .i64 (chk e f s) ∧ ∃ k : Nat, v7 = .int .i64 k) (fun v6 v7 => n - (intOf v7).toNat)
    case atStart => exact ⟨rfl, 0, rfl⟩
    case round =>
      obtain ⟨rfl, k, rfl⟩ := hrel
      by_cases hlt : k < n
      all_goals
        go_wp2
        go_ret2
        exact outNone HE.out (by repeat (first | exact Below.refl _ _ | apply keep_alloc | apply keep_drew | apply keep_drewN | refine keep_step (by assumption) ?_ (by rfl))) H0.out
end Go.Proofs.Ytfpeojpligkbjaa
