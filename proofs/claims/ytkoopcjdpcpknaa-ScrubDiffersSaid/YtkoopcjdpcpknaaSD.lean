/- Layer 7: the reference's positions. -/
import Derived.Test.YtkoopcjdpcpknaaSC
namespace Go.Proofs.Ytkoopcjdpcpknaa
open Go.RowKit
set_option linter.unusedVariables false

theorem Mine.one (w : World) (x : Int) : Mine w.heap.size (w.alloc (.cells #[.int .i64 x] 3)) (.slice (some ⟨w.heap.size, 0, none⟩) 1 1) [x] :=
  ⟨rfl, .inr ⟨w.heap.size, 1, #[.int .i64 x], rfl, Nat.le_refl _, heap_alloc_new w _, Nat.le_refl _, by unfold maxLen; omega, rfl, rfl⟩⟩

def PsRel (gs : List Int) (n : Nat) (w : World) (v3 v4 : Value) (wr : World) : Prop :=
  ∃ k : Nat, k ≤ n ∧ v4 = .int .i64 k ∧ Mine w.heap.size wr v3 (posl gs (k + 1)) ∧ Below w.heap.size w wr

set_option maxHeartbeats 4000000 in
theorem rpositions (gs : List Int) (A : Option Addr) (n cap : Nat) (w : World) (hn : gs.length = n) (hF : Fine gs) (hA : Ints w A gs) :
    Calls Try.prog 39 #[.slice A n cap] w fun e w' => ∃ B c, e = .returned (.slice B (n + 1) c) ∧ Ints w' B (posl gs (n + 1)) ∧ Below w.heap.size w w' := by
  have HN := Lib.hid hn
  have hn63 : n ≤ 63 := by rw [← hn]; exact hF.2.1
  have HF := Lib.hid hF
  clear hF hn
  go_enter Try.func39, Try.ntmps39
  go_wp2
  go_loopw [3, 4] (PsRel gs n w) (fun _ v _ => n - (intOf v).toNat)
  case atStart => exact ⟨0, by omega, rfl, Mine.one w 0, (by repeat (first | exact Below.refl _ _ | apply keep_alloc | apply keep_drew | apply keep_drewN | refine keep_step (by assumption) ?_ (by rfl) | refine keep_set ?_ _ _ (by first | exact Nat.le_refl _ | (show _ ≤ _; simp; done) | (show _ ≤ _; simp; omega))))⟩
  case round =>
    obtain ⟨k, hk, rfl, hown, hbl⟩ := hrel
    by_cases hlt : k < n
    · obtain ⟨b, o, rfl, hc⟩ := (hA.step hbl).cell (k := k) (by rw [HN.out]; exact hlt)
      have c1 := hc k (by rw [HN.out]; exact hlt)
      clear hc
      have hp := pos_low HF.out k (by rw [HN.out]; omega)
      have hg1 := (good_and _).1 (HF.out.2.2 k (by rw [HN.out]; exact hlt))
      have hlen := posl_len gs (k + 1)
      obtain ⟨A8, c8, rfl, hi8, hl8⟩ := hown.slice
      obtain ⟨b8, o8, rfl, hc8⟩ := hi8.cell (k := k) (by rw [hlen]; omega)
      have hck8 := hc8 k (by rw [hlen]; omega)
      rw [posl_nth _ _ _ (by omega)] at hck8
      clear hc8 hi8 hl8
      rw [hlen] at hown ⊢
      have HLEN := Lib.hid hlen
      clear hlen
      have hlen2 : (posl gs (k + 1)).length ≤ 17592186044414 := by rw [HLEN.out]; omega
      have hb8 : b8 < wr.heap.size := World.block_lt_of_cell? wr _ hck8
      have hbr : b < wr.heap.size := World.block_lt_of_cell? wr _ c1
      have hs1 := (show IntKind.i64.wrap (pos gs k + nth gs k) = pos gs k + nth gs k from Go.IntWalk.i64_in _ ⟨by omega, by omega⟩)
      go_wp2
      (refine wp_region_head' (C := fun x => ∃ y : Later wr, x = y.w) 10 (by kernel_rfl) (by kernel_rfl) (later_start wr) ?_; have hlat := later_cell wr; simp only [List.take_succ_cons, List.take_zero, List.drop_succ_cons, List.drop_zero]; (repeat (go_big_quiet_step (fail))); refine wpQuiet_nil ?_; rintro w' ⟨⟨xq, hb⟩, hxq⟩; have hxq2 : w' = xq := hxq; clear hxq; subst hxq2; clear hlat)
      (go_wp2_with (first | (at_builtin; refine push_int rfl _ _ (by rfl) w _ _ _ (by rfl) (by rfl) (by first | rfl | simp) (hown.step (by repeat (first | exact Below.refl _ _ | apply keep_alloc | apply keep_drew | apply keep_drewN | refine keep_step (by assumption) ?_ (by rfl) | refine keep_set ?_ _ _ (by first | exact Nat.le_refl _ | (show _ ≤ _; simp; done) | (show _ ≤ _; simp; omega))))) (by repeat (first | exact Below.refl _ _ | apply keep_alloc | apply keep_drew | apply keep_drewN | refine keep_step (by assumption) ?_ (by rfl) | refine keep_set ?_ _ _ (by first | exact Nat.le_refl _ | (show _ ≤ _; simp; done) | (show _ ≤ _; simp; omega)))) (by first | omega | (simp only [List.length_take]; omega)) ?_; intro v2 w2 hown0 hbl2; have hown2 := Lib.hid hown0; clear hown0) | go_in)); refine NoPanic.normal ?_
      go_wp2
      exact ⟨⟨k + 1, by omega, by go_num, hown2.out, hbl2⟩, by simp [intOf]; omega⟩
    · have hkn : k = n := by omega
      subst hkn
      go_wp2
      go_ret
      obtain ⟨A8, c8, rfl, hi8, hl8⟩ := hown.slice
      rw [posl_len]
      exact ⟨A8, c8, rfl, hi8, hbl⟩
end Go.Proofs.Ytkoopcjdpcpknaa
