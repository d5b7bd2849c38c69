/- Layer 7: the laws' own functions. -/
import Derived.Test.YthjnldigfabihaaSO
namespace Go.Proofs.Ythjnldigfabihaa
open Go.RowKit
set_option linter.unusedVariables false

theorem ints_new (w : World) {b : Nat} {xs : List Int} {cs : Array Value} (hb : b = w.heap.size) (h : cs.toList = xs.map (Value.int .i64)) : Ints (w.alloc (.cells cs 3)) (some ⟨b, 0, none⟩) xs := by
  subst hb
  refine .inr ⟨_, _, rfl, fun i hi => ?_⟩
  rw [World.cell?_alloc_at _ _ _ _ rfl]
  have h1 : cs.toList[0 + i]? = some (.int .i64 (nth xs i)) := by rw [h, nth_eq hi]; simp [hi]
  simpa using h1
theorem sameInts_same (A B : Option Addr) (xs : List Int) (n ca cb : Nat) (w : World) (hx : xs.length = n) (hn : n ≤ maxLen) (hA : Ints w A xs) (hB : Ints w B xs) :
    Calls Try.prog 15 #[.slice A n ca, .slice B n cb] w fun e w' => e = .returned (.bool true) ∧ Below w.heap.size w w' :=
  (sameInts_eq A B xs xs n ca cb w hx hx hn hA hB).mono fun e w' ⟨he, hb⟩ => ⟨by rw [he]; simp, hb⟩

/-- the chapter's gaps -/
def G : List Int := [10, 4, 6]
theorem gaps_any (w : World) : Calls Try.prog 28 #[] w fun e w' => ∃ b, e = .returned (.slice (some ⟨b, 0, none⟩) 3 3) ∧ Ints w' (some ⟨b, 0, none⟩) G ∧ Below w.heap.size w w' := by
  go_enter Try.func28, Try.ntmps28
  go_wp2
  go_ret
  exact ⟨w.heap.size, rfl, ints_new _ rfl rfl, (by repeat (first | exact Below.refl _ _ | apply keep_alloc | apply keep_drew | apply keep_drewN | refine keep_step (by assumption) ?_ (by rfl) | refine keep_set ?_ _ _ (by first | exact Nat.le_refl _ | (show _ ≤ _; simp; done) | (show _ ≤ _; simp; omega))))⟩

theorem near_true (p v : Int) (w : World) (h1 : nV G p = v) (h2 : lE G p 0 0 = 0) : Calls Try.prog 29 #[.int .i64 p, .int .i64 v] w fun e w' => e = .returned (.bool true) ∧ Below w.heap.size w w' := by
  have H1 := Lib.hid h1
  have H2 := Lib.hid h2
  clear h1 h2
  go_enter Try.func29, Try.ntmps29
  go_wp2_with fail
  refine (gaps_any _).mono ?_
  rintro _ w1 ⟨b1, rfl, hig, hbw1⟩
  go_wp2_with fail
  refine (pNearest G _ 3 3 p _ rfl (by decide) hig).mono ?_
  rintro _ w2 ⟨rfl, hb2⟩
  rw [H1.out, H2.out]
  go_wp2
  go_ret
  exact ⟨by simp, (by repeat (first | exact Below.refl _ _ | apply keep_alloc | apply keep_drew | apply keep_drewN | refine keep_step (by assumption) ?_ (by rfl) | refine keep_set ?_ _ _ (by first | exact Nat.le_refl _ | (show _ ≤ _; simp; done) | (show _ ≤ _; simp; omega))))⟩

theorem G_ok : ckE G = 0 := by decide
theorem G_ckI : ckI G = 0 := by decide
theorem G_pos : posOut G = [0, 10, 14, 20] := by decide
theorem G_ht : htV G = 20 := by decide
theorem G_btw : bV G 5 20 = [1, 2, 3] ∧ bE G 5 20 = 0 := by decide
theorem G_near : nV G 12 = 1 ∧ lE G 12 0 0 = 0 := by decide

set_option maxRecDepth 20000 in
set_option maxHeartbeats 4000000 in
theorem awake_true (w : World) : Calls Try.prog 9 #[] w fun e w' => e = .returned (.bool true) ∧ Below w.heap.size w w' := by
  go_enter Try.func9, Try.ntmps9
  go_wp2_with fail
  refine (gaps_any _).mono ?_
  rintro _ w1 ⟨b1, rfl, hig, hbw1⟩
  go_wp2_with fail
  refine (pPositions G _ 3 3 _ rfl (by decide) hig).mono ?_
  rintro _ w2 ⟨A2, c2, rfl, hi2, _, hb2⟩
  rw [G_pos] at hi2
  rw [G_pos, G_ok]
  simp only [List.length_cons, List.length_nil]
  clear hig
  go_wp2_with fail
  refine (gaps_any _).mono ?_
  rintro _ w3 ⟨b3, rfl, hig, hbw3⟩
  go_wp2_with fail
  refine (pHeight G _ 3 3 _ rfl (by decide) hig).mono ?_
  rintro _ w4 ⟨rfl, hb4⟩
  rw [G_ht, G_ok]
  clear hig
  go_wp2_with fail
  refine (gaps_any _).mono ?_
  rintro _ w5 ⟨b5, rfl, hig, hbw5⟩
  go_wp2_with fail
  refine (pBetween G _ 3 3 5 20 _ rfl (by decide) hig).mono ?_
  rintro _ w6 ⟨A6, c6, rfl, hi6, _, hb6⟩
  rw [G_btw.1] at hi6
  rw [G_btw.1, G_btw.2]
  simp only [List.length_cons, List.length_nil]
  clear hig
  go_wp2_with fail
  refine (gaps_any _).mono ?_
  rintro _ w7 ⟨b7, rfl, hig, hbw7⟩
  go_wp2_with fail
  refine (pCheck G _ 3 3 _ rfl (by decide) hig).mono ?_
  rintro _ w8 ⟨rfl, hb8⟩
  rw [G_ok, G_ckI]
  clear hig
  go_wp2_with fail
  apply Calls.mono
  focus
    refine sameInts_same _ _ [0, 10, 14, 20] 4 _ _ _ rfl (by decide) ?_ ?_
    · exact hi2.step (by repeat (first | exact Below.refl _ _ | apply keep_alloc | apply keep_drew | apply keep_drewN | refine keep_step (by assumption) ?_ (by rfl) | refine keep_set ?_ _ _ (by first | exact Nat.le_refl _ | (show _ ≤ _; simp; done) | (show _ ≤ _; simp; omega))))
    · exact ints_new _ (by simp) (by rfl)
  rintro _ w9 ⟨rfl, hb9⟩
  go_wp2_with fail
  refine (near_true 12 1 _ G_near.1 G_near.2).mono ?_
  rintro _ w10 ⟨rfl, hb10⟩
  go_wp2_with fail
  apply Calls.mono
  focus
    refine sameInts_same _ _ [1, 2, 3] 3 _ _ _ rfl (by decide) ?_ ?_
    · exact hi6.step (by repeat (first | exact Below.refl _ _ | apply keep_alloc | apply keep_drew | apply keep_drewN | refine keep_step (by assumption) ?_ (by rfl) | refine keep_set ?_ _ _ (by first | exact Nat.le_refl _ | (show _ ≤ _; simp; done) | (show _ ≤ _; simp; omega))))
    · exact ints_new _ (by simp) (by rfl)
  rintro _ w11 ⟨rfl, hb11⟩
  go_wp2
  go_ret
  exact ⟨rfl, (by repeat (first | exact Below.refl _ _ | apply keep_alloc | apply keep_drew | apply keep_drewN | refine keep_step (by assumption) ?_ (by rfl) | refine keep_set ?_ _ _ (by first | exact Nat.le_refl _ | (show _ ≤ _; simp; done) | (show _ ≤ _; simp; omega))))⟩
end Go.Proofs.Ythjnldigfabihaa
