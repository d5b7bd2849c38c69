/- Layer 11: LoadRuns, LoadSums. -/
import Derived.Test.YtfpeojpligkbjaaM
namespace Go.Proofs.Ytfpeojpligkbjaa
open Go.RowKit
set_option linter.unusedVariables false

theorem sameInts_same (A B : Option Addr) (xs : List Int) (n ca cb : Nat) (w : World) (hx : xs.length = n) (hn : n ≤ maxLen) (hA : Ints w A xs) (hB : Ints w B xs) :
    Calls Try.prog 23 #[.slice A n ca, .slice B n cb] w fun e w' => e = .returned (.bool true) ∧ Below w.heap.size w w' :=
  (sameInts_eq A B xs xs n ca cb w hx hx hn hA hB).mono fun e w' ⟨he, hb⟩ => ⟨by rw [he]; simp, hb⟩

set_option maxHeartbeats 8000000 in
theorem loadRuns_go (e f s : Int) (A : Option Addr) (n cap : Nat) (hs : List Int) (w : World) (he : In64 e) (hf : In64 f) (hs' : In64 s) (hn : hs.length = n) (hm : n ≤ 2010) (hA : Ints w A hs) (hgo : n ≤ 100 ∨ 2000 < n) :
    Calls Try.prog 4 #[(.agg #[.int .i64 e, .int .i64 f, .int .i64 s]), .slice A n cap] w fun e w' => e = .returned (.bool true) ∧ Below w.heap.size w w' := by
  have HN := Lib.hid hn
  have hm' : n ≤ maxLen := by unfold maxLen; omega
  clear hn
  have hg2 : decide (100 < (n : Int)) = false ∨ (100 < (n : Int) ∧ decide ((n : Int) ≤ 2000) = false) := by simp; omega
  clear hgo
  rcases hg2 with hg | ⟨hg, hg2⟩
  all_goals
    go_enter Try.func4, Try.ntmps4
    go_wp2_with fail
    refine (ownInts_any A n cap hs _ HN.out (by omega) (hA.step (by repeat (first | exact Below.refl _ _ | apply keep_alloc | apply keep_drew | apply keep_drewN | refine keep_step (by assumption) ?_ (by rfl))))).mono ?_
    rintro _ w1 ⟨A1, c1, rfl, hi1, hb1⟩
    obtain ⟨hx0, hx1, hx2⟩ := box3 (show Below (w.alloc (.cells #[.int .i64 e, .int .i64 f, .int .i64 s] 23)).heap.size (w.alloc (.cells #[.int .i64 e, .int .i64 f, .int .i64 s] 23)) w1 from (by repeat (first | exact Below.refl _ _ | apply keep_alloc | apply keep_drew | apply keep_drewN | refine keep_step (by assumption) ?_ (by rfl))))
    go_wp2_with fail
    refine (prun e f s A1 n c1 hs _ he hf hs' HN.out hm' hi1).mono ?_
    rintro _ w2 ⟨A2, c2, rfl, hi2, hl2, hb2⟩
    obtain ⟨hx0, hx1, hx2⟩ := box3 (show Below (w.alloc (.cells #[.int .i64 e, .int .i64 f, .int .i64 s] 23)).heap.size (w.alloc (.cells #[.int .i64 e, .int .i64 f, .int .i64 s] 23)) w2 from (by repeat (first | exact Below.refl _ _ | apply keep_alloc | apply keep_drew | apply keep_drewN | refine keep_step (by assumption) ?_ (by rfl))))
    go_wp2_with fail
    refine (rrun e f s A n cap hs _ he hf hs' HN.out hm' (hA.step (by repeat (first | exact Below.refl _ _ | apply keep_alloc | apply keep_drew | apply keep_drewN | refine keep_step (by assumption) ?_ (by rfl))))).mono ?_
    rintro _ w3 ⟨A3, c3, rfl, hi3, hl3, hb3⟩
    obtain ⟨hx0, hx1, hx2⟩ := box3 (show Below (w.alloc (.cells #[.int .i64 e, .int .i64 f, .int .i64 s] 23)).heap.size (w.alloc (.cells #[.int .i64 e, .int .i64 f, .int .i64 s] 23)) w3 from (by repeat (first | exact Below.refl _ _ | apply keep_alloc | apply keep_drew | apply keep_drewN | refine keep_step (by assumption) ?_ (by rfl))))
    go_wp2_with fail
    refine (pchanges e f s A1 n c1 hs _ he hf hs' HN.out hm' (hi1.step (by repeat (first | exact Below.refl _ _ | apply keep_alloc | apply keep_drew | apply keep_drewN | refine keep_step (by assumption) ?_ (by rfl))))).mono ?_
    rintro _ w4 ⟨A4, c4, rfl, hi4, hl4, hb4⟩
    obtain ⟨hx0, hx1, hx2⟩ := box3 (show Below (w.alloc (.cells #[.int .i64 e, .int .i64 f, .int .i64 s] 23)).heap.size (w.alloc (.cells #[.int .i64 e, .int .i64 f, .int .i64 s] 23)) w4 from (by repeat (first | exact Below.refl _ _ | apply keep_alloc | apply keep_drew | apply keep_drewN | refine keep_step (by assumption) ?_ (by rfl))))
    go_wp2_with fail
    refine (rchanges e f s A n cap hs _ he hf hs' HN.out hm' (hA.step (by repeat (first | exact Below.refl _ _ | apply keep_alloc | apply keep_drew | apply keep_drewN | refine keep_step (by assumption) ?_ (by rfl))))).mono ?_
    rintro _ w5 ⟨A5, c5, rfl, hi5, hl5, hb5⟩
    go_wp2_with fail
    refine (sameInts_same A2 A3 _ _ c2 c3 _ rfl hl2 (hi2.step (by repeat (first | exact Below.refl _ _ | apply keep_alloc | apply keep_drew | apply keep_drewN | refine keep_step (by assumption) ?_ (by rfl)))) (hi3.step (by repeat (first | exact Below.refl _ _ | apply keep_alloc | apply keep_drew | apply keep_drewN | refine keep_step (by assumption) ?_ (by rfl))))).mono ?_
    rintro _ w6 ⟨rfl, hb6⟩
    go_wp2_with fail
    refine (sameInts_same A4 A5 _ _ c4 c5 _ rfl hl4 (hi4.step (by repeat (first | exact Below.refl _ _ | apply keep_alloc | apply keep_drew | apply keep_drewN | refine keep_step (by assumption) ?_ (by rfl)))) (hi5.step (by repeat (first | exact Below.refl _ _ | apply keep_alloc | apply keep_drew | apply keep_drewN | refine keep_step (by assumption) ?_ (by rfl))))).mono ?_
    rintro _ w7 ⟨rfl, hb7⟩
    go_wp2_with fail
    refine (sameInts_same A1 A _ _ c1 cap _ HN.out hm' (hi1.step (by repeat (first | exact Below.refl _ _ | apply keep_alloc | apply keep_drew | apply keep_drewN | refine keep_step (by assumption) ?_ (by rfl)))) (hA.step (by repeat (first | exact Below.refl _ _ | apply keep_alloc | apply keep_drew | apply keep_drewN | refine keep_step (by assumption) ?_ (by rfl))))).mono ?_
    rintro _ w8 ⟨rfl, hb8⟩
    go_wp2_with fail
    refine (awake_true _).mono ?_
    rintro _ w9 ⟨rfl, hb9⟩
    go_wp2
    go_ret
    exact ⟨rfl, (by repeat (first | exact Below.refl _ _ | apply keep_alloc | apply keep_drew | apply keep_drewN | refine keep_step (by assumption) ?_ (by rfl)))⟩

set_option maxHeartbeats 4000000 in
theorem loadRuns_true (e f s : Int) (A : Option Addr) (n cap : Nat) (hs : List Int) (w : World) (he : In64 e) (hf : In64 f) (hs' : In64 s) (hn : hs.length = n) (hm : n ≤ maxLen) (hA : Ints w A hs) (hb : ∀ x ∈ hs, In64 x) :
    Calls Try.prog 4 #[(.agg #[.int .i64 e, .int .i64 f, .int .i64 s]), .slice A n cap] w fun e w' => e = .returned (.bool true) ∧ Below w.heap.size w w' := by
  unfold maxLen at hm
  by_cases h : (n ≤ 100 ∨ 2000 < n) ∧ n ≤ 2010
  · exact loadRuns_go e f s A n cap hs w he hf hs' hn h.2 hA h.1
  · clear hn hb
    have h2 : (100 < (n : Int) ∧ (n : Int) ≤ 2000) ∨ (100 < (n : Int) ∧ decide ((n : Int) ≤ 2000) = false ∧ 2010 < (n : Int)) := by simp; omega
    clear h
    rcases h2 with ⟨h1, h2⟩ | ⟨h1, h2, h3⟩
    all_goals
      go_enter Try.func4, Try.ntmps4
      go_wp2_with fail
      refine (awake_true _).mono ?_
      rintro _ w9 ⟨rfl, hb9⟩
      go_wp2
      go_ret
      exact ⟨rfl, (by repeat (first | exact Below.refl _ _ | apply keep_alloc | apply keep_drew | apply keep_drewN | refine keep_step (by assumption) ?_ (by rfl)))⟩

set_option maxHeartbeats 8000000 in
theorem loadSums_true (A : Option Addr) (n cap : Nat) (hs : List Int) (a b : Int) (w : World) (hn : hs.length = n) (hm : n ≤ maxLen) (hA : Ints w A hs) (hb : ∀ x ∈ hs, In64 x) (ha64 : In64 a) (hb64 : In64 b) :
    Calls Try.prog 5 #[.slice A n cap, .int .i64 a, .int .i64 b] w fun e w' => e = .returned (.bool true) ∧ Below w.heap.size w w' := by
  have hm' := hm
  unfold maxLen at hm
  have HN := Lib.hid hn
  clear hn hb
  have h2 : (100 < (n : Int) ∧ (n : Int) ≤ 2000) ∨ (100 < (n : Int) ∧ decide ((n : Int) ≤ 2000) = false ∧ 2010 < (n : Int)) ∨ (decide (100 < (n : Int)) = false) ∨ (100 < (n : Int) ∧ decide ((n : Int) ≤ 2000) = false ∧ (n : Int) ≤ 2010) := by simp; omega
  rcases h2 with ⟨h1, h2⟩ | ⟨h1, h2, h3⟩ | h1 | ⟨h1, h2, h3⟩
  iterate 2
    · go_enter Try.func5, Try.ntmps5
      go_wp2_with fail
      refine (awake_true _).mono ?_
      rintro _ w9 ⟨rfl, hb9⟩
      go_wp2
      go_ret
      exact ⟨rfl, (by repeat (first | exact Below.refl _ _ | apply keep_alloc | apply keep_drew | apply keep_drewN | refine keep_step (by assumption) ?_ (by rfl)))⟩
  all_goals
    have hnl : n ≤ 2010 := by first | omega | (simp at h1; omega)
    go_enter Try.func5, Try.ntmps5
    go_wp2_with fail
    refine (pTotal A n cap hs _ HN.out hm' hA).mono ?_
    rintro _ w1 ⟨rfl, hb1⟩
    go_wp2_with fail
    refine (rTotal A n cap hs _ HN.out hm' (hA.step (by repeat (first | exact Below.refl _ _ | apply keep_alloc | apply keep_drew | apply keep_drewN | refine keep_step (by assumption) ?_ (by rfl))))).mono ?_
    rintro _ w2 ⟨rfl, hb2⟩
    go_wp2_with (first | (go_at_call 26; (apply Calls.mono; (focus ((first | (with_reducible exact pTare) | (apply pTare <;> first | (with_reducible assumption) | (first | omega | (simp only [Bool.not_eq_true', Bool.not_eq_false', beq_iff_eq, beq_eq_false_iff_ne, ne_eq, bne_iff_ne, bne_eq_false_iff_eq, Bool.not_eq_true, Bool.not_eq_false, decide_eq_true_eq, decide_eq_false_iff_not, Bool.and_eq_true, Bool.or_eq_true] at *; omega) | (simp only [Bool.not_eq_true', Bool.not_eq_false', beq_iff_eq, beq_eq_false_iff_ne, ne_eq, bne_iff_ne, bne_eq_false_iff_eq, Bool.not_eq_true, Bool.not_eq_false, decide_eq_true_eq, decide_eq_false_iff_not, Bool.and_eq_true, Bool.or_eq_true, wrap64] at *; omega)))); done))); rintro e w' ⟨rfl, hb⟩; obtain ⟨hc, hf⟩ := bcell (show Below w.heap.size w w' from (by repeat (first | exact Below.refl _ _ | apply keep_alloc | apply keep_drew | apply keep_drewN | refine keep_step (by assumption) ?_ (by rfl))))) | (go_at_call 27; (apply Calls.mono; (focus ((first | (with_reducible exact rTare) | (apply rTare <;> first | (with_reducible assumption) | (first | omega | (simp only [Bool.not_eq_true', Bool.not_eq_false', beq_iff_eq, beq_eq_false_iff_ne, ne_eq, bne_iff_ne, bne_eq_false_iff_eq, Bool.not_eq_true, Bool.not_eq_false, decide_eq_true_eq, decide_eq_false_iff_not, Bool.and_eq_true, Bool.or_eq_true] at *; omega) | (simp only [Bool.not_eq_true', Bool.not_eq_false', beq_iff_eq, beq_eq_false_iff_ne, ne_eq, bne_iff_ne, bne_eq_false_iff_eq, Bool.not_eq_true, Bool.not_eq_false, decide_eq_true_eq, decide_eq_false_iff_not, Bool.and_eq_true, Bool.or_eq_true, wrap64] at *; omega)))); done))); rintro e w' ⟨rfl, hb⟩; obtain ⟨hc, hf⟩ := bcell (show Below w.heap.size w w' from (by repeat (first | exact Below.refl _ _ | apply keep_alloc | apply keep_drew | apply keep_drewN | refine keep_step (by assumption) ?_ (by rfl))))) | (go_at_call 17; (apply Calls.mono; (focus ((first | (with_reducible exact awake_true) | (apply awake_true <;> first | (with_reducible assumption) | (first | omega | (simp only [Bool.not_eq_true', Bool.not_eq_false', beq_iff_eq, beq_eq_false_iff_ne, ne_eq, bne_iff_ne, bne_eq_false_iff_eq, Bool.not_eq_true, Bool.not_eq_false, decide_eq_true_eq, decide_eq_false_iff_not, Bool.and_eq_true, Bool.or_eq_true] at *; omega) | (simp only [Bool.not_eq_true', Bool.not_eq_false', beq_iff_eq, beq_eq_false_iff_ne, ne_eq, bne_iff_ne, bne_eq_false_iff_eq, Bool.not_eq_true, Bool.not_eq_false, decide_eq_true_eq, decide_eq_false_iff_not, Bool.and_eq_true, Bool.or_eq_true, wrap64] at *; omega)))); done))); rintro e w' ⟨rfl, hb⟩; obtain ⟨hc, hf⟩ := bcell (show Below w.heap.size w w' from (by repeat (first | exact Below.refl _ _ | apply keep_alloc | apply keep_drew | apply keep_drewN | refine keep_step (by assumption) ?_ (by rfl))))))
    go_ret
    exact ⟨rfl, (by repeat (first | exact Below.refl _ _ | apply keep_alloc | apply keep_drew | apply keep_drewN | refine keep_step (by assumption) ?_ (by rfl)))⟩
end Go.Proofs.Ytfpeojpligkbjaa
