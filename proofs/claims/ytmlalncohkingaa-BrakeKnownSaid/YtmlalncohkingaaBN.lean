/- Layer 10: BrakeStates. -/
import Derived.Test.YtmlalncohkingaaBM
namespace Go.Proofs.Ytmlalncohkingaa
open Go.RowKit
set_option linter.unusedVariables false

theorem it_add (s l : Int) (a : Nat) : ∀ b, it s l (a + b) = it (it s l a).1 (it s l a).2 b
  | 0 => rfl
  | b + 1 => by rw [← Nat.add_assoc]; simp only [it]; rw [it_add s l a b]
theorem it_open : ∀ k, it 2 0 k = (2, 0)
  | 0 => rfl
  | k + 1 => by simp only [it]; rw [it_open k]; rfl
theorem up_mid : ∀ m : Nat, m < 6 → ∀ i : Nat, i < m → (it (beS 1 (m : Int)) m i).1 = 1 := by decide
theorem down_st : ∀ m : Nat, m < 6 → ∀ i : Nat, i < m → (it (beS 3 (m : Int)) m i).1 = 3 := by decide
theorem sp_before (a b : Nat) : ∀ k, k ≤ a + b → sp a b k = it (beS 1 a) a k
  | 0, _ => rfl
  | k + 1, h => by
    simp only [sp, mid, it]
    rw [if_neg (by omega), sp_before a b k (by omega)]
theorem sp_after (a b : Nat) : ∀ j, sp a b (a + b + 1 + j) = it (beS 3 a) a (j + 1)
  | 0 => by simp [sp, mid, it]
  | j + 1 => by
    rw [← Nat.add_assoc]
    simp only [sp, mid]
    rw [if_neg (by omega), sp_after a b j]
    simp only [it]
theorem sts_nth (a b : Nat) : ∀ n i, i < n → nth (sts a b n) i = (sp a b (i + 1)).1
  | 0, i, h => absurd h (by omega)
  | n + 1, i, h => by
    simp only [sts]
    by_cases hi : i < n
    · rw [nth_append_left (by rw [sts_len]; exact hi)]; exact sts_nth a b n i hi
    · have : i = n := by omega
      subst this
      simp [nth, sts_len]

theorem stFacts {m b i : Nat} (hm : m < 6) (hi : i < 2 * m + b) :
    (i + 1 < m ∧ nth (sts m b (2 * m + b)) i = 1) ∨ (m ≤ i + 1 ∧ i < m + b ∧ nth (sts m b (2 * m + b)) i = 2) ∨
    (m + b ≤ i ∧ 1 ≤ m ∧ ((nth (sts m b (2 * m + b)) i = 3 ∧ i + 1 < 2 * m + b) ∨ (nth (sts m b (2 * m + b)) i = 0 ∧ i + 1 = 2 * m + b))) := by
  rw [sts_nth _ _ _ _ hi]
  by_cases h1 : i + 1 < m
  · left
    refine ⟨h1, ?_⟩
    rw [sp_before _ _ _ (by omega)]
    exact up_mid m hm _ h1
  · by_cases h2 : i < m + b
    · right; left
      refine ⟨by omega, h2, ?_⟩
      rw [sp_before _ _ _ (by omega), show i + 1 = m + (i + 1 - m) by omega, it_add, up_end m hm, it_open]
    · right; right
      refine ⟨by omega, by omega, ?_⟩
      rw [show i + 1 = m + b + 1 + (i - m - b) by omega, sp_after]
      by_cases h3 : i - m - b + 1 < m
      · left; exact ⟨down_st m hm _ h3, by omega⟩
      · right
        refine ⟨?_, by omega⟩
        rw [show i - m - b + 1 = m by omega, down_end m hm]

def SsRel (N : Nat) (v9 : Value) : Prop := ∃ k : Nat, k ≤ N ∧ v9 = .int .i64 k

set_option maxHeartbeats 16000000 in
theorem brakeStates_true (t u : Int) (w : World) (ht64 : In64 t) (hu64 : In64 u) : Calls Try.prog 9 #[.int .i64 t, .int .i64 u] w fun e w' => e = .returned (.bool true) ∧ Below w.heap.size w w' := by
  obtain ⟨m, hm⟩ : ∃ m : Nat, t % 6 = m := ⟨(t % 6).toNat, by omega⟩
  obtain ⟨b, hb⟩ : ∃ b : Nat, u % 301 = b := ⟨(u % 301).toNat, by omega⟩
  have hm6 : m < 6 := by omega
  have hb301 : b < 301 := by omega
  have hE : stE m b = 0 := by unfold stE; rw [if_neg (by omega)]
  have hO : stOut m b = sts m b (2 * m + b) := by unfold stOut; rw [if_pos hE]; rfl
  have HE := Lib.hid hE
  have HO := Lib.hid hO
  have HM := Lib.hid hm
  have HB := Lib.hid hb
  have hlen := sts_len m b (2 * m + b)
  have HLEN := Lib.hid hlen
  clear hm hb hE hO hlen
  go_enter Try.func9, Try.ntmps9
  go_wp2_with fail
  refine (mod_any t 6 _ ht64 (by decide)).mono ?_
  rintro _ w0 ⟨rfl, hb0⟩
  rw [if_neg (by decide), HM.out]
  go_wp2_with fail
  refine (mod_any u 301 _ hu64 (by decide)).mono ?_
  rintro _ w1 ⟨rfl, hb1⟩
  rw [if_neg (by decide), HB.out]
  go_wp2_with fail
  refine (pStates m b _).mono ?_
  rintro _ w2 ⟨A, c, rfl, hi2, hl2, hb2⟩
  rw [HO.out] at hi2
  rw [HO.out, HE.out, HLEN.out]
  clear hl2
  have hlb : (((2 * m + b : Nat) : Int) != 2 * (m : Int) + (b : Int)) = false := by simp
  go_wp2
  go_loop [9] (SsRel (2 * m + b)) (fun v => 2 * m + b - (intOf v).toNat)
  case atStart => exact ⟨0, by omega, rfl⟩
  case round =>
    obtain ⟨i, hi, rfl⟩ := hrel
    by_cases hlt : i < 2 * m + b
    · obtain ⟨bA, oA, rfl, hcA⟩ := hi2.cell (k := i) (by rw [HLEN.out]; exact hlt)
      have hck := hcA i (by rw [HLEN.out]; exact hlt)
      clear hcA
      have hm0 : m = 0 ∨ 1 ≤ m := by omega
      have hm0' : ((m : Int) - 1 < 0) ∨ (0 ≤ (m : Int) - 1) := by omega
      rcases stFacts hm6 hlt with ⟨f1, f2⟩ | ⟨f1, f2, f3⟩ | ⟨f1, f2, ⟨f3, f4⟩ | ⟨f3, f4⟩⟩
      · rw [f2] at hck
        have g1 : (0 : Int) ≤ (m : Int) - 1 := by omega
        have g2 : (i : Int) < (m : Int) - 1 := by omega
        clear f1 f2
        go_wp2
        all_goals exact ⟨⟨i + 1, by omega, by go_num⟩, by simp [intOf]; omega⟩
      · rw [f3] at hck
        rcases hm0 with hm0 | hm0
        · have g1 : (m : Int) - 1 < 0 := by omega
          have g2 : (i : Int) < (m : Int) + (b : Int) := by omega
          clear f1 f2 f3
          go_wp2
          all_goals exact ⟨⟨i + 1, by omega, by go_num⟩, by simp [intOf]; omega⟩
        · have g1 : (0 : Int) ≤ (m : Int) - 1 := by omega
          have g2 : (i : Int) < (m : Int) + (b : Int) := by omega
          have g3 : (m : Int) - 1 ≤ (i : Int) := by omega
          clear f1 f2 f3
          go_wp2
          all_goals exact ⟨⟨i + 1, by omega, by go_num⟩, by simp [intOf]; omega⟩
      · rw [f3] at hck
        have g1 : (0 : Int) ≤ (m : Int) - 1 := by omega
        have g2 : (m : Int) + (b : Int) ≤ (i : Int) := by omega
        have g3 : (m : Int) - 1 ≤ (i : Int) := by omega
        clear f1 f2 f3
        go_wp2
        all_goals exact ⟨⟨i + 1, by omega, by go_num⟩, by simp [intOf]; omega⟩
      · rw [f3] at hck
        have g1 : (0 : Int) ≤ (m : Int) - 1 := by omega
        have g2 : (m : Int) + (b : Int) ≤ (i : Int) := by omega
        have g3 : (m : Int) - 1 ≤ (i : Int) := by omega
        have g4 : (i : Int) = 2 * (m : Int) + (b : Int) - 1 := by omega
        have g5 : ((i : Int) != 2 * (m : Int) + (b : Int) - 1) = false := by simp [g4]
        clear f1 f2 f3 g4
        go_wp2
        all_goals exact ⟨⟨i + 1, by omega, by go_num⟩, by simp [intOf]; omega⟩
    · go_wp2_with (first | (go_at_call 23; (apply Calls.mono; (focus ((first | (with_reducible exact awake_true) | (apply awake_true <;> first | (with_reducible assumption) | (first | omega | (subst_vars; omega) | (simp only [Bool.not_eq_true', Bool.not_eq_false', beq_iff_eq, beq_eq_false_iff_ne, ne_eq, bne_iff_ne, bne_eq_false_iff_eq, Bool.not_eq_true, Bool.not_eq_false, decide_eq_true_eq, decide_eq_false_iff_not, Bool.and_eq_true, Bool.or_eq_true] at *; first | omega | (subst_vars; omega)) | (simp only [Bool.not_eq_true', Bool.not_eq_false', beq_iff_eq, beq_eq_false_iff_ne, ne_eq, bne_iff_ne, bne_eq_false_iff_eq, Bool.not_eq_true, Bool.not_eq_false, decide_eq_true_eq, decide_eq_false_iff_not, Bool.and_eq_true, Bool.or_eq_true, wrap64] at *; first | omega | (subst_vars; omega))))); done))); rintro e w' ⟨rfl, hb⟩; obtain ⟨hc, hf⟩ := bcell (show Below w.heap.size w w' from (by repeat (first | exact Below.refl _ _ | apply keep_alloc | apply keep_drew | apply keep_drewN | refine keep_step (by assumption) ?_ (by rfl) | refine keep_set ?_ _ _ (by first | exact Nat.le_refl _ | (show _ ≤ _; simp; done) | (show _ ≤ _; simp; omega)))))))
      go_ret
      exact ⟨rfl, (by repeat (first | exact Below.refl _ _ | apply keep_alloc | apply keep_drew | apply keep_drewN | refine keep_step (by assumption) ?_ (by rfl) | refine keep_set ?_ _ _ (by first | exact Nat.le_refl _ | (show _ ≤ _; simp; done) | (show _ ≤ _; simp; omega))))⟩
end Go.Proofs.Ytmlalncohkingaa
