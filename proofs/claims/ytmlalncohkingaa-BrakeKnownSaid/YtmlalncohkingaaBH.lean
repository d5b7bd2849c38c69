/- Layer 10: States of both. -/
import Derived.Test.YtmlalncohkingaaBG
namespace Go.Proofs.Ytmlalncohkingaa
open Go.RowKit
set_option linter.unusedVariables false

def mid (a b : Nat) (k : Nat) (p : Int × Int) : Int × Int := if k = a + b then (beS 3 a, (a : Int)) else p
def sp (a b : Nat) : Nat → Int × Int
  | 0 => (beS 1 a, (a : Int))
  | k + 1 => (tS (mid a b k (sp a b k)).1 (mid a b k (sp a b k)).2, tL (mid a b k (sp a b k)).1 (mid a b k (sp a b k)).2)
def sts (a b : Nat) : Nat → List Int
  | 0 => []
  | k + 1 => sts a b k ++ [(sp a b (k + 1)).1]
theorem sts_len (a b : Nat) : ∀ k, (sts a b k).length = k
  | 0 => rfl
  | k + 1 => by simp [sts, sts_len a b k]
theorem chk20 {a : Nat} (ha : a ≤ 5) : chk 2 0 (a : Int) = 0 := by unfold chk; rw [if_neg (by omega)]; simp
theorem mid_ok {a b k : Nat} {p : Int × Int} (ha : a ≤ 5) (h : chk p.1 p.2 a = 0) : chk (mid a b k p).1 (mid a b k p).2 a = 0 := by
  unfold mid
  split
  · unfold chk beS; simp only; split <;> omega
  · exact h
theorem sp_ok (a b : Nat) (ha : a ≤ 5) : ∀ k, chk (sp a b k).1 (sp a b k).2 a = 0
  | 0 => by unfold sp chk beS; simp only; split <;> omega
  | k + 1 => tick_ok (mid_ok ha (sp_ok a b ha k))
def stE (n t : Int) : Int := if n < 0 ∨ 5 < n ∨ t < 0 ∨ 1000 < t then 2 else 0
def stOut (n t : Int) : List Int := if stE n t = 0 then sts n.toNat t.toNat (2 * n.toNat + t.toNat) else []

/-- a slice and an error come back -/
def OutInts (xs : List Int) (err : Int) (w : World) (e : Ending) (w' : World) : Prop :=
  ∃ A cap, e = .returned (.tuple #[.slice A xs.length cap, .int .i64 err]) ∧ Ints w' A xs ∧ xs.length ≤ maxLen ∧ Below w.heap.size w w'
theorem outMine {xs : List Int} {E : Int} {B : Nat} {v : Value} {w w' : World} (hm : Mine B w' v xs) (hb : Below w.heap.size w w') : OutInts xs E w (.returned (.tuple #[v, .int .i64 E])) w' := by
  obtain ⟨A, cap, rfl, hi, hl⟩ := hm.slice
  exact ⟨A, cap, rfl, hi, hl, hb⟩

theorem run_one (g : Nat) (s l n : Int) (w : World) (hm : Mach w g s l n) (hv : chk s l n = 0) :
    Calls Try.prog 36 #[.pointer (some ⟨g, 0, none⟩), .int .i64 1] w fun e w' => e = .returned (.tuple #[]) ∧ Mach w' g (tS s l) (tL s l) n ∧ Turn g w w' :=
  run_any g s l n 1 w hm hv (by omega)

def StRel (a b : Nat) (g : Nat) (w1 : World) (v7 v27 : Value) (wr : World) : Prop :=
  ∃ k : Nat, k ≤ 2 * a + b ∧ v27 = .int .i64 k ∧ Mach wr g (if k = 0 then 0 else (sp a b k).1) (if k = 0 then 0 else (sp a b k).2) a ∧ Mine w1.heap.size wr v7 (sts a b k) ∧ Turn g w1 wr

set_option maxHeartbeats 16000000 in
theorem pStates (n t : Int) (w : World) : Calls Try.prog 19 #[.int .i64 n, .int .i64 t] w (OutInts (stOut n t) (stE n t) w) := by
  by_cases hbad : n < 0 ∨ 5 < n ∨ t < 0 ∨ 1000 < t
  · have e1 : stE n t = 2 := by unfold stE; rw [if_pos hbad]
    have e2 : stOut n t = [] := by unfold stOut; rw [e1]; rfl
    rw [e1, e2]
    have hb2 : decide (0 ≤ n) = false ∨ (0 ≤ n ∧ decide (n ≤ 5) = false) ∨ (0 ≤ n ∧ n ≤ 5 ∧ t < 0) ∨ (0 ≤ n ∧ n ≤ 5 ∧ 0 ≤ t ∧ 1000 < t) := by simp; omega
    clear hbad e1 e2
    rcases hb2 with h1 | ⟨h1, h2⟩ | ⟨h1, h2, h3⟩ | ⟨h1, h2, h3, h4⟩
    all_goals
      go_enter Try.func19, Try.ntmps19
      go_wp2
      go_ret2
      exact outMine (B := 0) (Mine.nil _ _) (by repeat (first | exact Below.refl _ _ | apply keep_alloc | apply keep_drew | apply keep_drewN | refine keep_step (by assumption) ?_ (by rfl) | refine keep_set ?_ _ _ (by first | exact Nat.le_refl _ | (show _ ≤ _; simp; done) | (show _ ≤ _; simp; omega))))
  · obtain ⟨a, rfl⟩ : ∃ a : Nat, n = a := ⟨n.toNat, by omega⟩
    obtain ⟨b, rfl⟩ : ∃ b : Nat, t = b := ⟨t.toNat, by omega⟩
    have e1 : stE a b = 0 := by unfold stE; rw [if_neg hbad]
    have e2 : stOut a b = sts a b (2 * a + b) := by unfold stOut; rw [if_pos e1]; rfl
    rw [e1, e2]
    have ha : a ≤ 5 := by omega
    have hb : b ≤ 1000 := by omega
    clear hbad e1 e2
    go_enter Try.func19, Try.ntmps19
    go_wp2
    obtain ⟨w1, hw1⟩ : ∃ w1, w1 = (w.alloc (.cells #[.int .i64 0, .int .i64 0] 23)).alloc (.cells #[.int .i64 0, .int .i64 0, .int .i64 a] 52) := ⟨_, rfl⟩
    rw [← hw1]
    obtain ⟨g, hg⟩ : ∃ g, g = w.heap.size + 1 := ⟨_, rfl⟩
    rw [← hg]
    have hm1 : Mach w1 g 0 0 a := by
      have h := Mach.made (w.alloc (.cells #[.int .i64 0, .int .i64 0] 23)) 0 0 a 52
      rw [hw1, hg]; simpa using h
    have hb1 : Below w.heap.size w w1 := by rw [hw1]; exact (by repeat (first | exact Below.refl _ _ | apply keep_alloc | apply keep_drew | apply keep_drewN | refine keep_step (by assumption) ?_ (by rfl) | refine keep_set ?_ _ _ (by first | exact Nat.le_refl _ | (show _ ≤ _; simp; done) | (show _ ≤ _; simp; omega))))
    have hg1 : g < w1.heap.size := hm1.lt
    have hg0 : w.heap.size ≤ g := by omega
    clear hw1 hg
    go_loopw [7, 27] (StRel a b g w1) (fun _ v _ => 2 * a + b - (intOf v).toNat)
    case atStart => exact ⟨0, by omega, rfl, hm1, Mine.nil _ _, Turn.refl _ _⟩
    case round =>
      obtain ⟨k, hk, rfl, hmk, hown, htr⟩ := hrel
      have hlen := sts_len a b k
      have HLEN : (sts a b k).length ≤ 17592186044414 := by omega
      clear hlen
      by_cases hlt : k < 2 * a + b
      · by_cases hk0 : k = 0
        · rw [if_pos hk0, if_pos hk0] at hmk
          have hkb : ((k : Int) == 0) = true := by simp [hk0]
          by_cases hmid : k = a + b
          · have hkm : ((k : Int) == (a : Int) + (b : Int)) = true := by simp [hmid]
            have E1 : Hid (tS (beS 3 a) a = (sp a b (k + 1)).1) := Lib.hid (by simp only [sp, mid]; rw [if_pos hmid])
            have E2 : Hid (tL (beS 3 a) a = (sp a b (k + 1)).2) := Lib.hid (by simp only [sp, mid]; rw [if_pos hmid])
            have hok := mid_ok (a := a) (b := b) (k := k) (p := (2, 0)) ha (chk20 ha)
            unfold mid at hok
            rw [if_pos hmid] at hok
            simp only at hok
            clear hk0 hmid
            go_wp2_with fail
            refine (begin_any g _ _ a 1 _ hmk (.inl rfl) ⟨by omega, by omega⟩).mono ?_
            rintro _ w2 ⟨rfl, hm2, ht2⟩
            go_wp2_with fail
            refine (begin_any g _ _ a 3 _ hm2 (.inr rfl) ⟨by omega, by omega⟩).mono ?_
            rintro _ w3 ⟨rfl, hm3, ht3⟩
            go_wp2_with fail
            refine (run_one g _ _ _ _ hm3 hok).mono ?_
            rintro _ w4 ⟨rfl, hm4, ht4⟩
            obtain ⟨⟨h0, h1, h2⟩, f0, f1, f2⟩ := id hm4
            have hown4 : Mine w1.heap.size w4 u7 (sts a b k) := hown.turn (g := g) (by (repeat (first | exact Turn.refl _ _ | apply Turn.set | apply Turn.alloc | apply Turn.drew | apply Turn.drewN | refine Turn.trans ?_ (by assumption) | refine Turn.below ?_ (by assumption) (by rfl) | refine Turn.setNew ?_ _ _ (by first | exact Nat.le_refl _ | (show _ ≤ _; simp; done) | (show _ ≤ _; simp; omega))))) hg1
            have hsz4 : w1.heap.size ≤ w4.heap.size := (show Turn g w1 w4 by (repeat (first | exact Turn.refl _ _ | apply Turn.set | apply Turn.alloc | apply Turn.drew | apply Turn.drewN | refine Turn.trans ?_ (by assumption) | refine Turn.below ?_ (by assumption) (by rfl) | refine Turn.setNew ?_ _ _ (by first | exact Nat.le_refl _ | (show _ ≤ _; simp; done) | (show _ ≤ _; simp; omega))))).size
            go_wp2_with (first | (at_builtin; refine push_intB rfl _ _ (by rfl) (w1.heap.size) _ _ _ (by rfl) (by rfl) (by first | rfl | simp) (hown4) (hsz4) (by first | omega | (simp only [List.length_take]; omega)) ?_; intro v5 w5 hown0 hb5; have hown5 := Lib.hid hown0; clear hown0))
            exact ⟨⟨k + 1, by omega, by go_num, by rw [if_neg (by omega), if_neg (by omega)]; exact (hm4.cast E1.out E2.out).below hb5 hg1, by rw [sts, ← E1.out]; exact hown5.out, (show Turn g w1 w4 by (repeat (first | exact Turn.refl _ _ | apply Turn.set | apply Turn.alloc | apply Turn.drew | apply Turn.drewN | refine Turn.trans ?_ (by assumption) | refine Turn.below ?_ (by assumption) (by rfl) | refine Turn.setNew ?_ _ _ (by first | exact Nat.le_refl _ | (show _ ≤ _; simp; done) | (show _ ≤ _; simp; omega))))).belowB hb5 (Nat.le_refl _)⟩, by simp [intOf]; omega⟩
          · have hkm : ((k : Int) == (a : Int) + (b : Int)) = false := by simp; omega
            have E1 : Hid (tS (beS 1 a) a = (sp a b (k + 1)).1) := Lib.hid (by simp only [sp, mid]; rw [if_neg hmid, hk0]; rfl)
            have E2 : Hid (tL (beS 1 a) a = (sp a b (k + 1)).2) := Lib.hid (by simp only [sp, mid]; rw [if_neg hmid, hk0]; rfl)
            have hok := sp_ok a b ha 0
            simp only [sp] at hok
            clear hk0 hmid
            go_wp2_with fail
            refine (begin_any g _ _ a 1 _ hmk (.inl rfl) ⟨by omega, by omega⟩).mono ?_
            rintro _ w3 ⟨rfl, hm3, ht3⟩
            go_wp2_with fail
            refine (run_one g _ _ _ _ hm3 hok).mono ?_
            rintro _ w4 ⟨rfl, hm4, ht4⟩
            obtain ⟨⟨h0, h1, h2⟩, f0, f1, f2⟩ := id hm4
            have hown4 : Mine w1.heap.size w4 u7 (sts a b k) := hown.turn (g := g) (by (repeat (first | exact Turn.refl _ _ | apply Turn.set | apply Turn.alloc | apply Turn.drew | apply Turn.drewN | refine Turn.trans ?_ (by assumption) | refine Turn.below ?_ (by assumption) (by rfl) | refine Turn.setNew ?_ _ _ (by first | exact Nat.le_refl _ | (show _ ≤ _; simp; done) | (show _ ≤ _; simp; omega))))) hg1
            have hsz4 : w1.heap.size ≤ w4.heap.size := (show Turn g w1 w4 by (repeat (first | exact Turn.refl _ _ | apply Turn.set | apply Turn.alloc | apply Turn.drew | apply Turn.drewN | refine Turn.trans ?_ (by assumption) | refine Turn.below ?_ (by assumption) (by rfl) | refine Turn.setNew ?_ _ _ (by first | exact Nat.le_refl _ | (show _ ≤ _; simp; done) | (show _ ≤ _; simp; omega))))).size
            go_wp2_with (first | (at_builtin; refine push_intB rfl _ _ (by rfl) (w1.heap.size) _ _ _ (by rfl) (by rfl) (by first | rfl | simp) (hown4) (hsz4) (by first | omega | (simp only [List.length_take]; omega)) ?_; intro v5 w5 hown0 hb5; have hown5 := Lib.hid hown0; clear hown0))
            exact ⟨⟨k + 1, by omega, by go_num, by rw [if_neg (by omega), if_neg (by omega)]; exact (hm4.cast E1.out E2.out).below hb5 hg1, by rw [sts, ← E1.out]; exact hown5.out, (show Turn g w1 w4 by (repeat (first | exact Turn.refl _ _ | apply Turn.set | apply Turn.alloc | apply Turn.drew | apply Turn.drewN | refine Turn.trans ?_ (by assumption) | refine Turn.below ?_ (by assumption) (by rfl) | refine Turn.setNew ?_ _ _ (by first | exact Nat.le_refl _ | (show _ ≤ _; simp; done) | (show _ ≤ _; simp; omega))))).belowB hb5 (Nat.le_refl _)⟩, by simp [intOf]; omega⟩
        · rw [if_neg hk0, if_neg hk0] at hmk
          have hkb : ((k : Int) == 0) = false := by simp [hk0]
          by_cases hmid : k = a + b
          · have hkm : ((k : Int) == (a : Int) + (b : Int)) = true := by simp [hmid]
            have E1 : Hid (tS (beS 3 a) a = (sp a b (k + 1)).1) := Lib.hid (by simp only [sp, mid]; rw [if_pos hmid])
            have E2 : Hid (tL (beS 3 a) a = (sp a b (k + 1)).2) := Lib.hid (by simp only [sp, mid]; rw [if_pos hmid])
            have hok := mid_ok (a := a) (b := b) (k := k) (p := (2, 0)) ha (chk20 ha)
            unfold mid at hok
            rw [if_pos hmid] at hok
            simp only at hok
            clear hk0 hmid
            go_wp2_with fail
            refine (begin_any g _ _ a 3 _ hmk (.inr rfl) ⟨by omega, by omega⟩).mono ?_
            rintro _ w3 ⟨rfl, hm3, ht3⟩
            go_wp2_with fail
            refine (run_one g _ _ _ _ hm3 hok).mono ?_
            rintro _ w4 ⟨rfl, hm4, ht4⟩
            obtain ⟨⟨h0, h1, h2⟩, f0, f1, f2⟩ := id hm4
            have hown4 : Mine w1.heap.size w4 u7 (sts a b k) := hown.turn (g := g) (by (repeat (first | exact Turn.refl _ _ | apply Turn.set | apply Turn.alloc | apply Turn.drew | apply Turn.drewN | refine Turn.trans ?_ (by assumption) | refine Turn.below ?_ (by assumption) (by rfl) | refine Turn.setNew ?_ _ _ (by first | exact Nat.le_refl _ | (show _ ≤ _; simp; done) | (show _ ≤ _; simp; omega))))) hg1
            have hsz4 : w1.heap.size ≤ w4.heap.size := (show Turn g w1 w4 by (repeat (first | exact Turn.refl _ _ | apply Turn.set | apply Turn.alloc | apply Turn.drew | apply Turn.drewN | refine Turn.trans ?_ (by assumption) | refine Turn.below ?_ (by assumption) (by rfl) | refine Turn.setNew ?_ _ _ (by first | exact Nat.le_refl _ | (show _ ≤ _; simp; done) | (show _ ≤ _; simp; omega))))).size
            go_wp2_with (first | (at_builtin; refine push_intB rfl _ _ (by rfl) (w1.heap.size) _ _ _ (by rfl) (by rfl) (by first | rfl | simp) (hown4) (hsz4) (by first | omega | (simp only [List.length_take]; omega)) ?_; intro v5 w5 hown0 hb5; have hown5 := Lib.hid hown0; clear hown0))
            exact ⟨⟨k + 1, by omega, by go_num, by rw [if_neg (by omega), if_neg (by omega)]; exact (hm4.cast E1.out E2.out).below hb5 hg1, by rw [sts, ← E1.out]; exact hown5.out, (show Turn g w1 w4 by (repeat (first | exact Turn.refl _ _ | apply Turn.set | apply Turn.alloc | apply Turn.drew | apply Turn.drewN | refine Turn.trans ?_ (by assumption) | refine Turn.below ?_ (by assumption) (by rfl) | refine Turn.setNew ?_ _ _ (by first | exact Nat.le_refl _ | (show _ ≤ _; simp; done) | (show _ ≤ _; simp; omega))))).belowB hb5 (Nat.le_refl _)⟩, by simp [intOf]; omega⟩
          · have hkm : ((k : Int) == (a : Int) + (b : Int)) = false := by simp; omega
            have E1 : Hid (tS (sp a b k).1 (sp a b k).2 = (sp a b (k + 1)).1) := Lib.hid (by simp only [sp, mid]; rw [if_neg hmid])
            have E2 : Hid (tL (sp a b k).1 (sp a b k).2 = (sp a b (k + 1)).2) := Lib.hid (by simp only [sp, mid]; rw [if_neg hmid])
            have hok := sp_ok a b ha k
            have hm3 := hmk
            clear hk0 hmid
            go_wp2_with fail
            refine (run_one g _ _ _ _ hm3 hok).mono ?_
            rintro _ w4 ⟨rfl, hm4, ht4⟩
            obtain ⟨⟨h0, h1, h2⟩, f0, f1, f2⟩ := id hm4
            have hown4 : Mine w1.heap.size w4 u7 (sts a b k) := hown.turn (g := g) (by (repeat (first | exact Turn.refl _ _ | apply Turn.set | apply Turn.alloc | apply Turn.drew | apply Turn.drewN | refine Turn.trans ?_ (by assumption) | refine Turn.below ?_ (by assumption) (by rfl) | refine Turn.setNew ?_ _ _ (by first | exact Nat.le_refl _ | (show _ ≤ _; simp; done) | (show _ ≤ _; simp; omega))))) hg1
            have hsz4 : w1.heap.size ≤ w4.heap.size := (show Turn g w1 w4 by (repeat (first | exact Turn.refl _ _ | apply Turn.set | apply Turn.alloc | apply Turn.drew | apply Turn.drewN | refine Turn.trans ?_ (by assumption) | refine Turn.below ?_ (by assumption) (by rfl) | refine Turn.setNew ?_ _ _ (by first | exact Nat.le_refl _ | (show _ ≤ _; simp; done) | (show _ ≤ _; simp; omega))))).size
            go_wp2_with (first | (at_builtin; refine push_intB rfl _ _ (by rfl) (w1.heap.size) _ _ _ (by rfl) (by rfl) (by first | rfl | simp) (hown4) (hsz4) (by first | omega | (simp only [List.length_take]; omega)) ?_; intro v5 w5 hown0 hb5; have hown5 := Lib.hid hown0; clear hown0))
            exact ⟨⟨k + 1, by omega, by go_num, by rw [if_neg (by omega), if_neg (by omega)]; exact (hm4.cast E1.out E2.out).below hb5 hg1, by rw [sts, ← E1.out]; exact hown5.out, (show Turn g w1 w4 by (repeat (first | exact Turn.refl _ _ | apply Turn.set | apply Turn.alloc | apply Turn.drew | apply Turn.drewN | refine Turn.trans ?_ (by assumption) | refine Turn.below ?_ (by assumption) (by rfl) | refine Turn.setNew ?_ _ _ (by first | exact Nat.le_refl _ | (show _ ≤ _; simp; done) | (show _ ≤ _; simp; omega))))).belowB hb5 (Nat.le_refl _)⟩, by simp [intOf]; omega⟩
      · have hkm : k = 2 * a + b := by omega
        subst hkm
        go_wp2
        go_ret2
        have hbw2 : Below w.heap.size w wr := keep_turn htr hb1 hg0
        exact outMine hown hbw2
end Go.Proofs.Ytmlalncohkingaa
