import Derived.Test.YtcjlidciniiofaaSA
import Derived.Test.YtcjlidciniiofaaLater
import Derived.Test.YtcjlidciniiofaaH
import Derived.Test.YtcjlidciniiofaaTurn
set_option linter.unusedVariables false
namespace Go.Proofs.Ytcjlidciniiofaa
open Go.RowKit
def Out2 (a b : Int) (w : World) (e : Ending) (w' : World) : Prop := e = .returned (.tuple #[.int .i64 a, .int .i64 b]) ∧ Below w.heap.size w w'
theorem out2 {a b a' b' : Int} {w w' : World} (h1 : a = a') (h2 : b = b') (hb : Below w.heap.size w w') : Out2 a' b' w (.returned (.tuple #[.int .i64 a, .int .i64 b])) w' := by
 subst h1; subst h2; exact ⟨rfl, hb⟩
def CkRel (gs : List Int) (n : Nat) (w : World) (v : Value) (wr : World) : Prop :=
 ∃ k : Nat, k ≤ n ∧ v = .int .i64 k ∧ Below w.heap.size w wr ∧ ∀ i, i < k → good (nth gs i)
theorem good_and (x : Int) : good x ↔ (1 ≤ x ∧ x ≤ 1000) := Iff.rfl
set_option maxHeartbeats 4000000 in
theorem pCheck (gs : List Int) (A : Option Addr) (n cap : Nat) (w : World) (hn : gs.length = n) (hm : n ≤ 1000) (hA : Ints w A gs) :
  Calls Try.prog 41 #[.slice A n cap] w (Out2 (ckE gs) (ckI gs) w) := by
 have HN := Lib.hid hn
 by_cases hlen : n < 1 ∨ 63 < n
 ·have hck := Lib.hid (ck_long (gs := gs) (by omega))
  clear hn
  rcases (show n < 1 ∨ (1 ≤ n ∧ 63 < n) by omega) with h1 | ⟨h1, h2⟩
  all_goals
   clear hlen
   go_enter Try.func41, Try.ntmps41
   go_wp2
   go_ret2
   exact out2 hck.out.1.symm hck.out.2.symm (by repeat (first | exact Below.refl _ _ | apply keep_alloc | apply keep_drew | apply keep_drewN | refine keep_step (by assumption) ?_ (by rfl) | refine keep_set ?_ _ _ (by first | exact Nat.le_refl _ | (show _ ≤ _; simp; done) | (show _ ≤ _; simp; omega))))
 ·clear hn
  have hl1 : 1 ≤ n := by omega
  have hl2 : n ≤ 63 := by omega
  clear hlen hm
  go_enter Try.func41, Try.ntmps41
  go_wp2
  go_loopw [16] (CkRel gs n w) (fun v _ => n - (intOf v).toNat)
  case atStart => exact ⟨0, by omega, rfl, (by repeat (first | exact Below.refl _ _ | apply keep_alloc | apply keep_drew | apply keep_drewN | refine keep_step (by assumption) ?_ (by rfl) | refine keep_set ?_ _ _ (by first | exact Nat.le_refl _ | (show _ ≤ _; simp; done) | (show _ ≤ _; simp; omega)))), fun i h => absurd h (by omega)⟩
  case round =>
   obtain ⟨k, hk, rfl, hbr, hall⟩ := hrel
   have HALL := Lib.hid hall
   clear hall
   by_cases hlt : k < n
   ·obtain ⟨b, o, rfl, hc⟩ := (hA.step hbr).cell (k := k) (by rw [HN.out]; exact hlt)
    have c1 := hc k (by rw [HN.out]; exact hlt)
    clear hc
    by_cases hg : good (nth gs k)
    ·have HG := Lib.hid hg
     obtain ⟨g1, g2⟩ := (good_and _).1 hg
     clear hg
     go_wp2
     exact ⟨⟨k + 1, by omega, by go_num, (by repeat (first | exact Below.refl _ _ | apply keep_alloc | apply keep_drew | apply keep_drewN | refine keep_step (by assumption) ?_ (by rfl) | refine keep_set ?_ _ _ (by first | exact Nat.le_refl _ | (show _ ≤ _; simp; done) | (show _ ≤ _; simp; omega)))), fun i hi => by
      by_cases e : i = k
      ·rw [e]; exact HG.out
      ·exact HALL.out i (by omega)⟩, by simp [intOf]; omega⟩
    ·have HG := Lib.hid hg
     have hx : nth gs k < 1 ∨ (1 ≤ nth gs k ∧ 1000 < nth gs k) := by
      rw [good_and] at hg; omega
     clear hg
     have hck := Lib.hid (ck_bad (gs := gs) (by rw [HN.out]; omega) (by rw [HN.out]; omega) (by rw [HN.out]; omega) HALL.out HG.out)
     rcases hx with hx | ⟨hx, hx2⟩
     all_goals
      go_wp2
      go_ret2
      exact out2 hck.out.1.symm hck.out.2.symm (by repeat (first | exact Below.refl _ _ | apply keep_alloc | apply keep_drew | apply keep_drewN | refine keep_step (by assumption) ?_ (by rfl) | refine keep_set ?_ _ _ (by first | exact Nat.le_refl _ | (show _ ≤ _; simp; done) | (show _ ≤ _; simp; omega))))
   ·have hkn : k = n := by omega
    subst hkn
    have hck := Lib.hid (ck_fine (gs := gs) ⟨by rw [HN.out]; omega, by rw [HN.out]; omega, by rw [HN.out]; exact HALL.out⟩)
    go_wp2
    go_ret2
    exact out2 hck.out.1.symm hck.out.2.symm (by repeat (first | exact Below.refl _ _ | apply keep_alloc | apply keep_drew | apply keep_drewN | refine keep_step (by assumption) ?_ (by rfl) | refine keep_set ?_ _ _ (by first | exact Nat.le_refl _ | (show _ ≤ _; simp; done) | (show _ ≤ _; simp; omega))))
end Go.Proofs.Ytcjlidciniiofaa
