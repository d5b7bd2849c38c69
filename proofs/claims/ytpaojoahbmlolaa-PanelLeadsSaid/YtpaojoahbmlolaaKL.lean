/- Layer 16: orders lead to their place, and no fewer do. -/
import Derived.Test.YtpaojoahbmlolaaKI
import Derived.Test.YtpaojoahbmlolaaKE
namespace Go.Proofs.Ytpaojoahbmlolaa
open Go Go.RowKit
set_option linter.unusedVariables false
set_option linter.unusedSimpArgs false
theorem sw_up {w : Int} : ∀ (k : Nat) {l : List Int} {a y u c : Int}, ckV a w y = 0 → a + k ≤ w → ∃ y' u' c', ckV (a + k) w y' = 0 ∧ swS w (List.replicate k 1 ++ l) (a, y, u, c) = swS w l (a + k, y', u', c')
  | 0, l, a, y, u, c, h, hk => ⟨y, u, c, by simpa using h, by simp⟩
  | k + 1, l, a, y, u, c, h, hk => by
    have ho : obV a w y 1 = 1 := by unfold obV; rw [if_neg (by decide), if_pos rfl, if_neg (by omega)]
    have ht := tk_ok (ob_ok (o := 1) h)
    rw [ho] at ht
    obtain ⟨y', u', c', h1, h2⟩ := sw_up (w := w) k (l := l) (a := a + 1) (y := tkY a w 1) (u := if tkB a w 1 = 1 then u + 1 else u) (c := if tkB a w 1 = -1 then c + 1 else c) ht (by omega)
    refine ⟨y', u', c', by rw [show a + ((k + 1 : Nat) : Int) = a + 1 + k by omega]; exact h1, ?_⟩
    rw [show a + ((k + 1 : Nat) : Int) = a + 1 + k by omega, ← h2, List.replicate_succ, List.cons_append]
    simp only [swS, ho]
theorem sw_down {w : Int} : ∀ (k : Nat) {l : List Int} {a y u c : Int}, ckV a w y = 0 → 0 ≤ a - k → ∃ y' u' c', ckV (a - k) w y' = 0 ∧ swS w (List.replicate k 2 ++ l) (a, y, u, c) = swS w l (a - k, y', u', c')
  | 0, l, a, y, u, c, h, hk => ⟨y, u, c, by simpa using h, by simp⟩
  | k + 1, l, a, y, u, c, h, hk => by
    have ho : obV a w y 2 = -1 := by unfold obV; rw [if_neg (by decide), if_neg (by decide), if_pos rfl, if_neg (by omega)]
    have ht := tk_ok (ob_ok (o := 2) h)
    rw [ho] at ht
    obtain ⟨y', u', c', h1, h2⟩ := sw_down (w := w) k (l := l) (a := a + -1) (y := tkY a w (-1)) (u := if tkB a w (-1) = 1 then u + 1 else u) (c := if tkB a w (-1) = -1 then c + 1 else c) ht (by omega)
    refine ⟨y', u', c', by rw [show a - ((k + 1 : Nat) : Int) = a + -1 - k by omega]; exact h1, ?_⟩
    rw [show a - ((k + 1 : Nat) : Int) = a + -1 - k by omega, ← h2, List.replicate_succ, List.cons_append]
    simp only [swS, ho]
theorem sw_stay {w : Int} : ∀ (k : Nat) {a y u c : Int}, (swS w (List.replicate k 3) (a, y, u, c)).1 = a
  | 0, a, y, u, c => rfl
  | k + 1, a, y, u, c => by
    have ho : obV a w y 3 = 0 := by unfold obV; rw [if_neg (by decide), if_neg (by decide), if_neg (by decide), if_neg (by decide)]
    rw [List.replicate_succ]
    simp only [swS, ho]
    rw [sw_stay k]; omega
theorem sw_leads {a w y t n : Int} (h : ckV a w y = 0) (ht : 0 ≤ t ∧ t ≤ w) : (swS w (oL a t n) (a, y, 0, 0)).1 = t := by
  have b := ckV_ok.1 h
  unfold oL wayO
  by_cases c : t < a
  · rw [if_pos c]
    have hd : (dst a t : Int) = a - t := by unfold dst; omega
    obtain ⟨y', u', c', h1, h2⟩ := sw_down (w := w) (dst a t) (l := List.replicate (n.toNat - dst a t) 3) (u := 0) (c := 0) h (by omega)
    rw [h2, sw_stay]; omega
  · rw [if_neg c]
    have hd : (dst a t : Int) = t - a := by unfold dst; omega
    obtain ⟨y', u', c', h1, h2⟩ := sw_up (w := w) (dst a t) (l := List.replicate (n.toNat - dst a t) 3) (u := 0) (c := 0) h (by omega)
    rw [h2, sw_stay]; omega
theorem oL_ord {a t n : Int} : Ords (oL a t n) := by
  intro x hx
  unfold oL at hx
  rcases List.mem_append.1 hx with h | h
  · rw [(List.mem_replicate.1 h).2]; unfold wayO; split <;> omega
  · rw [(List.mem_replicate.1 h).2]; omega
theorem olL_ord (a w y t n : Int) : Ords (olL a w y t n) := by
  unfold olL
  split
  · exact oL_ord
  · intro x hx; cases hx
/-- how far -/
def dsI (a t : Int) : Int := (dst a t : Nat)
theorem dsI_is {a t : Int} : dsI a t = if t < a then a - t else t - a := by unfold dsI dst; omega
theorem ob_far {a w y o : Int} (h : ckV a w y = 0) : -1 ≤ obV a w y o ∧ obV a w y o ≤ 1 := by
  have := ckV_ok.1 (ob_ok (o := o) h)
  omega
theorem least_ok {a w y t : Int} (h : ckV a w y = 0) (ht : 0 ≤ t ∧ t ≤ w) : Known Try.prog [] 26 [.agg #[.int .i64 a, .int .i64 w, .int .i64 y], .int .i64 t] (.tuple #[.int .i64 (dsI a t), .int .i64 0]) := by
  have b := ckV_ok.1 h
  have r := pLs a w y t
  have e : pLs_c0 a w y t = dsI a t ∧ pLs_c1 a w y t = 0 := by
    unfold pLs_c0 pLs_c1
    rw [show (ckV a w y != 0) = false by simp [h], cond_false, cond_false, decide_eq_false (by omega), cond_false, cond_false, decide_eq_false (by omega), cond_false, cond_false, mx_b (by omega) (by omega)]
    exact ⟨rfl, rfl⟩
  rw [e.1, e.2] at r
  exact r
end Go.Proofs.Ytpaojoahbmlolaa
