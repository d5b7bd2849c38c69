import Derived.Test.YtaogbagopdlkmaaOgM
import Derived.Test.YtaogbagopdlkmaaPD
set_option linter.unusedVariables false
namespace Go.Proofs.Ytaogbagopdlkmaa
open Go Go.RowKit
theorem tkD_eq (m d t s c a b p q x : Int) : ∀ (fu : Nat) (y0 : List Prt) (y1 y2 : Int), tkD_f m d t s c a b p q fu y0 y1 y2 = ofD_f m d t s c x fu y0 y1 y2 := by
 intro fu
 induction fu with
 | zero => intros; rfl
 | succ n ih => intro y0 y1 y2; rw [tkD_f.eq_2, ofD_f.eq_2, ih]
def fits (x : Prt) (b p q : Int) : Bool := x.1 == b && (x.2.1 == p && (decide (0 ≤ q) && decide (q < x.2.2.2)))
def tkOf (s a q : Int) (x : Prt) : Int := a * s + x.2.2.1 + q
theorem tkS_go {m d t s c a b p q : Int} {N : Nat} (z1 : Int) (hm : 1 ≤ m ∧ m ≤ 200000) (hd : 1 ≤ d ∧ d ≤ 200000) (hN2 : N ≤ 16) (hs : m + N * (m + d) + m + d = s) (ha : 0 ≤ a ∧ a * s ≤ 1099511627776) : ∀ (k i : Nat), i + k = 2 * N + 3 →
  ∃ kk z, tkS_f m d t s c a b p q (pts m d N (2 * N + 1)).reverse z1 (m + N * (m + d)) (k + 1) (i : Int) = some (kk, z) ∧
   ((kk = 0 ∧ ∃ j : Nat, z = (j : Int) ∧ j < 2 * N + 3 ∧ ((ptL m d N).drop i).find? (fun x => fits x b p q && decide (tkOf s a q x ≤ 1099511627776)) = some (prt m d N j)) ∨ (kk = 1 ∧ ((ptL m d N).drop i).find? (fun x => fits x b p q && decide (tkOf s a q x ≤ 1099511627776)) = none)) := by
 have hb := nmul (n := N) (t := m + d) (by omega) (by omega) (by omega)
 have w1 := w8n (n := m + N * (m + d) + m) (by omega) (by omega)
 have w2 := w8n (n := m + N * (m + d) + m + d) (by omega) (by omega)
 intro k
 induction k with
 | zero =>
  intro i h
  refine ⟨1, (i : Int), ?_, .inr ⟨rfl, by rw [List.drop_of_length_le (by rw [ptL_len]; omega)]; rfl⟩⟩
  rw [tkS_fs]
  simp only [List.length_reverse, pts_len]
  rw [bif_dT (by omega), bif_dF (by omega)]
 | succ k ih =>
  intro i h
  have hi : i < 2 * N + 3 := by omega
  obtain ⟨kk, z, h1, h2⟩ := ih (i + 1) (by omega)
  have hnext : tkS_f m d t s c a b p q (pts m d N (2 * N + 1)).reverse z1 (m + N * (m + d)) (k + 1) (IntKind.i64.wrap ((i : Int) + 1)) = some (kk, z) := by
   rw [w8n (n := (i : Int) + 1) (by omega) (by omega)]; exact h1
  have hdrop : (ptL m d N).drop i = prt m d N i :: (ptL m d N).drop (i + 1) := by
   rw [el_drop (l := ptL m d N) (i := i) (by rw [ptL_len]; exact hi), ptL_el m d N i hi]
  have hskip : (fits (prt m d N i) b p q && decide (tkOf s a q (prt m d N i) ≤ 1099511627776)) = false → ((ptL m d N).drop i).find? (fun x => fits x b p q && decide (tkOf s a q x ≤ 1099511627776)) = ((ptL m d N).drop (i + 1)).find? (fun x => fits x b p q && decide (tkOf s a q x ≤ 1099511627776)) := fun e => by
   rw [hdrop, List.find?_cons, e]
  rw [tkS_fs, w1, w2, ptL_eq, ptL_el m d N i hi, hs, hnext]
  simp only [List.length_reverse, pts_len]
  rw [bif_dT (by omega), bif_dT (by omega)]
  generalize hx : prt m d N i = x at *
  obtain ⟨x1, x2, x3, x4⟩ := x
  have hx3 : 0 ≤ x3 ∧ x3 ≤ 8000000 := by
   have e := prt_fst m d N i
   rw [hx] at e
   have e : x3 = fst m d i := e
   have := fst_mono hm.1 hd.1 (a := 0) (b := i) (by omega)
   have g := fst_mono hm.1 hd.1 (a := i) (b := 2 * (N + 1) + 1) (by omega)
   rw [fst_odd, nsucc] at g
   have f0 : fst m d 0 = 0 := by unfold fst; rw [if_pos rfl]
   rw [f0] at this
   omega
  have hx4 : x4 ≤ 200000 := by
   unfold prt at hx
   split at hx
   ·injection hx with _ hx; injection hx with _ hx; injection hx with _ hx; omega
   ·split at hx <;> split at hx <;> (injection hx with _ hx; injection hx with _ hx; injection hx with _ hx; omega)
  have hA0 : 0 ≤ a * s := Int.mul_nonneg ha.1 (by omega)
  dsimp only
  by_cases c1 : x1 = b
  ·rw [show (x1 != b) = false by simpa using c1, cond_false]
   by_cases c2 : x2 = p
   ·rw [show (x2 != p) = false by simpa using c2, cond_false]
    by_cases c3 : q < 0
    ·rw [bif_dT c3]
     refine ⟨kk, z, rfl, ?_⟩
     rw [hskip (by simp [fits, show ¬ 0 ≤ q by omega])]
     exact h2
    ·rw [bif_dF c3]
     by_cases c4 : q ≥ x4
     ·rw [bif_dT c4]
      refine ⟨kk, z, rfl, ?_⟩
      rw [hskip (by simp [fits, show ¬ q < x4 by omega])]
      exact h2
     ·rw [bif_dF c4, w8n (n := a * s) (by omega) (by omega), w8n (n := a * s + x3) (by omega) (by omega), w8n (n := a * s + x3 + q) (by omega) (by omega), bif_dT (show a * s + x3 + q ≥ 0 by omega)]
      by_cases c5 : a * s + x3 + q ≤ 1099511627776
      ·rw [bif_dT c5]
       refine ⟨0, (i : Int), rfl, .inl ⟨rfl, i, rfl, hi, ?_⟩⟩
       rw [hdrop, List.find?_cons, hx]
       have : (fits (x1, x2, x3, x4) b p q && decide (tkOf s a q (x1, x2, x3, x4) ≤ 1099511627776)) = true := by
        simp [fits, tkOf, c1, c2, c5, show 0 ≤ q by omega, show q < x4 by omega]
       rw [this]
      ·rw [bif_dF c5]
       refine ⟨kk, z, rfl, ?_⟩
       rw [hskip (by simp [tkOf, c5])]
       exact h2
   ·rw [show (x2 != p) = true by simpa using c2, cond_true]
    refine ⟨kk, z, rfl, ?_⟩
    rw [hskip (by simp [fits, c2])]
    exact h2
  ·rw [show (x1 != b) = true by simpa using c1, cond_true]
   refine ⟨kk, z, rfl, ?_⟩
   rw [hskip (by simp [fits, c1])]
   exact h2
end Go.Proofs.Ytaogbagopdlkmaa
