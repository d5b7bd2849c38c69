/- Layer 16: a list of orders, one tick behind each. -/
import Derived.Test.YtpaojoahbmlolaaOgE
namespace Go.Proofs.Ytpaojoahbmlolaa
open Go Go.RowKit
set_option linter.unusedVariables false
set_option linter.unusedSimpArgs false
def Ords (xs : List Int) : Prop := ∀ x ∈ xs, 0 ≤ x ∧ x ≤ 4
theorem el_ord {xs : List Int} (h : Ords xs) (z : Int) : 0 ≤ el xs z ∧ el xs z ≤ 4 := by
  unfold el
  by_cases hz : z.toNat < xs.length
  · rw [List.getD_eq_getElem?_getD, List.getElem?_eq_getElem hz]
    exact h _ (List.getElem_mem hz)
  · rw [List.getD_eq_getElem?_getD, List.getElem?_eq_none (by omega)]
    exact ⟨by decide, by decide⟩
theorem swA_go {a w y : Int} {xs : List Int} (ho : Ords xs) (hx : xs.length ≤ 1000) : ∀ (k : Nat) {i : Nat}, i + k = xs.length → swA_f a w y xs (k + 1) (i : Int) = some (2, (xs.length : Int))
  | 0, i, hi => by
    rw [swA_fs, bif_dT (by omega), bif_dF (by omega), show (i : Int) = (xs.length : Int) by omega]
  | k + 1, i, hi => by
    have he := el_ord ho (i : Int)
    rw [swA_fs, bif_dT (by omega), bif_dT (by omega), bif_dT (by omega), decide_eq_true (show el xs (i : Int) < 5 by omega), Bool.not_true, cond_false, w8 (by omega), show (i : Int) + 1 = ((i + 1 : Nat) : Int) by omega]
    exact swA_go ho hx k (by omega)
/-- place, way, and how often open and closed, behind the orders -/
noncomputable def swS (w : Int) : List Int → Int × Int × Int × Int → Int × Int × Int × Int
  | [], s => s
  | o :: l, (a, y, u, c) => swS w l (a + obV a w y o, tkY a w (obV a w y o), (if tkB a w (obV a w y o) = 1 then u + 1 else u), (if tkB a w (obV a w y o) = -1 then c + 1 else c))
theorem swB_go {a w y z : Int} {xs : List Int} (ho : Ords xs) (hx : xs.length ≤ 1000) : ∀ (k : Nat) {i : Nat} {y3 y4 y5 y6 : Int}, i + k = xs.length → ckV y5 w y6 = 0 → 0 ≤ y3 → y3 ≤ i → 0 ≤ y4 → y4 ≤ i →
    swB_f a w y xs z (k + 1) (i : Int) y5 y6 y3 y4 y5 y6 = some (0, ((xs.length : Int), (swS w (xs.drop i) (y5, y6, y3, y4)).1, (swS w (xs.drop i) (y5, y6, y3, y4)).2.1, (swS w (xs.drop i) (y5, y6, y3, y4)).2.2.1, (swS w (xs.drop i) (y5, y6, y3, y4)).2.2.2, (swS w (xs.drop i) (y5, y6, y3, y4)).1, (swS w (xs.drop i) (y5, y6, y3, y4)).2.1))
  | 0, i, y3, y4, y5, y6, hi, hc, h1, h2, h3, h4 => by
    have he := el_ord ho (i : Int)
    rw [swB_fs, bif_dT ⟨by omega, by omega, hc, h1, h2, h3, h4, .inl he, ob_ok hc⟩, bif_dF (by omega), List.drop_eq_nil_of_le (by omega), show (i : Int) = (xs.length : Int) by omega]
    rfl
  | k + 1, i, y3, y4, y5, y6, hi, hc, h1, h2, h3, h4 => by
    have he := el_ord ho (i : Int)
    have ho2 := ob_ok (o := el xs (i : Int)) hc
    have ht := tk_ok ho2
    have hd := el_drop (l := xs) (i := i) (by omega)
    rw [swB_fs, bif_dT ⟨by omega, by omega, hc, h1, h2, h3, h4, .inl he, ho2⟩, bif_dT (by omega), w8 (v := (i : Int) + 1) (by omega), w8 (v := y3 + 1) (by omega), w8 (v := y4 + 1) (by omega), hd, show (i : Int) + 1 = ((i + 1 : Nat) : Int) by omega]
    simp only [swS, bq, Bool.cond_decide]
    by_cases b1 : tkB y5 w (obV y5 w y6 (el xs (i : Int))) = 1
    · rw [if_pos b1, if_pos b1, if_neg (by omega)]
      exact swB_go ho hx k (by omega) ht (by omega) (by omega) (by omega) (by omega)
    · by_cases b2 : tkB y5 w (obV y5 w y6 (el xs (i : Int))) = -1
      · rw [if_neg b1, if_pos b2, if_neg b1, if_pos b2]
        exact swB_go ho hx k (by omega) ht (by omega) (by omega) (by omega) (by omega)
      · rw [if_neg b1, if_neg b2, if_neg b1, if_neg b2]
        exact swB_go ho hx k (by omega) ht (by omega) (by omega) (by omega) (by omega)
theorem swing_p {a w y : Int} {xs : List Int} (hc : ckV a w y = 0) (ho : Ords xs) (hx : xs.length ≤ 1000) : KnownR Try.prog [] 23 [.val (.agg #[.int .i64 a, .int .i64 w, .int .i64 y]), .list (rowA gI xs) xs.length] (.tuple #[.agg #[.int .i64 (swS w xs (a, y, 0, 0)).1, .int .i64 w, .int .i64 (swS w xs (a, y, 0, 0)).2.1], .int .i64 (swS w xs (a, y, 0, 0)).2.2.1, .int .i64 (swS w xs (a, y, 0, 0)).2.2.2, .int .i64 0]) [] := by
  have hA := swA_ok a w y xs hc hx _ _ _ (swA_go (a := a) (w := w) (y := y) ho hx xs.length (i := 0) (by omega))
  have hB := swB_ok a w y xs _ hc hx (by simp [hc]) (by simp; omega) hA _ _ _ (swB_go (a := a) (w := w) (y := y) (z := (xs.length : Int)) ho hx xs.length (i := 0) (y3 := 0) (y4 := 0) (y5 := a) (y6 := y) (by omega) hc (by omega) (by omega) (by omega) (by omega))
  have r := swK a w y xs _ _ _ _ _ _ _ _ hc hx (by simp [hc]) (by simp; omega) hA hB
  rw [show ∀ z z0 z1 z2 z3 z4 z5 z6, swK_c5 a w y xs z z0 z1 z2 z3 z4 z5 z6 = 0 from fun _ _ _ _ _ _ _ _ => hc] at r
  exact r
theorem swS_ok {w : Int} : ∀ {l : List Int} {a y u c : Int}, ckV a w y = 0 → ckV (swS w l (a, y, u, c)).1 w (swS w l (a, y, u, c)).2.1 = 0
  | [], a, y, u, c, h => h
  | o :: l, a, y, u, c, h => by
    simp only [swS]
    exact swS_ok (tk_ok (ob_ok h))
end Go.Proofs.Ytpaojoahbmlolaa
