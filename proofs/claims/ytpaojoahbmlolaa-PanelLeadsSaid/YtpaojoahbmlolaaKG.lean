/- Layer 16: any list of orders, in the program and in the reference. -/
import Derived.Test.YtpaojoahbmlolaaKC
import Derived.Test.YtpaojoahbmlolaaOgJ
namespace Go.Proofs.Ytpaojoahbmlolaa
open Go Go.RowKit
set_option linter.unusedVariables false
set_option linter.unusedSimpArgs false
theorem ords_cons {x : Int} {l : List Int} : Ords (x :: l) ↔ (0 ≤ x ∧ x ≤ 4) ∧ Ords l := by
  unfold Ords; simp
theorem swA_bad {a w y : Int} {xs : List Int} (hx : xs.length ≤ 1000) : ∀ (k : Nat) {i : Nat}, i + k = xs.length → ¬ Ords (xs.drop i) → ∃ kk z, kk ≤ 1 ∧ swA_f a w y xs (k + 1) (i : Int) = some (kk, z)
  | 0, i, hi, hb => by
    exact absurd (by rw [List.drop_eq_nil_of_le (by omega)]; intro x hx; cases hx) hb
  | k + 1, i, hi, hb => by
    rw [el_drop (l := xs) (i := i) (by omega), ords_cons] at hb
    rw [swA_fs, bif_dT (by omega), bif_dT (by omega)]
    by_cases c0 : el xs (i : Int) ≥ 0
    · rw [bif_dT c0]
      by_cases c1 : el xs (i : Int) < 5
      · rw [decide_eq_true c1, Bool.not_true, cond_false, w8 (by omega), show (i : Int) + 1 = ((i + 1 : Nat) : Int) by omega]
        exact swA_bad hx k (by omega) (fun h => hb ⟨⟨c0, by omega⟩, h⟩)
      · rw [decide_eq_false c1, Bool.not_false, cond_true]
        exact ⟨0, _, by omega, rfl⟩
    · rw [bif_dF c0]
      exact ⟨1, _, by omega, rfl⟩
theorem rsA_go {a w y : Int} {xs : List Int} (ho : Ords xs) (hx : xs.length ≤ 1000) : ∀ (k : Nat) {i : Nat} {y0 y1 y3 y4 : Int}, i + k = xs.length → ckV y3 w y4 = 0 → 0 ≤ y0 → y0 ≤ i → 0 ≤ y1 → y1 ≤ i →
    rsA_f a w y xs (k + 1) y0 y1 (i : Int) y3 y4 = some (1, ((swS w (xs.drop i) (y3, y4, y0, y1)).2.2.1, (swS w (xs.drop i) (y3, y4, y0, y1)).2.2.2, (xs.length : Int), (swS w (xs.drop i) (y3, y4, y0, y1)).1, (swS w (xs.drop i) (y3, y4, y0, y1)).2.1))
  | 0, i, y0, y1, y3, y4, hi, hc, h1, h2, h3, h4 => by
    rw [rsA_fs, bif_dT ⟨by omega, by omega, hc, h1, h2, h3, h4, ob_ok hc⟩, bif_dF (by omega), List.drop_eq_nil_of_le (by omega), show (i : Int) = (xs.length : Int) by omega]
    rfl
  | k + 1, i, y0, y1, y3, y4, hi, hc, h1, h2, h3, h4 => by
    have he := el_ord ho (i : Int)
    have ho2 := ob_ok (o := el xs (i : Int)) hc
    have ht := tk_ok ho2
    have hd := el_drop (l := xs) (i := i) (by omega)
    rw [rsA_fs, bif_dT ⟨by omega, by omega, hc, h1, h2, h3, h4, ho2⟩, bif_dT (by omega), bif_dF (by omega), bif_dF (by omega), w8 (v := (i : Int) + 1) (by omega), w8 (v := y0 + 1) (by omega), w8 (v := y1 + 1) (by omega), hd, show (i : Int) + 1 = ((i + 1 : Nat) : Int) by omega]
    simp only [swS, bq, Bool.cond_decide]
    by_cases b1 : tkB y3 w (obV y3 w y4 (el xs (i : Int))) = 1
    · rw [if_pos b1, if_pos b1, if_neg (by omega)]
      exact rsA_go ho hx k (by omega) ht (by omega) (by omega) (by omega) (by omega)
    · by_cases b2 : tkB y3 w (obV y3 w y4 (el xs (i : Int))) = -1
      · rw [if_neg b1, if_pos b2, if_neg b1, if_pos b2]
        exact rsA_go ho hx k (by omega) ht (by omega) (by omega) (by omega) (by omega)
      · rw [if_neg b1, if_neg b2, if_neg b1, if_neg b2]
        exact rsA_go ho hx k (by omega) ht (by omega) (by omega) (by omega) (by omega)
theorem rsA_bad {a w y : Int} {xs : List Int} (hx : xs.length ≤ 1000) : ∀ (k : Nat) {i : Nat} {y0 y1 y3 y4 : Int}, i + k = xs.length → ¬ Ords (xs.drop i) → ckV y3 w y4 = 0 → 0 ≤ y0 → y0 ≤ i → 0 ≤ y1 → y1 ≤ i →
    ∃ z, rsA_f a w y xs (k + 1) y0 y1 (i : Int) y3 y4 = some (0, z)
  | 0, i, y0, y1, y3, y4, hi, hb, hc, h1, h2, h3, h4 => by
    exact absurd (by rw [List.drop_eq_nil_of_le (by omega)]; intro x hx; cases hx) hb
  | k + 1, i, y0, y1, y3, y4, hi, hb, hc, h1, h2, h3, h4 => by
    have ho2 := ob_ok (o := el xs (i : Int)) hc
    have ht := tk_ok ho2
    rw [el_drop (l := xs) (i := i) (by omega), ords_cons] at hb
    rw [rsA_fs, bif_dT ⟨by omega, by omega, hc, h1, h2, h3, h4, ho2⟩, bif_dT (by omega), w8 (v := (i : Int) + 1) (by omega), w8 (v := y0 + 1) (by omega), w8 (v := y1 + 1) (by omega), show (i : Int) + 1 = ((i + 1 : Nat) : Int) by omega]
    by_cases c0 : el xs (i : Int) < 0
    · rw [bif_dT c0]; exact ⟨_, rfl⟩
    · rw [bif_dF c0]
      by_cases c1 : el xs (i : Int) > 4
      · rw [bif_dT c1]; exact ⟨_, rfl⟩
      · rw [bif_dF c1]
        have hb' : ¬ Ords (xs.drop (i + 1)) := fun h => hb ⟨⟨by omega, by omega⟩, h⟩
        simp only [bq, Bool.cond_decide]
        by_cases b1 : tkB y3 w (obV y3 w y4 (el xs (i : Int))) = 1
        · rw [if_pos b1]
          exact rsA_bad hx k (by omega) hb' ht (by omega) (by omega) (by omega) (by omega)
        · by_cases b2 : tkB y3 w (obV y3 w y4 (el xs (i : Int))) = -1
          · rw [if_neg b1, if_pos b2]
            exact rsA_bad hx k (by omega) hb' ht (by omega) (by omega) (by omega) (by omega)
          · rw [if_neg b1, if_neg b2]
            exact rsA_bad hx k (by omega) hb' ht (by omega) (by omega) (by omega) (by omega)
open Classical in
/-- the error of a list of orders -/
noncomputable def sgE (a w y : Int) (xs : List Int) : Int := if ckV a w y = 0 then (if xs.length ≤ 1000 then (if Ords xs then 0 else 11) else 4) else ckV a w y
noncomputable def sgP (a w y : Int) (xs : List Int) : Int := if sgE a w y xs = 0 then (swS w xs (a, y, 0, 0)).1 else 0
noncomputable def sgW (a w y : Int) (xs : List Int) : Int := if sgE a w y xs = 0 then w else 0
noncomputable def sgY (a w y : Int) (xs : List Int) : Int := if sgE a w y xs = 0 then (swS w xs (a, y, 0, 0)).2.1 else 0
noncomputable def sgO (a w y : Int) (xs : List Int) : Int := if sgE a w y xs = 0 then (swS w xs (a, y, 0, 0)).2.2.1 else 0
noncomputable def sgC (a w y : Int) (xs : List Int) : Int := if sgE a w y xs = 0 then (swS w xs (a, y, 0, 0)).2.2.2 else 0
noncomputable def sgV (a w y : Int) (xs : List Int) : Value := .tuple #[.agg #[.int .i64 (sgP a w y xs), .int .i64 (sgW a w y xs), .int .i64 (sgY a w y xs)], .int .i64 (sgO a w y xs), .int .i64 (sgC a w y xs), .int .i64 (sgE a w y xs)]
theorem sg_ok {a w y : Int} {xs : List Int} (hc : ckV a w y = 0) (hx : xs.length ≤ 1000) (ho : Ords xs) : sgV a w y xs = .tuple #[.agg #[.int .i64 (swS w xs (a, y, 0, 0)).1, .int .i64 w, .int .i64 (swS w xs (a, y, 0, 0)).2.1], .int .i64 (swS w xs (a, y, 0, 0)).2.2.1, .int .i64 (swS w xs (a, y, 0, 0)).2.2.2, .int .i64 0] := by
  have e : sgE a w y xs = 0 := by unfold sgE; rw [if_pos hc, if_pos hx, if_pos ho]
  unfold sgV sgP sgW sgY sgO sgC
  rw [e]; rfl
theorem sg_bad {a w y e : Int} {xs : List Int} (h : sgE a w y xs = e) (he : e ≠ 0) : sgV a w y xs = .tuple #[.agg #[.int .i64 0, .int .i64 0, .int .i64 0], .int .i64 0, .int .i64 0, .int .i64 e] := by
  unfold sgV sgP sgW sgY sgO sgC
  rw [h, if_neg he, if_neg he, if_neg he, if_neg he, if_neg he]
theorem swing_pg (a w y : Int) (xs : List Int) : KnownR Try.prog [] 23 [.val (.agg #[.int .i64 a, .int .i64 w, .int .i64 y]), .list (rowA gI xs) xs.length] (sgV a w y xs) [] := by
  by_cases hc : ckV a w y = 0
  · by_cases hx : xs.length ≤ 1000
    · by_cases ho : Ords xs
      · rw [sg_ok hc hx ho]; exact swing_p hc ho hx
      · rw [sg_bad (e := 11) (by unfold sgE; rw [if_pos hc, if_pos hx, if_neg ho]) (by decide)]
        obtain ⟨kk, z, h1, h2⟩ := swA_bad (a := a) (w := w) (y := y) hx xs.length (i := 0) (by omega) (by simpa using ho)
        have hl := swA_ok a w y xs hc hx _ _ _ h2
        rcases (by omega : kk = 0 ∨ kk = 1) with e | e
        · subst e; exact swX a w y xs z hc hx (by simp [hc]) (by simp; omega) hl
        · subst e; exact swY a w y xs z hc hx (by simp [hc]) (by simp; omega) hl
    · rw [sg_bad (e := 4) (by unfold sgE; rw [if_pos hc, if_neg hx]) (by decide)]
      exact swG a w y xs hc (by omega)
  · rw [sg_bad (e := ckV a w y) (by unfold sgE; rw [if_neg hc]) hc]
    exact swE a w y xs hc
theorem swing_rg (a w y : Int) (xs : List Int) : KnownR Try.prog [] 24 [.val (.agg #[.int .i64 a, .int .i64 w, .int .i64 y]), .list (rowA gI xs) xs.length] (sgV a w y xs) [] := by
  by_cases hc : ckV a w y = 0
  · by_cases hx : xs.length ≤ 1000
    · by_cases ho : Ords xs
      · rw [sg_ok hc hx ho]
        have h2 := rsA_go (a := a) (w := w) (y := y) ho hx xs.length (i := 0) (y0 := 0) (y1 := 0) (y3 := a) (y4 := y) (by omega) hc (by omega) (by omega) (by omega) (by omega)
        have hl := rsA_ok a w y xs hc hx _ _ _ h2
        have r := rsK1 a w y xs _ _ _ _ _ hc hx (by simp [hc]) (by simp; omega) (by simp [hc]) hl
        exact r
      · rw [sg_bad (e := 11) (by unfold sgE; rw [if_pos hc, if_pos hx, if_neg ho]) (by decide)]
        obtain ⟨z, h2⟩ := rsA_bad (a := a) (w := w) (y := y) hx xs.length (i := 0) (y0 := 0) (y1 := 0) (y3 := a) (y4 := y) (by omega) (by simpa using ho) hc (by omega) (by omega) (by omega) (by omega)
        have hl := rsA_ok a w y xs hc hx _ _ _ h2
        exact rsK0 a w y xs _ _ _ _ _ hc hx (by simp [hc]) (by simp; omega) (by simp [hc]) hl
    · rw [sg_bad (e := 4) (by unfold sgE; rw [if_pos hc, if_neg hx]) (by decide)]
      exact rsG a w y xs hc (by omega)
  · rw [sg_bad (e := ckV a w y) (by unfold sgE; rw [if_neg hc]) hc]
    exact rsE a w y xs hc
end Go.Proofs.Ytpaojoahbmlolaa
