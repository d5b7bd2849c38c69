/- Layer 5: Wipe, of both. -/
import Derived.Test.YtpmcjjpgkoagoaaYB
import Derived.Test.YtpmcjjpgkoagoaaOpD
namespace Go.Proofs.Ytpmcjjpgkoagoaa
open Go Go.RowKit
set_option linter.unusedVariables false
def putAll : List (Int × Int) → List (Int × Option Bool) → List (Int × Option Bool)
  | [], M => M
  | x :: r, M => putAll r (putM M x.2 true)
def delAll : List Int → List (Int × Option Bool) → List (Int × Option Bool)
  | [], M => M
  | x :: r, M => delAll r (bif hasM M x then delM M x else M)
theorem pwA_go {c m : Int} {l : List Hel} {w : List Int} (hl : l.length ≤ 32) : ∀ (k i : Nat) (M : List (Int × OBl)), i + k = l.length → ∃ z, pwA_f c m l w (k + 1) M (i : Int) = some (0, (putAll (l.drop i) M, z)) := by
  intro k
  induction k with
  | zero =>
    intro i M h
    rw [pwA_fs, bif_dT (by omega), bif_dF (by omega), List.drop_of_length_le (by omega)]
    exact ⟨_, rfl⟩
  | succ k ih =>
    intro i M h
    rw [pwA_fs, bif_dT (by omega), bif_dT (by omega), el_drop (l := l) (i := i) (by omega), w8n (n := (i : Int) + 1) (by omega) (by omega)]
    obtain ⟨z, hz⟩ := ih (i + 1) (putM M (el l (i : Int)).2 true) (by omega)
    rw [show ((i + 1 : Nat) : Int) = (i : Int) + 1 by omega] at hz
    refine ⟨z, ?_⟩
    cases hasM M (el l (i : Int)).2 with
    | true => rw [cond_true]; exact hz
    | false => rw [cond_false]; exact hz
theorem pwB_go {c m : Int} {l : List Hel} {w : List Int} {a : List (Int × OBl)} {b : Int} (hl : w.length ≤ 1000) : ∀ (k i : Nat) (M : List (Int × OBl)), i + k = w.length → ∃ z, pwB_f c m l w a b (k + 1) M (i : Int) = some (0, (delAll (w.drop i) M, z)) := by
  intro k
  induction k with
  | zero =>
    intro i M h
    rw [pwB_fs, bif_dT (by omega), bif_dF (by omega), List.drop_of_length_le (by omega)]
    exact ⟨_, rfl⟩
  | succ k ih =>
    intro i M h
    rw [pwB_fs, bif_dT (by omega), bif_dT (by omega), el_drop (l := w) (i := i) (by omega), w8n (n := (i : Int) + 1) (by omega) (by omega)]
    obtain ⟨z, hz⟩ := ih (i + 1) (bif hasM M (el w (i : Int)) then delM M (el w (i : Int)) else M) (by omega)
    rw [show ((i + 1 : Nat) : Int) = (i : Int) + 1 by omega] at hz
    refine ⟨z, ?_⟩
    cases e : hasM M (el w (i : Int)) with
    | true => rw [e, cond_true] at hz; rw [cond_true]; unfold delAll; rw [e]; exact hz
    | false => rw [e, cond_false] at hz; rw [cond_false]; unfold delAll; rw [e]; exact hz
/-- what is in a map of this loop is true, and there once -/
def GoodM (M : List (Int × Option Bool)) : Prop := OneM M ∧ ∀ x, hasM M x = true → valM M x = true
theorem good_put {M : List (Int × Option Bool)} (h : GoodM M) (x : Int) : GoodM (putM M x true) :=
  ⟨one_put _ _ _ h.1, fun y hy => by
    rw [valM_put]
    split
    · rfl
    · rename_i n
      rw [hasM_put, decide_eq_false n, Bool.false_or] at hy
      exact h.2 y hy⟩
theorem good_del {M : List (Int × Option Bool)} (h : GoodM M) (x : Int) : GoodM (delM M x) :=
  ⟨one_del _ _ h.1, fun y hy => by
    rw [hasM_del _ _ _ h.1, Bool.and_eq_true, Bool.not_eq_true', decide_eq_false_iff_not] at hy
    rw [valM_del _ _ _ h.1, if_neg hy.1]
    exact h.2 y hy.2⟩
theorem put_all : ∀ (l : List (Int × Int)) (M : List (Int × Option Bool)), GoodM M → GoodM (putAll l M) ∧ ∀ x, hasM (putAll l M) x = (l.any (fun h => h.2 == x) || hasM M x)
  | [], M, h => ⟨h, fun x => by simp [putAll]⟩
  | a :: r, M, h => by
    obtain ⟨h1, h2⟩ := put_all r (putM M a.2 true) (good_put h a.2)
    refine ⟨h1, fun x => ?_⟩
    show hasM (putAll r (putM M a.2 true)) x = _
    rw [h2 x, hasM_put, List.any_cons]
    have : decide (x = a.2) = (a.2 == x) := by
      by_cases e : x = a.2
      · subst e; simp
      · rw [decide_eq_false e]; symm; simpa using fun h => e h.symm
    rw [this]
    cases (a.2 == x) <;> cases r.any (fun h => h.2 == x) <;> rfl
theorem del_all : ∀ (w : List Int) (M : List (Int × Option Bool)), GoodM M → GoodM (delAll w M) ∧ ∀ x, hasM (delAll w M) x = (!hasI w x && hasM M x)
  | [], M, h => ⟨h, fun x => by simp [delAll, hasI]⟩
  | a :: r, M, h => by
    have hg : GoodM (bif hasM M a then delM M a else M) := by
      cases hasM M a with
      | true => exact good_del h a
      | false => exact h
    have hh : ∀ x, hasM (bif hasM M a then delM M a else M) x = (!decide (x = a) && hasM M x) := fun x => by
      cases e : hasM M a with
      | true => rw [cond_true, hasM_del _ _ _ h.1]
      | false =>
        rw [cond_false]
        by_cases ex : x = a
        · subst ex; rw [e]; simp
        · rw [decide_eq_false ex]; simp
    obtain ⟨h1, h2⟩ := del_all r _ hg
    refine ⟨h1, fun x => ?_⟩
    show hasM (delAll r _) x = _
    rw [h2 x, hh x]
    unfold hasI
    rw [List.any_cons]
    have : decide (x = a) = (a == x) := by
      by_cases e : x = a
      · subst e; simp
      · rw [decide_eq_false e]; symm; simpa using fun h => e h.symm
    rw [this]
    cases (a == x) <;> cases r.any (· == x) <;> rfl
theorem el_mem {α : Type} [Inhabited α] {l : List α} {i : Nat} (h : i < l.length) : el l (i : Int) ∈ l := by
  unfold el
  rw [List.getD_eq_getElem?_getD, Int.toNat_natCast, List.getElem?_eq_getElem h]
  exact List.getElem_mem h
def keepF (w : List Int) (l : List (Int × Int)) : List (Int × Int) := l.filter fun h => !hasI w h.2
def goneF (w : List Int) (l : List (Int × Int)) : List (Int × Int) := l.filter fun h => hasI w h.2
theorem pwC_go {c m : Int} {l : List Hel} {w : List Int} {a : List (Int × OBl)} {b : Int} {a2 : List (Int × OBl)} {b2 : Int} {M : List (Int × OBl)} (hl : l.length ≤ 32)
    (hM : ∀ e ∈ l, hasM M e.2 = !hasI w e.2 ∧ (hasM M e.2 = true → valM M e.2 = true)) : ∀ (k i : Nat) (Y Z : List Hel), i + k = l.length → Y.length ≤ i → Z.length ≤ i → ∃ z, pwC_f c m l w a b a2 b2 (k + 1) Y Z M (i : Int) = some (0, ((keepF w (l.drop i)).reverse ++ Y, (goneF w (l.drop i)).reverse ++ Z, M, z)) := by
  intro k
  induction k with
  | zero =>
    intro i Y Z h hY hZ
    rw [pwC_fs, bif_dT (by omega), bif_dF (by omega), List.drop_of_length_le (by omega)]
    exact ⟨_, rfl⟩
  | succ k ih =>
    intro i Y Z h hY hZ
    rw [pwC_fs, bif_dT (by omega), bif_dT (by omega), el_drop (l := l) (i := i) (by omega), w8n (n := (i : Int) + 1) (by omega) (by omega)]
    obtain ⟨h1, h2⟩ := hM _ (el_mem (l := l) (i := i) (by omega))
    unfold keepF goneF at *
    rw [List.filter_cons, List.filter_cons]
    cases e : hasI w (el l (i : Int)).2 with
    | true =>
      rw [e] at h1
      rw [h1]
      simp only [Bool.not_true, cond_false]
      obtain ⟨z, hz⟩ := ih (i + 1) Y (el l (i : Int) :: Z) (by omega) (by omega) (by simp; omega)
      rw [show ((i + 1 : Nat) : Int) = (i : Int) + 1 by omega] at hz
      exact ⟨z, hz.trans (by simp)⟩
    | false =>
      rw [e] at h1
      have h1 : hasM M (el l (i : Int)).2 = true := h1
      rw [h1, h2 h1]
      simp only [Bool.not_false, cond_true]
      obtain ⟨z, hz⟩ := ih (i + 1) (el l (i : Int) :: Y) Z (by omega) (by simp; omega) (by omega)
      rw [show ((i + 1 : Nat) : Int) = (i : Int) + 1 by omega] at hz
      exact ⟨z, hz.trans (by simp)⟩
/-- Wipe: the lists in reverse -/
noncomputable def wkR (c m : Int) (l : List (Int × Int)) (w : List Int) : List (Int × Int) := if ckX c m l = 0 then (keepF w l).reverse else []
noncomputable def wgR (c m : Int) (l : List (Int × Int)) (w : List Int) : List (Int × Int) := if ckX c m l = 0 then (goneF w l).reverse else []
noncomputable def okV (c m : Int) (l : List (Int × Int)) (x : Int) : Int := if ckX c m l = 0 then x else 0
theorem pwipe_is (c m : Int) (l : List Hel) (w : List Int) (hw : (w.length : Int) ≤ 1000) : KnownR Try.prog [] 29 [.agg [.val (.int .i64 c), .val (.int .u64 m), .list (rowA gH l) l.length], .list (rowA gI w) w.length] (.tuple #[.agg #[.int .i64 (okV c m l c), .int .u64 (okV c m l m), .complex .f64 0 (wkR c m l w).length], .complex .f64 1 (wgR c m l w).length, .int .i64 (ckX c m l)]) [(rowA gH (wkR c m l w).reverse, 35), (rowA gH (wgR c m l w).reverse, 35)] := by
  unfold okV wkR wgR
  by_cases hk : ckX c m l = 0
  · simp only [hk, eq_self, if_true]
    obtain ⟨⟨h1, h2, h3, h4, h5⟩, _⟩ := ck_ok hk
    have hl : (l.length : Int) ≤ 32 := by omega
    obtain ⟨za, ha⟩ := pwA_go (c := c) (m := m) (l := l) (w := w) (by omega) l.length 0 [] (by omega)
    have oa := pwA_ok c m l w hk hl hw _ _ _ ha
    rw [List.drop_zero] at ha oa
    obtain ⟨zb, hb⟩ := pwB_go (c := c) (m := m) (l := l) (w := w) (a := putAll l []) (b := za) (by omega) w.length 0 (putAll l []) (by omega)
    rw [List.drop_zero] at hb
    have ob := pwB_ok c m l w (putAll l []) za hk hl hw (by simp [hk]) oa _ _ _ hb
    obtain ⟨g1, g2⟩ := put_all l [] ⟨trivial, fun x hx => by cases hx⟩
    obtain ⟨g3, g4⟩ := del_all w _ g1
    obtain ⟨zc, hc⟩ := pwC_go (c := c) (m := m) (l := l) (w := w) (a := putAll l []) (b := za) (a2 := delAll w (putAll l [])) (b2 := zb) (M := delAll w (putAll l [])) (by omega) (fun e he => ⟨by
      rw [g4, g2]
      have : l.any (fun h => h.2 == e.2) = true := List.any_eq_true.2 ⟨e, he, by simp⟩
      rw [this]; simp, g3.2 _⟩) l.length 0 [] [] (by omega) (by simp) (by simp)
    rw [List.drop_zero, List.append_nil, List.append_nil] at hc
    have oc := pwC_ok c m l w (putAll l []) za (delAll w (putAll l [])) zb hk hl hw (by simp [hk]) oa ob _ _ _ hc
    have r := pw0 c m l w _ _ _ _ _ _ _ _ hk hl hw (by simp [hk]) oa ob oc
    unfold pw0_c0 pw0_c1 pw0_c2 pw0_c3 at r
    dsimp only at r
    simp only [List.length_reverse] at r ⊢
    exact r
  · simp only [if_neg hk]
    exact pwE c m l w hk
end Go.Proofs.Ytpmcjjpgkoagoaa
