/- Layer 5: made: what its loop keeps. -/
import Derived.Test.YtpmcjjpgkoagoaaOpM
namespace Go.Proofs.Ytpmcjjpgkoagoaa
open Go Go.RowKit
set_option linter.unusedVariables false
/-- numbers from 1 to below m, ascending -/
def RS (m : Int) (l : List (Int × Int)) : Prop := l.Pairwise (fun a b => a.1 < b.1) ∧ ∀ x ∈ l, 1 ≤ x.1 ∧ x.1 < m
theorem rk_iff {m : Int} : ∀ (l : List (Int × Int)) (p : Int) (i : Nat), (rkS m l p i).1 = 2 ↔ (l.Pairwise (fun a b => a.1 < b.1) ∧ ∀ x ∈ l, 1 ≤ x.1 ∧ x.1 < m ∧ p < x.1)
  | [], p, i => by simp [rkS]
  | x :: r, p, i => by
    unfold rkS
    split
    · rename_i h
      refine ⟨fun e => (by cases e), fun e => ?_⟩
      have := e.2 x (List.mem_cons_self ..); omega
    · split
      · rename_i h
        refine ⟨fun e => (by cases e), fun e => ?_⟩
        have := e.2 x (List.mem_cons_self ..); omega
      · rw [rk_iff r x.1 (i + 1), List.pairwise_cons]
        constructor
        · rintro ⟨h1, h2⟩
          refine ⟨⟨fun y hy => (h2 y hy).2.2, h1⟩, fun y hy => ?_⟩
          rcases List.mem_cons.1 hy with rfl | hy
          · omega
          · have := h2 y hy; omega
        · rintro ⟨⟨h1, h2⟩, h3⟩
          refine ⟨h2, fun y hy => ?_⟩
          have := h3 y (List.mem_cons_of_mem _ hy)
          exact ⟨this.1, this.2.1, h1 y hy⟩
theorem rs_iff {m : Int} {l : List (Int × Int)} : (rkS m l 0 0).1 = 2 ↔ RS m l := by
  rw [rk_iff]
  unfold RS
  constructor
  · rintro ⟨h1, h2⟩; exact ⟨h1, fun x hx => ⟨(h2 x hx).1, (h2 x hx).2.1⟩⟩
  · rintro ⟨h1, h2⟩; exact ⟨h1, fun x hx => by have := h2 x hx; omega⟩
theorem rs_sub {m : Int} {l k : List (Int × Int)} (h : RS m l) (hs : k.Sublist l) : RS m k := ⟨h.1.sublist hs, fun x hx => h.2 x (hs.subset hx)⟩
theorem rs_snoc {m x : Int} {l : List (Int × Int)} (h : RS m l) (hm : 1 ≤ m) : RS (m + 1) (l ++ [(m, x)]) := by
  refine ⟨List.pairwise_append.2 ⟨h.1, by simp, fun a ha b hb => ?_⟩, fun y hy => ?_⟩
  · have := h.2 a ha
    simp only [List.mem_singleton] at hb
    subst hb
    exact this.2
  · rcases List.mem_append.1 hy with hy | hy
    · have := h.2 y hy; omega
    · simp only [List.mem_singleton] at hy
      subst hy
      dsimp only
      omega
theorem cut_sub (l : List (Int × Int)) (i : Nat) : (cutF l i).Sublist l := by
  unfold cutF
  rw [← List.eraseIdx_eq_take_drop_succ]
  exact List.eraseIdx_sublist ..
theorem cut_len {l : List (Int × Int)} {i : Nat} (h : i < l.length) : (cutF l i).length + 1 = l.length := by
  unfold cutF
  simp only [List.length_append, List.length_take, List.length_drop]; omega
/-- a right ring of this size -/
def GoodR (W : Int) (m : Int) (l : List (Int × Int)) : Prop := 1 ≤ W ∧ W ≤ 32 ∧ 1 ≤ m ∧ m ≤ 1000 ∧ (l.length : Int) ≤ W ∧ RS m l
theorem goodR_ck {W m : Int} {l : List (Int × Int)} (h : GoodR W m l) : ckX W m l = 0 := ck_of ⟨h.1, h.2.1, h.2.2.1, by have := h.2.2.2.1; omega, h.2.2.2.2.1⟩ (rs_iff.2 h.2.2.2.2.2)
theorem goodR_pt {W m : Int} {l : List (Int × Int)} (h : GoodR W m l) : ptX W m l = if (l.length : Int) = W then 5 else 0 := by
  unfold ptX
  have := h.2.2.2.1
  rw [if_pos (goodR_ck h)]
  split
  · rfl
  · rw [if_neg (by omega)]
theorem goodR_put {W m x : Int} {l : List (Int × Int)} (h : GoodR W m l) (hp : ptX W m l = 0) (hm : m < 1000) : ptV W m l W = W ∧ ptV W m l (m + 1) = m + 1 ∧ ptV W m l m = m ∧ ptR W m l x = (m, x) :: l.reverse ∧ GoodR W (m + 1) (ptR W m l x).reverse ∧ (l.length : Int) < W := by
  have hl : ¬ (l.length : Int) = W := fun e => by rw [goodR_pt h, if_pos e] at hp; cases hp
  obtain ⟨h1, h2, h3, h4, h5, h6⟩ := h
  have e : ptR W m l x = (m, x) :: l.reverse := by unfold ptR; rw [if_pos hp]
  refine ⟨by unfold ptV; rw [if_pos hp], by unfold ptV; rw [if_pos hp], by unfold ptV; rw [if_pos hp], e, ⟨h1, h2, by omega, by omega, ?_, ?_⟩, by omega⟩
  · rw [e]; simp; omega
  · rw [e, List.reverse_cons, List.reverse_reverse]; exact rs_snoc h6 h3
theorem goodR_drop {W m x : Int} {l : List (Int × Int)} (h : GoodR W m l) : (fiX W m l x = 0 ∧ ixN l x < l.length ∧ drV W m l x W = W ∧ drV W m l x m = m ∧ drR W m l x = (cutF l (ixN l x)).reverse ∧ GoodR W m (drR W m l x).reverse) ∨ (fiX W m l x = 6 ∧ ¬ ixN l x < l.length) := by
  have hk := goodR_ck h
  by_cases hi : ixN l x < l.length
  · left
    have hp : fiX W m l x = 0 := by unfold fiX; rw [if_pos hk, if_pos hi]
    have e : drR W m l x = (cutF l (ixN l x)).reverse := by unfold drR; rw [if_pos hp]
    obtain ⟨h1, h2, h3, h4, h5, h6⟩ := h
    refine ⟨hp, hi, by unfold drV; rw [if_pos hp], by unfold drV; rw [if_pos hp], e, h1, h2, h3, h4, ?_, ?_⟩
    · rw [e, List.reverse_reverse]; have := cut_len hi; omega
    · rw [e, List.reverse_reverse]; exact rs_sub h6 (cut_sub l _)
  · right
    exact ⟨by unfold fiX; rw [if_pos hk, if_neg hi], hi⟩
theorem goodR_wipe {W m : Int} {l : List (Int × Int)} {w : List Int} (h : GoodR W m l) : okV W m l W = W ∧ okV W m l m = m ∧ wkR W m l w = (keepF w l).reverse ∧ wgR W m l w = (goneF w l).reverse ∧ GoodR W m (wkR W m l w).reverse := by
  have hk := goodR_ck h
  have e : wkR W m l w = (keepF w l).reverse := by unfold wkR; rw [if_pos hk]
  obtain ⟨h1, h2, h3, h4, h5, h6⟩ := h
  refine ⟨by unfold okV; rw [if_pos hk], by unfold okV; rw [if_pos hk], e, by unfold wgR; rw [if_pos hk], h1, h2, h3, h4, ?_, ?_⟩
  · rw [e, List.reverse_reverse]
    have : (keepF w l).length ≤ l.length := List.length_filter_le _ _
    omega
  · rw [e, List.reverse_reverse]; exact rs_sub h6 List.filter_sublist
/-- what made's loop keeps: the ring is right, its next number is one more than those that were given, and these are 1, 2, .. -/
def KeepR (W : Int) (Y0 : List (Int × Int)) (Y1 : List Int) (c m : Int) : Prop := c = W ∧ m = (Y1.length : Int) + 1 ∧ GoodR W m Y0.reverse ∧ ∀ i : Nat, i < Y1.length → el Y1.reverse (i : Int) = (i : Int) + 1
theorem el_app {α : Type} [Inhabited α] {l k : List α} {i : Nat} : el (l ++ k) (i : Int) = if i < l.length then el l (i : Int) else el k ((i - l.length : Nat) : Int) := by
  unfold el
  simp only [List.getD_eq_getElem?_getD, Int.toNat_natCast]
  by_cases h : i < l.length
  · rw [if_pos h, List.getElem?_append_left h]
  · rw [if_neg h, List.getElem?_append_right (by omega)]
theorem mdA_go {n : Int} {xs : List Int} {W : Int} : ∀ (k i : Nat) (Y0 : List Hel) (Y1 : List Int) (c m : Int), i + k = min xs.length 60 → Y1.length ≤ i → KeepR W Y0 Y1 c m →
    ∃ Y0' Y1' z c' m', mdA_f n xs (k + 1) Y0 Y1 (i : Int) c m = some (1, (Y0', Y1', z, c', m')) ∧ KeepR W Y0' Y1' c' m' ∧ Y1'.length ≤ 60 := by
  intro k
  induction k with
  | zero =>
    intro i Y0 Y1 c m hi hy hk
    rw [mdA_fs, bif_dT (by omega)]
    by_cases h1 : (i : Int) < xs.length
    · rw [bif_dT h1, bif_dF (by omega)]
      exact ⟨Y0, Y1, _, _, _, rfl, hk, by omega⟩
    · rw [bif_dF h1]
      exact ⟨Y0, Y1, _, _, _, rfl, hk, by omega⟩
  | succ k ih =>
    intro i Y0 Y1 c m hi hy hk
    rw [mdA_fs, bif_dT (by omega), bif_dT (by omega), bif_dT (by omega), w8n (n := (i : Int) + 1) (by omega) (by omega), show (i : Int) + 1 = ((i + 1 : Nat) : Int) by omega]
    obtain ⟨rfl, hm, hg, hn⟩ := id hk
    generalize (IntKind.i64.wrap ((el xs (i : Int) % 1048576).tdiv 6)).tmod 5 = x5
    generalize (IntKind.i64.wrap ((el xs (i : Int) % 1048576).tdiv 6)).tmod 9 = x9
    generalize IntKind.u64.wrap (IntKind.i64.wrap (1 + (IntKind.i64.wrap ((el xs (i : Int) % 1048576).tdiv 6)).tmod 40)) = xd
    have stay := ih (i + 1) Y0 Y1 c m (by omega) (by omega) hk
    by_cases hA : (el xs (i : Int) % 1048576).tmod 6 < 4
    · rw [bif_dT hA]
      by_cases hp : ptX c m Y0.reverse = 0
      · rw [show (ptX c m Y0.reverse == (0 : Int)) = true by simpa using hp, cond_true]
        obtain ⟨e1, e2, e3, e4, e5, e6⟩ := goodR_put (x := x5) hg hp (by omega)
        rw [e1, e2, e3]
        refine ih (i + 1) _ _ _ _ (by omega) (by simp; omega) ⟨rfl, by simp; omega, e5, fun j hj => ?_⟩
        rw [List.reverse_cons, el_app, List.length_reverse]
        split
        · rename_i h; exact hn j h
        · have : j = Y1.length := by simp at hj; omega
          subst this
          rw [Nat.sub_self]
          show m = _
          omega
      · rw [show (ptX c m Y0.reverse == (0 : Int)) = false by simpa using hp, cond_false]
        have e : ptX c m Y0.reverse = 5 := by
          have := goodR_pt hg
          split at this
          · exact this
          · exact absurd this hp
        rw [e]
        exact stay
    · rw [bif_dF hA]
      cases (el xs (i : Int) % 1048576).tmod 6 == 4 with
      | true =>
        rw [cond_true]
        rcases goodR_drop (x := xd) hg with ⟨hp, hi2, e1, e2, e3, e4⟩ | ⟨hp, _⟩
        · rw [show (fiX c m Y0.reverse xd == (0 : Int)) = true by simpa using hp, cond_true, e1, e2]
          exact ih (i + 1) _ _ _ _ (by omega) (by omega) ⟨rfl, hm, e4, hn⟩
        · rw [hp]
          exact stay
      | false =>
        rw [cond_false]
        obtain ⟨e1, e2, e3, e4, e5⟩ := goodR_wipe (w := [x9]) hg
        rw [show (ckX c m Y0.reverse == (0 : Int)) = true by simpa using goodR_ck hg, cond_true, e1, e2]
        exact ih (i + 1) _ _ _ _ (by omega) (by omega) ⟨rfl, hm, e5, hn⟩
end Go.Proofs.Ytpmcjjpgkoagoaa
