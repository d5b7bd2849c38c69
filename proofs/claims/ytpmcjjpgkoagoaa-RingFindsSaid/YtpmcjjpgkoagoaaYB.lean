/- Layer 5: First, Find, of both. -/
import Derived.Test.YtpmcjjpgkoagoaaOpB
namespace Go.Proofs.Ytpmcjjpgkoagoaa
open Go Go.RowKit
set_option linter.unusedVariables false
theorem el_zero {α : Type} [Inhabited α] (a : α) (l : List α) : el (a :: l) ((0 : Nat) : Int) = a := rfl
theorem el_succ {α : Type} [Inhabited α] (a : α) (l : List α) (i : Nat) : el (a :: l) ((i + 1 : Nat) : Int) = el l (i : Int) := by unfold el; simp
theorem ix_at {α : Type} [Inhabited α] {p : α → Bool} : ∀ (l : List α) (q : Nat), q < l.length → p (el l (q : Int)) = true → (∀ j : Nat, j < q → p (el l (j : Int)) = false) → l.findIdx p = q
  | [], q, h, _, _ => by simp at h
  | a :: l, 0, _, h1, _ => by rw [el_zero] at h1; rw [List.findIdx_cons, h1]; rfl
  | a :: l, q + 1, h, h1, h2 => by
    rw [el_succ] at h1
    have h0 := h2 0 (by omega)
    rw [el_zero] at h0
    rw [List.findIdx_cons, h0, cond_false, ix_at l q (by simpa using h) h1 (fun j hj => by have := h2 (j + 1) (by omega); rw [el_succ] at this; exact this)]
theorem ix_none {α : Type} [Inhabited α] {p : α → Bool} : ∀ (l : List α), (∀ j : Nat, j < l.length → p (el l (j : Int)) = false) → l.findIdx p = l.length
  | [], _ => rfl
  | a :: l, h => by
    have h0 := h 0 (by simp)
    rw [el_zero] at h0
    rw [List.findIdx_cons, h0, cond_false, ix_none l (fun j hj => by have := h (j + 1) (by simpa using hj); rw [el_succ] at this; exact this), List.length_cons]
def ixN (l : List (Int × Int)) (x : Int) : Nat := l.findIdx fun h => h.1 == x
/-- Find -/
noncomputable def fiX (c m : Int) (l : List (Int × Int)) (x : Int) : Int := if ckX c m l = 0 then (if ixN l x < l.length then 0 else 6) else ckX c m l
noncomputable def fiI (c m : Int) (l : List (Int × Int)) (x : Int) : Int := if ckX c m l = 0 then (if ixN l x < l.length then (ixN l x : Int) else 0) else 0
/-- ascending -/
theorem rk_up {m : Int} : ∀ (l : List (Int × Int)) (p : Int) (n : Nat), (rkS m l p n).1 = 2 → ∀ (i j : Nat), i < j → j < l.length → (el l (i : Int)).1 < (el l (j : Int)).1
  | [], p, n, h, i, j, hij, hj => by simp at hj
  | x :: r, p, n, h, i, j, hij, hj => by
    unfold rkS at h
    split at h
    · cases h
    · split at h
      · cases h
      · obtain ⟨j, rfl⟩ : ∃ k, j = k + 1 := ⟨j - 1, by omega⟩
        have hj' : j < r.length := by simpa using hj
        rw [el_succ]
        cases i with
        | zero => rw [el_zero]; exact rk_low r x.1 (n + 1) h j hj'
        | succ i => rw [el_succ]; exact rk_up r x.1 (n + 1) h i j (by omega) hj'
where
  rk_low {m : Int} : ∀ (l : List (Int × Int)) (p : Int) (n : Nat), (rkS m l p n).1 = 2 → ∀ (j : Nat), j < l.length → p < (el l (j : Int)).1
  | [], p, n, h, j, hj => by simp at hj
  | x :: r, p, n, h, j, hj => by
    unfold rkS at h
    split at h
    · cases h
    · split at h
      · cases h
      · cases j with
        | zero => rw [el_zero]; omega
        | succ j => rw [el_succ]; have := rk_low r x.1 (n + 1) h j (by simpa using hj); omega
theorem u64_half {v : Int} (h0 : 0 ≤ v) (h : v ≤ 1000000) : IntKind.i64.wrap ((IntKind.u64.wrap (IntKind.i64.wrap v)).fdiv 2) = v / 2 := by
  rw [w8n (n := v) (by omega) (by omega), wrapU64, show v % 18446744073709551616 = v by omega, Int.fdiv_eq_ediv_of_nonneg _ (by omega), w8n (by omega) (by omega)]
theorem pdA_go {c m : Int} {l : List Hel} {x : Int} (hl : l.length ≤ 32) (hs : ∀ i j : Nat, i < j → j < l.length → (el l (i : Int)).1 < (el l (j : Int)).1) : ∀ (n : Nat) (i j : Nat), j - i ≤ n → i ≤ j → j ≤ l.length → (∀ k : Nat, k < i → (el l (k : Int)).1 < x) → (∀ k : Nat, j ≤ k → k < l.length → x ≤ (el l (k : Int)).1) →
    ∃ q : Nat, pdA_f c m l x (n + 1) (i : Int) (j : Int) = some (0, ((q : Int), (q : Int))) ∧ q ≤ l.length ∧ (∀ k : Nat, k < q → (el l (k : Int)).1 < x) ∧ (∀ k : Nat, q ≤ k → k < l.length → x ≤ (el l (k : Int)).1) := by
  intro n
  induction n with
  | zero =>
    intro i j h1 h2 h3 h4 h5
    have : j = i := by omega
    subst this
    refine ⟨j, ?_, h3, h4, h5⟩
    rw [pdA_fs, bif_dT (by omega), bif_dF (by omega)]
  | succ n ih =>
    intro i j h1 h2 h3 h4 h5
    rw [pdA_fs, bif_dT (by omega)]
    by_cases hij : (i : Int) < (j : Int)
    · rw [bif_dT hij, u64_half (by omega) (by omega)]
      obtain ⟨k, hm⟩ : ∃ k : Nat, ((i : Int) + (j : Int)) / 2 = (k : Int) := ⟨(((i : Int) + (j : Int)) / 2).toNat, by omega⟩
      rw [hm]
      by_cases hc : (el l (k : Int)).1 < x
      · rw [bif_dT hc, w8n (n := (k : Int) + 1) (by omega) (by omega), show (k : Int) + 1 = ((k + 1 : Nat) : Int) by omega]
        refine ih (k + 1) j (by omega) (by omega) h3 (fun q hq => ?_) h5
        rcases (by omega : q = k ∨ q < k) with e | e
        · subst e; exact hc
        · have := hs q k e (by omega); omega
      · rw [bif_dF hc]
        have hr := ih i k (by omega) (by omega) (by omega) h4 (fun q hq hq2 => by
          rcases (by omega : q = k ∨ k < q) with e | e
          · subst e; omega
          · have := hs k q e hq2; omega)
        by_cases hd : (el l (k : Int)).1 > x
        · rw [bif_dT hd]; exact hr
        · rw [bif_dF hd]; exact hr
    · rw [bif_dF hij]
      have : j = i := by omega
      subst this
      exact ⟨j, rfl, h3, h4, h5⟩
theorem pfind_is (c m : Int) (l : List Hel) (x : Int) : KnownR Try.prog [] 18 [.agg [.val (.int .i64 c), .val (.int .u64 m), .list (rowA gH l) l.length], .val (.int .u64 x)] (.tuple #[.int .i64 (fiI c m l x), .int .i64 (fiX c m l x)]) [] := by
  unfold fiX fiI
  by_cases hk : ckX c m l = 0
  · rw [if_pos hk, if_pos hk]
    obtain ⟨⟨h1, h2, h3, h4, h5⟩, hS⟩ := ck_ok hk
    obtain ⟨q, hz, g1, g2, g3⟩ := pdA_go (c := c) (m := m) (l := l) (x := x) (by omega) (rk_up l 0 0 hS) l.length 0 l.length (by omega) (by omega) (Nat.le_refl _) (fun k hk => by omega) (fun k hk hk2 => by omega)
    have ho := pdA_ok c m l x hk (by omega) _ _ _ hz
    dsimp only at ho
    have r := pd0 c m l x _ _ hk (by omega) (by omega) (by simp [hk]) ho
    have no : (∀ k : Nat, k < l.length → (el l (k : Int)).1 ≠ x) → ¬ ixN l x < l.length := fun h => by
      have : ixN l x = l.length := ix_none l fun j hj => by simpa using h j hj
      omega
    have e : pd0_c0 c m l x (q : Int) (q : Int) = (if ixN l x < l.length then (ixN l x : Int) else 0) ∧ pd0_c1 c m l x (q : Int) (q : Int) = (if ixN l x < l.length then 0 else 6) := by
      unfold pd0_c0 pd0_c1
      by_cases hq : (q : Int) < (l.length : Int)
      · have := g3 q (Nat.le_refl _) (by omega)
        have a1 : ¬ (el l (q : Int)).1 < x := by omega
        simp only [decide_eq_true hq, decide_eq_false a1, cond_true, cond_false]
        by_cases h6 : (el l (q : Int)).1 > x
        · simp only [decide_eq_true h6, cond_true]
          have := no fun k hk => by
            rcases (by omega : k < q ∨ k = q ∨ q < k) with e | e | e
            · have := g2 k e; omega
            · subst e; omega
            · have := rk_up l 0 0 hS q k e hk; omega
          rw [if_neg this, if_neg this]; exact ⟨rfl, rfl⟩
        · simp only [decide_eq_false h6, cond_false]
          have e : ixN l x = q := ix_at l q (by omega) (by simp; omega) fun j hj => by have := g2 j hj; simp; omega
          rw [e, if_pos (by omega), if_pos (by omega)]; exact ⟨rfl, rfl⟩
      · rw [bif_dF hq, bif_dF hq]
        have := no fun k hk => by have := g2 k (by omega); omega
        rw [if_neg this, if_neg this]; exact ⟨rfl, rfl⟩
    rw [e.1, e.2] at r
    exact r
  · rw [if_neg hk, if_neg hk]
    exact pdE c m l x hk
end Go.Proofs.Ytpmcjjpgkoagoaa
