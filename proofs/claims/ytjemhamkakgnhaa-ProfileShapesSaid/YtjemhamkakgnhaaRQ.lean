/- Layer 8: what the functions of rides return, one way for program and reference. -/
import Derived.Test.YtjemhamkakgnhaaRO
import Derived.Test.YtjemhamkakgnhaaOgQ
import Derived.Test.YtjemhamkakgnhaaSI4
namespace Go.Proofs.Ytjemhamkakgnhaa
open Go Go.RowKit
set_option linter.unusedVariables false
set_option linter.unusedSimpArgs false
theorem spA_go {n m : Int} (hm : 1 ≤ m ∧ m ≤ 20) (hn : n ≤ 63000) : ∀ (k : Nat) {a : List Int} {v l : Int}, l ≤ k → RdI m v l → (a.length : Int) + l ≤ n → ∃ v' l', spA_f n m (k + 1) a v l = some (0, ((ridL m k v l).reverse ++ a, v', l'))
  | 0, a, v, l, hk, h, ha => by
    have e : l = 0 := by have := h.2.2.1; omega
    subst e
    obtain ⟨a1, a2, a3, a4, a5⟩ := h
    refine ⟨v, 0, ?_⟩
    rw [spA_fs, decide_eq_true ⟨a1, a2, a3, a4, a5, by omega, ha, .inl rfl⟩, cond_true, decide_eq_false (by omega), cond_false]
    rfl
  | k + 1, a, v, l, hk, h, ha => by
    by_cases c : l ≤ 0
    · have e : l = 0 := by have := h.2.2.1; omega
      subst e
      obtain ⟨a1, a2, a3, a4, a5⟩ := h
      refine ⟨v, 0, ?_⟩
      rw [spA_fs, decide_eq_true ⟨a1, a2, a3, a4, a5, by omega, ha, .inl rfl⟩, cond_true, decide_eq_false (by omega), cond_false]
      simp [ridL]
    · have hs := rd_all hm h (by omega)
      have hb := h
      obtain ⟨a1, a2, a3, a4, a5⟩ := hb
      obtain ⟨v', l', hf⟩ := spA_go hm hn k (a := nxV m v l :: a) (by omega) hs.2.2.2.2.2.1 (by simp only [List.length_cons]; omega)
      refine ⟨v', l', ?_⟩
      rw [spA_fs, decide_eq_true ⟨a1, a2, a3, a4, a5, by omega, ha, .inr ⟨by omega, by omega, by omega⟩⟩, cond_true, decide_eq_true (by omega), cond_true, w8 (v := l - nxV m v l) (by omega), hf]
      simp only [ridL, if_neg c, List.reverse_cons, List.append_assoc, List.singleton_append]
theorem rpA_go {n m : Int} (hm : 1 ≤ m ∧ m ≤ 20) (hn : n ≤ 63000) : ∀ (k : Nat) {a : List Int} {v l : Int}, l ≤ k → RdI m v l → (a.length : Int) + l ≤ n → ∃ v' l', rpA_f n m (k + 1) a v l = some (0, ((ridL m k v l).reverse ++ a, v', l'))
  | 0, a, v, l, hk, h, ha => by
    have e : l = 0 := by have := h.2.2.1; omega
    subst e
    obtain ⟨a1, a2, a3, a4, a5⟩ := h
    refine ⟨v, 0, ?_⟩
    rw [rpA_fs, decide_eq_true ⟨a1, a2, a3, a4, a5, by omega, ha, .inl rfl⟩, cond_true, decide_eq_false (by omega), cond_false]
    rfl
  | k + 1, a, v, l, hk, h, ha => by
    by_cases c : l ≤ 0
    · have e : l = 0 := by have := h.2.2.1; omega
      subst e
      obtain ⟨a1, a2, a3, a4, a5⟩ := h
      refine ⟨v, 0, ?_⟩
      rw [rpA_fs, decide_eq_true ⟨a1, a2, a3, a4, a5, by omega, ha, .inl rfl⟩, cond_true, decide_eq_false (by omega), cond_false]
      simp [ridL]
    · have hs := rd_all hm h (by omega)
      have hb := h
      obtain ⟨a1, a2, a3, a4, a5⟩ := hb
      obtain ⟨v', l', hf⟩ := rpA_go hm hn k (a := nxV m v l :: a) (by omega) hs.2.2.2.2.2.1 (by simp only [List.length_cons]; omega)
      refine ⟨v', l', ?_⟩
      rw [rpA_fs, decide_eq_true ⟨a1, a2, a3, a4, a5, by omega, ha, .inr ⟨by omega, by omega, by omega⟩⟩, cond_true, decide_eq_true (by omega), cond_true, w8 (v := l - nxV m v l) (by omega), hf]
      simp only [ridL, if_neg c, List.reverse_cons, List.append_assoc, List.singleton_append]
def OkN (n m : Int) : Prop := 0 ≤ n ∧ n ≤ 63000 ∧ 1 ≤ m ∧ m ≤ 20
instance (n m : Int) : Decidable (OkN n m) := by unfold OkN; exact inferInstance
noncomputable def seV (n m : Int) : Int := if OkN n m then (if rD m n ≤ 1000 then 0 else 4) else 2
noncomputable def seL (n m : Int) : List Int := if seV n m = 0 then spL m n else []
theorem seL_len (n m : Int) : (seL n m).length ≤ 1000 := by
  unfold seL
  split
  · rename_i h
    unfold seV at h
    split at h
    · rename_i ho
      split at h
      · rename_i hd
        have := spL_len ⟨ho.1, ho.2.1⟩ ho.2.2
        omega
      · cases h
    · cases h
  · simp
theorem speeds_p (n m : Int) : KnownR Try.prog [] 19 [.val (.int .i64 n), .val (.int .i64 m)] (.tuple #[.complex .f64 0 (seL n m).length, .int .i64 (seV n m)]) [(rowA gI (seL n m), 3)] := by
  by_cases ho : OkN n m
  · have h1 : 0 ≤ n ∧ n ≤ 63000 := ⟨ho.1, ho.2.1⟩
    have h2 : 1 ≤ m ∧ m ≤ 20 := ho.2.2
    by_cases hd : rD m n ≤ 1000
    · have e : seV n m = 0 := by unfold seV; rw [if_pos ho, if_pos hd]
      obtain ⟨v', l', hf⟩ := spA_go (n := n) h2 h1.2 n.toNat (a := []) (by omega) (start_i h1 h2) (by simp)
      have hl := spA_ok n m h1 h2 hd _ _ _ hf
      have r := spK n m _ _ _ h1 h2 hd (decide_eq_false (by omega)) (decide_eq_false (by omega)) (decide_eq_false (by omega)) (decide_eq_false (by omega)) (decide_eq_true (by omega)) (decide_eq_false (by omega)) hl
      rw [show spK_c0 n m ((ridL m n.toNat 0 n).reverse ++ []) v' l' = seL n m by unfold spK_c0 seL; rw [if_pos e]; simp [spL]] at r
      rw [e]; exact r
    · have e : seV n m = 4 := by unfold seV; rw [if_pos ho, if_neg hd]
      have el : seL n m = [] := by unfold seL; rw [if_neg (by omega)]
      rw [e, el]; exact spG n m h1 h2 (by omega)
  · have e : seV n m = 2 := by unfold seV; rw [if_neg ho]
    have el : seL n m = [] := by unfold seL; rw [if_neg (by omega)]
    rw [e, el]; exact spE n m ho
theorem speeds_r (n m : Int) : KnownR Try.prog [] 20 [.val (.int .i64 n), .val (.int .i64 m)] (.tuple #[.complex .f64 0 (seL n m).length, .int .i64 (seV n m)]) [(rowA gI (seL n m), 3)] := by
  by_cases ho : OkN n m
  · have h1 : 0 ≤ n ∧ n ≤ 63000 := ⟨ho.1, ho.2.1⟩
    have h2 : 1 ≤ m ∧ m ≤ 20 := ho.2.2
    by_cases hd : rD m n ≤ 1000
    · have e : seV n m = 0 := by unfold seV; rw [if_pos ho, if_pos hd]
      obtain ⟨v', l', hf⟩ := rpA_go (n := n) h2 h1.2 n.toNat (a := []) (by omega) (start_i h1 h2) (by simp)
      have hl := rpA_ok n m h1 h2 hd _ _ _ hf
      have r := rpK n m _ _ _ h1 h2 hd (decide_eq_false (by omega)) (decide_eq_false (by omega)) (decide_eq_false (by omega)) (decide_eq_false (by omega)) (decide_eq_true (by omega)) (decide_eq_false (by omega)) hl
      rw [show rpK_c0 n m ((ridL m n.toNat 0 n).reverse ++ []) v' l' = seL n m by unfold rpK_c0 seL; rw [if_pos e]; simp [spL]] at r
      rw [e]; exact r
    · have e : seV n m = 4 := by unfold seV; rw [if_pos ho, if_neg hd]
      have el : seL n m = [] := by unfold seL; rw [if_neg (by omega)]
      rw [e, el]; exact rpG n m h1 h2 (by omega)
  · have e : seV n m = 2 := by unfold seV; rw [if_neg ho]
    have el : seL n m = [] := by unfold seL; rw [if_neg (by omega)]
    rw [e, el]; exact rpE n m ho
def peV (n m : Int) : Int := if OkN n m then 0 else 2
def ppV (n m : Int) : Int := if OkN n m then pkV n m else 0
theorem peak_p (n m : Int) : Known Try.prog [] 17 [.int .i64 n, .int .i64 m] (.tuple #[.int .i64 (ppV n m), .int .i64 (peV n m)]) := by
  unfold ppV peV
  by_cases ho : OkN n m
  · rw [if_pos ho, if_pos ho]; exact peak_ok ⟨ho.1, ho.2.1⟩ ho.2.2
  · rw [if_neg ho, if_neg ho]; exact pkE n m ho
theorem peak_r (n m : Int) : Known Try.prog [] 18 [.int .i64 n, .int .i64 m] (.tuple #[.int .i64 (ppV n m), .int .i64 (peV n m)]) := by
  unfold ppV peV
  by_cases ho : OkN n m
  · rw [if_pos ho, if_pos ho]; exact rPk n m ⟨ho.1, ho.2.1⟩ ho.2.2
  · rw [if_neg ho, if_neg ho]; exact rPkE n m ho
def gnN (n m t : Int) : Int := if OkN n m ∧ 0 ≤ t then n - (stF m n.toNat t 0 n).2 else 0
def gnS (n m t : Int) : Int := if OkN n m ∧ 0 ≤ t then (if (stF m n.toNat t 0 n).2 = 0 then 0 else (stF m n.toNat t 0 n).1) else 0
def gnE (n m t : Int) : Int := if OkN n m ∧ 0 ≤ t then 0 else 2
theorem gone_p (n m t : Int) (ht : t ≤ 9223372036854775807) : Known Try.prog [] 21 [.int .i64 n, .int .i64 m, .int .i64 t] (.tuple #[.int .i64 (gnN n m t), .int .i64 (gnS n m t), .int .i64 (gnE n m t)]) := by
  unfold gnN gnS gnE
  by_cases ho : OkN n m ∧ 0 ≤ t
  · have h1 : 0 ≤ n ∧ n ≤ 63000 := ⟨ho.1.1, ho.1.2.1⟩
    have h2 : 1 ≤ m ∧ m ≤ 20 := ho.1.2.2
    rw [if_pos ho, if_pos ho, if_pos ho]
    have hb := stF_b h2 n.toNat (t := t) (start_i h1 h2)
    by_cases h0 : t = 0
    · have r := go0 n m t h1 h2 h0
      have e : stF m n.toNat t 0 n = (0, n) := by
        subst h0
        cases hk : n.toNat with
        | zero => rfl
        | succ k => simp only [stF]; rw [if_pos (by omega)]
      rw [e, show n - n = 0 by omega]
      rw [show (if n = 0 then (0 : Int) else 0) = 0 by split <;> rfl]
      exact r
    · have d1 : decide (n < 0) = false := decide_eq_false (by omega)
      have d2 : decide (n > 63000) = false := decide_eq_false (by omega)
      have d3 : decide (m < 1) = false := decide_eq_false (by omega)
      have d4 : decide (m > 20) = false := decide_eq_false (by omega)
      have d5 : decide (t < 0) = false := decide_eq_false (by omega)
      have d6 : (t == 0) = false := by simpa using h0
      have h3 : 1 ≤ t ∧ t ≤ 9223372036854775807 := ⟨by omega, ht⟩
      rcases goA_go (n := n) (m := m) (t0 := t) h2 n.toNat (t := t) (v := 0) (l := n) (by omega) (start_i h1 h2) (Int.le_refl _) h3.1 h3.2 with ⟨z, hf, hs⟩ | ⟨z, hf, hs⟩ | ⟨a, b, c, hf, hs, q1, q2, q3, q4⟩
      · have hl := goA_ok n m t h1 h2 h3 _ _ _ hf
        rw [hs, if_pos rfl, show n - 0 = n by omega]
        exact goK n m t _ _ _ h1 h2 h3 d1 d2 d3 d4 d5 d6 hl
      · have hl := goA_ok n m t h1 h2 h3 _ _ _ hf
        rw [hs, if_pos rfl, show n - 0 = n by omega]
        exact goI n m t _ _ _ h1 h2 h3 d1 d2 d3 d4 d5 d6 hl
      · have hl := goA_ok n m t h1 h2 h3 _ _ _ hf
        have r := goJ n m t _ _ _ h1 h2 h3 d1 d2 d3 d4 d5 d6 hl
        rw [hs]
        dsimp only
        rw [if_neg (by omega)]
        rw [show goJ_c0 n m t a b c = n - (b - nxV m a b) by unfold goJ_c0; rw [w8 (v := b - nxV m a b) (by omega), w8 (by omega)], show goJ_c1 n m t a b c = nxV m a b from rfl] at r
        exact r
  · rw [if_neg ho, if_neg ho, if_neg ho]
    exact goE n m t (fun h => ho ⟨⟨h.1, h.2.1, h.2.2.1, h.2.2.2.1⟩, h.2.2.2.2⟩)
theorem gone_r (n m t : Int) (ht : t ≤ 9223372036854775807) : Known Try.prog [] 22 [.int .i64 n, .int .i64 m, .int .i64 t] (.tuple #[.int .i64 (gnN n m t), .int .i64 (gnS n m t), .int .i64 (gnE n m t)]) := by
  unfold gnN gnS gnE
  by_cases ho : OkN n m ∧ 0 ≤ t
  · have h1 : 0 ≤ n ∧ n ≤ 63000 := ⟨ho.1.1, ho.1.2.1⟩
    have h2 : 1 ≤ m ∧ m ≤ 20 := ho.1.2.2
    rw [if_pos ho, if_pos ho, if_pos ho]
    have hb := stF_b h2 n.toNat (t := t) (start_i h1 h2)
    obtain ⟨i', hf⟩ := rgA_go (n := n) (m := m) (t := t) h2 ht n.toNat (i := 0) (v := 0) (l := n) (by omega) (start_i h1 h2) (Int.le_refl _) (Int.le_refl _) ho.2
    have hl := rgA_ok n m t h1 h2 ⟨ho.2, ht⟩ _ _ _ hf
    have r := rgK n m t _ _ _ h1 h2 ⟨ho.2, ht⟩ (decide_eq_false (by omega)) (decide_eq_false (by omega)) (decide_eq_false (by omega)) (decide_eq_false (by omega)) (decide_eq_false (by omega)) hl
    rw [show t - 0 = t by omega] at r
    generalize stF m n.toNat t 0 n = s at *
    have e1 : rgK_c0 n m t s.1 s.2 i' = n - s.2 := by unfold rgK_c0; rw [w8 (by omega)]
    have e2 : rgK_c1 n m t s.1 s.2 i' = (if s.2 = 0 then 0 else s.1) := by
      unfold rgK_c1
      by_cases q : s.2 = 0
      · rw [show (s.2 == 0) = true by simpa using q, cond_true, if_pos q]
      · rw [show (s.2 == 0) = false by simpa using q, cond_false, if_neg q]
    rw [e1, e2] at r
    exact r
  · rw [if_neg ho, if_neg ho, if_neg ho]
    exact rgE n m t (fun h => ho ⟨⟨h.1, h.2.1, h.2.2.1, h.2.2.2.1⟩, h.2.2.2.2⟩)
end Go.Proofs.Ytjemhamkakgnhaa
