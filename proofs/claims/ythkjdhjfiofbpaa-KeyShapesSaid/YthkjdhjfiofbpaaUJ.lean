import Derived.Test.YthkjdhjfiofbpaaUH
set_option linter.unusedVariables false
namespace Go.Proofs.Ythkjdhjfiofbpaa
open Go Go.RowKit
def fewS (st : List (Int × Int)) : List (Int × Int) := st.filter fun x => x.2 != 9
theorem few_str {f : Int} : ∀ (st R : List (Int × Int)), st.foldl (stp [7, 42] f) R = (fewS st).foldl (stp [7, 42] f) R
 | [], R => rfl
 | (t, q) :: r, R => by
  unfold fewS
  rw [List.filter_cons]
  by_cases h : q = 9
  ·subst h
   rw [if_neg (by simp)]
   show r.foldl _ (stp [7, 42] f R (t, 9)) = _
   rw [stp_no (show hasK [7, 42] 9 = false from rfl)]
   exact few_str r R
  ·rw [if_pos (by simpa using h)]
   exact few_str r _
theorem hi_mono : ∀ {r : List (Int × Int)} {p p' : Int}, p' ≤ p → hiS r p = 2 → hiS r p' = 2
 | [], p, p', h, h1 => rfl
 | x :: r, p, p', h, h1 => by
  obtain ⟨k1, k2, k3, k4⟩ := hi_parts h1
  unfold hiS
  rw [if_neg (by omega), if_neg (by omega)]
  exact k4
theorem few_hi : ∀ {r : List (Int × Int)} {p : Int}, hiS r p = 2 → hiS (fewS r) p = 2
 | [], p, h => rfl
 | x :: r, p, h => by
  obtain ⟨k1, k2, k3, k4⟩ := hi_parts h
  unfold fewS
  rw [List.filter_cons]
  have ih := few_hi k4
  split
  ·unfold hiS
   rw [if_neg (by omega), if_neg (by omega)]
   exact ih
  ·exact hi_mono k3 ih
theorem sm_keys : ∀ (l : List Int) (t : Int), ∀ x ∈ smL l t, x.2 = 7 ∨ x.2 = 42 ∨ x.2 = 9
 | [], t, x, h => by cases h
 | n :: r, t, x, h => by
  rcases List.mem_cons.1 h with e | e
  ·subst e
   unfold smS
   dsimp only
   split
   ·exact .inl rfl
   ·split
    ·exact .inr (.inl rfl)
    ·exact .inr (.inr rfl)
  ·exact sm_keys r _ x e
theorem few_keys {l : List Int} {t : Int} : ∀ x ∈ fewS (smL l t), hasK [7, 42] x.2 = true := by
 intro x h
 unfold fewS at h
 rw [List.mem_filter] at h
 rcases sm_keys l t x h.1 with e | e | e
 ·rw [e]; rfl
 ·rw [e]; rfl
 ·simp [e] at h
def Shp (f : Int) (T R : List (Int × Int)) : Prop := R.Pairwise (fun s q => q.2 < s.1) ∧ ∀ s ∈ R, s.1 + f ≤ s.2 ∧ ∃ x ∈ T, x.1 = s.1
theorem shp_step {f a x q : Int} {T R : List (Int × Int)} (hf : 1 ≤ f) (hk : hasK [7, 42] q = true) (hi : InvS f R a) (h : Shp f T R) (h1 : a ≤ x) (hx : (x, q) ∈ T) : Shp f T (stp [7, 42] f R (x, q)) := by
 obtain ⟨h2, h3⟩ := h
 rcases hi with ⟨_, e⟩ | ⟨h0, A, r, e, h4, h5⟩
 ·subst e
  rw [stp_nil hk]
  refine ⟨by simp, fun s hs => ?_⟩
  rcases List.mem_cons.1 hs with e | e
  ·subst e; exact ⟨Int.le_refl _, _, hx, rfl⟩
  ·cases e
 ·subst e
  have ht := h3 (A, a + f) (by simp)
  by_cases hg : a + f < x
  ·rw [stp_gap hk hg]
   refine ⟨List.pairwise_cons.2 ⟨fun s hs => ?_, h2⟩, fun s hs => ?_⟩
   ·rcases List.mem_cons.1 hs with e | e
    ·subst e; exact hg
    ·have := h5 s e; show s.2 < x; omega
   ·rcases List.mem_cons.1 hs with e | e
    ·subst e; exact ⟨Int.le_refl _, _, hx, rfl⟩
    ·exact h3 s e
  ·rw [stp_on hk hg]
   obtain ⟨p1, p2⟩ := List.pairwise_cons.1 h2
   refine ⟨List.pairwise_cons.2 ⟨p1, p2⟩, fun s hs => ?_⟩
   rcases List.mem_cons.1 hs with e | e
   ·subst e; exact ⟨by show A + f ≤ x + f; omega, ht.2⟩
   ·exact h3 s (List.mem_cons_of_mem _ e)
theorem shp_fold {f : Int} (hf : 1 ≤ f) {T : List (Int × Int)} : ∀ (r R : List (Int × Int)) (a p : Int), hiS r p = 2 → a ≤ p → InvS f R a → Shp f T R → (∀ x ∈ r, x ∈ T ∧ hasK [7, 42] x.2 = true) → Shp f T (r.foldl (stp [7, 42] f) R)
 | [], R, a, p, h, h1, h2, h3, h4 => h3
 | (t, q) :: r, R, a, p, h, h1, h2, h3, h4 => by
  obtain ⟨k1, k2, k3, k4⟩ := hi_parts h
  dsimp only at k1 k2 k3 k4
  obtain ⟨m1, m2⟩ := h4 (t, q) (by simp)
  exact shp_fold hf r _ _ t k4 (lc_le (by omega)) (inv_step hf h2 k2.1 (by omega)) (shp_step hf m2 h2 h3 (by omega) m1) (fun x hx => h4 x (List.mem_cons_of_mem _ hx))
theorem fold_len2 {f : Int} : ∀ (r R : List (Int × Int)), (∀ x ∈ r, hasK [7, 42] x.2 = true) → (R = [] → r = [] ∨ r.foldl (stp [7, 42] f) R ≠ []) ∧ (R ≠ [] → r.foldl (stp [7, 42] f) R ≠ [])
 | [], R, h => ⟨fun _ => .inl rfl, fun h => h⟩
 | (t, q) :: r, R, h => by
  have hk := h (t, q) (by simp)
  have ne : stp [7, 42] f R (t, q) ≠ [] := by
   cases R with
   | nil => rw [stp_nil hk]; simp
   | cons k s =>
    by_cases hg : k.2 < t
    ·rw [stp_gap hk hg]; simp
    ·rw [stp_on hk hg]; simp
  have ih := (fold_len2 (f := f) r (stp [7, 42] f R (t, q)) (fun x hx => h x (List.mem_cons_of_mem _ hx))).2 ne
  exact ⟨fun _ => .inr ih, fun _ => ih⟩
def Con (f g a : Int) (R S : List (Int × Int)) : Prop := (R = [] ∧ S = []) ∨ ∃ A r B s, R = (A, a + f) :: r ∧ S = (B, a + g) :: s ∧ B ≤ A ∧ A ≤ a ∧ ∀ k ∈ r, ∃ m ∈ S, m.1 ≤ k.1 ∧ k.2 ≤ m.2
theorem con_step {f g a x q : Int} {R S : List (Int × Int)} (hfg : f ≤ g) (hk : hasK [7, 42] q = true) (h : Con f g a R S) (h1 : R = [] ∨ a ≤ x) : Con f g x (stp [7, 42] f R (x, q)) (stp [7, 42] g S (x, q)) := by
 rcases h with ⟨e1, e2⟩ | ⟨A, r, B, s, e1, e2, h2, h3, h4⟩
 ·subst e1; subst e2
  rw [stp_nil hk, stp_nil hk]
  exact .inr ⟨x, [], x, [], rfl, rfl, Int.le_refl _, Int.le_refl _, fun k hk => by cases hk⟩
 ·have hax : a ≤ x := by
   rcases h1 with h1 | h1
   ·rw [e1] at h1; cases h1
   ·exact h1
  subst e1; subst e2
  by_cases g2 : a + g < x
  ·rw [stp_gap (k := (A, a + f)) hk (show a + f < x by omega), stp_gap (k := (B, a + g)) hk g2]
   refine .inr ⟨x, _, x, _, rfl, rfl, Int.le_refl _, Int.le_refl _, fun k hk => ?_⟩
   rcases List.mem_cons.1 hk with e | e
   ·subst e; exact ⟨(B, a + g), by simp, h2, by show a + f ≤ a + g; omega⟩
   ·obtain ⟨m, m1, m2⟩ := h4 k e
    exact ⟨m, List.mem_cons_of_mem _ m1, m2⟩
  ·rw [stp_on hk (show ¬ (B, a + g).2 < x from g2)]
   have old : ∀ k ∈ r, ∃ m ∈ (B, x + g) :: s, m.1 ≤ k.1 ∧ k.2 ≤ m.2 := fun k hk => by
    obtain ⟨m, m1, m2, m3⟩ := h4 k hk
    rcases List.mem_cons.1 m1 with e | e
    ·subst e; exact ⟨(B, x + g), by simp, m2, by show k.2 ≤ x + g; have : k.2 ≤ a + g := m3; omega⟩
    ·exact ⟨m, List.mem_cons_of_mem _ e, m2, m3⟩
   by_cases g1 : a + f < x
   ·rw [stp_gap hk g1]
    refine .inr ⟨x, _, B, s, rfl, rfl, by omega, Int.le_refl _, fun k hk => ?_⟩
    rcases List.mem_cons.1 hk with e | e
    ·subst e; exact ⟨(B, x + g), by simp, h2, by show a + f ≤ x + g; omega⟩
    ·exact old k e
   ·rw [stp_on hk (show ¬ (A, a + f).2 < x from g1)]
    exact .inr ⟨A, r, B, s, rfl, rfl, h2, by omega, old⟩
theorem con_fold {f g : Int} (hfg : f ≤ g) : ∀ (r R S : List (Int × Int)) (a p : Int), hiS r p = 2 → (∀ x ∈ r, hasK [7, 42] x.2 = true) → Con f g a R S → a ≤ p → ∃ b, Con f g b (r.foldl (stp [7, 42] f) R) (r.foldl (stp [7, 42] g) S)
 | [], R, S, a, p, h, h1, h2, h3 => ⟨a, h2⟩
 | (t, q) :: r, R, S, a, p, h, h1, h2, h3 => by
  obtain ⟨k1, k2, k3, k4⟩ := hi_parts h
  dsimp only at k3 k4
  exact con_fold hfg r _ _ t t k4 (fun x hx => h1 x (List.mem_cons_of_mem _ hx)) (con_step hfg (h1 (t, q) (by simp)) h2 (.inr (by omega))) (Int.le_refl _)
theorem con_cov {f g a : Int} {R S : List (Int × Int)} (hfg : f ≤ g) (h : Con f g a R S) : ∀ k ∈ R, cov k.1 k.2 S = true := by
 intro k hk
 have key : ∃ m ∈ S, m.1 ≤ k.1 ∧ k.2 ≤ m.2 := by
  rcases h with ⟨e1, e2⟩ | ⟨A, r, B, s, e1, e2, h2, h3, h4⟩
  ·subst e1; cases hk
  ·subst e1
   rcases List.mem_cons.1 hk with e | e
   ·subst e; exact ⟨(B, a + g), by rw [e2]; simp, h2, by show a + f ≤ a + g; omega⟩
   ·exact h4 k e
 obtain ⟨m, m1, m2, m3⟩ := key
 unfold cov
 exact List.any_eq_true.2 ⟨m, m1, by simp [m2, m3]⟩
end Go.Proofs.Ythkjdhjfiofbpaa
