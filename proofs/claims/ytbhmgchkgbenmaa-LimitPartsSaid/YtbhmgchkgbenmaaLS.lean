import Derived.Test.YtbhmgchkgbenmaaLR
import Derived.Test.YtbhmgchkgbenmaaOgR
set_option linter.unusedVariables false
namespace Go.Proofs.Ytbhmgchkgbenmaa
open Go Go.RowKit
theorem wt_k {xs : List Mv} {u v a b c : Int} {m : Mv} (hm : el xs a = m) : wtI_f xs u v a b c 7 [] 0 = some (0, ((csS u v m).reverse, 5)) := by
 obtain ⟨p, s, mo, br, d⟩ := m
 have w : ∀ z : Int, 0 ≤ z → z ≤ 10 → IntKind.i64.wrap (z + 1) = z + 1 := fun z h1 h2 => w8n (by omega) (by omega)
 unfold csS
 dsimp only
 rw [wtI_fs, hm]
 dsimp only
 generalize decide (s > v) = b1
 generalize hb2 : decide (p < 0) = b2
 generalize hb3 : decide (p > u) = b3
 generalize hb4 : decide (s > 0) = b4
 generalize hb5 : decide (d > 0) = b5
 rw [bif_dT (by decide), bif_dT (by decide), bif_dT (by decide), w 0 (by decide) (by decide)]
 have step : ∀ (l : List Int), l.length ≤ 1 → wtI_f xs u v a b c 6 l (0 + 1) = some (0, (((bif (b2 || b3) then [2] else []) ++ ((bif (b4 && br) then [3] else []) ++ ((bif (b4 && !mo) then [4] else []) ++ (bif (mo && b5) then [5] else []))) : List Int).reverse ++ l, 5)) := by
  intro l hl
  rw [wtI_fs, hm]
  dsimp only
  rw [hb2, hb3, bif_dT (by omega), bif_dT (by decide), bif_dF (by decide), bif_dT (by decide), w (0 + 1) (by decide) (by decide)]
  have step2 : ∀ (l : List Int), l.length ≤ 2 → wtI_f xs u v a b c 5 l (0 + 1 + 1) = some (0, (((bif (b4 && br) then [3] else []) ++ ((bif (b4 && !mo) then [4] else []) ++ (bif (mo && b5) then [5] else [])) : List Int).reverse ++ l, 5)) := by
   intro l hl
   rw [wtI_fs, hm]
   dsimp only
   rw [hb4, bif_dT (by omega), bif_dT (by decide), bif_dF (by decide), bif_dF (by decide), bif_dT (by decide), w (0 + 1 + 1) (by decide) (by decide)]
   have step3 : ∀ (l : List Int), l.length ≤ 3 → wtI_f xs u v a b c 4 l (0 + 1 + 1 + 1) = some (0, (((bif (b4 && !mo) then [4] else []) ++ (bif (mo && b5) then [5] else []) : List Int).reverse ++ l, 5)) := by
    intro l hl
    rw [wtI_fs, hm]
    dsimp only
    rw [hb4, bif_dT (by omega), bif_dT (by decide), bif_dF (by decide), bif_dF (by decide), bif_dF (by decide), bif_dT (by decide), w (0 + 1 + 1 + 1) (by decide) (by decide)]
    have step4 : ∀ (l : List Int), l.length ≤ 4 → wtI_f xs u v a b c 3 l (0 + 1 + 1 + 1 + 1) = some (0, ((bif (mo && b5) then [5] else [] : List Int).reverse ++ l, 5)) := by
     intro l hl
     rw [wtI_fs, hm]
     dsimp only
     rw [hb5, bif_dT (by omega), bif_dT (by decide), bif_dF (by decide), bif_dF (by decide), bif_dF (by decide), bif_dF (by decide), w (0 + 1 + 1 + 1 + 1) (by decide) (by decide)]
     have step5 : ∀ (l : List Int), l.length ≤ 5 → wtI_f xs u v a b c 2 l (0 + 1 + 1 + 1 + 1 + 1) = some (0, (l, 5)) := by
      intro l hl
      rw [wtI_fs, bif_dT (by omega), bif_dF (by decide)]
      rfl
     cases mo <;> cases b5 <;> first | exact step5 _ (by simp only [List.length_cons]; omega) | exact step5 _ (by omega)
    cases b4 <;> cases mo <;> first | exact step4 _ (by simp only [List.length_cons]; omega) | exact step4 _ (by omega) | exact (step4 _ (by simp only [List.length_cons]; omega)).trans (by simp)
   cases b4 <;> cases br <;> first | exact step3 _ (by omega) | exact (step3 _ (by simp only [List.length_cons]; omega)).trans (by simp)
  cases b2 <;> cases b3 <;> first | exact step2 _ (by omega) | exact (step2 _ (by simp only [List.length_cons]; omega)).trans (by simp)
 cases b1 with
 | true => exact (step [0 + 1] (by simp)).trans (by simp)
 | false => exact (step [] (by simp)).trans (by simp)
def firstC (u v : Int) : List Mv → Int → Int × Int
 | [], _ => (0, 0)
 | m :: r, i => match csS u v m with
  | [] => firstC u v r (i + 1)
  | c :: _ => (c, i)
theorem cs_pos {u v : Int} {m : Mv} : ∀ c ∈ csS u v m, 1 ≤ c ∧ c ≤ 5 := by
 intro c h
 unfold csS at h
 generalize decide (m.2.1 > v) = b1 at h
 generalize (decide (m.1 < 0) || decide (m.1 > u)) = b2 at h
 generalize (decide (m.2.1 > 0) && m.2.2.2.1) = b3 at h
 generalize (decide (m.2.1 > 0) && !m.2.2.1) = b4 at h
 generalize (m.2.2.1 && decide (m.2.2.2.2 > 0)) = b5 at h
 simp only [List.mem_append] at h
 rcases h with h | h | h | h | h
 ·cases b1 <;> simp at h <;> omega
 ·cases b2 <;> simp at h <;> omega
 ·cases b3 <;> simp at h <;> omega
 ·cases b4 <;> simp at h <;> omega
 ·cases b5 <;> simp at h <;> omega
theorem wtA_go {xs : List Mv} {u v : Int} (hx : xs.length ≤ 10000) : ∀ (n i : Nat) (b : Int), i + n = xs.length →
  (∃ y z1 z2, firstC u v (xs.drop i) i = (y, (z1 : Int)) ∧ y ≠ 0 ∧ wtA_f xs u v (n + 1) (i : Int) 0 b = some (0, (z1, y, z1, z2))) ∨ (firstC u v (xs.drop i) i = (0, 0) ∧ ∃ z0 z1, wtA_f xs u v (n + 1) (i : Int) 0 b = some (1, (z0, 0, z1))) := by
 intro n
 induction n with
 | zero =>
  intro i b h
  refine .inr ⟨by rw [List.drop_of_length_le (by omega)]; rfl, (i : Int), (b, default, default), ?_⟩
  rw [wtA_fs, bif_dT (by omega), bif_dF (by omega)]
 | succ n ih =>
  intro i b h
  rw [wtA_fs, bif_dT (by omega), bif_dT (by omega), wt_k rfl, el_drop (l := xs) (i := i) (by omega)]
  simp only [wtI_m]
  rw [show Nat.beq 0 0 = true from rfl, cond_true]
  unfold firstC
  cases hc : csS u v (el xs (i : Int)) with
  | nil =>
   rw [bif_dF (by simp), show (!((0 : Int) == 0)) = false from rfl, cond_false, w8n (n := (i : Int) + 1) (by omega) (by omega)]
   have := ih (i + 1) (i : Int) (by omega)
   rw [show ((i + 1 : Nat) : Int) = (i : Int) + 1 by omega] at this
   exact this
  | cons c r =>
   have h1 := cs_pos (u := u) (v := v) (m := el xs (i : Int)) c (by rw [hc]; simp)
   have h2 : el (c :: r).reverse.reverse 0 = c := by rw [List.reverse_reverse]; rfl
   rw [bif_dT (by simp only [List.length_reverse, List.length_cons]; omega), h2, show (!(c == 0)) = true by simp; omega, cond_true]
   exact .inl ⟨c, (i : Int), _, rfl, by omega, rfl⟩
end Go.Proofs.Ytbhmgchkgbenmaa
