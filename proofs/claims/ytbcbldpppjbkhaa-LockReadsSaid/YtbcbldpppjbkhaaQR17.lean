/- Layer 17: Parse of both, one way for both. -/
import Derived.Test.YtbcbldpppjbkhaaUT
import Derived.Test.YtbcbldpppjbkhaaOgP17
import Derived.Test.YtbcbldpppjbkhaaOgR17
namespace Go.Proofs.Ytbcbldpppjbkhaa
open Go Go.RowKit
set_option linter.unusedVariables false
set_option linter.unusedSimpArgs false
theorem beT {α : Type} {a b : Int} {x y : α} (h : a = b) : (bif a == b then x else y) = x := by simp [h]
theorem beF {α : Type} {a b : Int} {x y : α} (h : a ≠ b) : (bif a == b then x else y) = y := by
  rw [show (a == b) = false by simpa using h]; rfl
theorem bnT {α : Type} {a b : Int} {x y : α} (h : a ≠ b) : (bif a != b then x else y) = x := by
  rw [show (a != b) = true by simpa using h]; rfl
theorem bnF {α : Type} {a b : Int} {x y : α} (h : a = b) : (bif a != b then x else y) = y := by simp [h]
/-- the letters from a place on: the first that is wrong, or the locks -/
def lkF (s : ByteArray) : Nat → Nat → Bool → List Bool → Int × Option (Bool × List Bool)
  | 0, i, c, l => ((i : Int), some (c, l))
  | n + 1, i, c, l =>
    if i = 1 then (if byN s i = 124 then lkF s n (i + 1) c l else ((i : Int), none))
    else if byN s i = 120 ∨ byN s i = 111 then (if i = 0 then lkF s n (i + 1) ((byN s i : Int) == 120) l else lkF s n (i + 1) c (((byN s i : Int) == 120) :: l))
    else ((i : Int), none)
def EndP (o : Int × Option (Bool × List Bool)) (k : Nat) (z0 : List Bool) (z1 : Bool) (z2 : Int) : Prop := match o with
  | (a, none) => (k = 0 ∨ k = 1) ∧ z2 = a ∧ 0 ≤ z2
  | (_, some v) => k = 2 ∧ z0 = v.2 ∧ z1 = v.1
def EndR (s : ByteArray) (o : Int × Option (Bool × List Bool)) (k : Nat) (z0 : List Bool) (z1 : Int) (z2 : Bool) : Prop := match o with
  | (a, none) => k = 0 ∧ z1 = a
  | (_, some v) => (s.size < 2 ∧ k = 1 ∨ 2 ≤ s.size ∧ k = 2) ∧ z0 = v.2 ∧ z2 = v.1 ∧ z1 = (s.size : Int)
theorem dec_two (s : ByteArray) (i : Nat) : ((Utf8.decode s i).1 = byN s i ∧ (Utf8.decode s i).2 = 1) ∨ (128 ≤ (Utf8.decode s i).1 ∧ 128 ≤ byN s i) := by
  by_cases h : byN s i < 128
  · left; rw [dec_lo h]; exact ⟨rfl, rfl⟩
  · right; exact ⟨(dec_hi (by omega)).1, by omega⟩
theorem paA_go {s : ByteArray} (hs : s.size ≤ 100) : ∀ (n i : Nat) (y0 : List Bool) (y1 : Bool), i + n = s.size → y0.length ≤ i → ∃ k z0 z1 z2, paA_f s (n + 1) y0 y1 (i : Int) = some (k, (z0, z1, z2)) ∧ EndP (lkF s n i y1 y0) k z0 z1 z2 := by
  intro n
  induction n with
  | zero =>
    intro i y0 y1 h h0
    rw [paA_fs, bif_dT (by omega), bif_dF (by omega)]
    exact ⟨2, _, _, _, rfl, rfl, rfl, rfl⟩
  | succ n ih =>
    intro i y0 y1 h h0
    rw [paA_fs, bif_dT (by omega), bif_dT (by omega)]
    simp only [Int.toNat_natCast, Int.ofNat_eq_natCast]
    unfold lkF
    have hd := dec_two s i
    generalize Utf8.decode s i = d at *
    obtain ⟨r, w⟩ := d
    dsimp only at hd ⊢
    by_cases g1 : i = 1
    · rw [beT (by omega), if_pos g1]
      by_cases g2 : r = 124
      · rw [beT (by omega), if_pos (by omega), show w = 1 by omega]
        exact ih (i + 1) y0 y1 (by omega) (by omega)
      · rw [beF (by omega), if_neg (by omega)]
        exact ⟨0, _, _, _, rfl, .inl rfl, rfl, by omega⟩
    · rw [beF (by omega), if_neg g1]
      by_cases g3 : r = 120 ∨ r = 111
      · have hr : r = byN s i := by omega
        have hw : w = 1 := by omega
        subst hr hw
        rw [if_pos g3]
        have step : ∃ k z0 z1 z2, (bif ((i : Int) == (0 : Int)) then paA_f s (n + 1) y0 ((↑(byN s i) : Int) == (120 : Int)) (↑(i + 1)) else paA_f s (n + 1) (((↑(byN s i) : Int) == (120 : Int)) :: y0) y1 (↑(i + 1))) = some (k, (z0, z1, z2)) ∧ EndP (if i = 0 then lkF s n (i + 1) ((byN s i : Int) == 120) y0 else lkF s n (i + 1) y1 (((byN s i : Int) == 120) :: y0)) k z0 z1 z2 := by
          by_cases g4 : i = 0
          · rw [beT (by omega), if_pos g4]
            exact ih (i + 1) y0 _ (by omega) (by omega)
          · rw [beF (by omega), if_neg g4]
            exact ih (i + 1) _ y1 (by omega) (by simp only [List.length_cons]; omega)
        by_cases g5 : byN s i = 120
        · rw [bnF (a := (↑(byN s i) : Int)) (b := 120) (by omega)]
          exact step
        · rw [bnT (a := (↑(byN s i) : Int)) (b := 120) (by omega), bnF (a := (↑(byN s i) : Int)) (b := 111) (by omega)]
          exact step
      · rw [bnT (by omega), bnT (by omega), if_neg (by omega)]
        exact ⟨1, _, _, _, rfl, .inr rfl, rfl, by omega⟩
theorem raA_go {s : ByteArray} (hs : s.size ≤ 100) : ∀ (n i : Nat) (y0 : List Bool) (y2 : Bool), i + n = s.size → y0.length ≤ i → ∃ k z0 z1 z2, raA_f s (n + 1) y0 (i : Int) y2 = some (k, (z0, z1, z2)) ∧ z0.length ≤ s.size ∧ EndR s (lkF s n i y2 y0) k z0 z1 z2 := by
  intro n
  induction n with
  | zero =>
    intro i y0 y2 h h0
    rw [raA_fs, bif_dT (by omega), bif_dF (by omega)]
    by_cases g : s.size < 2
    · rw [bif_dT (by omega)]
      exact ⟨1, _, _, _, rfl, by omega, .inl ⟨g, rfl⟩, rfl, rfl, by omega⟩
    · rw [bif_dF (by omega)]
      exact ⟨2, _, _, _, rfl, by omega, .inr ⟨by omega, rfl⟩, rfl, rfl, by omega⟩
  | succ n ih =>
    intro i y0 y2 h h0
    rw [raA_fs, bif_dT (by omega), bif_dT (by omega)]
    rw [byI_at (s := s) (z := (i : Int)) (by omega) (by omega), w8n (n := (i : Int) + 1) (by omega) (by omega), show (i : Int) + 1 = ((i + 1 : Nat) : Int) by omega]
    simp only [Int.toNat_natCast]
    unfold lkF
    by_cases g1 : i = 1
    · rw [if_pos g1, show ((i : Int) == 1) = true by simp [g1], show ((i : Int) != 1) = false by simp [g1]]
      by_cases g2 : byN s i = 124
      · rw [show ((byN s i : Int) == 124) = true by simp [g2], if_pos g2]
        exact ih (i + 1) y0 y2 (by omega) (by omega)
      · rw [show ((byN s i : Int) == 124) = false by simpa using (by omega : ¬ (byN s i : Int) = 124), if_neg g2]
        exact ⟨0, _, _, _, rfl, by omega, rfl, rfl⟩
    · have e1 : ((i : Int) == 1) = false := by simpa using (by omega : ¬ (i : Int) = 1)
      have e2 : ((i : Int) != 1) = true := by simpa using (by omega : ¬ (i : Int) = 1)
      rw [if_neg g1, e1, e2]
      by_cases g2 : byN s i = 124
      · rw [show ((byN s i : Int) == 124) = true by simp [g2], if_neg (by omega)]
        exact ⟨0, _, _, _, rfl, by omega, rfl, rfl⟩
      · rw [show ((byN s i : Int) == 124) = false by simpa using (by omega : ¬ (byN s i : Int) = 124)]
        by_cases g3 : byN s i = 120 ∨ byN s i = 111
        · rw [if_pos g3]
          have step : ∃ k z0 z1 z2, (bif ((i : Int) == (0 : Int)) then raA_f s (n + 1) y0 (↑(i + 1)) ((↑(byN s i) : Int) == (120 : Int)) else raA_f s (n + 1) (((↑(byN s i) : Int) == (120 : Int)) :: y0) (↑(i + 1)) y2) = some (k, (z0, z1, z2)) ∧ z0.length ≤ s.size ∧ EndR s (if i = 0 then lkF s n (i + 1) ((byN s i : Int) == 120) y0 else lkF s n (i + 1) y2 (((byN s i : Int) == 120) :: y0)) k z0 z1 z2 := by
            by_cases g4 : i = 0
            · rw [beT (by omega), if_pos g4]
              exact ih (i + 1) y0 _ (by omega) (by omega)
            · rw [beF (by omega), if_neg g4]
              exact ih (i + 1) _ y2 (by omega) (by simp only [List.length_cons]; omega)
          by_cases g5 : byN s i = 120
          · rw [bnF (a := (↑(byN s i) : Int)) (b := 120) (by omega)]
            exact step
          · rw [bnT (a := (↑(byN s i) : Int)) (b := 120) (by omega), bnF (a := (↑(byN s i) : Int)) (b := 111) (by omega)]
            exact step
        · rw [bnT (a := (↑(byN s i) : Int)) (b := 120) (by omega), bnT (a := (↑(byN s i) : Int)) (b := 111) (by omega), if_neg g3]
          exact ⟨0, _, _, _, rfl, by omega, rfl, rfl⟩
/-- the chain, and the fault -/
def prO (s : ByteArray) : Bool × List Bool × Int × Int := match lkF s s.size 0 false [] with
  | (a, none) => (false, [], 3, a)
  | (_, some v) => if s.size < 2 then (false, [], 3, (s.size : Int)) else if ckC v.1 v.2.reverse = 0 then (v.1, v.2.reverse, 0, 0) else (false, [], ckC v.1 v.2.reverse, 0)
theorem parse_p (s : ByteArray) (hs : s.size ≤ 100) : KnownR Try.prog [] 37 [.val (.string s)] (.tuple #[.agg #[.bool (prO s).1, .complex .f64 0 (prO s).2.1.length], .agg #[.int .i64 (prO s).2.2.1, .int .i64 (prO s).2.2.2]]) [(rowA gB (prO s).2.1, 4)] := by
  obtain ⟨k, z0, z1, z2, h1, h2⟩ := paA_go hs s.size 0 [] false (by omega) (by simp)
  have hl := paA_ok s hs _ _ _ h1
  dsimp only at hl
  unfold prO
  generalize lkF s s.size 0 false [] = o at *
  rcases o with ⟨a, _ | v⟩
  · obtain ⟨hk, rfl, h0⟩ := h2
    dsimp only
    rcases hk with rfl | rfl
    · have r := pa0 s _ _ _ hs hl
      unfold pa0_c3 at r
      rw [show ((z2.toNat : Nat) : Int) = z2 by omega] at r
      exact r
    · have r := pa1 s _ _ _ hs hl
      unfold pa1_c3 at r
      rw [show ((z2.toNat : Nat) : Int) = z2 by omega] at r
      exact r
  · obtain ⟨rfl, rfl, rfl⟩ := h2
    have r := pa2 s _ _ _ hs hl
    unfold pa2_c0 pa2_c1 pa2_c2 pa2_c3 at r
    dsimp only
    by_cases g : s.size < 2
    · rw [if_pos g]
      simp only [bif_dT (show (s.size : Int) < 2 by omega)] at r
      exact r
    · rw [if_neg g]
      simp only [bif_dF (show ¬ (s.size : Int) < 2 by omega)] at r
      by_cases g2 : ckC v.1 v.2.reverse = 0
      · rw [if_pos g2]
        simp only [bnF g2] at r
        exact r
      · rw [if_neg g2]
        simp only [bnT g2] at r
        exact r
theorem parse_r (s : ByteArray) (hs : s.size ≤ 100) : KnownR Try.prog [] 38 [.val (.string s)] (.tuple #[.agg #[.bool (prO s).1, .complex .f64 0 (prO s).2.1.length], .agg #[.int .i64 (prO s).2.2.1, .int .i64 (prO s).2.2.2]]) [(rowA gB (prO s).2.1, 4)] := by
  obtain ⟨k, z0, z1, z2, h1, hz, h2⟩ := raA_go hs s.size 0 [] false (by omega) (by simp)
  have hl := raA_ok s hs _ _ _ h1
  dsimp only at hl
  unfold prO
  generalize lkF s s.size 0 false [] = o at *
  rcases o with ⟨a, _ | v⟩
  · obtain ⟨rfl, rfl⟩ := h2
    exact ra0 s _ _ _ hs (by omega) hl
  · obtain ⟨hk, rfl, rfl, rfl⟩ := h2
    dsimp only
    rcases hk with ⟨g, rfl⟩ | ⟨g, rfl⟩
    · rw [if_pos g]
      exact ra1 s _ _ _ hs (by omega) hl
    · rw [if_neg (by omega)]
      have r := ra2 s _ _ _ hs (by omega) hl
      unfold ra2_c0 ra2_c1 ra2_c2 at r
      by_cases g2 : ckC v.1 v.2.reverse = 0
      · rw [if_pos g2]
        simp only [bnF g2] at r
        exact r
      · rw [if_neg g2]
        simp only [bnT g2] at r
        exact r
theorem prO_len (s : ByteArray) : ((prO s).2.1.length : Int) ≤ 128 := by
  unfold prO
  generalize lkF s s.size 0 false [] = o
  rcases o with ⟨a, _ | v⟩
  · simp
  · dsimp only
    by_cases g : s.size < 2
    · rw [if_pos g]; simp
    · rw [if_neg g]
      by_cases g2 : ckC v.1 v.2.reverse = 0
      · rw [if_pos g2]
        unfold ckC at g2
        by_cases g3 : 2 ≤ (v.2.reverse.length : Int) ∧ (v.2.reverse.length : Int) ≤ 64
        · exact Int.le_trans g3.2 (by omega)
        · rw [if_neg g3] at g2; cases g2
      · rw [if_neg g2]; simp
/-- equal lists of locks -/
theorem sbA_go {l : List Bool} (hl : l.length ≤ 128) : ∀ (k i : Nat), i + k = l.length → sbA_f l (k + 1) (i : Int) = some (0, (l.length : Int)) := by
  intro k
  induction k with
  | zero =>
    intro i h
    rw [sbA_fs, bif_dT (by omega), bif_dF (by omega), show (i : Int) = (l.length : Int) by omega]
  | succ k ih =>
    intro i h
    rw [sbA_fs, bif_dT (by omega), bif_dT (by omega), w8n (n := (i : Int) + 1) (by omega) (by omega), show (i : Int) + 1 = ((i + 1 : Nat) : Int) by omega]
    exact ih (i + 1) (by omega)
theorem sb_is (l : List Bool) (hl : (l.length : Int) ≤ 128) : KnownR Try.prog [] 45 [.list (rowA gB l) l.length, .list (rowA gB l) l.length] (.bool true) [] := by
  have ho := sbA_ok l hl _ _ _ (sbA_go (l := l) (by omega) l.length 0 (by omega))
  exact sbK l _ hl (by simp) ho
end Go.Proofs.Ytbcbldpppjbkhaa
