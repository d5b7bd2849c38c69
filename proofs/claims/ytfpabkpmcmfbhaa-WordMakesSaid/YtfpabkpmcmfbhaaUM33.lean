/- Layer 33: WordMakes: Make and Parse, one way for both. -/
import Derived.Test.YtfpabkpmcmfbhaaUT
import Derived.Test.YtfpabkpmcmfbhaaOgM2
import Derived.Test.YtfpabkpmcmfbhaaOgM3
namespace Go.Proofs.Ytfpabkpmcmfbhaa
open Go Go.RowKit
set_option linter.unusedVariables false
set_option linter.unusedSimpArgs false
theorem notT {p : Prop} [Decidable p] (h : p) : (!decide p) = false := by rw [decide_eq_true h]; rfl
/-- a word with a bit more -/
noncomputable def mkS (w x : Int) : Int := IntKind.i64.wrap (((BitVec.ofInt 64 w ||| BitVec.ofInt 64 (pbV x)).toNat : Nat) : Int)
theorem mkS_all : ∀ (w : Fin 256) (x : Fin 8), (bif !btB (w.val : Int) ((x.val : Int) + 1) then IntKind.i64.wrap ((w.val : Int) + pwI (IntKind.i64.wrap ((x.val : Int) + 1 - 1))) else (w.val : Int)) = mkS (w.val : Int) ((x.val : Int) + 1) ∧ 0 ≤ mkS (w.val : Int) ((x.val : Int) + 1) ∧ mkS (w.val : Int) ((x.val : Int) + 1) ≤ 255 := by
  decide +kernel
theorem mkS_is {w x : Int} (hw : 0 ≤ w ∧ w ≤ 255) (hx : 1 ≤ x ∧ x ≤ 8) : (bif !btB w x then IntKind.i64.wrap (w + pwI (IntKind.i64.wrap (x - 1))) else w) = mkS w x ∧ 0 ≤ mkS w x ∧ mkS w x ≤ 255 := by
  have h := mkS_all ⟨w.toNat, by omega⟩ ⟨(x - 1).toNat, by omega⟩
  have e1 : ((w.toNat : Nat) : Int) = w := by omega
  have e2 : (((x - 1).toNat : Nat) : Int) + 1 = x := by omega
  simp only [e1, e2] at h
  exact h
/-- the word of some cars, if all are right -/
noncomputable def mkF (c : Int) : List Int → Int → Option Int
  | [], w => some w
  | x :: r, w => if 1 ≤ x ∧ x ≤ c then mkF c r (mkS w x) else none
/-- how the loop over the cars ends -/
def EndM (o : Option Int) (k : Nat) (z : Int) : Prop := match o with
  | some v => k = 1 ∧ z = v
  | none => k = 0
theorem rmA_go {xs : List Int} {c : Int} (hc : 1 ≤ c ∧ c ≤ 8) (hx : xs.length ≤ 20) : ∀ (n i : Nat) (w : Int), i + n = xs.length → 0 ≤ w → w ≤ 255 → ∃ k z y, rmA_f xs c (n + 1) w (i : Int) = some (k, (z, y)) ∧ EndM (mkF c (xs.drop i) w) k z := by
  intro n
  induction n with
  | zero =>
    intro i w h h0 h1
    rw [rmA_fs, bif_dT (by omega), bif_dF (by omega), List.drop_of_length_le (by omega)]
    exact ⟨1, _, _, rfl, rfl, rfl⟩
  | succ n ih =>
    intro i w h h0 h1
    rw [rmA_fs, bif_dT (by omega), bif_dT (by omega), el_drop (l := xs) (i := i) (by omega), w8n (n := (i : Int) + 1) (by omega) (by omega), show (i : Int) + 1 = ((i + 1 : Nat) : Int) by omega]
    generalize el xs (i : Int) = x
    unfold mkF
    by_cases g1 : x < 1
    · rw [bif_dT g1, if_neg (by omega)]
      exact ⟨0, _, _, rfl, rfl⟩
    · rw [bif_dF g1]
      by_cases g2 : x > c
      · rw [bif_dT g2, if_neg (by omega)]
        exact ⟨0, _, _, rfl, rfl⟩
      · rw [bif_dF g2, if_pos (by omega)]
        obtain ⟨s1, s2, s3⟩ := mkS_is (w := w) (x := x) ⟨h0, h1⟩ ⟨by omega, by omega⟩
        obtain ⟨k, z, y, q1, q2⟩ := ih (i + 1) (mkS w x) (by omega) s2 s3
        refine ⟨k, z, y, ?_, q2⟩
        rw [← q1, ← s1]
        cases !btB w x <;> rfl
theorem pmA_go {xs : List Int} {c : Int} (hc : 1 ≤ c ∧ c ≤ 8) (hx : xs.length ≤ 20) : ∀ (n i : Nat) (w : Int), i + n = xs.length → 0 ≤ w → w ≤ 255 → ∃ k z y, pmA_f xs c (n + 1) w (i : Int) = some (k, (z, y)) ∧ EndM (mkF c (xs.drop i) w) k z := by
  intro n
  induction n with
  | zero =>
    intro i w h h0 h1
    rw [pmA_fs, bif_dT (by omega), bif_dF (by omega), List.drop_of_length_le (by omega)]
    exact ⟨1, _, _, rfl, rfl, rfl⟩
  | succ n ih =>
    intro i w h h0 h1
    rw [pmA_fs, bif_dT (by omega), bif_dT (by omega), el_drop (l := xs) (i := i) (by omega), w8n (n := (i : Int) + 1) (by omega) (by omega), show (i : Int) + 1 = ((i + 1 : Nat) : Int) by omega]
    generalize el xs (i : Int) = x
    unfold mkF
    by_cases g1 : x ≥ 1
    · rw [bif_dT g1]
      by_cases g2 : x ≤ c
      · rw [notT g2, cond_false, if_pos (by omega)]
        obtain ⟨s1, s2, s3⟩ := mkS_is (w := w) (x := x) ⟨h0, h1⟩ ⟨by omega, by omega⟩
        obtain ⟨k, z, y, q1, q2⟩ := ih (i + 1) (mkS w x) (by omega) s2 s3
        exact ⟨k, z, y, q1, q2⟩
      · rw [decide_eq_false g2, Bool.not_false, cond_true, if_neg (by omega)]
        exact ⟨0, _, _, rfl, rfl⟩
    · rw [bif_dF g1, if_neg (by omega)]
      exact ⟨0, _, _, rfl, rfl⟩
/-- the error, and the word -/
noncomputable def mkE (xs : List Int) (c : Int) : Int := if 1 ≤ c ∧ c ≤ 8 then (match mkF c xs 0 with | some _ => 0 | none => 2) else 2
noncomputable def mkV (xs : List Int) (c : Int) : Int := if 1 ≤ c ∧ c ≤ 8 then (match mkF c xs 0 with | some v => v | none => 0) else 0
theorem vl_ok {c : Int} (h : 1 ≤ c ∧ c ≤ 8) : vlX 0 c = 0 := by
  have p := pw_any c
  unfold vlX rvd_c0
  rw [bif_dF (by omega), bif_dF (by omega), bif_dF (by omega), bif_dF (by omega)]
theorem vl_bad {c : Int} (h : ¬ (1 ≤ c ∧ c ≤ 8)) : vlX 0 c = 2 := by
  unfold vlX rvd_c0
  by_cases g : c < 1
  · rw [bif_dT g]
  · rw [bif_dF g, bif_dT (by omega)]
theorem cw_ok {c : Int} (h : 1 ≤ c ∧ c ≤ 8) : cwX c = 0 := by
  unfold cwX cw0_c0
  rw [bif_dT (by omega), notT (by omega), cond_false]
theorem cw_bad {c : Int} (h : ¬ (1 ≤ c ∧ c ≤ 8)) : cwX c = 2 := by
  unfold cwX cw0_c0
  by_cases g : c ≥ 1
  · rw [bif_dT g, decide_eq_false (by omega), Bool.not_false, cond_true]
  · rw [bif_dF g]
theorem make_r (xs : List Int) (c : Int) (hx : xs.length ≤ 20) : KnownR Try.prog [] 19 [.list (rowA gI xs) xs.length, .val (.int .i64 c)] (.tuple #[.int .i64 (mkV xs c), .int .i64 (mkE xs c)]) [] := by
  by_cases hc : 1 ≤ c ∧ c ≤ 8
  · have hv := vl_ok hc
    have k1 : (vlX (0 : Int) c != (0 : Int)) = false := by simp [hv]
    obtain ⟨k, z, y, h1, h2⟩ := rmA_go hc hx xs.length 0 0 (by omega) (by omega) (by omega)
    rw [List.drop_zero] at h2
    have hl := rmA_ok xs c hv hc hx _ _ _ h1
    dsimp only at hl
    unfold mkV mkE
    rw [if_pos hc, if_pos hc]
    cases hm : mkF c xs 0 with
    | none =>
      rw [hm] at h2
      have h2 : k = 0 := h2
      subst h2
      exact rm0 xs c z y hv hc hx k1 hl
    | some v =>
      rw [hm] at h2
      obtain ⟨rfl, rfl⟩ : k = 1 ∧ z = v := h2
      exact rm1 xs c z y hv hc hx k1 hl
  · have hv := vl_bad hc
    have r := rmE xs c (by rw [hv]; decide)
    unfold rmE_c1 at r
    unfold mkV mkE
    rw [if_neg hc, if_neg hc]
    rw [hv] at r
    exact r
theorem make_p (xs : List Int) (c : Int) (hx : xs.length ≤ 20) : KnownR Try.prog [] 18 [.list (rowA gI xs) xs.length, .val (.int .i64 c)] (.tuple #[.int .i64 (mkV xs c), .int .i64 (mkE xs c)]) [] := by
  by_cases hc : 1 ≤ c ∧ c ≤ 8
  · have hv := cw_ok hc
    have k1 : (cwX c != (0 : Int)) = false := by simp [hv]
    obtain ⟨k, z, y, h1, h2⟩ := pmA_go hc hx xs.length 0 0 (by omega) (by omega) (by omega)
    rw [List.drop_zero] at h2
    have hl := pmA_ok xs c hv hc hx _ _ _ h1
    dsimp only at hl
    unfold mkV mkE
    rw [if_pos hc, if_pos hc]
    cases hm : mkF c xs 0 with
    | none =>
      rw [hm] at h2
      have h2 : k = 0 := h2
      subst h2
      exact pm0 xs c z y hv hc hx k1 hl
    | some v =>
      rw [hm] at h2
      obtain ⟨rfl, rfl⟩ : k = 1 ∧ z = v := h2
      exact pm1 xs c z y hv hc hx k1 hl
  · have hv := cw_bad hc
    have r := pmE xs c (by rw [hv]; decide)
    unfold pmE_c1 at r
    unfold mkV mkE
    rw [if_neg hc, if_neg hc]
    rw [hv] at r
    exact r
/-- the word of a text, from a place on -/
def psF (s : ByteArray) : Nat → Nat → Int → Option Int
  | 0, _, w => some w
  | k + 1, p, w => if byN s p = 49 then psF s k (p + 1) (w + ((2 ^ p : Nat) : Int)) else if byN s p = 48 then psF s k (p + 1) w else none
theorem pw8 {p : Nat} (hp : p < 8) : (2 : Nat) ^ p ≤ 128 := by
  have : (2 : Nat) ^ p ≤ 2 ^ 7 := Nat.pow_le_pow_right (by omega) (by omega)
  omega
theorem or_all : ∀ (p : Fin 8) (w : Fin 256), (w.val < 2 ^ p.val) → IntKind.i64.wrap (((BitVec.ofInt 64 (w.val : Int) ||| BitVec.ofInt 64 (IntKind.i64.wrap ((1 : Int) * (2 : Int) ^ min (IntKind.u64.wrap (p.val : Int)).toNat 64))).toNat : Nat) : Int) = (w.val : Int) + ((2 ^ p.val : Nat) : Int) ∧ IntKind.i64.wrap (((BitVec.ofInt 64 (w.val : Int) ||| BitVec.ofInt 64 (IntKind.i64.wrap ((0 : Int) * (2 : Int) ^ min (IntKind.u64.wrap (p.val : Int)).toNat 64))).toNat : Nat) : Int) = (w.val : Int) := by
  decide +kernel
theorem or_is {p : Nat} {w : Int} (hp : p < 8) (h0 : 0 ≤ w) (h1 : w < ((2 ^ p : Nat) : Int)) : IntKind.i64.wrap (((BitVec.ofInt 64 w ||| BitVec.ofInt 64 (IntKind.i64.wrap ((1 : Int) * (2 : Int) ^ min (IntKind.u64.wrap (p : Int)).toNat 64))).toNat : Nat) : Int) = w + ((2 ^ p : Nat) : Int) ∧ IntKind.i64.wrap (((BitVec.ofInt 64 w ||| BitVec.ofInt 64 (IntKind.i64.wrap ((0 : Int) * (2 : Int) ^ min (IntKind.u64.wrap (p : Int)).toNat 64))).toNat : Nat) : Int) = w := by
  have q := pw8 hp
  have h := or_all ⟨p, hp⟩ ⟨w.toNat, by generalize (2 : Nat) ^ p = a at *; omega⟩ (by show w.toNat < 2 ^ p; generalize (2 : Nat) ^ p = a at *; omega)
  have e1 : ((w.toNat : Nat) : Int) = w := by omega
  simp only [e1] at h
  exact h
/-- the same; where a text is none the word is 0 -/
def EndZ (o : Option Int) (k : Nat) (z : Int) : Prop := match o with
  | some v => k = 1 ∧ z = v
  | none => k = 0 ∧ z = 0
theorem ppA_go {s : ByteArray} (hs : s.size ≤ 8) : ∀ (n p : Nat) (w : Int), p + n = s.size → 0 ≤ w → w < ((2 ^ p : Nat) : Int) → ∃ k z y, ppA_f s (n + 1) w (p : Int) = some (k, (z, y)) ∧ EndZ (psF s n p w) k z := by
  intro n
  induction n with
  | zero =>
    intro p w h h0 h1
    have q : (2 : Nat) ^ p ≤ 256 := by
      have : (2 : Nat) ^ p ≤ 2 ^ 8 := Nat.pow_le_pow_right (by omega) (by omega)
      omega
    generalize (2 : Nat) ^ p = a at *
    rw [ppA_fs, bif_dT (by omega), Int.toNat_natCast, bif_dF (by omega)]
    exact ⟨1, _, _, rfl, rfl, rfl⟩
  | succ n ih =>
    intro p w h h0 h1
    have hp : p < 8 := by omega
    have q := pw8 hp
    obtain ⟨o1, o2⟩ := or_is hp h0 h1
    rw [ppA_fs, bif_dT (by generalize (2 : Nat) ^ p = a at *; omega), Int.toNat_natCast, bif_dT (by omega)]
    unfold psF
    by_cases hb : byN s p < 128
    · rw [dec_lo hb]
      dsimp only
      have hD : IntKind.i64.wrap (IntKind.i32.wrap ((byN s p : Int) - 48)) = (byN s p : Int) - 48 := by
        have e : IntKind.i32.wrap ((byN s p : Int) - 48) = (byN s p : Int) - 48 := by
          rw [IntKind.wrap_i32]; omega
        rw [e, w8n (by omega) (by omega)]
      rw [hD]
      by_cases g1 : byN s p = 49
      · rw [g1, if_pos rfl]
        obtain ⟨k, z, y, q1, q2⟩ := ih (p + 1) (w + ((2 ^ p : Nat) : Int)) (by omega) (by generalize (2 : Nat) ^ p = a at *; omega) (by rw [Nat.pow_succ]; generalize (2 : Nat) ^ p = a at *; omega)
        refine ⟨k, z, y, ?_, q2⟩
        rw [← q1, ← o1]
        rfl
      · by_cases g2 : byN s p = 48
        · rw [g2, if_neg (by decide), if_pos rfl]
          obtain ⟨k, z, y, q1, q2⟩ := ih (p + 1) w (by omega) h0 (by rw [Nat.pow_succ]; generalize (2 : Nat) ^ p = a at *; omega)
          refine ⟨k, z, y, ?_, q2⟩
          conv at q1 => lhs; rw [← o2]
          exact q1
        · rw [if_neg g1, if_neg g2]
          by_cases g3 : (byN s p : Int) - 48 ≥ 0
          · rw [bif_dT g3, decide_eq_false (by omega), Bool.not_false, cond_true]
            exact ⟨0, _, _, rfl, rfl, rfl⟩
          · rw [bif_dF g3]
            exact ⟨0, _, _, rfl, rfl, rfl⟩
    · obtain ⟨d1, d2, d3, d4⟩ := dec_hi (s := s) (p := p) (by omega)
      have hD : IntKind.i64.wrap (IntKind.i32.wrap (((Utf8.decode s p).1 : Int) - 48)) = ((Utf8.decode s p).1 : Int) - 48 := by
        have e : IntKind.i32.wrap (((Utf8.decode s p).1 : Int) - 48) = ((Utf8.decode s p).1 : Int) - 48 := by
          rw [IntKind.wrap_i32]; omega
        rw [e, w8n (by omega) (by omega)]
      rw [hD, bif_dT (by omega), decide_eq_false (by omega), Bool.not_false, cond_true, if_neg (by omega), if_neg (by omega)]
      exact ⟨0, _, _, rfl, rfl, rfl⟩
theorem rpA_go {s : ByteArray} (hs : s.size ≤ 8) : ∀ (n p : Nat) (w : Int), p + n = s.size → 0 ≤ w → w < ((2 ^ p : Nat) : Int) → ∃ k z y, rpA_f s (n + 1) w (p : Int) = some (k, (z, y)) ∧ EndM (psF s n p w) k z := by
  intro n
  induction n with
  | zero =>
    intro p w h h0 h1
    have q : (2 : Nat) ^ p ≤ 256 := by
      have : (2 : Nat) ^ p ≤ 2 ^ 8 := Nat.pow_le_pow_right (by omega) (by omega)
      omega
    generalize (2 : Nat) ^ p = a at *
    rw [rpA_fs, bif_dT (by omega), bif_dF (by omega)]
    exact ⟨1, _, _, rfl, rfl, rfl⟩
  | succ n ih =>
    intro p w h h0 h1
    have hp : p < 8 := by omega
    have q := pw8 hp
    have e1 : IntKind.i64.wrap (w + pwI (p : Int)) = w + ((2 ^ p : Nat) : Int) := by
      unfold pwI
      rw [Int.toNat_natCast]
      generalize (2 : Nat) ^ p = a at *
      rw [w8n (by omega) (by omega)]
    rw [rpA_fs, bif_dT (by generalize (2 : Nat) ^ p = a at *; omega), bif_dT (by omega), byI_at (by omega) (by omega), Int.toNat_natCast, e1, w8n (n := (p : Int) + 1) (by omega) (by omega), show (p : Int) + 1 = ((p + 1 : Nat) : Int) by omega]
    unfold psF
    by_cases g1 : byN s p = 49
    · rw [g1, if_pos rfl]
      exact ih (p + 1) (w + ((2 ^ p : Nat) : Int)) (by omega) (by generalize (2 : Nat) ^ p = a at *; omega) (by rw [Nat.pow_succ]; generalize (2 : Nat) ^ p = a at *; omega)
    · rw [if_neg g1, show ((byN s p : Int) == 49) = false by simp; omega, cond_false]
      by_cases g2 : byN s p = 48
      · rw [g2, if_pos rfl]
        exact ih (p + 1) w (by omega) h0 (by rw [Nat.pow_succ]; generalize (2 : Nat) ^ p = a at *; omega)
      · rw [if_neg g2, show ((byN s p : Int) == 48) = false by simp; omega, cond_false]
        exact ⟨0, _, _, rfl, rfl⟩
end Go.Proofs.Ytfpabkpmcmfbhaa
