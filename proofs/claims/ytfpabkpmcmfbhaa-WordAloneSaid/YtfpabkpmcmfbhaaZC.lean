/- Layer 33: Of of the program, of of the given one: what the loops come to. -/
import Derived.Test.YtfpabkpmcmfbhaaOgG
import Derived.Test.YtfpabkpmcmfbhaaOgD
namespace Go.Proofs.Ytfpabkpmcmfbhaa
open Go Go.RowKit
set_option linter.unusedVariables false
theorem w8u {n : Int} (h : 0 ≤ n) (h2 : n < 18446744073709551616) : IntKind.u64.wrap n = n := by rw [wrapU64]; omega
/-- bits, the lowest first -/
def wdN : List Bool → Nat
  | [] => 0
  | b :: r => (bif b then 1 else 0) + 2 * wdN r
theorem wd_lt : ∀ (F : List Bool), wdN F < 2 ^ F.length
  | [] => by simp [wdN]
  | b :: r => by
    have := wd_lt r
    unfold wdN
    rw [List.length_cons, Nat.pow_succ]
    cases b <;> simp <;> omega
theorem wd_set : ∀ (F : List Bool) (j : Nat), j < F.length → wdN (F.set j true) = wdN F ||| 2 ^ j
  | [], j, h => by simp at h
  | b :: r, 0, h => by
    rw [List.set_cons_zero]
    unfold wdN
    apply Nat.eq_of_testBit_eq
    intro i
    rw [Nat.testBit_or]
    cases i with
    | zero => cases b <;> simp [Nat.testBit_zero] <;> omega
    | succ i =>
      rw [Nat.testBit_succ, Nat.testBit_succ, Nat.testBit_succ]
      have e1 : ((bif true then 1 else 0) + 2 * wdN r) / 2 = wdN r := by simp; omega
      have e2 : ((bif b then 1 else 0) + 2 * wdN r) / 2 = wdN r := by cases b <;> simp <;> omega
      have e3 : (2 : Nat) ^ 0 / 2 = 0 := by decide
      rw [e1, e2, e3]
      simp
  | b :: r, j + 1, h => by
    rw [List.set_cons_succ]
    unfold wdN
    rw [wd_set r j (by simpa using h)]
    apply Nat.eq_of_testBit_eq
    intro i
    rw [Nat.testBit_or]
    cases i with
    | zero =>
      rw [Nat.testBit_zero, Nat.testBit_zero, Nat.testBit_zero, Nat.pow_succ]
      cases b <;> simp <;> omega
    | succ i =>
      rw [Nat.testBit_succ, Nat.testBit_succ, Nat.testBit_succ]
      have e1 : ((bif b then 1 else 0) + 2 * (wdN r ||| 2 ^ j)) / 2 = wdN r ||| 2 ^ j := by cases b <;> simp <;> omega
      have e2 : ((bif b then 1 else 0) + 2 * wdN r) / 2 = wdN r := by cases b <;> simp <;> omega
      have e3 : (2 : Nat) ^ (j + 1) / 2 = 2 ^ j := by rw [Nat.pow_succ]; omega
      rw [e1, e2, e3, Nat.testBit_or]
theorem pow8 {j : Nat} (h : j ≤ 8) : (2 : Nat) ^ j ≤ 256 := by
  have : (2 : Nat) ^ j ≤ 2 ^ 8 := Nat.pow_le_pow_right (by omega) h
  omega
theorem or_bits {F : List Bool} {j : Nat} {x y : Int} (hF : F.length ≤ 8) (hj : j < F.length) (hx : x = (wdN F : Int)) (hy : y = ((2 ^ j : Nat) : Int)) : ((BitVec.ofInt 64 x ||| BitVec.ofInt 64 y).toNat : Int) = (wdN (F.set j true) : Int) := by
  subst hx; subst hy
  have h1 := wd_lt F
  have h2 := pow8 hF
  have h3 := pow8 (j := j) (by omega)
  rw [BitVec.ofInt_natCast, BitVec.ofInt_natCast, BitVec.toNat_or, BitVec.toNat_ofNat, BitVec.toNat_ofNat, Nat.mod_eq_of_lt (by omega), Nat.mod_eq_of_lt (by omega), wd_set F j hj]
theorem shl_one {j : Nat} (hj : j ≤ 8) : (1 : Int) * 2 ^ min ((j : Int)).toNat 64 = ((2 ^ j : Nat) : Int) := by
  rw [Int.toNat_natCast, Nat.min_eq_left (by omega), Int.one_mul]
  simp
/-- what an entry does -/
def stepE (x : En) (s : List Int × List Bool) : List Int × List Bool :=
  if x.2.1 = 2 then (if x.2.2.2.2.2.1 = 1 then (s.1.set (x.2.2.2.2.1 - 1).toNat x.2.2.2.2.2.2, s.2) else if 3 ≤ x.2.2.2.2.2.1 then (s.1, s.2.set (x.2.2.2.2.1 - 1).toNat true) else s) else s
/-- a right entry -/
def okE (n : Int) (x : En) : Prop := 0 ≤ x.1 ∧ x.1 ≤ 1099511627776 ∧ (x.2.1 ≠ 2 ∨ (1 ≤ x.2.2.2.2.1 ∧ x.2.2.2.2.1 ≤ n ∧ 1 ≤ x.2.2.2.2.2.1 ∧ x.2.2.2.2.2.1 ≤ 6))
theorem el_end {es : List En} : (el es ((es.length : Nat) : Int)).2.1 = 0 := by
  unfold el
  rw [List.getD_eq_getElem?_getD, Int.toNat_natCast, List.getElem?_eq_none (Nat.le_refl _)]
  rfl
theorem ok_at {n : Int} {es : List En} (h : ∀ i : Nat, i < es.length → okE n (el es (i : Int))) {i : Nat} (hi : i ≤ es.length) : (el es (i : Int)).2.1 ≠ 2 ∨ (1 ≤ (el es (i : Int)).2.2.2.2.1 ∧ (el es (i : Int)).2.2.2.2.1 ≤ n ∧ 1 ≤ (el es (i : Int)).2.2.2.2.2.1 ∧ (el es (i : Int)).2.2.2.2.2.1 ≤ 6) := by
  rcases Nat.lt_or_eq_of_le hi with h1 | h1
  · exact (h i h1).2.2
  · subst h1; left; rw [el_end]; decide
theorem rfA_go {ld : List Int} {es : List En} {m : Int} (hl : ld.length ≤ 8) (he : es.length ≤ 2000) (ho : ∀ i : Nat, i < es.length → okE (ld.length : Int) (el es (i : Int))) : ∀ (k i : Nat) (L : List Int) (F : List Bool), i + k = es.length → L.length = ld.length → F.length = ld.length →
    ∃ z, rfA_f ld es 0 1099511627777 m (k + 1) L.reverse F.reverse (i : Int) = some (0, (((es.drop i).foldl (fun s x => stepE x s) (L, F)).1.reverse, ((es.drop i).foldl (fun s x => stepE x s) (L, F)).2.reverse, z)) ∧ ((es.drop i).foldl (fun s x => stepE x s) (L, F)).1.length = ld.length ∧ ((es.drop i).foldl (fun s x => stepE x s) (L, F)).2.length = ld.length := by
  intro k
  induction k with
  | zero =>
    intro i L F h hL hF
    have hk := ok_at ho (i := i) (by omega)
    rw [rfA_fs, bif_dT ⟨by omega, by omega, hk, by simp [hL], by simp [hF]⟩, bif_dF (by omega), List.drop_of_length_le (by omega)]
    exact ⟨_, rfl, hL, hF⟩
  | succ k ih =>
    intro i L F h hL hF
    have hk := ok_at ho (i := i) (by omega)
    obtain ⟨g1, g2, g3⟩ := ho i (by omega)
    rw [rfA_fs, bif_dT ⟨by omega, by omega, hk, by simp [hL], by simp [hF]⟩, bif_dT (by omega), el_drop (l := es) (i := i) (by omega), List.foldl_cons, w8n (n := (i : Int) + 1) (by omega) (by omega), show (i : Int) + 1 = ((i + 1 : Nat) : Int) by omega]
    generalize el es (i : Int) = x at *
    by_cases h1 : x.2.1 = 2
    · have e1 : (x.2.1 != 2) = false := by simp [h1]
      rw [e1, cond_false, bif_dF (by omega), bif_dF (by omega)]
      rcases g3 with g3 | ⟨g3, g4, g5, g6⟩
      · exact absurd h1 g3
      · rw [w8n (n := x.2.2.2.2.1 - 1) (by omega) (by omega), List.reverse_reverse, List.reverse_reverse]
        by_cases h2 : x.2.2.2.2.2.1 = 1
        · have e2 : (x.2.2.2.2.2.1 == 1) = true := by simp [h2]
          have e3 : stepE x (L, F) = (L.set (x.2.2.2.2.1 - 1).toNat x.2.2.2.2.2.2, F) := by unfold stepE; rw [if_pos h1, if_pos h2]
          rw [e2, cond_true, e3]
          exact ih (i + 1) _ _ (by omega) (by simp [hL]) hF
        · have e2 : (x.2.2.2.2.2.1 == 1) = false := by simp [h2]
          rw [e2, cond_false]
          by_cases h3 : x.2.2.2.2.2.1 ≥ 3
          · have e3 : stepE x (L, F) = (L, F.set (x.2.2.2.2.1 - 1).toNat true) := by unfold stepE; rw [if_pos h1, if_neg h2, if_pos h3]
            rw [bif_dT h3, e3]
            exact ih (i + 1) _ _ (by omega) hL (by simp [hF])
          · have e3 : stepE x (L, F) = (L, F) := by unfold stepE; rw [if_pos h1, if_neg h2, if_neg (by omega)]
            rw [bif_dF h3, e3]
            exact ih (i + 1) _ _ (by omega) hL hF
    · have e1 : (x.2.1 != 2) = true := by simp [h1]
      have e3 : stepE x (L, F) = (L, F) := by unfold stepE; rw [if_neg h1]
      rw [e1, cond_true, e3]
      exact ih (i + 1) _ _ (by omega) hL hF
theorem poA_go {m : Int} {ld : List Int} {es : List En} (hl : ld.length ≤ 8) (he : es.length ≤ 2000) (ho : ∀ i : Nat, i < es.length → okE (ld.length : Int) (el es (i : Int))) : ∀ (k i : Nat) (L : List Int) (F : List Bool), i + k = es.length → L.length = ld.length → F.length = ld.length →
    ∃ z, poA_f m ld es (k + 1) L.reverse (i : Int) (wdN F : Int) = some (0, (((es.drop i).foldl (fun s x => stepE x s) (L, F)).1.reverse, z, (wdN ((es.drop i).foldl (fun s x => stepE x s) (L, F)).2 : Int))) := by
  intro k
  induction k with
  | zero =>
    intro i L F h hL hF
    have hk := ok_at ho (i := i) (by omega)
    rw [poA_fs, bif_dT ⟨by omega, by omega, hk, by simp [hL]⟩, bif_dF (by omega), List.drop_of_length_le (by omega)]
    exact ⟨_, rfl⟩
  | succ k ih =>
    intro i L F h hL hF
    have hk := ok_at ho (i := i) (by omega)
    obtain ⟨g1, g2, g3⟩ := ho i (by omega)
    rw [poA_fs, bif_dT ⟨by omega, by omega, hk, by simp [hL]⟩, bif_dT (by omega), el_drop (l := es) (i := i) (by omega), List.foldl_cons, w8n (n := (i : Int) + 1) (by omega) (by omega), show (i : Int) + 1 = ((i + 1 : Nat) : Int) by omega]
    generalize el es (i : Int) = x at *
    by_cases h1 : x.2.1 = 2
    · have e1 : (x.2.1 == 2) = true := by simp [h1]
      rw [e1, cond_true]
      rcases g3 with g3 | ⟨g3, g4, g5, g6⟩
      · exact absurd h1 g3
      · rw [w8n (n := x.2.2.2.2.1 - 1) (by omega) (by omega), List.reverse_reverse]
        obtain ⟨c, hc⟩ : ∃ c : Nat, x.2.2.2.2.1 - 1 = (c : Int) := ⟨(x.2.2.2.2.1 - 1).toNat, by omega⟩
        by_cases h2 : x.2.2.2.2.2.1 = 1
        · have e3 : stepE x (L, F) = (L.set (x.2.2.2.2.1 - 1).toNat x.2.2.2.2.2.2, F) := by unfold stepE; rw [if_pos h1, if_pos h2]
          rw [bif_dT h2, e3]
          exact ih (i + 1) _ _ (by omega) (by simp [hL]) hF
        · rw [bif_dF h2]
          by_cases h4 : x.2.2.2.2.2.1 = 2
          · have e3 : stepE x (L, F) = (L, F) := by unfold stepE; rw [if_pos h1, if_neg h2, if_neg (by omega)]
            rw [bif_dT h4, e3]
            exact ih (i + 1) _ _ (by omega) hL hF
          · have e3 : stepE x (L, F) = (L, F.set c true) := by unfold stepE; rw [if_pos h1, if_neg h2, if_pos (by omega), hc, Int.toNat_natCast]
            have hcl : c < F.length := by omega
            have p1 := pow8 (j := c) (by omega)
            have hs : IntKind.i64.wrap ((1 : Int) * 2 ^ min ((IntKind.u64.wrap (c : Int))).toNat 64) = ((2 ^ c : Nat) : Int) := by
              rw [w8u (by omega) (by omega), shl_one (by omega)]
              generalize (2 : Nat) ^ c = q at p1 ⊢
              exact w8n (by omega) (by omega)
            have ho2 := or_bits (F := F) (j := c) (by omega) hcl rfl rfl
            have hb := wd_lt (F.set c true)
            have hb2 := pow8 (j := (F.set c true).length) (by simp; omega)
            have ih2 := ih (i + 1) L (F.set c true) (by omega) hL (by simp [hF])
            rw [e3, hc, hs]
            simp only [ho2]
            rw [w8n (n := (wdN (F.set c true) : Int)) (by omega) (by omega)]
            rw [bif_dF h4]
            by_cases h5 : x.2.2.2.2.2.1 = 3
            · rw [bif_dT h5]; exact ih2
            · rw [bif_dF h5]
              by_cases h6 : x.2.2.2.2.2.1 = 4
              · rw [bif_dT h6]; exact ih2
              · rw [bif_dF h6]
                first
                  | exact ih2
                  | (by_cases h7 : x.2.2.2.2.2.1 = 5
                     · rw [bif_dT h7]; exact ih2
                     · rw [bif_dF h7]; exact ih2)
    · have e1 : (x.2.1 == 2) = false := by simp [h1]
      have e3 : stepE x (L, F) = (L, F) := by unfold stepE; rw [if_neg h1]
      rw [e1, cond_false, e3]
      exact ih (i + 1) _ _ (by omega) hL hF
end Go.Proofs.Ytfpabkpmcmfbhaa
