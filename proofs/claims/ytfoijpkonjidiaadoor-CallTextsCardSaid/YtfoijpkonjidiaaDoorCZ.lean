/- Layer 20: calls made of numbers, their texts, as contracts of any numbers. -/
import Derived.Test.YtfoijpkonjidiaaDoorCX
import Derived.Test.YtfoijpkonjidiaaDoorOgC1
namespace Go.Proofs.YtfoijpkonjidiaaDoor
open Go Go.RowKit
set_option linter.unusedVariables false
set_option linter.unusedSimpArgs false
/-- digits, up to something else -/
def rdDg : List UInt8 → Nat → Nat × List UInt8
  | [], n => (n, [])
  | b :: r, n => match Nat.ble 48 b.toNat && Nat.ble b.toNat 57 with | true => rdDg r (10 * n + Nat.sub b.toNat 48) | false => (n, r)
/-- the number of a text -/
def dcT (l : List UInt8) : Nat := match l with
  | [] => 720
  | b :: r => match Nat.beq b.toNat 99 with
    | true => match rdDg r 0 with
      | (c, r1) => match rdDg r1 0 with
        | (f, r2) => 240 + 24 * (rdDg r2 0).1 + 6 * (c - 1) + f
    | false => match rdDg r 0 with
      | (f, r1) => 12 * (rdDg r1 0).1 + 2 * f + (match Nat.beq b.toNat 117 with | true => 0 | false => 1)
theorem dc_all : ∀ i : Fin 720, dcT (clT i.val).data.toList = i.val := by decide +kernel
/-- a call that a number makes -/
def okCl (a b c d : Int) : Prop := (1 ≤ a ∧ a ≤ 2 ∧ c = 0 ∨ a = 3 ∧ 1 ≤ c ∧ c ≤ 4) ∧ (0 ≤ b ∧ b ≤ 5) ∧ (0 ≤ d ∧ d ≤ 19)
/-- its number -/
def nmC (a b c d : Int) : Nat := if a = 3 then (240 + 24 * d + 6 * (c - 1) + b).toNat else (12 * d + 2 * b + (a - 1)).toNat
theorem nm_lt {a b c d : Int} (h : okCl a b c d) : nmC a b c d < 720 := by
  obtain ⟨h1, h2, h3⟩ := h
  unfold nmC
  split <;> omega
theorem nm_clV {a b c d : Int} (h : okCl a b c d) : clV (nmC a b c d) = .agg #[.int .i64 a, .int .i64 b, .int .i64 c, .int .i64 d] := by
  obtain ⟨h1, h2, h3⟩ := h
  have key : ∀ i : Nat, (a = (clK i : Nat) ∧ b = (clF i : Nat) ∧ c = (clC i : Nat) ∧ d = (clA i : Nat)) → clV i = .agg #[.int .i64 a, .int .i64 b, .int .i64 c, .int .i64 d] := by
    intro i ⟨e1, e2, e3, e4⟩
    unfold clV
    rw [e1, e2, e3, e4]
    rfl
  apply key
  unfold nmC clK clF clC clA
  by_cases ha : a = 3
  · rw [if_pos ha]
    have hb : Nat.blt (240 + 24 * d + 6 * (c - 1) + b).toNat 240 = false := by
      cases hx : Nat.blt (240 + 24 * d + 6 * (c - 1) + b).toNat 240 with
      | false => rfl
      | true => have := Nat.le_of_ble_eq_true hx; omega
    rw [hb]
    show a = ((3 : Nat) : Int) ∧ b = (((240 + 24 * d + 6 * (c - 1) + b).toNat - 240) % 6 : Nat) ∧ c = (1 + ((240 + 24 * d + 6 * (c - 1) + b).toNat - 240) / 6 % 4 : Nat) ∧ d = (((240 + 24 * d + 6 * (c - 1) + b).toNat - 240) / 24 : Nat)
    omega
  · rw [if_neg ha]
    have hb : Nat.blt (12 * d + 2 * b + (a - 1)).toNat 240 = true := Nat.ble_eq_true_of_le (n := (12 * d + 2 * b + (a - 1)).toNat + 1) (by omega)
    rw [hb]
    show a = (1 + (12 * d + 2 * b + (a - 1)).toNat % 2 : Nat) ∧ b = ((12 * d + 2 * b + (a - 1)).toNat / 2 % 6 : Nat) ∧ c = ((0 : Nat) : Int) ∧ d = ((12 * d + 2 * b + (a - 1)).toNat / 12 : Nat)
    omega
/-- the text of a call -/
def tXC (a b c d : Int) : ByteArray := clT (nmC a b c d)
theorem tX_inj {a b c d a' b' c' d' : Int} (h : okCl a b c d) (h' : okCl a' b' c' d') (e : (tXC a b c d).data.toList = (tXC a' b' c' d').data.toList) : a = a' ∧ b = b' ∧ c = c' ∧ d = d' := by
  unfold tXC at e
  have e1 := dc_all ⟨_, nm_lt h⟩
  have e2 := dc_all ⟨_, nm_lt h'⟩
  dsimp only at e1 e2
  rw [e, e2] at e1
  have v := nm_clV h
  rw [← e1, nm_clV h'] at v
  simp only [Value.agg.injEq, Array.mk.injEq, List.cons.injEq, Value.int.injEq, true_and, and_true] at v
  omega
/-- what a number makes -/
noncomputable def mK (n : Int) : Int := pMade_c0 n
noncomputable def mF (n : Int) : Int := pMade_c1 n
noncomputable def mC (n : Int) : Int := pMade_c2 n
noncomputable def mA (n : Int) : Int := pMade_c3 n
theorem made_ok (n : Int) : okCl (mK n) (mF n) (mC n) (mA n) := by
  unfold okCl mK mF mC mA pMade_c0 pMade_c1 pMade_c2 pMade_c3
  have h0 : 0 ≤ n % 1073741824 ∧ n % 1073741824 < 1073741824 := by omega
  generalize n % 1073741824 = m at *
  simp only [Int.tmod_eq_emod_of_nonneg h0.1, Int.tdiv_eq_ediv_of_nonneg h0.1]
  rw [w8n (n := 1 + m % 3) (by omega) (by omega), w8n (n := m / 3) (by omega) (by omega), w8n (n := m / 72) (by omega) (by omega), w8n (n := m / 18) (by omega) (by omega)]
  rw [Int.tmod_eq_emod_of_nonneg (a := m / 3) (by omega), Int.tmod_eq_emod_of_nonneg (a := m / 72) (by omega), Int.tmod_eq_emod_of_nonneg (a := m / 18) (by omega)]
  rw [w8n (n := 1 + m / 18 % 4) (by omega) (by omega)]
  by_cases hk : 1 + m % 3 = 3
  · rw [show (1 + m % 3 == 3) = true by simpa using hk, cond_true]; omega
  · rw [show (1 + m % 3 == 3) = false by simpa using hk, cond_false]; omega
noncomputable def gCl (a b c d : Int) : Bool := (Classical.propDecidable (okCl a b c d)).decide
theorem gCl_iff {a b c d : Int} : gCl a b c d = true ↔ okCl a b c d := @decide_eq_true_iff _ (Classical.propDecidable _)
noncomputable def gPs (s : ByteArray) : Bool := (Classical.propDecidable (∃ i, i < 720 ∧ s = clT i)).decide
theorem gPs_iff {s : ByteArray} : gPs s = true ↔ ∃ i, i < 720 ∧ s = clT i := @decide_eq_true_iff _ (Classical.propDecidable _)
def rK (s : ByteArray) : Int := Int.ofNat (clK (dcT s.data.toList))
def rF (s : ByteArray) : Int := Int.ofNat (clF (dcT s.data.toList))
def rC (s : ByteArray) : Int := Int.ofNat (clC (dcT s.data.toList))
def rA (s : ByteArray) : Int := Int.ofNat (clA (dcT s.data.toList))
theorem r_is {a b c d : Int} (h : okCl a b c d) : rK (tXC a b c d) = a ∧ rF (tXC a b c d) = b ∧ rC (tXC a b c d) = c ∧ rA (tXC a b c d) = d := by
  have e1 := dc_all ⟨_, nm_lt h⟩
  dsimp only at e1
  have v := nm_clV h
  unfold clV at v
  simp only [Value.agg.injEq, Array.mk.injEq, List.cons.injEq, Value.int.injEq, true_and, and_true] at v
  unfold rK rF rC rA tXC
  rw [e1]
  exact v
end Go.Proofs.YtfoijpkonjidiaaDoor
