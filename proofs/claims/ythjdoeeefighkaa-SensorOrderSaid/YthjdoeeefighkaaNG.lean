/- Layer 12: votes of any three of nine readings, as a contract. -/
import Derived.Test.YthjdoeeefighkaaNF0
import Derived.Test.YthjdoeeefighkaaNF1
import Derived.Test.YthjdoeeefighkaaNF2
import Derived.Test.YthjdoeeefighkaaNF3
import Derived.Test.YthjdoeeefighkaaNF4
import Derived.Test.YthjdoeeefighkaaNF5
import Derived.Test.YthjdoeeefighkaaNF6
import Derived.Test.YthjdoeeefighkaaNF7
import Derived.Test.YthjdoeeefighkaaNF8
import Derived.Test.YthjdoeeefighkaaOgX
namespace Go.Proofs.Ythjdoeeefighkaa
open Go Go.RowKit
set_option linter.unusedVariables false
theorem in27 {P : Nat → Bool} {l : List Nat} (h : l.all P = true) {i : Nat} (hi : i ∈ l) : P i = true := List.all_eq_true.1 h i hi
theorem vb_row {P : Nat → Bool} (h0 : [0, 1, 2, 3, 4, 5, 6, 7, 8].all P = true) (h1 : [9, 10, 11, 12, 13, 14, 15, 16, 17].all P = true) (h2 : [18, 19, 20, 21, 22, 23, 24, 25, 26].all P = true) (h3 : [27, 28, 29, 30, 31, 32, 33, 34, 35].all P = true) (h4 : [36, 37, 38, 39, 40, 41, 42, 43, 44].all P = true) (h5 : [45, 46, 47, 48, 49, 50, 51, 52, 53].all P = true) (h6 : [54, 55, 56, 57, 58, 59, 60, 61, 62].all P = true) (h7 : [63, 64, 65, 66, 67, 68, 69, 70, 71].all P = true) (h8 : [72, 73, 74, 75, 76, 77, 78, 79, 80].all P = true) {i : Nat} (hi : i < 81) : P i = true := by
  rcases (by omega : i < 9 ∨ (9 ≤ i ∧ i < 18) ∨ (18 ≤ i ∧ i < 27) ∨ (27 ≤ i ∧ i < 36) ∨ (36 ≤ i ∧ i < 45) ∨ (45 ≤ i ∧ i < 54) ∨ (54 ≤ i ∧ i < 63) ∨ (63 ≤ i ∧ i < 72) ∨ (72 ≤ i ∧ i < 81)) with c | c | c | c | c | c | c | c | c
  · exact in27 h0 (by simp only [List.mem_cons, List.not_mem_nil, or_false]; omega)
  · exact in27 h1 (by simp only [List.mem_cons, List.not_mem_nil, or_false]; omega)
  · exact in27 h2 (by simp only [List.mem_cons, List.not_mem_nil, or_false]; omega)
  · exact in27 h3 (by simp only [List.mem_cons, List.not_mem_nil, or_false]; omega)
  · exact in27 h4 (by simp only [List.mem_cons, List.not_mem_nil, or_false]; omega)
  · exact in27 h5 (by simp only [List.mem_cons, List.not_mem_nil, or_false]; omega)
  · exact in27 h6 (by simp only [List.mem_cons, List.not_mem_nil, or_false]; omega)
  · exact in27 h7 (by simp only [List.mem_cons, List.not_mem_nil, or_false]; omega)
  · exact in27 h8 (by simp only [List.mem_cons, List.not_mem_nil, or_false]; omega)
theorem vb_all {a b c : Nat} (ha : a < 9) (hb : b < 9) (hc : c < 9) : vtB a (9 * b + c) = true := by
  have hi : 9 * b + c < 81 := by omega
  rcases (by omega : a = 0 ∨ a = 1 ∨ a = 2 ∨ a = 3 ∨ a = 4 ∨ a = 5 ∨ a = 6 ∨ a = 7 ∨ a = 8) with rfl | rfl | rfl | rfl | rfl | rfl | rfl | rfl | rfl
  · exact vb_row vb0_0 vb0_1 vb0_2 vb0_3 vb0_4 vb0_5 vb0_6 vb0_7 vb0_8 hi
  · exact vb_row vb1_0 vb1_1 vb1_2 vb1_3 vb1_4 vb1_5 vb1_6 vb1_7 vb1_8 hi
  · exact vb_row vb2_0 vb2_1 vb2_2 vb2_3 vb2_4 vb2_5 vb2_6 vb2_7 vb2_8 hi
  · exact vb_row vb3_0 vb3_1 vb3_2 vb3_3 vb3_4 vb3_5 vb3_6 vb3_7 vb3_8 hi
  · exact vb_row vb4_0 vb4_1 vb4_2 vb4_3 vb4_4 vb4_5 vb4_6 vb4_7 vb4_8 hi
  · exact vb_row vb5_0 vb5_1 vb5_2 vb5_3 vb5_4 vb5_5 vb5_6 vb5_7 vb5_8 hi
  · exact vb_row vb6_0 vb6_1 vb6_2 vb6_3 vb6_4 vb6_5 vb6_6 vb6_7 vb6_8 hi
  · exact vb_row vb7_0 vb7_1 vb7_2 vb7_3 vb7_4 vb7_5 vb7_6 vb7_7 vb7_8 hi
  · exact vb_row vb8_0 vb8_1 vb8_2 vb8_3 vb8_4 vb8_5 vb8_6 vb8_7 vb8_8 hi
theorem vote9 {a b c : Nat} (ha : a < 9) (hb : b < 9) (hc : c < 9) : Known Try.prog [] 17 [rdV a, rdV b, rdV c] (.tuple #[rdV (vtC a b c), .int .i64 0]) := by
  have h := vb_all ha hb hc
  unfold vtB at h
  rw [show Nat.div (9 * b + c) 9 = b by show (9 * b + c) / 9 = b; omega, show Nat.mod (9 * b + c) 9 = c by show (9 * b + c) % 9 = c; omega] at h
  exact run_res knSensorKnown_mix TabOk.none h
/-- the number of a reading -/
def cdR (o : Bool) (f z : Int) : Nat := match o with | false => 0 | true => (1 + 2 * (f + 1) + z).toNat
theorem cdR_rd : ∀ {c : Nat}, c < 9 → cdR (rdO c) (rdF c) (rdZ c) = c := by
  have all : ∀ c : Fin 9, cdR (rdO c.val) (rdF c.val) (rdZ c.val) = c.val := by decide +kernel
  exact fun {c} h => all ⟨c, h⟩
/-- a reading with a number -/
def isR (o : Bool) (f z : Int) : Prop := ∃ c, c < 9 ∧ o = rdO c ∧ f = rdF c ∧ z = rdZ c
noncomputable def wG (a1 : Bool) (b1 c1 : Int) (a2 : Bool) (b2 c2 : Int) (a3 : Bool) (b3 c3 : Int) : Bool := (Classical.propDecidable (isR a1 b1 c1 ∧ isR a2 b2 c2 ∧ isR a3 b3 c3)).decide
theorem wG_iff {a1 : Bool} {b1 c1 : Int} {a2 : Bool} {b2 c2 : Int} {a3 : Bool} {b3 c3 : Int} : wG a1 b1 c1 a2 b2 c2 a3 b3 c3 = true ↔ isR a1 b1 c1 ∧ isR a2 b2 c2 ∧ isR a3 b3 c3 := by
  unfold wG
  exact @decide_eq_true_iff _ (Classical.propDecidable _)
def wC (a1 : Bool) (b1 c1 : Int) (a2 : Bool) (b2 c2 : Int) (a3 : Bool) (b3 c3 : Int) : Nat := vtC (cdR a1 b1 c1) (cdR a2 b2 c2) (cdR a3 b3 c3)
def wO (a1 : Bool) (b1 c1 : Int) (a2 : Bool) (b2 c2 : Int) (a3 : Bool) (b3 c3 : Int) : Bool := rdO (wC a1 b1 c1 a2 b2 c2 a3 b3 c3)
def wF (a1 : Bool) (b1 c1 : Int) (a2 : Bool) (b2 c2 : Int) (a3 : Bool) (b3 c3 : Int) : Int := rdF (wC a1 b1 c1 a2 b2 c2 a3 b3 c3)
def wZ (a1 : Bool) (b1 c1 : Int) (a2 : Bool) (b2 c2 : Int) (a3 : Bool) (b3 c3 : Int) : Int := rdZ (wC a1 b1 c1 a2 b2 c2 a3 b3 c3)
theorem wvote_k {a1 : Bool} {b1 c1 : Int} {a2 : Bool} {b2 c2 : Int} {a3 : Bool} {b3 c3 : Int} (h : wG a1 b1 c1 a2 b2 c2 a3 b3 c3 = true) : Known Try.prog [] 17 [.agg #[.bool a1, .int .i64 b1, .int .i64 c1], .agg #[.bool a2, .int .i64 b2, .int .i64 c2], .agg #[.bool a3, .int .i64 b3, .int .i64 c3]] (.tuple #[.agg #[.bool (wO a1 b1 c1 a2 b2 c2 a3 b3 c3), .int .i64 (wF a1 b1 c1 a2 b2 c2 a3 b3 c3), .int .i64 (wZ a1 b1 c1 a2 b2 c2 a3 b3 c3)], .int .i64 0]) := by
  obtain ⟨⟨x, hx, rfl, rfl, rfl⟩, ⟨y, hy, rfl, rfl, rfl⟩, ⟨z, hz, rfl, rfl, rfl⟩⟩ := wG_iff.1 h
  have k := vote9 hx hy hz
  unfold wO wF wZ wC
  rw [cdR_rd hx, cdR_rd hy, cdR_rd hz]
  exact k
/-- the order of the readings does not matter -/
theorem vt_sym : ∀ {a b c : Nat}, a < 9 → b < 9 → c < 9 → vtC a c b = vtC a b c ∧ vtC b a c = vtC a b c ∧ vtC b c a = vtC a b c ∧ vtC c a b = vtC a b c ∧ vtC c b a = vtC a b c ∧ vtC a b c < 9 := by
  have all : ∀ a b c : Fin 9, vtC a.val c.val b.val = vtC a.val b.val c.val ∧ vtC b.val a.val c.val = vtC a.val b.val c.val ∧ vtC b.val c.val a.val = vtC a.val b.val c.val ∧ vtC c.val a.val b.val = vtC a.val b.val c.val ∧ vtC c.val b.val a.val = vtC a.val b.val c.val ∧ vtC a.val b.val c.val < 9 := by decide +kernel
  exact fun {a b c} ha hb hc => all ⟨a, ha⟩ ⟨b, hb⟩ ⟨c, hc⟩
end Go.Proofs.Ythjdoeeefighkaa
