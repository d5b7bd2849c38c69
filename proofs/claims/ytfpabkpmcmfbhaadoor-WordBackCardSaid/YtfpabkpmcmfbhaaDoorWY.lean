/- Layer 33: the text of a word, as a contract. -/
import Derived.Test.YtfpabkpmcmfbhaaDoorWX0
import Derived.Test.YtfpabkpmcmfbhaaDoorWX1
import Derived.Test.YtfpabkpmcmfbhaaDoorWX2
import Derived.Test.YtfpabkpmcmfbhaaDoorWX3
import Derived.Test.YtfpabkpmcmfbhaaDoorWX4
import Derived.Test.YtfpabkpmcmfbhaaDoorWX5
import Derived.Test.YtfpabkpmcmfbhaaDoorWX6
import Derived.Test.YtfpabkpmcmfbhaaDoorWX7
namespace Go.Proofs.YtfpabkpmcmfbhaaDoor
open Go Go.RowKit
set_option linter.unusedVariables false
theorem txa8 : ∀ q, q < 64 → txG 8 q = true
  | 0, _ => tx8_0
  | 1, _ => tx8_1
  | 2, _ => tx8_2
  | 3, _ => tx8_3
  | 4, _ => tx8_4
  | 5, _ => tx8_5
  | 6, _ => tx8_6
  | 7, _ => tx8_7
  | 8, _ => tx8_8
  | 9, _ => tx8_9
  | 10, _ => tx8_10
  | 11, _ => tx8_11
  | 12, _ => tx8_12
  | 13, _ => tx8_13
  | 14, _ => tx8_14
  | 15, _ => tx8_15
  | 16, _ => tx8_16
  | 17, _ => tx8_17
  | 18, _ => tx8_18
  | 19, _ => tx8_19
  | 20, _ => tx8_20
  | 21, _ => tx8_21
  | 22, _ => tx8_22
  | 23, _ => tx8_23
  | 24, _ => tx8_24
  | 25, _ => tx8_25
  | 26, _ => tx8_26
  | 27, _ => tx8_27
  | 28, _ => tx8_28
  | 29, _ => tx8_29
  | 30, _ => tx8_30
  | 31, _ => tx8_31
  | 32, _ => tx8_32
  | 33, _ => tx8_33
  | 34, _ => tx8_34
  | 35, _ => tx8_35
  | 36, _ => tx8_36
  | 37, _ => tx8_37
  | 38, _ => tx8_38
  | 39, _ => tx8_39
  | 40, _ => tx8_40
  | 41, _ => tx8_41
  | 42, _ => tx8_42
  | 43, _ => tx8_43
  | 44, _ => tx8_44
  | 45, _ => tx8_45
  | 46, _ => tx8_46
  | 47, _ => tx8_47
  | 48, _ => tx8_48
  | 49, _ => tx8_49
  | 50, _ => tx8_50
  | 51, _ => tx8_51
  | 52, _ => tx8_52
  | 53, _ => tx8_53
  | 54, _ => tx8_54
  | 55, _ => tx8_55
  | 56, _ => tx8_56
  | 57, _ => tx8_57
  | 58, _ => tx8_58
  | 59, _ => tx8_59
  | 60, _ => tx8_60
  | 61, _ => tx8_61
  | 62, _ => tx8_62
  | 63, _ => tx8_63
  | q + 64, h => absurd h (by omega)
theorem txa7 : ∀ q, q < 32 → txG 7 q = true
  | 0, _ => tx7_0
  | 1, _ => tx7_1
  | 2, _ => tx7_2
  | 3, _ => tx7_3
  | 4, _ => tx7_4
  | 5, _ => tx7_5
  | 6, _ => tx7_6
  | 7, _ => tx7_7
  | 8, _ => tx7_8
  | 9, _ => tx7_9
  | 10, _ => tx7_10
  | 11, _ => tx7_11
  | 12, _ => tx7_12
  | 13, _ => tx7_13
  | 14, _ => tx7_14
  | 15, _ => tx7_15
  | 16, _ => tx7_16
  | 17, _ => tx7_17
  | 18, _ => tx7_18
  | 19, _ => tx7_19
  | 20, _ => tx7_20
  | 21, _ => tx7_21
  | 22, _ => tx7_22
  | 23, _ => tx7_23
  | 24, _ => tx7_24
  | 25, _ => tx7_25
  | 26, _ => tx7_26
  | 27, _ => tx7_27
  | 28, _ => tx7_28
  | 29, _ => tx7_29
  | 30, _ => tx7_30
  | 31, _ => tx7_31
  | q + 32, h => absurd h (by omega)
theorem txa6 : ∀ q, q < 16 → txG 6 q = true
  | 0, _ => tx6_0
  | 1, _ => tx6_1
  | 2, _ => tx6_2
  | 3, _ => tx6_3
  | 4, _ => tx6_4
  | 5, _ => tx6_5
  | 6, _ => tx6_6
  | 7, _ => tx6_7
  | 8, _ => tx6_8
  | 9, _ => tx6_9
  | 10, _ => tx6_10
  | 11, _ => tx6_11
  | 12, _ => tx6_12
  | 13, _ => tx6_13
  | 14, _ => tx6_14
  | 15, _ => tx6_15
  | q + 16, h => absurd h (by omega)
theorem txa5 : ∀ q, q < 8 → txG 5 q = true
  | 0, _ => tx5_0
  | 1, _ => tx5_1
  | 2, _ => tx5_2
  | 3, _ => tx5_3
  | 4, _ => tx5_4
  | 5, _ => tx5_5
  | 6, _ => tx5_6
  | 7, _ => tx5_7
  | q + 8, h => absurd h (by omega)
theorem txa4 : ∀ q, q < 4 → txG 4 q = true
  | 0, _ => tx4_0
  | 1, _ => tx4_1
  | 2, _ => tx4_2
  | 3, _ => tx4_3
  | q + 4, h => absurd h (by omega)
theorem txa3 : ∀ q, q < 2 → txG 3 q = true
  | 0, _ => tx3_0
  | 1, _ => tx3_1
  | q + 2, h => absurd h (by omega)
theorem txa2 : ∀ q, q < 1 → txG 2 q = true
  | 0, _ => tx2_0
  | q + 1, h => absurd h (by omega)
theorem txG_in {c q r : Nat} (h : txG c q = true) (hr : r < 4) : txB c (4 * q + r) = true := by
  unfold txG at h
  have k := List.all_eq_true.1 h
  rcases (by omega : r = 0 ∨ r = 1 ∨ r = 2 ∨ r = 3) with rfl | rfl | rfl | rfl
  · exact k _ (by simp)
  · exact k _ (by simp)
  · exact k _ (by simp)
  · exact k _ (by simp)
theorem txG_at {c n w : Nat} (h : ∀ q, q < n → txG c q = true) (hw : w < 4 * n) : txB c w = true := by
  have := txG_in (r := w % 4) (h (w / 4) (by omega)) (by omega)
  rwa [show 4 * (w / 4) + w % 4 = w by omega] at this
theorem txB_all {c w : Nat} (hc : 1 ≤ c ∧ c ≤ 8) (hw : w < 2 ^ c) : txB c w = true := by
  obtain ⟨h1, h2⟩ := hc
  rcases (by omega : c = 1 ∨ c = 2 ∨ c = 3 ∨ c = 4 ∨ c = 5 ∨ c = 6 ∨ c = 7 ∨ c = 8) with rfl | rfl | rfl | rfl | rfl | rfl | rfl | rfl
  · have k := List.all_eq_true.1 tx1_0
    rcases (by omega : w = 0 ∨ w = 1) with rfl | rfl
    · exact k _ (by simp)
    · exact k _ (by simp)
  · exact txG_at txa2 (by omega)
  · exact txG_at txa3 (by omega)
  · exact txG_at txa4 (by omega)
  · exact txG_at txa5 (by omega)
  · exact txG_at txa6 (by omega)
  · exact txG_at txa7 (by omega)
  · exact txG_at txa8 (by omega)
theorem text_k {w c : Int} (hc : 1 ≤ c ∧ c ≤ 8) (hw : 0 ≤ w ∧ w < (2 ^ c.toNat : Nat)) : Known Tryd.prog knWordKnownL 8 [.int .i64 w, .int .i64 c] (.tuple #[.string (txW w.toNat c.toNat), .int .i64 0]) := by
  have h := txB_all (c := c.toNat) (w := w.toNat) (by omega) (by omega)
  unfold txB at h
  rw [show Int.ofNat w.toNat = w by rw [Int.ofNat_eq_natCast]; omega, show Int.ofNat c.toNat = c by rw [Int.ofNat_eq_natCast]; omega] at h
  exact run_res knWordKnown_mix TabOk.none h
end Go.Proofs.YtfpabkpmcmfbhaaDoor
