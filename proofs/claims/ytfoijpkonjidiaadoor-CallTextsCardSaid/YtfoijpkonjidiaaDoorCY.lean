/- Layer 20: the text of a call, and what is read from it, as contracts. -/
import Derived.Test.YtfoijpkonjidiaaDoorCX0
import Derived.Test.YtfoijpkonjidiaaDoorCX1
import Derived.Test.YtfoijpkonjidiaaDoorCX2
import Derived.Test.YtfoijpkonjidiaaDoorCX3
import Derived.Test.YtfoijpkonjidiaaDoorCX4
import Derived.Test.YtfoijpkonjidiaaDoorCX5
import Derived.Test.YtfoijpkonjidiaaDoorCX6
import Derived.Test.YtfoijpkonjidiaaDoorCX7
import Derived.Test.YtfoijpkonjidiaaDoorCX8
import Derived.Test.YtfoijpkonjidiaaDoorCX9
import Derived.Test.YtfoijpkonjidiaaDoorCX10
import Derived.Test.YtfoijpkonjidiaaDoorCX11
namespace Go.Proofs.YtfoijpkonjidiaaDoor
open Go Go.RowKit
set_option linter.unusedVariables false
theorem cqa0 : ∀ q, q < 15 → cqG (0 + q) = true
  | 0, _ => cq0
  | 1, _ => cq1
  | 2, _ => cq2
  | 3, _ => cq3
  | 4, _ => cq4
  | 5, _ => cq5
  | 6, _ => cq6
  | 7, _ => cq7
  | 8, _ => cq8
  | 9, _ => cq9
  | 10, _ => cq10
  | 11, _ => cq11
  | 12, _ => cq12
  | 13, _ => cq13
  | 14, _ => cq14
  | q + 15, h => absurd h (by omega)
theorem cqa1 : ∀ q, q < 15 → cqG (15 + q) = true
  | 0, _ => cq15
  | 1, _ => cq16
  | 2, _ => cq17
  | 3, _ => cq18
  | 4, _ => cq19
  | 5, _ => cq20
  | 6, _ => cq21
  | 7, _ => cq22
  | 8, _ => cq23
  | 9, _ => cq24
  | 10, _ => cq25
  | 11, _ => cq26
  | 12, _ => cq27
  | 13, _ => cq28
  | 14, _ => cq29
  | q + 15, h => absurd h (by omega)
theorem cqa2 : ∀ q, q < 15 → cqG (30 + q) = true
  | 0, _ => cq30
  | 1, _ => cq31
  | 2, _ => cq32
  | 3, _ => cq33
  | 4, _ => cq34
  | 5, _ => cq35
  | 6, _ => cq36
  | 7, _ => cq37
  | 8, _ => cq38
  | 9, _ => cq39
  | 10, _ => cq40
  | 11, _ => cq41
  | 12, _ => cq42
  | 13, _ => cq43
  | 14, _ => cq44
  | q + 15, h => absurd h (by omega)
theorem cqa3 : ∀ q, q < 15 → cqG (45 + q) = true
  | 0, _ => cq45
  | 1, _ => cq46
  | 2, _ => cq47
  | 3, _ => cq48
  | 4, _ => cq49
  | 5, _ => cq50
  | 6, _ => cq51
  | 7, _ => cq52
  | 8, _ => cq53
  | 9, _ => cq54
  | 10, _ => cq55
  | 11, _ => cq56
  | 12, _ => cq57
  | 13, _ => cq58
  | 14, _ => cq59
  | q + 15, h => absurd h (by omega)
theorem cqa4 : ∀ q, q < 15 → cqG (60 + q) = true
  | 0, _ => cq60
  | 1, _ => cq61
  | 2, _ => cq62
  | 3, _ => cq63
  | 4, _ => cq64
  | 5, _ => cq65
  | 6, _ => cq66
  | 7, _ => cq67
  | 8, _ => cq68
  | 9, _ => cq69
  | 10, _ => cq70
  | 11, _ => cq71
  | 12, _ => cq72
  | 13, _ => cq73
  | 14, _ => cq74
  | q + 15, h => absurd h (by omega)
theorem cqa5 : ∀ q, q < 15 → cqG (75 + q) = true
  | 0, _ => cq75
  | 1, _ => cq76
  | 2, _ => cq77
  | 3, _ => cq78
  | 4, _ => cq79
  | 5, _ => cq80
  | 6, _ => cq81
  | 7, _ => cq82
  | 8, _ => cq83
  | 9, _ => cq84
  | 10, _ => cq85
  | 11, _ => cq86
  | 12, _ => cq87
  | 13, _ => cq88
  | 14, _ => cq89
  | q + 15, h => absurd h (by omega)
theorem cqa6 : ∀ q, q < 15 → cqG (90 + q) = true
  | 0, _ => cq90
  | 1, _ => cq91
  | 2, _ => cq92
  | 3, _ => cq93
  | 4, _ => cq94
  | 5, _ => cq95
  | 6, _ => cq96
  | 7, _ => cq97
  | 8, _ => cq98
  | 9, _ => cq99
  | 10, _ => cq100
  | 11, _ => cq101
  | 12, _ => cq102
  | 13, _ => cq103
  | 14, _ => cq104
  | q + 15, h => absurd h (by omega)
theorem cqa7 : ∀ q, q < 15 → cqG (105 + q) = true
  | 0, _ => cq105
  | 1, _ => cq106
  | 2, _ => cq107
  | 3, _ => cq108
  | 4, _ => cq109
  | 5, _ => cq110
  | 6, _ => cq111
  | 7, _ => cq112
  | 8, _ => cq113
  | 9, _ => cq114
  | 10, _ => cq115
  | 11, _ => cq116
  | 12, _ => cq117
  | 13, _ => cq118
  | 14, _ => cq119
  | q + 15, h => absurd h (by omega)
theorem cqa8 : ∀ q, q < 15 → cqG (120 + q) = true
  | 0, _ => cq120
  | 1, _ => cq121
  | 2, _ => cq122
  | 3, _ => cq123
  | 4, _ => cq124
  | 5, _ => cq125
  | 6, _ => cq126
  | 7, _ => cq127
  | 8, _ => cq128
  | 9, _ => cq129
  | 10, _ => cq130
  | 11, _ => cq131
  | 12, _ => cq132
  | 13, _ => cq133
  | 14, _ => cq134
  | q + 15, h => absurd h (by omega)
theorem cqa9 : ∀ q, q < 15 → cqG (135 + q) = true
  | 0, _ => cq135
  | 1, _ => cq136
  | 2, _ => cq137
  | 3, _ => cq138
  | 4, _ => cq139
  | 5, _ => cq140
  | 6, _ => cq141
  | 7, _ => cq142
  | 8, _ => cq143
  | 9, _ => cq144
  | 10, _ => cq145
  | 11, _ => cq146
  | 12, _ => cq147
  | 13, _ => cq148
  | 14, _ => cq149
  | q + 15, h => absurd h (by omega)
theorem cqa10 : ∀ q, q < 15 → cqG (150 + q) = true
  | 0, _ => cq150
  | 1, _ => cq151
  | 2, _ => cq152
  | 3, _ => cq153
  | 4, _ => cq154
  | 5, _ => cq155
  | 6, _ => cq156
  | 7, _ => cq157
  | 8, _ => cq158
  | 9, _ => cq159
  | 10, _ => cq160
  | 11, _ => cq161
  | 12, _ => cq162
  | 13, _ => cq163
  | 14, _ => cq164
  | q + 15, h => absurd h (by omega)
theorem cqa11 : ∀ q, q < 15 → cqG (165 + q) = true
  | 0, _ => cq165
  | 1, _ => cq166
  | 2, _ => cq167
  | 3, _ => cq168
  | 4, _ => cq169
  | 5, _ => cq170
  | 6, _ => cq171
  | 7, _ => cq172
  | 8, _ => cq173
  | 9, _ => cq174
  | 10, _ => cq175
  | 11, _ => cq176
  | 12, _ => cq177
  | 13, _ => cq178
  | 14, _ => cq179
  | q + 15, h => absurd h (by omega)
theorem cq_all {q : Nat} (h : q < 180) : cqG q = true := by
  rcases (by omega : (0 ≤ q ∧ q < 15) ∨ (15 ≤ q ∧ q < 30) ∨ (30 ≤ q ∧ q < 45) ∨ (45 ≤ q ∧ q < 60) ∨ (60 ≤ q ∧ q < 75) ∨ (75 ≤ q ∧ q < 90) ∨ (90 ≤ q ∧ q < 105) ∨ (105 ≤ q ∧ q < 120) ∨ (120 ≤ q ∧ q < 135) ∨ (135 ≤ q ∧ q < 150) ∨ (150 ≤ q ∧ q < 165) ∨ (165 ≤ q ∧ q < 180)) with k | k | k | k | k | k | k | k | k | k | k | k
  · have := cqa0 (q - 0) (by omega)
    rwa [show 0 + (q - 0) = q by omega] at this
  · have := cqa1 (q - 15) (by omega)
    rwa [show 15 + (q - 15) = q by omega] at this
  · have := cqa2 (q - 30) (by omega)
    rwa [show 30 + (q - 30) = q by omega] at this
  · have := cqa3 (q - 45) (by omega)
    rwa [show 45 + (q - 45) = q by omega] at this
  · have := cqa4 (q - 60) (by omega)
    rwa [show 60 + (q - 60) = q by omega] at this
  · have := cqa5 (q - 75) (by omega)
    rwa [show 75 + (q - 75) = q by omega] at this
  · have := cqa6 (q - 90) (by omega)
    rwa [show 90 + (q - 90) = q by omega] at this
  · have := cqa7 (q - 105) (by omega)
    rwa [show 105 + (q - 105) = q by omega] at this
  · have := cqa8 (q - 120) (by omega)
    rwa [show 120 + (q - 120) = q by omega] at this
  · have := cqa9 (q - 135) (by omega)
    rwa [show 135 + (q - 135) = q by omega] at this
  · have := cqa10 (q - 150) (by omega)
    rwa [show 150 + (q - 150) = q by omega] at this
  · have := cqa11 (q - 165) (by omega)
    rwa [show 165 + (q - 165) = q by omega] at this
theorem ct_all {i : Nat} (hi : i < 720) : ctB i = true ∧ cpB i = true := by
  have h := cq_all (q := i / 4) (by omega)
  unfold cqG at h
  have k := List.all_eq_true.1 h
  have r : (ctB (4 * (i / 4) + i % 4) && cpB (4 * (i / 4) + i % 4)) = true := by
    rcases (by omega : i % 4 = 0 ∨ i % 4 = 1 ∨ i % 4 = 2 ∨ i % 4 = 3) with e | e | e | e
    · rw [e]; exact k _ (by simp)
    · rw [e]; exact k _ (by simp)
    · rw [e]; exact k _ (by simp)
    · rw [e]; exact k _ (by simp)
  rw [show 4 * (i / 4) + i % 4 = i by omega, Bool.and_eq_true] at r
  exact r
theorem ctext {i : Nat} (hi : i < 720) : Known Tryd.prog knCallKnownL 20 [clV i] (.tuple #[.string (clT i), .int .i64 0]) := run_res knCallKnown_mix TabOk.none (ct_all hi).1
theorem cparse {i : Nat} (hi : i < 720) : Known Tryd.prog knCallKnownL 29 [.string (clT i)] (.tuple #[clV i, .int .i64 0]) := run_res knCallKnown_mix TabOk.none (ct_all hi).2
end Go.Proofs.YtfoijpkonjidiaaDoor
