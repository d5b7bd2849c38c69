/- Layer 33: WordMakes: the loops of Make and Parse, of both. -/
import Derived.Test.YtfpabkpmcmfbhaaOgT2
import Derived.ProofKit
import Derived.IntWalk
namespace Go.Proofs.Ytfpabkpmcmfbhaa
open Go Go.RowKit
set_option linter.unusedVariables false
set_option linter.unusedSimpArgs false
set_option linter.unnecessarySimpa false
set_option maxHeartbeats 8000000
set_option maxRecDepth 100000
noncomputable def btB (a c : Int) : Bool := rbt_c0 a c
theorem bit_is {a c : Int} (h : 0 ≤ a ∧ a ≤ 255 ∧ 1 ≤ c ∧ c ≤ 8) : Known Try.prog [] 37 [.int .i64 a, .int .i64 c] (.bool (btB a c)) := rbt a c ⟨h.2.2.1, h.2.2.2⟩ (by
  have p := pw_le (j := (IntKind.i64.wrap (c - 1)).toNat) (by rw [w8n (n := c - 1) (by omega) (by omega)]; omega)
  unfold pwI
  have : 0 < (2 : Nat) ^ (IntKind.i64.wrap (c - 1)).toNat := Nat.pos_of_ne_zero (by simp)
  generalize (2 : Nat) ^ (IntKind.i64.wrap (c - 1)).toNat = q at *
  omega)
noncomputable def vlX (a c : Int) : Int := rvd_c0 a c
theorem pw_any (c : Int) : 1 ≤ pwI c ∧ pwI c ≤ 256 ∨ c < 1 ∨ 8 < c := by
  by_cases h : 8 < c
  · exact .inr (.inr h)
  · left
    have p := pw_le (j := c.toNat) (by omega)
    unfold pwI
    have : 0 < (2 : Nat) ^ c.toNat := Nat.pos_of_ne_zero (by simp)
    generalize (2 : Nat) ^ c.toNat = q at *
    omega
noncomputable def pbV (c : Int) : Int := pbt_c0 c
theorem qBt (a c : Int) (hg : (decide (0 ≤ a ∧ a ≤ 255 ∧ 1 ≤ c ∧ c ≤ 8)) = true) : Known Try.prog [] 37 [.int .i64 a, .int .i64 c] (.bool (btB a c)) := bit_is (of_decide_eq_true hg)
noncomputable def qBt_k : List Value → Option (Bool × Value)
  | [.int .i64 a, .int .i64 c] => some (decide (0 ≤ a ∧ a ≤ 255 ∧ 1 ≤ c ∧ c ≤ 8), .bool (btB a c))
  | _ => none
theorem qBt_ok : ∀ args v, qBt_k args = some (true, v) → Known Try.prog [] 37 args v := by
  intro args v h
  unfold qBt_k at h
  split at h
  · injection h with h; injection h with hg h; subst h; exact qBt _ _ hg
  · cases h
theorem qVl (a c : Int) : Known Try.prog [] 36 [.int .i64 a, .int .i64 c] (.int .i64 (vlX a c)) := rvd a c (pw_any c)
noncomputable def qVl_k : List Value → Option Value
  | [.int .i64 a, .int .i64 c] => some (.int .i64 (vlX a c))
  | _ => none
theorem qVl_ok : ∀ args v, qVl_k args = some v → Known Try.prog [] 36 args v := by
  intro args v h
  unfold qVl_k at h
  split at h
  · injection h with h; subst h; exact qVl _ _
  · cases h
theorem qPb (c : Int) (hg : (decide (1 ≤ c ∧ c ≤ 9)) = true) : Known Try.prog [] 35 [.int .i64 c] (.int .i64 (pbV c)) := pbt c (of_decide_eq_true hg)
noncomputable def qPb_k : List Value → Option (Bool × Value)
  | [.int .i64 c] => some (decide (1 ≤ c ∧ c ≤ 9), .int .i64 (pbV c))
  | _ => none
theorem qPb_ok : ∀ args v, qPb_k args = some (true, v) → Known Try.prog [] 35 args v := by
  intro args v h
  unfold qPb_k at h
  split at h
  · injection h with h; injection h with hg h; subst h; exact qPb _ hg
  · cases h
noncomputable def cw0_c0 (c : Int) : Int := (bif (decide (c ≥ (1 : Int))) then (bif (!decide (c ≤ (8 : Int))) then ((2 : Int)) else ((0 : Int))) else ((2 : Int)))
theorem cw0_p0 (c : Int)  (hq0 : (decide (c ≥ (1 : Int))) = true) (hq1 : (!decide (c ≤ (8 : Int))) = true) : Known Try.prog [] 34 [.int .i64 c, .slice none 0 0] (.int .i64 ((2 : Int))) :=
  open_res mix GOk.none (T := GTab.none) (fuel := 3000) (ans := [(0, .b 1), (4, .b 1)]) (log := [(!decide (c ≤ (8 : Int))) = true, (decide (c ≥ (1 : Int))) = true]) (by kernel_rfl) ⟨hq1, hq0, trivial⟩ (by kernel_rfl)
theorem cw0_p1 (c : Int)  (hq0 : (decide (c ≥ (1 : Int))) = true) (hq1 : (!decide (c ≤ (8 : Int))) = false) : Known Try.prog [] 34 [.int .i64 c, .slice none 0 0] (.int .i64 ((0 : Int))) :=
  open_res mix GOk.none (T := GTab.none) (fuel := 3000) (ans := [(0, .b 1), (4, .b 0)]) (log := [(!decide (c ≤ (8 : Int))) = false, (decide (c ≥ (1 : Int))) = true]) (by kernel_rfl) ⟨hq1, hq0, trivial⟩ (by kernel_rfl)
theorem cw0_p2 (c : Int)  (hq0 : (decide (c ≥ (1 : Int))) = false) : Known Try.prog [] 34 [.int .i64 c, .slice none 0 0] (.int .i64 ((2 : Int))) :=
  open_res mix GOk.none (T := GTab.none) (fuel := 3000) (ans := [(0, .b 0)]) (log := [(decide (c ≥ (1 : Int))) = false]) (by kernel_rfl) ⟨hq0, trivial⟩ (by kernel_rfl)
set_option maxHeartbeats 8000000 in
theorem cw0 (c : Int)  : Known Try.prog [] 34 [.int .i64 c, .slice none 0 0] (.int .i64 (cw0_c0 c)) := by
  rcases Bool.eq_false_or_eq_true (decide (c ≥ (1 : Int))) with hq0 | hq0
  ·
    rcases Bool.eq_false_or_eq_true (!decide (c ≤ (8 : Int))) with hq1 | hq1
    ·
      have e0 : cw0_c0 c = ((2 : Int)) := ((bif_t hq0 _ _).trans ((bif_t hq1 _ _).trans rfl)); rw [e0]; exact cw0_p0 c hq0 hq1
    ·
      have e0 : cw0_c0 c = ((0 : Int)) := ((bif_t hq0 _ _).trans ((bif_f hq1 _ _).trans rfl)); rw [e0]; exact cw0_p1 c hq0 hq1
  ·
    have e0 : cw0_c0 c = ((2 : Int)) := ((bif_f hq0 _ _).trans rfl); rw [e0]; exact cw0_p2 c hq0
noncomputable def cw0_k : List Value → Option Value
  | [.int .i64 c, .slice none 0 0] => some (.int .i64 (cw0_c0 c))
  | _ => none
theorem cw0_ok : ∀ args v, cw0_k args = some v → Known Try.prog [] 34 args v := by
  intro args v h
  unfold cw0_k at h
  split at h
  · injection h with h; subst h; exact cw0 _
  · cases h

noncomputable def cwX (c : Int) : Int := cw0_c0 c
theorem qCw (c : Int) : Known Try.prog [] 34 [.int .i64 c, .slice none 0 0] (.int .i64 (cwX c)) := cw0 c
noncomputable def qCw_k : List Value → Option Value
  | [.int .i64 c, .slice none 0 0] => some (.int .i64 (cwX c))
  | _ => none
theorem qCw_ok : ∀ args v, qCw_k args = some v → Known Try.prog [] 34 args v := by
  intro args v h
  unfold qCw_k at h
  split at h
  · injection h with h; subst h; exact qCw _
  · cases h
attribute [local irreducible] btB vlX pbV pwI cwX
noncomputable def tabM : GTab := (GTab.fn 37 qBt_k (GTab.fn1 36 qVl_k (GTab.fn 35 qPb_k (GTab.fn1 34 qCw_k (GTab.fn 38 qWd_k GTab.none)))))
theorem tabM_ok : GOk Try.prog [] tabM := (GOk.fn qBt_ok (GOk.fn1 qVl_ok (GOk.fn qPb_ok (GOk.fn1 qCw_ok (GOk.fn qWd_ok GOk.none)))))
noncomputable def rmA_hd (xs : List Int) (c : Int) : Hd := headD Try.prog [] tabM 3000 19 [.list (rowA gI xs) xs.length, .val (.int .i64 c)] [(1, .b 0), (2, .stop)]
noncomputable def rmA_S (xs : List Int) (c : Int) (y0 : Int) (y1 : Int) : St := (St.mk (TV.node (some (Value.complex FloatKind.f64 (nat_lit 0) xs.length)) (TV.node (some (Value.int IntKind.i64 c)) (TV.node (some (Value.tuple { toList := [] })) (TV.node (some (Value.int IntKind.i64 y0)) (TV.node (some junk) (TV.node (some junk) TV.nil TV.nil) (TV.node (some junk) TV.nil TV.nil)) (TV.node (some junk) (TV.node (some junk) TV.nil TV.nil) TV.nil)) (TV.node (some (Value.int IntKind.i64 (vlX (0 : Int) c))) (TV.node (some junk) (TV.node (some junk) TV.nil TV.nil) TV.nil) (TV.node (some junk) (TV.node (some junk) TV.nil TV.nil) TV.nil))) (TV.node (some (Value.int IntKind.i64 (0 : Int))) (TV.node (some (Value.int IntKind.i64 c)) (TV.node (some junk) (TV.node (some junk) TV.nil TV.nil) TV.nil) (TV.node (some junk) (TV.node (some junk) TV.nil TV.nil) TV.nil)) (TV.node (some (Value.tuple { toList := [] })) (TV.node (some junk) (TV.node (some junk) TV.nil TV.nil) TV.nil) (TV.node (some junk) (TV.node (some junk) TV.nil TV.nil) TV.nil)))) (TV.node (some (Value.tuple { toList := [] })) (TV.node (some (Value.int IntKind.i64 (0 : Int))) (TV.node (some (Value.int IntKind.i64 y1)) (TV.node (some junk) (TV.node (some junk) TV.nil TV.nil) (TV.node (some (Value.tuple { toList := [] })) TV.nil TV.nil)) (TV.node (some junk) (TV.node (some junk) TV.nil TV.nil) TV.nil)) (TV.node (some (Value.bool false)) (TV.node (some junk) (TV.node (some junk) TV.nil TV.nil) TV.nil) (TV.node (some junk) (TV.node (some junk) TV.nil TV.nil) TV.nil))) (TV.node (some (Value.int IntKind.i64 (vlX (0 : Int) c))) (TV.node (some (Value.int IntKind.i64 (vlX (0 : Int) c))) (TV.node (some junk) (TV.node (some junk) TV.nil TV.nil) TV.nil) (TV.node (some junk) (TV.node (some junk) TV.nil TV.nil) TV.nil)) (TV.node (some junk) (TV.node (some junk) (TV.node (some junk) TV.nil TV.nil) TV.nil) (TV.node (some junk) (TV.node (some junk) TV.nil TV.nil) TV.nil))))) (HS.mk (Tr.node (some (VO.ro (rowA (gI) (xs)) 0)) Tr.nil Tr.nil) 1 2199023255551 2199023255550) [])
theorem rmA_n (xs : List Int) (c : Int) (hv : vlX 0 c = 0) (hc : 1 ≤ c ∧ c ≤ 8) (hx : xs.length ≤ 20) : 1 = (rmA_hd xs c).s.hs.next := by kernel_rfl
theorem rmA_r (xs : List Int) (c : Int) (hv : vlX 0 c = 0) (hc : 1 ≤ c ∧ c ≤ 8) (hx : xs.length ≤ 20) : (rmA_hd xs c).s.hs.rd < bitOf 1 := by
  have e : (rmA_hd xs c).s.hs.rd = 0 := by kernel_rfl
  rw [e]; exact blt_iff.1 (by kernel_rfl)
theorem rmA_w (xs : List Int) (c : Int) (hv : vlX 0 c = 0) (hc : 1 ≤ c ∧ c ≤ 8) (hx : xs.length ≤ 20) : (rmA_hd xs c).s.hs.wr < bitOf 1 := by
  have e : (rmA_hd xs c).s.hs.wr = 0 := by kernel_rfl
  rw [e]; exact blt_iff.1 (by kernel_rfl)
theorem rmA_e0 (xs : List Int) (c : Int) (hv : vlX 0 c = 0) (hc : 1 ≤ c ∧ c ≤ 8) (hx : xs.length ≤ 20) : canonS 1 41 [] [15, 31, 47, 23, 39, 19, 35, 27, 43, 17, 33, 25, 41, 21, 37, 29, 45, 16, 32, 24, 40, 20, 36, 28, 44, 18, 34, 26, 42, 14, 22, 38, 30, 46] 1 1 0 (rmA_hd xs c).s = some (rmA_S xs c ((0 : Int)) ((0 : Int))) := by kernel_rfl
theorem rmA_e1 (xs : List Int) (c : Int) (hv : vlX 0 c = 0) (hc : 1 ≤ c ∧ c ≤ 8) (hx : xs.length ≤ 20) : canonOk 1 41 [] 1 (rmA_hd xs c).s = true := canonOkF_eq.symm.trans (by kernel_rfl)
def rmA_X : Nat → VX
  | 0 => .ret
  | 1 => .exit 0
  | _ => .normal
noncomputable def rmA_E (kE : Nat) (xs : List Int) (c : Int) (y0 : Int) (y1 : Int) : St := match kE with
  | 0 => (St.mk (TV.node (some (Value.complex FloatKind.f64 (nat_lit 0) xs.length)) (TV.node (some (Value.int IntKind.i64 c)) (TV.node (some (Value.tuple { toList := [] })) (TV.node (some (Value.int IntKind.i64 y0)) (TV.node (some junk) (TV.node (some junk) TV.nil TV.nil) (TV.node (some junk) TV.nil TV.nil)) (TV.node (some junk) (TV.node (some junk) TV.nil TV.nil) TV.nil)) (TV.node (some (Value.int IntKind.i64 (vlX (0 : Int) c))) (TV.node (some junk) (TV.node (some junk) TV.nil TV.nil) TV.nil) (TV.node (some junk) (TV.node (some junk) TV.nil TV.nil) TV.nil))) (TV.node (some (Value.int IntKind.i64 (2 : Int))) (TV.node (some (Value.int IntKind.i64 c)) (TV.node (some junk) (TV.node (some junk) TV.nil TV.nil) TV.nil) (TV.node (some junk) (TV.node (some junk) TV.nil TV.nil) TV.nil)) (TV.node (some (Value.tuple { toList := [] })) (TV.node (some junk) (TV.node (some junk) TV.nil TV.nil) TV.nil) (TV.node (some junk) (TV.node (some junk) TV.nil TV.nil) TV.nil)))) (TV.node (some (Value.tuple { toList := [] })) (TV.node (some (Value.int IntKind.i64 (0 : Int))) (TV.node (some (Value.int IntKind.i64 y1)) (TV.node (some junk) (TV.node (some junk) TV.nil TV.nil) (TV.node (some (Value.tuple { toList := [] })) TV.nil TV.nil)) (TV.node (some junk) (TV.node (some junk) TV.nil TV.nil) TV.nil)) (TV.node (some (Value.bool false)) (TV.node (some junk) (TV.node (some junk) TV.nil TV.nil) TV.nil) (TV.node (some junk) (TV.node (some junk) TV.nil TV.nil) TV.nil))) (TV.node (some (Value.int IntKind.i64 (vlX (0 : Int) c))) (TV.node (some (Value.int IntKind.i64 (vlX (0 : Int) c))) (TV.node (some junk) (TV.node (some junk) TV.nil TV.nil) TV.nil) (TV.node (some junk) (TV.node (some junk) TV.nil TV.nil) TV.nil)) (TV.node (some junk) (TV.node (some junk) (TV.node (some junk) TV.nil TV.nil) TV.nil) (TV.node (some junk) (TV.node (some junk) TV.nil TV.nil) TV.nil))))) (HS.mk (Tr.node (some (VO.ro (rowA (gI) (xs)) 0)) Tr.nil Tr.nil) 41 2199023255551 2199023255550) [])
  | 1 => (St.mk (TV.node (some (Value.complex FloatKind.f64 (nat_lit 0) xs.length)) (TV.node (some (Value.int IntKind.i64 c)) (TV.node (some (Value.tuple { toList := [] })) (TV.node (some (Value.int IntKind.i64 y0)) (TV.node (some junk) (TV.node (some junk) TV.nil TV.nil) (TV.node (some junk) TV.nil TV.nil)) (TV.node (some junk) (TV.node (some junk) TV.nil TV.nil) TV.nil)) (TV.node (some (Value.int IntKind.i64 (vlX (0 : Int) c))) (TV.node (some junk) (TV.node (some junk) TV.nil TV.nil) TV.nil) (TV.node (some junk) (TV.node (some junk) TV.nil TV.nil) TV.nil))) (TV.node (some (Value.int IntKind.i64 (0 : Int))) (TV.node (some (Value.int IntKind.i64 c)) (TV.node (some junk) (TV.node (some junk) TV.nil TV.nil) TV.nil) (TV.node (some junk) (TV.node (some junk) TV.nil TV.nil) TV.nil)) (TV.node (some (Value.tuple { toList := [] })) (TV.node (some junk) (TV.node (some junk) TV.nil TV.nil) TV.nil) (TV.node (some junk) (TV.node (some junk) TV.nil TV.nil) TV.nil)))) (TV.node (some (Value.tuple { toList := [] })) (TV.node (some (Value.int IntKind.i64 (0 : Int))) (TV.node (some (Value.int IntKind.i64 y1)) (TV.node (some junk) (TV.node (some junk) TV.nil TV.nil) (TV.node (some (Value.tuple { toList := [] })) TV.nil TV.nil)) (TV.node (some junk) (TV.node (some junk) TV.nil TV.nil) TV.nil)) (TV.node (some (Value.bool false)) (TV.node (some junk) (TV.node (some junk) TV.nil TV.nil) TV.nil) (TV.node (some junk) (TV.node (some junk) TV.nil TV.nil) TV.nil))) (TV.node (some (Value.int IntKind.i64 (vlX (0 : Int) c))) (TV.node (some (Value.int IntKind.i64 (vlX (0 : Int) c))) (TV.node (some junk) (TV.node (some junk) TV.nil TV.nil) TV.nil) (TV.node (some junk) (TV.node (some junk) TV.nil TV.nil) TV.nil)) (TV.node (some junk) (TV.node (some junk) (TV.node (some junk) TV.nil TV.nil) TV.nil) (TV.node (some junk) (TV.node (some junk) TV.nil TV.nil) TV.nil))))) (HS.mk (Tr.node (some (VO.ro (rowA (gI) (xs)) 0)) Tr.nil Tr.nil) 41 2199023255551 2199023255550) [])
  | _ => (rmA_hd xs c).s
noncomputable def rmA_b4 (xs : List Int) (c : Int) (y0 : Int) (y1 : Int) : Bool := decide ((0 : Int) ≤ y0 ∧ y0 ≤ (255 : Int) ∧ (1 : Int) ≤ el xs y1 ∧ el xs y1 ≤ (8 : Int))
noncomputable def rmA_b6 (xs : List Int) (c : Int) (y0 : Int) (y1 : Int) : Bool := decide ((0 : Int) ≤ IntKind.i64.wrap (el xs y1 - (1 : Int)) ∧ IntKind.i64.wrap (el xs y1 - (1 : Int)) ≤ (8 : Int))
theorem rmA_p0 (xs : List Int) (c : Int) (y0 : Int) (y1 : Int) : bodyK Try.prog ([] : Vars).length tabM 3000 (rmA_hd xs c) (rmA_S xs c y0 y1 ) [(0, .b 1), (1, .b 1), (2, .b 1), (3, .vals ([Value.int IntKind.i64 (el xs y1)])), (4, .b 1)] 1 41 [15, 31, 47, 23, 39, 19, 35, 27, 43, 17, 33, 25, 41, 21, 37, 29, 45, 16, 32, 24, 40, 20, 36, 28, 44, 18, 34, 26, 42, 14, 22, 38, 30, 46] 41 1 0 = some (.ret, rmA_E 0 xs c (y0) (y1) , [(decide (el xs y1 < (1 : Int))) = true, segC (rowA (gI) (xs)) (((y1).toNat) * 1 + 0) 1 = some ([Value.int IntKind.i64 (el xs y1)]), (decide (y1 < (↑xs.length : Int))) = true, (decide ((0 : Int) ≤ y1)) = true, (decide (y1 < (↑xs.length : Int))) = true]) := by kernel_rfl
theorem rmA_q0 (xs : List Int) (c : Int) (y0 : Int) (y1 : Int) : (rmA_E 0 xs c (y0) (y1) ).hs.next = 41 := by kernel_rfl
theorem rmA_p1 (xs : List Int) (c : Int) (y0 : Int) (y1 : Int) : bodyK Try.prog ([] : Vars).length tabM 3000 (rmA_hd xs c) (rmA_S xs c y0 y1 ) [(0, .b 1), (1, .b 1), (2, .b 1), (3, .vals ([Value.int IntKind.i64 (el xs y1)])), (4, .b 0), (7, .b 1), (8, .b 1), (10, .vals ([Value.int IntKind.i64 (el xs y1)])), (14, .b 1)] 1 41 [15, 31, 47, 23, 39, 19, 35, 27, 43, 17, 33, 25, 41, 21, 37, 29, 45, 16, 32, 24, 40, 20, 36, 28, 44, 18, 34, 26, 42, 14, 22, 38, 30, 46] 41 1 0 = some (.ret, rmA_E 0 xs c (y0) (y1) , [(decide (el xs y1 > c)) = true, segC (rowA (gI) (xs)) (((y1).toNat) * 1 + 0) 1 = some ([Value.int IntKind.i64 (el xs y1)]), (decide (y1 < (↑xs.length : Int))) = true, (decide ((0 : Int) ≤ y1)) = true, (decide (el xs y1 < (1 : Int))) = false, segC (rowA (gI) (xs)) (((y1).toNat) * 1 + 0) 1 = some ([Value.int IntKind.i64 (el xs y1)]), (decide (y1 < (↑xs.length : Int))) = true, (decide ((0 : Int) ≤ y1)) = true, (decide (y1 < (↑xs.length : Int))) = true]) := by kernel_rfl
theorem rmA_q1 (xs : List Int) (c : Int) (y0 : Int) (y1 : Int) : (rmA_E 0 xs c (y0) (y1) ).hs.next = 41 := by kernel_rfl
theorem rmA_p2 (xs : List Int) (c : Int) (y0 : Int) (y1 : Int) : bodyK Try.prog ([] : Vars).length tabM 3000 (rmA_hd xs c) (rmA_S xs c y0 y1 ) [(0, .b 1), (1, .b 1), (2, .b 1), (3, .vals ([Value.int IntKind.i64 (el xs y1)])), (4, .b 0), (7, .b 1), (8, .b 1), (10, .vals ([Value.int IntKind.i64 (el xs y1)])), (14, .b 0), (15, .b 1), (16, .b 1), (17, .vals ([Value.int IntKind.i64 (el xs y1)])), (18, .b 1), (19, .b 1), (20, .b 1), (21, .b 1), (22, .vals ([Value.int IntKind.i64 (el xs y1)])), (23, .b 1)] 1 41 [15, 31, 47, 23, 39, 19, 35, 27, 43, 17, 33, 25, 41, 21, 37, 29, 45, 16, 32, 24, 40, 20, 36, 28, 44, 18, 34, 26, 42, 14, 22, 38, 30, 46] 1 1 0 = some (.normal, (rmA_S xs c (IntKind.i64.wrap (y0 + pwI (IntKind.i64.wrap (el xs y1 - (1 : Int))))) (IntKind.i64.wrap (y1 + (1 : Int)))), [(rmA_b6 xs c y0 y1 ) = true, segC (rowA (gI) (xs)) (((y1).toNat) * 1 + 0) 1 = some ([Value.int IntKind.i64 (el xs y1)]), (decide (y1 < (↑xs.length : Int))) = true, (decide ((0 : Int) ≤ y1)) = true, (!btB y0 (el xs y1)) = true, (rmA_b4 xs c y0 y1 ) = true, segC (rowA (gI) (xs)) (((y1).toNat) * 1 + 0) 1 = some ([Value.int IntKind.i64 (el xs y1)]), (decide (y1 < (↑xs.length : Int))) = true, (decide ((0 : Int) ≤ y1)) = true, (decide (el xs y1 > c)) = false, segC (rowA (gI) (xs)) (((y1).toNat) * 1 + 0) 1 = some ([Value.int IntKind.i64 (el xs y1)]), (decide (y1 < (↑xs.length : Int))) = true, (decide ((0 : Int) ≤ y1)) = true, (decide (el xs y1 < (1 : Int))) = false, segC (rowA (gI) (xs)) (((y1).toNat) * 1 + 0) 1 = some ([Value.int IntKind.i64 (el xs y1)]), (decide (y1 < (↑xs.length : Int))) = true, (decide ((0 : Int) ≤ y1)) = true, (decide (y1 < (↑xs.length : Int))) = true]) := by kernel_rfl
theorem rmA_p3 (xs : List Int) (c : Int) (y0 : Int) (y1 : Int) : bodyK Try.prog ([] : Vars).length tabM 3000 (rmA_hd xs c) (rmA_S xs c y0 y1 ) [(0, .b 1), (1, .b 1), (2, .b 1), (3, .vals ([Value.int IntKind.i64 (el xs y1)])), (4, .b 0), (7, .b 1), (8, .b 1), (10, .vals ([Value.int IntKind.i64 (el xs y1)])), (14, .b 0), (15, .b 1), (16, .b 1), (17, .vals ([Value.int IntKind.i64 (el xs y1)])), (18, .b 1), (19, .b 0)] 1 41 [15, 31, 47, 23, 39, 19, 35, 27, 43, 17, 33, 25, 41, 21, 37, 29, 45, 16, 32, 24, 40, 20, 36, 28, 44, 18, 34, 26, 42, 14, 22, 38, 30, 46] 1 1 0 = some (.normal, (rmA_S xs c (y0) (IntKind.i64.wrap (y1 + (1 : Int)))), [(!btB y0 (el xs y1)) = false, (rmA_b4 xs c y0 y1 ) = true, segC (rowA (gI) (xs)) (((y1).toNat) * 1 + 0) 1 = some ([Value.int IntKind.i64 (el xs y1)]), (decide (y1 < (↑xs.length : Int))) = true, (decide ((0 : Int) ≤ y1)) = true, (decide (el xs y1 > c)) = false, segC (rowA (gI) (xs)) (((y1).toNat) * 1 + 0) 1 = some ([Value.int IntKind.i64 (el xs y1)]), (decide (y1 < (↑xs.length : Int))) = true, (decide ((0 : Int) ≤ y1)) = true, (decide (el xs y1 < (1 : Int))) = false, segC (rowA (gI) (xs)) (((y1).toNat) * 1 + 0) 1 = some ([Value.int IntKind.i64 (el xs y1)]), (decide (y1 < (↑xs.length : Int))) = true, (decide ((0 : Int) ≤ y1)) = true, (decide (y1 < (↑xs.length : Int))) = true]) := by kernel_rfl
theorem rmA_p4 (xs : List Int) (c : Int) (y0 : Int) (y1 : Int) : bodyK Try.prog ([] : Vars).length tabM 3000 (rmA_hd xs c) (rmA_S xs c y0 y1 ) [(0, .b 0)] 1 41 [15, 31, 47, 23, 39, 19, 35, 27, 43, 17, 33, 25, 41, 21, 37, 29, 45, 16, 32, 24, 40, 20, 36, 28, 44, 18, 34, 26, 42, 14, 22, 38, 30, 46] 41 1 0 = some (.exit 0, rmA_E 1 xs c (y0) (y1) , [(decide (y1 < (↑xs.length : Int))) = false]) := by kernel_rfl
theorem rmA_q4 (xs : List Int) (c : Int) (y0 : Int) (y1 : Int) : (rmA_E 1 xs c (y0) (y1) ).hs.next = 41 := by kernel_rfl
theorem rmA_d0 (xs : List Int) (c : Int) (hv : vlX 0 c = 0) (hc : 1 ≤ c ∧ c ≤ 8) (hx : xs.length ≤ 20) (y0 : Int) (y1 : Int) (hi : (decide (0 ≤ y0 ∧ y0 ≤ 255 ∧ 0 ≤ y1 ∧ y1 ≤ 20)) = true) (hq0 : (decide (y1 < (↑xs.length : Int))) = true) : (decide ((0 : Int) ≤ y1)) = true := by
  rcases Bool.eq_false_or_eq_true (decide ((0 : Int) ≤ y1)) with h | h
  · exact h
  · exfalso; (first | (simp_all only [Bool.and_eq_true, Bool.not_eq_true', Bool.false_eq_true, Bool.true_eq_false, reduceCtorEq]; done) | (simp only [sx, sy, eq_self, ne_eq, IntKind.wrap_i64, wrapU64, Int.reduceLT] at * <;> first | contradiction | omega) | omega | ((try simp only [sx, sy, eq_self, ne_eq, IntKind.wrap_i64, wrapU64, Int.reduceLT] at *) <;> omega) | (simp_all; done))
theorem rmA_d1 (xs : List Int) (c : Int) (hv : vlX 0 c = 0) (hc : 1 ≤ c ∧ c ≤ 8) (hx : xs.length ≤ 20) (y0 : Int) (y1 : Int) (hi : (decide (0 ≤ y0 ∧ y0 ≤ 255 ∧ 0 ≤ y1 ∧ y1 ≤ 20)) = true) (hq0 : (decide (y1 < (↑xs.length : Int))) = true) (hq1 : (decide ((0 : Int) ≤ y1)) = true) (hq2 : (decide (el xs y1 < (1 : Int))) = false) (hq3 : (decide (el xs y1 > c)) = false) : (rmA_b4 xs c y0 y1 ) = true := by
  rcases Bool.eq_false_or_eq_true (rmA_b4 xs c y0 y1 ) with h | h
  · exact h
  · exfalso; (try simp only [rmA_b4] at *); (first | (simp_all only [Bool.and_eq_true, Bool.not_eq_true', Bool.false_eq_true, Bool.true_eq_false, reduceCtorEq]; done) | (simp only [sx, sy, eq_self, ne_eq, IntKind.wrap_i64, wrapU64, Int.reduceLT] at * <;> first | contradiction | omega) | omega | ((try simp only [sx, sy, eq_self, ne_eq, IntKind.wrap_i64, wrapU64, Int.reduceLT] at *) <;> omega) | (simp_all; done))
theorem rmA_d2 (xs : List Int) (c : Int) (hv : vlX 0 c = 0) (hc : 1 ≤ c ∧ c ≤ 8) (hx : xs.length ≤ 20) (y0 : Int) (y1 : Int) (hi : (decide (0 ≤ y0 ∧ y0 ≤ 255 ∧ 0 ≤ y1 ∧ y1 ≤ 20)) = true) (hq0 : (decide (y1 < (↑xs.length : Int))) = true) (hq1 : (decide ((0 : Int) ≤ y1)) = true) (hq2 : (decide (el xs y1 < (1 : Int))) = false) (hq3 : (decide (el xs y1 > c)) = false) (hq4 : (rmA_b4 xs c y0 y1 ) = true) (hq5 : (!btB y0 (el xs y1)) = true) : (rmA_b6 xs c y0 y1 ) = true := by
  rcases Bool.eq_false_or_eq_true (rmA_b6 xs c y0 y1 ) with h | h
  · exact h
  · exfalso; (try simp only [rmA_b6, rmA_b4] at *); (first | (simp_all only [Bool.and_eq_true, Bool.not_eq_true', Bool.false_eq_true, Bool.true_eq_false, reduceCtorEq]; done) | (simp only [sx, sy, eq_self, ne_eq, IntKind.wrap_i64, wrapU64, Int.reduceLT] at * <;> first | contradiction | omega) | omega | ((try simp only [sx, sy, eq_self, ne_eq, IntKind.wrap_i64, wrapU64, Int.reduceLT] at *) <;> omega) | (simp_all; done))
noncomputable def rmA_f (xs : List Int) (c : Int) : Nat → Int → Int → Option (Nat × (Int × Int))
  | 0, _, _ => none
  | fu + 1, y0, y1 => (bif (decide (0 ≤ y0 ∧ y0 ≤ 255 ∧ 0 ≤ y1 ∧ y1 ≤ 20)) then (bif (decide (y1 < (↑xs.length : Int))) then (bif (decide (el xs y1 < (1 : Int))) then some (0, ((y0), (y1))) else (bif (decide (el xs y1 > c)) then some (0, ((y0), (y1))) else (bif (!btB y0 (el xs y1)) then rmA_f xs c fu (IntKind.i64.wrap (y0 + pwI (IntKind.i64.wrap (el xs y1 - (1 : Int))))) (IntKind.i64.wrap (y1 + (1 : Int))) else rmA_f xs c fu (y0) (IntKind.i64.wrap (y1 + (1 : Int)))))) else some (1, ((y0), (y1)))) else none)
theorem rmA_fs (xs : List Int) (c : Int) (fu : Nat) (y0 : Int) (y1 : Int) : rmA_f xs c (fu + 1) y0 y1 = (bif (decide (0 ≤ y0 ∧ y0 ≤ 255 ∧ 0 ≤ y1 ∧ y1 ≤ 20)) then (bif (decide (y1 < (↑xs.length : Int))) then (bif (decide (el xs y1 < (1 : Int))) then some (0, ((y0), (y1))) else (bif (decide (el xs y1 > c)) then some (0, ((y0), (y1))) else (bif (!btB y0 (el xs y1)) then rmA_f xs c fu (IntKind.i64.wrap (y0 + pwI (IntKind.i64.wrap (el xs y1 - (1 : Int))))) (IntKind.i64.wrap (y1 + (1 : Int))) else rmA_f xs c fu (y0) (IntKind.i64.wrap (y1 + (1 : Int)))))) else some (1, ((y0), (y1)))) else none) := rfl
theorem rmA_f0 (xs : List Int) (c : Int) (y0 : Int) (y1 : Int) : rmA_f xs c 0 y0 y1 = none := rfl
theorem rmA_loop (xs : List Int) (c : Int) (hv : vlX 0 c = 0) (hc : 1 ≤ c ∧ c ≤ 8) (hx : xs.length ≤ 20) : ∀ (fu : Nat) (y0 : Int) (y1 : Int) (kk : Nat) (zz : Int × Int), rmA_f xs c fu y0 y1 = some (kk, zz) → VStep (rmA_hd xs c).s.hs (rmA_S xs c y0 y1 ).hs → RoundsC Try.prog [] 1 41 (rmA_hd xs c).s.hs (rmA_hd xs c).ro (rmA_hd xs c).a (rmA_S xs c y0 y1 ) (rmA_X kk) (rmA_E kk xs c zz.1 zz.2 ) ∧ ((rmA_E kk xs c zz.1 zz.2 )).hs.next = 41 := by
  intro fu
  induction fu with
  | zero =>
    intro y0 y1 kk zz hf hSz
    have hf := (rmA_f0 xs c y0 y1 ).symm.trans hf
    simp at hf
  | succ fu ih =>
    intro y0 y1 kk zz hf hSz
    have hf := (rmA_fs xs c fu y0 y1 ).symm.trans hf
    rcases bif_or hf with ⟨hi, hf⟩ | ⟨hi, hf⟩
    case inr => cases hf
    rcases bif_or hf with ⟨hq0, hf⟩ | ⟨hq0, hf⟩
    ·
      have hq1 := rmA_d0 xs c hv hc hx y0 y1 hi hq0 
      rcases bif_or hf with ⟨hq2, hf⟩ | ⟨hq2, hf⟩
      ·
        injection hf with hf; injection hf with e1 e2; subst e1; subst e2; have hb1 := rmA_p0 xs c y0 y1 ; have hb2 := body_canon hb1; have hb3 := hb2 ⟨hq2, (seg_row (g := (gI)) (k := 1) (fun _ => rfl) (by first | exact of_decide_eq_true hq1 | simpa using of_decide_eq_true hq1) (by first | exact of_decide_eq_true hq0 | (simpa using of_decide_eq_true hq0; done) | (have hx1 := of_decide_eq_true hq0; have hx2 := of_decide_eq_true hi; simp only [List.length_reverse, List.length_set] at *; omega)) (by decide) rfl), hq0, hq1, hq0, trivial⟩; obtain ⟨sz1, kz1, kz2, kz3⟩ := hb3; exact ⟨rounds_end mix (T := tabM) tabM_ok (rmA_n xs c hv hc hx ) (rmA_r xs c hv hc hx ) (rmA_w xs c hv hc hx ) kz1 (fun h => by cases h) hSz kz2 kz3, rmA_q0 xs c y0 y1 ⟩
      ·
        rcases bif_or hf with ⟨hq3, hf⟩ | ⟨hq3, hf⟩
        ·
          injection hf with hf; injection hf with e1 e2; subst e1; subst e2; have hb1 := rmA_p1 xs c y0 y1 ; have hb2 := body_canon hb1; have hb3 := hb2 ⟨hq3, (seg_row (g := (gI)) (k := 1) (fun _ => rfl) (by first | exact of_decide_eq_true hq1 | simpa using of_decide_eq_true hq1) (by first | exact of_decide_eq_true hq0 | (simpa using of_decide_eq_true hq0; done) | (have hx1 := of_decide_eq_true hq0; have hx2 := of_decide_eq_true hi; simp only [List.length_reverse, List.length_set] at *; omega)) (by decide) rfl), hq0, hq1, hq2, (seg_row (g := (gI)) (k := 1) (fun _ => rfl) (by first | exact of_decide_eq_true hq1 | simpa using of_decide_eq_true hq1) (by first | exact of_decide_eq_true hq0 | (simpa using of_decide_eq_true hq0; done) | (have hx1 := of_decide_eq_true hq0; have hx2 := of_decide_eq_true hi; simp only [List.length_reverse, List.length_set] at *; omega)) (by decide) rfl), hq0, hq1, hq0, trivial⟩; obtain ⟨sz1, kz1, kz2, kz3⟩ := hb3; exact ⟨rounds_end mix (T := tabM) tabM_ok (rmA_n xs c hv hc hx ) (rmA_r xs c hv hc hx ) (rmA_w xs c hv hc hx ) kz1 (fun h => by cases h) hSz kz2 kz3, rmA_q1 xs c y0 y1 ⟩
        ·
          have hq4 := rmA_d1 xs c hv hc hx y0 y1 hi hq0 hq1 hq2 hq3 
          rcases bif_or hf with ⟨hq5, hf⟩ | ⟨hq5, hf⟩
          ·
            have hq6 := rmA_d2 xs c hv hc hx y0 y1 hi hq0 hq1 hq2 hq3 hq4 hq5 
            have hb1 := rmA_p2 xs c y0 y1 ; have hb2 := body_canon hb1; have hb3 := hb2 ⟨hq6, (seg_row (g := (gI)) (k := 1) (fun _ => rfl) (by first | exact of_decide_eq_true hq1 | simpa using of_decide_eq_true hq1) (by first | exact of_decide_eq_true hq0 | (simpa using of_decide_eq_true hq0; done) | (have hx1 := of_decide_eq_true hq0; have hx2 := of_decide_eq_true hi; simp only [List.length_reverse, List.length_set] at *; omega)) (by decide) rfl), hq0, hq1, hq5, hq4, (seg_row (g := (gI)) (k := 1) (fun _ => rfl) (by first | exact of_decide_eq_true hq1 | simpa using of_decide_eq_true hq1) (by first | exact of_decide_eq_true hq0 | (simpa using of_decide_eq_true hq0; done) | (have hx1 := of_decide_eq_true hq0; have hx2 := of_decide_eq_true hi; simp only [List.length_reverse, List.length_set] at *; omega)) (by decide) rfl), hq0, hq1, hq3, (seg_row (g := (gI)) (k := 1) (fun _ => rfl) (by first | exact of_decide_eq_true hq1 | simpa using of_decide_eq_true hq1) (by first | exact of_decide_eq_true hq0 | (simpa using of_decide_eq_true hq0; done) | (have hx1 := of_decide_eq_true hq0; have hx2 := of_decide_eq_true hi; simp only [List.length_reverse, List.length_set] at *; omega)) (by decide) rfl), hq0, hq1, hq2, (seg_row (g := (gI)) (k := 1) (fun _ => rfl) (by first | exact of_decide_eq_true hq1 | simpa using of_decide_eq_true hq1) (by first | exact of_decide_eq_true hq0 | (simpa using of_decide_eq_true hq0; done) | (have hx1 := of_decide_eq_true hq0; have hx2 := of_decide_eq_true hi; simp only [List.length_reverse, List.length_set] at *; omega)) (by decide) rfl), hq0, hq1, hq0, trivial⟩; obtain ⟨sz1, kz1, kz2, kz3⟩ := hb3; obtain ⟨gz1, gz2⟩ := ih (IntKind.i64.wrap (y0 + pwI (IntKind.i64.wrap (el xs y1 - (1 : Int))))) (IntKind.i64.wrap (y1 + (1 : Int))) kk zz hf (rounds_step mix (T := tabM) tabM_ok (rmA_n xs c hv hc hx ) (rmA_r xs c hv hc hx ) (rmA_w xs c hv hc hx ) kz1 hSz kz2 kz3); exact ⟨rounds_next mix (T := tabM) tabM_ok (rmA_n xs c hv hc hx ) (rmA_r xs c hv hc hx ) (rmA_w xs c hv hc hx ) kz1 hSz kz2 kz3 (fun _ => gz1), gz2⟩
          ·
            have hb1 := rmA_p3 xs c y0 y1 ; have hb2 := body_canon hb1; have hb3 := hb2 ⟨hq5, hq4, (seg_row (g := (gI)) (k := 1) (fun _ => rfl) (by first | exact of_decide_eq_true hq1 | simpa using of_decide_eq_true hq1) (by first | exact of_decide_eq_true hq0 | (simpa using of_decide_eq_true hq0; done) | (have hx1 := of_decide_eq_true hq0; have hx2 := of_decide_eq_true hi; simp only [List.length_reverse, List.length_set] at *; omega)) (by decide) rfl), hq0, hq1, hq3, (seg_row (g := (gI)) (k := 1) (fun _ => rfl) (by first | exact of_decide_eq_true hq1 | simpa using of_decide_eq_true hq1) (by first | exact of_decide_eq_true hq0 | (simpa using of_decide_eq_true hq0; done) | (have hx1 := of_decide_eq_true hq0; have hx2 := of_decide_eq_true hi; simp only [List.length_reverse, List.length_set] at *; omega)) (by decide) rfl), hq0, hq1, hq2, (seg_row (g := (gI)) (k := 1) (fun _ => rfl) (by first | exact of_decide_eq_true hq1 | simpa using of_decide_eq_true hq1) (by first | exact of_decide_eq_true hq0 | (simpa using of_decide_eq_true hq0; done) | (have hx1 := of_decide_eq_true hq0; have hx2 := of_decide_eq_true hi; simp only [List.length_reverse, List.length_set] at *; omega)) (by decide) rfl), hq0, hq1, hq0, trivial⟩; obtain ⟨sz1, kz1, kz2, kz3⟩ := hb3; obtain ⟨gz1, gz2⟩ := ih (y0) (IntKind.i64.wrap (y1 + (1 : Int))) kk zz hf (rounds_step mix (T := tabM) tabM_ok (rmA_n xs c hv hc hx ) (rmA_r xs c hv hc hx ) (rmA_w xs c hv hc hx ) kz1 hSz kz2 kz3); exact ⟨rounds_next mix (T := tabM) tabM_ok (rmA_n xs c hv hc hx ) (rmA_r xs c hv hc hx ) (rmA_w xs c hv hc hx ) kz1 hSz kz2 kz3 (fun _ => gz1), gz2⟩
    ·
      injection hf with hf; injection hf with e1 e2; subst e1; subst e2; have hb1 := rmA_p4 xs c y0 y1 ; have hb2 := body_canon hb1; have hb3 := hb2 ⟨hq0, trivial⟩; obtain ⟨sz1, kz1, kz2, kz3⟩ := hb3; exact ⟨rounds_end mix (T := tabM) tabM_ok (rmA_n xs c hv hc hx ) (rmA_r xs c hv hc hx ) (rmA_w xs c hv hc hx ) kz1 (fun h => by cases h) hSz kz2 kz3, rmA_q4 xs c y0 y1 ⟩
theorem rmA_ok (xs : List Int) (c : Int) (hv : vlX 0 c = 0) (hc : 1 ≤ c ∧ c ≤ 8) (hx : xs.length ≤ 20) (fu kk : Nat) (zz : Int × Int) (hf : rmA_f xs c fu ((0 : Int)) ((0 : Int)) = some (kk, zz)) : ∀ B : Bd, B.L = [] → LoopOk Try.prog B (rmA_hd xs c).ro (rmA_hd xs c).a (rmA_hd xs c).s (rmA_X kk) (rmA_E kk xs c zz.1 zz.2 ) := by
  have hSz := begin_step (rmA_n xs c hv hc hx ) (rmA_r xs c hv hc hx ) (rmA_w xs c hv hc hx ) (rmA_e0 xs c hv hc hx ) (rmA_e1 xs c hv hc hx )
  obtain ⟨gz1, gz2⟩ := rmA_loop xs c hv hc hx fu ((0 : Int)) ((0 : Int)) kk zz hf hSz
  exact rounds_ok (rmA_n xs c hv hc hx ) (Nat.le_of_ble_eq_true (by kernel_rfl)) gz2 (rounds_begin (rmA_n xs c hv hc hx ) (rmA_r xs c hv hc hx ) (rmA_w xs c hv hc hx ) (rmA_e0 xs c hv hc hx ) (rmA_e1 xs c hv hc hx ) (fun _ => gz1))

theorem rm0_p0 (xs : List Int) (c : Int) (rmA_z0 : Int) (rmA_z1 : Int)  (hv : vlX 0 c = 0) (hc : 1 ≤ c ∧ c ≤ 8) (hx : xs.length ≤ 20) (rmA_k1 : (vlX (0 : Int) c != (0 : Int)) = false) (rmA_l : ∀ B : Bd, B.L = [] → LoopOk Try.prog B (rmA_hd xs c).ro (rmA_hd xs c).a (rmA_hd xs c).s (rmA_X 0) (rmA_E 0 xs c rmA_z0 rmA_z1 )) : KnownR Try.prog [] 19 [.list (rowA gI xs) xs.length, .val (.int .i64 c)] (.tuple #[(.int .i64 ((0 : Int))), (.int .i64 ((2 : Int)))]) [] :=
  knownR_eq (v := Value.tuple { toList := [Value.int IntKind.i64 (0 : Int), Value.int IntKind.i64 (2 : Int)] }) (bs := []) (open_resD mix (GOk.add tabM_ok rmA_l) (T := (GTab.add tabM 7 (rmA_hd xs c).ro (rmA_hd xs c).a (rmA_hd xs c).s (rmA_X 0) (rmA_E 0 xs c rmA_z0 rmA_z1 ) (by kernel_rfl))) (fuel := 3000) (es := []) (ans := [(1, .b 0), (2, .loop (rmA_X 0) (rmA_E 0 xs c rmA_z0 rmA_z1 )), ]) (log := [LoopRes Try.prog ([] : Vars).length (GTab.add tabM 7 (rmA_hd xs c).ro (rmA_hd xs c).a (rmA_hd xs c).s (rmA_X 0) (rmA_E 0 xs c rmA_z0 rmA_z1 ) (by kernel_rfl)) (rmA_hd xs c).ro (rmA_hd xs c).a (rmA_hd xs c).s (rmA_X 0) (rmA_E 0 xs c rmA_z0 rmA_z1 ), (vlX (0 : Int) c != (0 : Int)) = false]) (by kernel_rfl) ⟨(loop_known2 add_eq), rmA_k1, trivial⟩ (by kernel_rfl)) (by first | rfl | (simp; done) | (simp_all; done)) (by first | rfl | (simp [rowA_nil]; done) | (simp only [rowA_eq]; rfl) | (simp_all [rowA_nil]; done))
set_option maxHeartbeats 8000000 in
theorem rm0 (xs : List Int) (c : Int) (rmA_z0 : Int) (rmA_z1 : Int)  (hv : vlX 0 c = 0) (hc : 1 ≤ c ∧ c ≤ 8) (hx : xs.length ≤ 20) (rmA_k1 : (vlX (0 : Int) c != (0 : Int)) = false) (rmA_l : ∀ B : Bd, B.L = [] → LoopOk Try.prog B (rmA_hd xs c).ro (rmA_hd xs c).a (rmA_hd xs c).s (rmA_X 0) (rmA_E 0 xs c rmA_z0 rmA_z1 )) : KnownR Try.prog [] 19 [.list (rowA gI xs) xs.length, .val (.int .i64 c)] (.tuple #[(.int .i64 ((0 : Int))), (.int .i64 ((2 : Int)))]) [] := by
  exact rm0_p0 xs c rmA_z0 rmA_z1 hv hc hx rmA_k1 rmA_l

noncomputable def rm1_c0 (xs : List Int) (c : Int) (rmA_z0 : Int) (rmA_z1 : Int)  : Int := (rmA_z0)
theorem rm1_p0 (xs : List Int) (c : Int) (rmA_z0 : Int) (rmA_z1 : Int)  (hv : vlX 0 c = 0) (hc : 1 ≤ c ∧ c ≤ 8) (hx : xs.length ≤ 20) (rmA_k1 : (vlX (0 : Int) c != (0 : Int)) = false) (rmA_l : ∀ B : Bd, B.L = [] → LoopOk Try.prog B (rmA_hd xs c).ro (rmA_hd xs c).a (rmA_hd xs c).s (rmA_X 1) (rmA_E 1 xs c rmA_z0 rmA_z1 )) : KnownR Try.prog [] 19 [.list (rowA gI xs) xs.length, .val (.int .i64 c)] (.tuple #[(.int .i64 (rmA_z0)), (.int .i64 ((0 : Int)))]) [] :=
  knownR_eq (v := Value.tuple { toList := [Value.int IntKind.i64 rmA_z0, Value.int IntKind.i64 (0 : Int)] }) (bs := []) (open_resD mix (GOk.add tabM_ok rmA_l) (T := (GTab.add tabM 7 (rmA_hd xs c).ro (rmA_hd xs c).a (rmA_hd xs c).s (rmA_X 1) (rmA_E 1 xs c rmA_z0 rmA_z1 ) (by kernel_rfl))) (fuel := 3000) (es := []) (ans := [(1, .b 0), (2, .loop (rmA_X 1) (rmA_E 1 xs c rmA_z0 rmA_z1 )), ]) (log := [LoopRes Try.prog ([] : Vars).length (GTab.add tabM 7 (rmA_hd xs c).ro (rmA_hd xs c).a (rmA_hd xs c).s (rmA_X 1) (rmA_E 1 xs c rmA_z0 rmA_z1 ) (by kernel_rfl)) (rmA_hd xs c).ro (rmA_hd xs c).a (rmA_hd xs c).s (rmA_X 1) (rmA_E 1 xs c rmA_z0 rmA_z1 ), (vlX (0 : Int) c != (0 : Int)) = false]) (by kernel_rfl) ⟨(loop_known2 add_eq), rmA_k1, trivial⟩ (by kernel_rfl)) (by first | rfl | (simp; done) | (simp_all; done)) (by first | rfl | (simp [rowA_nil]; done) | (simp only [rowA_eq]; rfl) | (simp_all [rowA_nil]; done))
set_option maxHeartbeats 8000000 in
theorem rm1 (xs : List Int) (c : Int) (rmA_z0 : Int) (rmA_z1 : Int)  (hv : vlX 0 c = 0) (hc : 1 ≤ c ∧ c ≤ 8) (hx : xs.length ≤ 20) (rmA_k1 : (vlX (0 : Int) c != (0 : Int)) = false) (rmA_l : ∀ B : Bd, B.L = [] → LoopOk Try.prog B (rmA_hd xs c).ro (rmA_hd xs c).a (rmA_hd xs c).s (rmA_X 1) (rmA_E 1 xs c rmA_z0 rmA_z1 )) : KnownR Try.prog [] 19 [.list (rowA gI xs) xs.length, .val (.int .i64 c)] (.tuple #[(.int .i64 (rm1_c0 xs c rmA_z0 rmA_z1)), (.int .i64 ((0 : Int)))]) [] := by
  have e0 : rm1_c0 xs c rmA_z0 rmA_z1 = (rmA_z0) := rfl; rw [e0]; exact rm1_p0 xs c rmA_z0 rmA_z1 hv hc hx rmA_k1 rmA_l

noncomputable def rmE_c1 (xs : List Int) (c : Int) : Int := (vlX (0 : Int) c)
theorem rmE_p0 (xs : List Int) (c : Int) (hv : ¬ vlX 0 c = 0) (hq0 : (vlX (0 : Int) c != (0 : Int)) = true) : KnownR Try.prog [] 19 [.list (rowA gI xs) xs.length, .val (.int .i64 c)] (.tuple #[(.int .i64 ((0 : Int))), (.int .i64 (vlX (0 : Int) c))]) [] :=
  knownR_eq (v := Value.tuple { toList := [Value.int IntKind.i64 (0 : Int), Value.int IntKind.i64 (vlX (0 : Int) c)] }) (bs := []) (open_resD mix tabM_ok (T := tabM) (fuel := 3000) (es := []) (ans := [(1, .b 1)]) (log := [(vlX (0 : Int) c != (0 : Int)) = true]) (by kernel_rfl) ⟨hq0, trivial⟩ (by kernel_rfl)) (by first | rfl | (simp; done) | (simp_all; done)) (by first | rfl | (simp [rowA_nil]; done) | (simp only [rowA_eq]; rfl) | (simp_all [rowA_nil]; done))
set_option maxHeartbeats 8000000 in
theorem rmE (xs : List Int) (c : Int) (hv : ¬ vlX 0 c = 0) : KnownR Try.prog [] 19 [.list (rowA gI xs) xs.length, .val (.int .i64 c)] (.tuple #[(.int .i64 ((0 : Int))), (.int .i64 (rmE_c1 xs c))]) [] := by
  have hq0 : (vlX (0 : Int) c != (0 : Int)) = true := by
    rcases Bool.eq_false_or_eq_true (vlX (0 : Int) c != (0 : Int)) with h | h
    · exact h
    · exfalso; (first | (simp_all only [Bool.and_eq_true, Bool.not_eq_true', Bool.false_eq_true, Bool.true_eq_false, reduceCtorEq]; done) | (simp only [sx, sy, eq_self, ne_eq, IntKind.wrap_i64, wrapU64, Int.reduceLT] at * <;> first | contradiction | omega) | omega | ((try simp only [sx, sy, eq_self, ne_eq, IntKind.wrap_i64, wrapU64, Int.reduceLT] at *) <;> omega) | (simp_all; done))
  have e1 : rmE_c1 xs c = (vlX (0 : Int) c) := rfl; rw [e1]; exact rmE_p0 xs c hv hq0

noncomputable def pmA_hd (xs : List Int) (c : Int) : Hd := headD Try.prog [] tabM 3000 18 [.list (rowA gI xs) xs.length, .val (.int .i64 c)] [(1, .b 0), (2, .stop)]
noncomputable def pmA_S (xs : List Int) (c : Int) (y0 : Int) (y1 : Int) : St := (St.mk (TV.node (some (Value.complex FloatKind.f64 (nat_lit 0) xs.length)) (TV.node (some (Value.int IntKind.i64 c)) (TV.node (some (Value.tuple { toList := [] })) (TV.node (some (Value.int IntKind.i64 y0)) (TV.node (some (Value.complex FloatKind.f64 (nat_lit 0) xs.length)) TV.nil TV.nil) (TV.node (some junk) TV.nil TV.nil)) (TV.node (some (Value.int IntKind.i64 (cwX c))) (TV.node (some junk) TV.nil TV.nil) (TV.node (some junk) TV.nil TV.nil))) (TV.node (some (Value.int IntKind.i64 (0 : Int))) (TV.node (some junk) (TV.node (some (Value.int IntKind.i64 y1)) TV.nil TV.nil) (TV.node (some junk) TV.nil TV.nil)) (TV.node (some (Value.bool false)) (TV.node (some junk) TV.nil TV.nil) (TV.node (some junk) TV.nil TV.nil)))) (TV.node (some (Value.tuple { toList := [] })) (TV.node (some (Value.int IntKind.i64 (0 : Int))) (TV.node (some (Value.tuple { toList := [] })) (TV.node (some (Value.int IntKind.i64 (↑xs.length : Int))) TV.nil TV.nil) (TV.node (some junk) TV.nil TV.nil)) (TV.node (some (Value.int IntKind.i64 (cwX c))) (TV.node (some junk) TV.nil TV.nil) (TV.node (some junk) TV.nil TV.nil))) (TV.node (some (Value.int IntKind.i64 (cwX c))) (TV.node (some (Value.int IntKind.i64 c)) (TV.node (some junk) TV.nil TV.nil) (TV.node (some junk) TV.nil TV.nil)) (TV.node (some (Value.tuple { toList := [] })) (TV.node (some junk) TV.nil TV.nil) (TV.node (some (Value.tuple { toList := [] })) TV.nil TV.nil))))) (HS.mk (Tr.node (some (VO.ro (rowA (gI) (xs)) 0)) Tr.nil Tr.nil) 1 2199023255551 2199023255550) [])
theorem pmA_n (xs : List Int) (c : Int) (hv : cwX c = 0) (hc : 1 ≤ c ∧ c ≤ 8) (hx : xs.length ≤ 20) : 1 = (pmA_hd xs c).s.hs.next := by kernel_rfl
theorem pmA_r (xs : List Int) (c : Int) (hv : cwX c = 0) (hc : 1 ≤ c ∧ c ≤ 8) (hx : xs.length ≤ 20) : (pmA_hd xs c).s.hs.rd < bitOf 1 := by
  have e : (pmA_hd xs c).s.hs.rd = 0 := by kernel_rfl
  rw [e]; exact blt_iff.1 (by kernel_rfl)
theorem pmA_w (xs : List Int) (c : Int) (hv : cwX c = 0) (hc : 1 ≤ c ∧ c ≤ 8) (hx : xs.length ≤ 20) : (pmA_hd xs c).s.hs.wr < bitOf 1 := by
  have e : (pmA_hd xs c).s.hs.wr = 0 := by kernel_rfl
  rw [e]; exact blt_iff.1 (by kernel_rfl)
theorem pmA_e0 (xs : List Int) (c : Int) (hv : cwX c = 0) (hc : 1 ≤ c ∧ c ≤ 8) (hx : xs.length ≤ 20) : canonS 1 41 [] [23, 19, 27, 9, 25, 21, 29, 24, 20, 28, 18, 26, 22] 1 1 0 (pmA_hd xs c).s = some (pmA_S xs c ((0 : Int)) ((0 : Int))) := by kernel_rfl
theorem pmA_e1 (xs : List Int) (c : Int) (hv : cwX c = 0) (hc : 1 ≤ c ∧ c ≤ 8) (hx : xs.length ≤ 20) : canonOk 1 41 [] 1 (pmA_hd xs c).s = true := canonOkF_eq.symm.trans (by kernel_rfl)
def pmA_X : Nat → VX
  | 0 => .ret
  | 1 => .exit 0
  | _ => .normal
noncomputable def pmA_E (kE : Nat) (xs : List Int) (c : Int) (y0 : Int) (y1 : Int) : St := match kE with
  | 0 => (St.mk (TV.node (some (Value.complex FloatKind.f64 (nat_lit 0) xs.length)) (TV.node (some (Value.int IntKind.i64 c)) (TV.node (some (Value.tuple { toList := [] })) (TV.node (some (Value.int IntKind.i64 y0)) (TV.node (some (Value.complex FloatKind.f64 (nat_lit 0) xs.length)) TV.nil TV.nil) (TV.node (some junk) TV.nil TV.nil)) (TV.node (some (Value.int IntKind.i64 (cwX c))) (TV.node (some junk) TV.nil TV.nil) (TV.node (some junk) TV.nil TV.nil))) (TV.node (some (Value.int IntKind.i64 (2 : Int))) (TV.node (some junk) (TV.node (some (Value.int IntKind.i64 y1)) TV.nil TV.nil) (TV.node (some junk) TV.nil TV.nil)) (TV.node (some (Value.bool false)) (TV.node (some junk) TV.nil TV.nil) (TV.node (some junk) TV.nil TV.nil)))) (TV.node (some (Value.tuple { toList := [] })) (TV.node (some (Value.int IntKind.i64 (0 : Int))) (TV.node (some (Value.tuple { toList := [] })) (TV.node (some (Value.int IntKind.i64 (↑xs.length : Int))) TV.nil TV.nil) (TV.node (some junk) TV.nil TV.nil)) (TV.node (some (Value.int IntKind.i64 (cwX c))) (TV.node (some junk) TV.nil TV.nil) (TV.node (some junk) TV.nil TV.nil))) (TV.node (some (Value.int IntKind.i64 (cwX c))) (TV.node (some (Value.int IntKind.i64 c)) (TV.node (some junk) TV.nil TV.nil) (TV.node (some junk) TV.nil TV.nil)) (TV.node (some (Value.tuple { toList := [] })) (TV.node (some junk) TV.nil TV.nil) (TV.node (some (Value.tuple { toList := [] })) TV.nil TV.nil))))) (HS.mk (Tr.node (some (VO.ro (rowA (gI) (xs)) 0)) Tr.nil Tr.nil) 41 2199023255551 2199023255550) [])
  | 1 => (St.mk (TV.node (some (Value.complex FloatKind.f64 (nat_lit 0) xs.length)) (TV.node (some (Value.int IntKind.i64 c)) (TV.node (some (Value.tuple { toList := [] })) (TV.node (some (Value.int IntKind.i64 y0)) (TV.node (some (Value.complex FloatKind.f64 (nat_lit 0) xs.length)) TV.nil TV.nil) (TV.node (some junk) TV.nil TV.nil)) (TV.node (some (Value.int IntKind.i64 (cwX c))) (TV.node (some junk) TV.nil TV.nil) (TV.node (some junk) TV.nil TV.nil))) (TV.node (some (Value.int IntKind.i64 (0 : Int))) (TV.node (some junk) (TV.node (some (Value.int IntKind.i64 y1)) TV.nil TV.nil) (TV.node (some junk) TV.nil TV.nil)) (TV.node (some (Value.bool false)) (TV.node (some junk) TV.nil TV.nil) (TV.node (some junk) TV.nil TV.nil)))) (TV.node (some (Value.tuple { toList := [] })) (TV.node (some (Value.int IntKind.i64 (0 : Int))) (TV.node (some (Value.tuple { toList := [] })) (TV.node (some (Value.int IntKind.i64 (↑xs.length : Int))) TV.nil TV.nil) (TV.node (some junk) TV.nil TV.nil)) (TV.node (some (Value.int IntKind.i64 (cwX c))) (TV.node (some junk) TV.nil TV.nil) (TV.node (some junk) TV.nil TV.nil))) (TV.node (some (Value.int IntKind.i64 (cwX c))) (TV.node (some (Value.int IntKind.i64 c)) (TV.node (some junk) TV.nil TV.nil) (TV.node (some junk) TV.nil TV.nil)) (TV.node (some (Value.tuple { toList := [] })) (TV.node (some junk) TV.nil TV.nil) (TV.node (some (Value.tuple { toList := [] })) TV.nil TV.nil))))) (HS.mk (Tr.node (some (VO.ro (rowA (gI) (xs)) 0)) Tr.nil Tr.nil) 41 2199023255551 2199023255550) [])
  | _ => (pmA_hd xs c).s
theorem pmA_p0 (xs : List Int) (c : Int) (y0 : Int) (y1 : Int) : bodyK Try.prog ([] : Vars).length tabM 3000 (pmA_hd xs c) (pmA_S xs c y0 y1 ) [(0, .b 1), (1, .b 1), (2, .b 1), (3, .vals ([Value.int IntKind.i64 (el xs y1)])), (4, .b 1), (8, .b 1)] 1 41 [23, 19, 27, 9, 25, 21, 29, 24, 20, 28, 18, 26, 22] 41 1 0 = some (.ret, pmA_E 0 xs c (y0) (y1) , [(!decide (el xs y1 ≤ c)) = true, (decide (el xs y1 ≥ (1 : Int))) = true, segC (rowA (gI) (xs)) (((y1).toNat) * 1 + 0) 1 = some ([Value.int IntKind.i64 (el xs y1)]), (decide (y1 < (↑xs.length : Int))) = true, (decide ((0 : Int) ≤ y1)) = true, (decide (y1 < (↑xs.length : Int))) = true]) := by kernel_rfl
theorem pmA_q0 (xs : List Int) (c : Int) (y0 : Int) (y1 : Int) : (pmA_E 0 xs c (y0) (y1) ).hs.next = 41 := by kernel_rfl
theorem pmA_p1 (xs : List Int) (c : Int) (y0 : Int) (y1 : Int) : bodyK Try.prog ([] : Vars).length tabM 3000 (pmA_hd xs c) (pmA_S xs c y0 y1 ) [(0, .b 1), (1, .b 1), (2, .b 1), (3, .vals ([Value.int IntKind.i64 (el xs y1)])), (4, .b 1), (8, .b 0), (9, .b 1)] 1 41 [23, 19, 27, 9, 25, 21, 29, 24, 20, 28, 18, 26, 22] 1 1 0 = some (.normal, (pmA_S xs c (IntKind.i64.wrap (↑(BitVec.ofInt (64 : Nat) y0 ||| BitVec.ofInt (64 : Nat) (pbV (el xs y1))).toNat : Int)) (IntKind.i64.wrap (y1 + (1 : Int)))), [(decide ((1 : Int) ≤ el xs y1 ∧ el xs y1 ≤ (9 : Int))) = true, (!decide (el xs y1 ≤ c)) = false, (decide (el xs y1 ≥ (1 : Int))) = true, segC (rowA (gI) (xs)) (((y1).toNat) * 1 + 0) 1 = some ([Value.int IntKind.i64 (el xs y1)]), (decide (y1 < (↑xs.length : Int))) = true, (decide ((0 : Int) ≤ y1)) = true, (decide (y1 < (↑xs.length : Int))) = true]) := by kernel_rfl
theorem pmA_p2 (xs : List Int) (c : Int) (y0 : Int) (y1 : Int) : bodyK Try.prog ([] : Vars).length tabM 3000 (pmA_hd xs c) (pmA_S xs c y0 y1 ) [(0, .b 1), (1, .b 1), (2, .b 1), (3, .vals ([Value.int IntKind.i64 (el xs y1)])), (4, .b 0)] 1 41 [23, 19, 27, 9, 25, 21, 29, 24, 20, 28, 18, 26, 22] 41 1 0 = some (.ret, pmA_E 0 xs c (y0) (y1) , [(decide (el xs y1 ≥ (1 : Int))) = false, segC (rowA (gI) (xs)) (((y1).toNat) * 1 + 0) 1 = some ([Value.int IntKind.i64 (el xs y1)]), (decide (y1 < (↑xs.length : Int))) = true, (decide ((0 : Int) ≤ y1)) = true, (decide (y1 < (↑xs.length : Int))) = true]) := by kernel_rfl
theorem pmA_q2 (xs : List Int) (c : Int) (y0 : Int) (y1 : Int) : (pmA_E 0 xs c (y0) (y1) ).hs.next = 41 := by kernel_rfl
theorem pmA_p3 (xs : List Int) (c : Int) (y0 : Int) (y1 : Int) : bodyK Try.prog ([] : Vars).length tabM 3000 (pmA_hd xs c) (pmA_S xs c y0 y1 ) [(0, .b 0)] 1 41 [23, 19, 27, 9, 25, 21, 29, 24, 20, 28, 18, 26, 22] 41 1 0 = some (.exit 0, pmA_E 1 xs c (y0) (y1) , [(decide (y1 < (↑xs.length : Int))) = false]) := by kernel_rfl
theorem pmA_q3 (xs : List Int) (c : Int) (y0 : Int) (y1 : Int) : (pmA_E 1 xs c (y0) (y1) ).hs.next = 41 := by kernel_rfl
theorem pmA_d0 (xs : List Int) (c : Int) (hv : cwX c = 0) (hc : 1 ≤ c ∧ c ≤ 8) (hx : xs.length ≤ 20) (y0 : Int) (y1 : Int) (hi : (decide (0 ≤ y0 ∧ y0 ≤ 255 ∧ 0 ≤ y1 ∧ y1 ≤ 20)) = true) (hq0 : (decide (y1 < (↑xs.length : Int))) = true) : (decide ((0 : Int) ≤ y1)) = true := by
  rcases Bool.eq_false_or_eq_true (decide ((0 : Int) ≤ y1)) with h | h
  · exact h
  · exfalso; (first | (simp_all only [Bool.and_eq_true, Bool.not_eq_true', Bool.false_eq_true, Bool.true_eq_false, reduceCtorEq]; done) | (simp only [sx, sy, eq_self, ne_eq, IntKind.wrap_i64, wrapU64, Int.reduceLT] at * <;> first | contradiction | omega) | omega | ((try simp only [sx, sy, eq_self, ne_eq, IntKind.wrap_i64, wrapU64, Int.reduceLT] at *) <;> omega) | (simp_all; done))
theorem pmA_d1 (xs : List Int) (c : Int) (hv : cwX c = 0) (hc : 1 ≤ c ∧ c ≤ 8) (hx : xs.length ≤ 20) (y0 : Int) (y1 : Int) (hi : (decide (0 ≤ y0 ∧ y0 ≤ 255 ∧ 0 ≤ y1 ∧ y1 ≤ 20)) = true) (hq0 : (decide (y1 < (↑xs.length : Int))) = true) (hq1 : (decide ((0 : Int) ≤ y1)) = true) (hq2 : (decide (el xs y1 ≥ (1 : Int))) = true) (hq3 : (!decide (el xs y1 ≤ c)) = false) : (decide ((1 : Int) ≤ el xs y1 ∧ el xs y1 ≤ (9 : Int))) = true := by
  rcases Bool.eq_false_or_eq_true (decide ((1 : Int) ≤ el xs y1 ∧ el xs y1 ≤ (9 : Int))) with h | h
  · exact h
  · exfalso; (first | (simp_all only [Bool.and_eq_true, Bool.not_eq_true', Bool.false_eq_true, Bool.true_eq_false, reduceCtorEq]; done) | (simp only [sx, sy, eq_self, ne_eq, IntKind.wrap_i64, wrapU64, Int.reduceLT] at * <;> first | contradiction | omega) | omega | ((try simp only [sx, sy, eq_self, ne_eq, IntKind.wrap_i64, wrapU64, Int.reduceLT] at *) <;> omega) | (simp_all; done))
noncomputable def pmA_f (xs : List Int) (c : Int) : Nat → Int → Int → Option (Nat × (Int × Int))
  | 0, _, _ => none
  | fu + 1, y0, y1 => (bif (decide (0 ≤ y0 ∧ y0 ≤ 255 ∧ 0 ≤ y1 ∧ y1 ≤ 20)) then (bif (decide (y1 < (↑xs.length : Int))) then (bif (decide (el xs y1 ≥ (1 : Int))) then (bif (!decide (el xs y1 ≤ c)) then some (0, ((y0), (y1))) else pmA_f xs c fu (IntKind.i64.wrap (↑(BitVec.ofInt (64 : Nat) y0 ||| BitVec.ofInt (64 : Nat) (pbV (el xs y1))).toNat : Int)) (IntKind.i64.wrap (y1 + (1 : Int)))) else some (0, ((y0), (y1)))) else some (1, ((y0), (y1)))) else none)
theorem pmA_fs (xs : List Int) (c : Int) (fu : Nat) (y0 : Int) (y1 : Int) : pmA_f xs c (fu + 1) y0 y1 = (bif (decide (0 ≤ y0 ∧ y0 ≤ 255 ∧ 0 ≤ y1 ∧ y1 ≤ 20)) then (bif (decide (y1 < (↑xs.length : Int))) then (bif (decide (el xs y1 ≥ (1 : Int))) then (bif (!decide (el xs y1 ≤ c)) then some (0, ((y0), (y1))) else pmA_f xs c fu (IntKind.i64.wrap (↑(BitVec.ofInt (64 : Nat) y0 ||| BitVec.ofInt (64 : Nat) (pbV (el xs y1))).toNat : Int)) (IntKind.i64.wrap (y1 + (1 : Int)))) else some (0, ((y0), (y1)))) else some (1, ((y0), (y1)))) else none) := rfl
theorem pmA_f0 (xs : List Int) (c : Int) (y0 : Int) (y1 : Int) : pmA_f xs c 0 y0 y1 = none := rfl
theorem pmA_loop (xs : List Int) (c : Int) (hv : cwX c = 0) (hc : 1 ≤ c ∧ c ≤ 8) (hx : xs.length ≤ 20) : ∀ (fu : Nat) (y0 : Int) (y1 : Int) (kk : Nat) (zz : Int × Int), pmA_f xs c fu y0 y1 = some (kk, zz) → VStep (pmA_hd xs c).s.hs (pmA_S xs c y0 y1 ).hs → RoundsC Try.prog [] 1 41 (pmA_hd xs c).s.hs (pmA_hd xs c).ro (pmA_hd xs c).a (pmA_S xs c y0 y1 ) (pmA_X kk) (pmA_E kk xs c zz.1 zz.2 ) ∧ ((pmA_E kk xs c zz.1 zz.2 )).hs.next = 41 := by
  intro fu
  induction fu with
  | zero =>
    intro y0 y1 kk zz hf hSz
    have hf := (pmA_f0 xs c y0 y1 ).symm.trans hf
    simp at hf
  | succ fu ih =>
    intro y0 y1 kk zz hf hSz
    have hf := (pmA_fs xs c fu y0 y1 ).symm.trans hf
    rcases bif_or hf with ⟨hi, hf⟩ | ⟨hi, hf⟩
    case inr => cases hf
    rcases bif_or hf with ⟨hq0, hf⟩ | ⟨hq0, hf⟩
    ·
      have hq1 := pmA_d0 xs c hv hc hx y0 y1 hi hq0 
      rcases bif_or hf with ⟨hq2, hf⟩ | ⟨hq2, hf⟩
      ·
        rcases bif_or hf with ⟨hq3, hf⟩ | ⟨hq3, hf⟩
        ·
          injection hf with hf; injection hf with e1 e2; subst e1; subst e2; have hb1 := pmA_p0 xs c y0 y1 ; have hb2 := body_canon hb1; have hb3 := hb2 ⟨hq3, hq2, (seg_row (g := (gI)) (k := 1) (fun _ => rfl) (by first | exact of_decide_eq_true hq1 | simpa using of_decide_eq_true hq1) (by first | exact of_decide_eq_true hq0 | (simpa using of_decide_eq_true hq0; done) | (have hx1 := of_decide_eq_true hq0; have hx2 := of_decide_eq_true hi; simp only [List.length_reverse, List.length_set] at *; omega)) (by decide) rfl), hq0, hq1, hq0, trivial⟩; obtain ⟨sz1, kz1, kz2, kz3⟩ := hb3; exact ⟨rounds_end mix (T := tabM) tabM_ok (pmA_n xs c hv hc hx ) (pmA_r xs c hv hc hx ) (pmA_w xs c hv hc hx ) kz1 (fun h => by cases h) hSz kz2 kz3, pmA_q0 xs c y0 y1 ⟩
        ·
          have hq4 := pmA_d1 xs c hv hc hx y0 y1 hi hq0 hq1 hq2 hq3 
          have hb1 := pmA_p1 xs c y0 y1 ; have hb2 := body_canon hb1; have hb3 := hb2 ⟨hq4, hq3, hq2, (seg_row (g := (gI)) (k := 1) (fun _ => rfl) (by first | exact of_decide_eq_true hq1 | simpa using of_decide_eq_true hq1) (by first | exact of_decide_eq_true hq0 | (simpa using of_decide_eq_true hq0; done) | (have hx1 := of_decide_eq_true hq0; have hx2 := of_decide_eq_true hi; simp only [List.length_reverse, List.length_set] at *; omega)) (by decide) rfl), hq0, hq1, hq0, trivial⟩; obtain ⟨sz1, kz1, kz2, kz3⟩ := hb3; obtain ⟨gz1, gz2⟩ := ih (IntKind.i64.wrap (↑(BitVec.ofInt (64 : Nat) y0 ||| BitVec.ofInt (64 : Nat) (pbV (el xs y1))).toNat : Int)) (IntKind.i64.wrap (y1 + (1 : Int))) kk zz hf (rounds_step mix (T := tabM) tabM_ok (pmA_n xs c hv hc hx ) (pmA_r xs c hv hc hx ) (pmA_w xs c hv hc hx ) kz1 hSz kz2 kz3); exact ⟨rounds_next mix (T := tabM) tabM_ok (pmA_n xs c hv hc hx ) (pmA_r xs c hv hc hx ) (pmA_w xs c hv hc hx ) kz1 hSz kz2 kz3 (fun _ => gz1), gz2⟩
      ·
        injection hf with hf; injection hf with e1 e2; subst e1; subst e2; have hb1 := pmA_p2 xs c y0 y1 ; have hb2 := body_canon hb1; have hb3 := hb2 ⟨hq2, (seg_row (g := (gI)) (k := 1) (fun _ => rfl) (by first | exact of_decide_eq_true hq1 | simpa using of_decide_eq_true hq1) (by first | exact of_decide_eq_true hq0 | (simpa using of_decide_eq_true hq0; done) | (have hx1 := of_decide_eq_true hq0; have hx2 := of_decide_eq_true hi; simp only [List.length_reverse, List.length_set] at *; omega)) (by decide) rfl), hq0, hq1, hq0, trivial⟩; obtain ⟨sz1, kz1, kz2, kz3⟩ := hb3; exact ⟨rounds_end mix (T := tabM) tabM_ok (pmA_n xs c hv hc hx ) (pmA_r xs c hv hc hx ) (pmA_w xs c hv hc hx ) kz1 (fun h => by cases h) hSz kz2 kz3, pmA_q2 xs c y0 y1 ⟩
    ·
      injection hf with hf; injection hf with e1 e2; subst e1; subst e2; have hb1 := pmA_p3 xs c y0 y1 ; have hb2 := body_canon hb1; have hb3 := hb2 ⟨hq0, trivial⟩; obtain ⟨sz1, kz1, kz2, kz3⟩ := hb3; exact ⟨rounds_end mix (T := tabM) tabM_ok (pmA_n xs c hv hc hx ) (pmA_r xs c hv hc hx ) (pmA_w xs c hv hc hx ) kz1 (fun h => by cases h) hSz kz2 kz3, pmA_q3 xs c y0 y1 ⟩
theorem pmA_ok (xs : List Int) (c : Int) (hv : cwX c = 0) (hc : 1 ≤ c ∧ c ≤ 8) (hx : xs.length ≤ 20) (fu kk : Nat) (zz : Int × Int) (hf : pmA_f xs c fu ((0 : Int)) ((0 : Int)) = some (kk, zz)) : ∀ B : Bd, B.L = [] → LoopOk Try.prog B (pmA_hd xs c).ro (pmA_hd xs c).a (pmA_hd xs c).s (pmA_X kk) (pmA_E kk xs c zz.1 zz.2 ) := by
  have hSz := begin_step (pmA_n xs c hv hc hx ) (pmA_r xs c hv hc hx ) (pmA_w xs c hv hc hx ) (pmA_e0 xs c hv hc hx ) (pmA_e1 xs c hv hc hx )
  obtain ⟨gz1, gz2⟩ := pmA_loop xs c hv hc hx fu ((0 : Int)) ((0 : Int)) kk zz hf hSz
  exact rounds_ok (pmA_n xs c hv hc hx ) (Nat.le_of_ble_eq_true (by kernel_rfl)) gz2 (rounds_begin (pmA_n xs c hv hc hx ) (pmA_r xs c hv hc hx ) (pmA_w xs c hv hc hx ) (pmA_e0 xs c hv hc hx ) (pmA_e1 xs c hv hc hx ) (fun _ => gz1))

theorem pm0_p0 (xs : List Int) (c : Int) (pmA_z0 : Int) (pmA_z1 : Int)  (hv : cwX c = 0) (hc : 1 ≤ c ∧ c ≤ 8) (hx : xs.length ≤ 20) (pmA_k1 : (cwX c != (0 : Int)) = false) (pmA_l : ∀ B : Bd, B.L = [] → LoopOk Try.prog B (pmA_hd xs c).ro (pmA_hd xs c).a (pmA_hd xs c).s (pmA_X 0) (pmA_E 0 xs c pmA_z0 pmA_z1 )) : KnownR Try.prog [] 18 [.list (rowA gI xs) xs.length, .val (.int .i64 c)] (.tuple #[(.int .i64 ((0 : Int))), (.int .i64 ((2 : Int)))]) [] :=
  knownR_eq (v := Value.tuple { toList := [Value.int IntKind.i64 (0 : Int), Value.int IntKind.i64 (2 : Int)] }) (bs := []) (open_resD mix (GOk.add tabM_ok pmA_l) (T := (GTab.add tabM 7 (pmA_hd xs c).ro (pmA_hd xs c).a (pmA_hd xs c).s (pmA_X 0) (pmA_E 0 xs c pmA_z0 pmA_z1 ) (by kernel_rfl))) (fuel := 3000) (es := []) (ans := [(1, .b 0), (2, .loop (pmA_X 0) (pmA_E 0 xs c pmA_z0 pmA_z1 )), ]) (log := [LoopRes Try.prog ([] : Vars).length (GTab.add tabM 7 (pmA_hd xs c).ro (pmA_hd xs c).a (pmA_hd xs c).s (pmA_X 0) (pmA_E 0 xs c pmA_z0 pmA_z1 ) (by kernel_rfl)) (pmA_hd xs c).ro (pmA_hd xs c).a (pmA_hd xs c).s (pmA_X 0) (pmA_E 0 xs c pmA_z0 pmA_z1 ), (cwX c != (0 : Int)) = false]) (by kernel_rfl) ⟨(loop_known2 add_eq), pmA_k1, trivial⟩ (by kernel_rfl)) (by first | rfl | (simp; done) | (simp_all; done)) (by first | rfl | (simp [rowA_nil]; done) | (simp only [rowA_eq]; rfl) | (simp_all [rowA_nil]; done))
set_option maxHeartbeats 8000000 in
theorem pm0 (xs : List Int) (c : Int) (pmA_z0 : Int) (pmA_z1 : Int)  (hv : cwX c = 0) (hc : 1 ≤ c ∧ c ≤ 8) (hx : xs.length ≤ 20) (pmA_k1 : (cwX c != (0 : Int)) = false) (pmA_l : ∀ B : Bd, B.L = [] → LoopOk Try.prog B (pmA_hd xs c).ro (pmA_hd xs c).a (pmA_hd xs c).s (pmA_X 0) (pmA_E 0 xs c pmA_z0 pmA_z1 )) : KnownR Try.prog [] 18 [.list (rowA gI xs) xs.length, .val (.int .i64 c)] (.tuple #[(.int .i64 ((0 : Int))), (.int .i64 ((2 : Int)))]) [] := by
  exact pm0_p0 xs c pmA_z0 pmA_z1 hv hc hx pmA_k1 pmA_l

noncomputable def pm1_c0 (xs : List Int) (c : Int) (pmA_z0 : Int) (pmA_z1 : Int)  : Int := (pmA_z0)
theorem pm1_p0 (xs : List Int) (c : Int) (pmA_z0 : Int) (pmA_z1 : Int)  (hv : cwX c = 0) (hc : 1 ≤ c ∧ c ≤ 8) (hx : xs.length ≤ 20) (pmA_k1 : (cwX c != (0 : Int)) = false) (pmA_l : ∀ B : Bd, B.L = [] → LoopOk Try.prog B (pmA_hd xs c).ro (pmA_hd xs c).a (pmA_hd xs c).s (pmA_X 1) (pmA_E 1 xs c pmA_z0 pmA_z1 )) : KnownR Try.prog [] 18 [.list (rowA gI xs) xs.length, .val (.int .i64 c)] (.tuple #[(.int .i64 (pmA_z0)), (.int .i64 ((0 : Int)))]) [] :=
  knownR_eq (v := Value.tuple { toList := [Value.int IntKind.i64 pmA_z0, Value.int IntKind.i64 (0 : Int)] }) (bs := []) (open_resD mix (GOk.add tabM_ok pmA_l) (T := (GTab.add tabM 7 (pmA_hd xs c).ro (pmA_hd xs c).a (pmA_hd xs c).s (pmA_X 1) (pmA_E 1 xs c pmA_z0 pmA_z1 ) (by kernel_rfl))) (fuel := 3000) (es := []) (ans := [(1, .b 0), (2, .loop (pmA_X 1) (pmA_E 1 xs c pmA_z0 pmA_z1 )), ]) (log := [LoopRes Try.prog ([] : Vars).length (GTab.add tabM 7 (pmA_hd xs c).ro (pmA_hd xs c).a (pmA_hd xs c).s (pmA_X 1) (pmA_E 1 xs c pmA_z0 pmA_z1 ) (by kernel_rfl)) (pmA_hd xs c).ro (pmA_hd xs c).a (pmA_hd xs c).s (pmA_X 1) (pmA_E 1 xs c pmA_z0 pmA_z1 ), (cwX c != (0 : Int)) = false]) (by kernel_rfl) ⟨(loop_known2 add_eq), pmA_k1, trivial⟩ (by kernel_rfl)) (by first | rfl | (simp; done) | (simp_all; done)) (by first | rfl | (simp [rowA_nil]; done) | (simp only [rowA_eq]; rfl) | (simp_all [rowA_nil]; done))
set_option maxHeartbeats 8000000 in
theorem pm1 (xs : List Int) (c : Int) (pmA_z0 : Int) (pmA_z1 : Int)  (hv : cwX c = 0) (hc : 1 ≤ c ∧ c ≤ 8) (hx : xs.length ≤ 20) (pmA_k1 : (cwX c != (0 : Int)) = false) (pmA_l : ∀ B : Bd, B.L = [] → LoopOk Try.prog B (pmA_hd xs c).ro (pmA_hd xs c).a (pmA_hd xs c).s (pmA_X 1) (pmA_E 1 xs c pmA_z0 pmA_z1 )) : KnownR Try.prog [] 18 [.list (rowA gI xs) xs.length, .val (.int .i64 c)] (.tuple #[(.int .i64 (pm1_c0 xs c pmA_z0 pmA_z1)), (.int .i64 ((0 : Int)))]) [] := by
  have e0 : pm1_c0 xs c pmA_z0 pmA_z1 = (pmA_z0) := rfl; rw [e0]; exact pm1_p0 xs c pmA_z0 pmA_z1 hv hc hx pmA_k1 pmA_l

noncomputable def pmE_c1 (xs : List Int) (c : Int) : Int := (cwX c)
theorem pmE_p0 (xs : List Int) (c : Int) (hv : ¬ cwX c = 0) (hq0 : (cwX c != (0 : Int)) = true) : KnownR Try.prog [] 18 [.list (rowA gI xs) xs.length, .val (.int .i64 c)] (.tuple #[(.int .i64 ((0 : Int))), (.int .i64 (cwX c))]) [] :=
  knownR_eq (v := Value.tuple { toList := [Value.int IntKind.i64 (0 : Int), Value.int IntKind.i64 (cwX c)] }) (bs := []) (open_resD mix tabM_ok (T := tabM) (fuel := 3000) (es := []) (ans := [(1, .b 1)]) (log := [(cwX c != (0 : Int)) = true]) (by kernel_rfl) ⟨hq0, trivial⟩ (by kernel_rfl)) (by first | rfl | (simp; done) | (simp_all; done)) (by first | rfl | (simp [rowA_nil]; done) | (simp only [rowA_eq]; rfl) | (simp_all [rowA_nil]; done))
set_option maxHeartbeats 8000000 in
theorem pmE (xs : List Int) (c : Int) (hv : ¬ cwX c = 0) : KnownR Try.prog [] 18 [.list (rowA gI xs) xs.length, .val (.int .i64 c)] (.tuple #[(.int .i64 ((0 : Int))), (.int .i64 (pmE_c1 xs c))]) [] := by
  have hq0 : (cwX c != (0 : Int)) = true := by
    rcases Bool.eq_false_or_eq_true (cwX c != (0 : Int)) with h | h
    · exact h
    · exfalso; (first | (simp_all only [Bool.and_eq_true, Bool.not_eq_true', Bool.false_eq_true, Bool.true_eq_false, reduceCtorEq]; done) | (simp only [sx, sy, eq_self, ne_eq, IntKind.wrap_i64, wrapU64, Int.reduceLT] at * <;> first | contradiction | omega) | omega | ((try simp only [sx, sy, eq_self, ne_eq, IntKind.wrap_i64, wrapU64, Int.reduceLT] at *) <;> omega) | (simp_all; done))
  have e1 : pmE_c1 xs c = (cwX c) := rfl; rw [e1]; exact pmE_p0 xs c hv hq0

end Go.Proofs.Ytfpabkpmcmfbhaa
