import Derived.Test.YtbhmgchkgbenmaaOgD
set_option linter.unnecessarySimpa false
set_option linter.unusedSimpArgs false
set_option linter.unusedVariables false
namespace Go.Proofs.Ytbhmgchkgbenmaa
open Go Go.RowKit IntKind FloatKind
noncomputable def pChk_c0 (p s : Int) (m b : Bool) (d : Int) : Int := (bif (decide (s < (0 : Int))) then ((2 : Int)) else (bif (decide (s > (1000 : Int))) then ((2 : Int)) else (bif (decide (d < (0 : Int))) then ((2 : Int)) else (bif (decide (d > (20 : Int))) then ((2 : Int)) else ((0 : Int))))))
theorem pChk_p0 (p s : Int) (m b : Bool) (d : Int)  (hq0 : (decide (s < (0 : Int))) = true) : Known Try.prog [] 21 [.agg #[.int .i64 p, .int .i64 s, .bool m, .bool b, .int .i64 d]] (.int .i64 ((2 : Int))) :=
 open_res mix GOk.none (T := GTab.none) (fuel := 3000) (ans := [(0, .b 1)]) (log := [(decide (s < (0 : Int))) = true]) (by kernel_rfl) ⟨hq0, trivial⟩ (by kernel_rfl)
theorem pChk_p1 (p s : Int) (m b : Bool) (d : Int)  (hq0 : (decide (s < (0 : Int))) = false) (hq1 : (decide (s > (1000 : Int))) = true) : Known Try.prog [] 21 [.agg #[.int .i64 p, .int .i64 s, .bool m, .bool b, .int .i64 d]] (.int .i64 ((2 : Int))) :=
 open_res mix GOk.none (T := GTab.none) (fuel := 3000) (ans := [(0, .b 0), (4, .b 1)]) (log := [(decide (s > (1000 : Int))) = true, (decide (s < (0 : Int))) = false]) (by kernel_rfl) ⟨hq1, hq0, trivial⟩ (by kernel_rfl)
theorem pChk_p2 (p s : Int) (m b : Bool) (d : Int)  (hq0 : (decide (s < (0 : Int))) = false) (hq1 : (decide (s > (1000 : Int))) = false) (hq2 : (decide (d < (0 : Int))) = true) : Known Try.prog [] 21 [.agg #[.int .i64 p, .int .i64 s, .bool m, .bool b, .int .i64 d]] (.int .i64 ((2 : Int))) :=
 open_res mix GOk.none (T := GTab.none) (fuel := 3000) (ans := [(0, .b 0), (4, .b 0), (8, .b 1)]) (log := [(decide (d < (0 : Int))) = true, (decide (s > (1000 : Int))) = false, (decide (s < (0 : Int))) = false]) (by kernel_rfl) ⟨hq2, hq1, hq0, trivial⟩ (by kernel_rfl)
theorem pChk_p3 (p s : Int) (m b : Bool) (d : Int)  (hq0 : (decide (s < (0 : Int))) = false) (hq1 : (decide (s > (1000 : Int))) = false) (hq2 : (decide (d < (0 : Int))) = false) (hq3 : (decide (d > (20 : Int))) = true) : Known Try.prog [] 21 [.agg #[.int .i64 p, .int .i64 s, .bool m, .bool b, .int .i64 d]] (.int .i64 ((2 : Int))) :=
 open_res mix GOk.none (T := GTab.none) (fuel := 3000) (ans := [(0, .b 0), (4, .b 0), (8, .b 0), (12, .b 1)]) (log := [(decide (d > (20 : Int))) = true, (decide (d < (0 : Int))) = false, (decide (s > (1000 : Int))) = false, (decide (s < (0 : Int))) = false]) (by kernel_rfl) ⟨hq3, hq2, hq1, hq0, trivial⟩ (by kernel_rfl)
theorem pChk_p4 (p s : Int) (m b : Bool) (d : Int)  (hq0 : (decide (s < (0 : Int))) = false) (hq1 : (decide (s > (1000 : Int))) = false) (hq2 : (decide (d < (0 : Int))) = false) (hq3 : (decide (d > (20 : Int))) = false) : Known Try.prog [] 21 [.agg #[.int .i64 p, .int .i64 s, .bool m, .bool b, .int .i64 d]] (.int .i64 ((0 : Int))) :=
 open_res mix GOk.none (T := GTab.none) (fuel := 3000) (ans := [(0, .b 0), (4, .b 0), (8, .b 0), (12, .b 0)]) (log := [(decide (d > (20 : Int))) = false, (decide (d < (0 : Int))) = false, (decide (s > (1000 : Int))) = false, (decide (s < (0 : Int))) = false]) (by kernel_rfl) ⟨hq3, hq2, hq1, hq0, trivial⟩ (by kernel_rfl)
set_option maxHeartbeats 8000000 in
theorem pChk (p s : Int) (m b : Bool) (d : Int)  : Known Try.prog [] 21 [.agg #[.int .i64 p, .int .i64 s, .bool m, .bool b, .int .i64 d]] (.int .i64 (pChk_c0 p s m b d)) := by
 rcases Bool.eq_false_or_eq_true (decide (s < (0 : Int))) with hq0 | hq0
 ·
  have e0 : pChk_c0 p s m b d = ((2 : Int)) := ((bif_t hq0 _ _).trans rfl); rw [e0]; exact pChk_p0 p s m b d hq0
 ·
  rcases Bool.eq_false_or_eq_true (decide (s > (1000 : Int))) with hq1 | hq1
  ·
   have e0 : pChk_c0 p s m b d = ((2 : Int)) := ((bif_f hq0 _ _).trans ((bif_t hq1 _ _).trans rfl)); rw [e0]; exact pChk_p1 p s m b d hq0 hq1
  ·
   rcases Bool.eq_false_or_eq_true (decide (d < (0 : Int))) with hq2 | hq2
   ·
    have e0 : pChk_c0 p s m b d = ((2 : Int)) := ((bif_f hq0 _ _).trans ((bif_f hq1 _ _).trans ((bif_t hq2 _ _).trans rfl))); rw [e0]; exact pChk_p2 p s m b d hq0 hq1 hq2
   ·
    rcases Bool.eq_false_or_eq_true (decide (d > (20 : Int))) with hq3 | hq3
    ·
     have e0 : pChk_c0 p s m b d = ((2 : Int)) := ((bif_f hq0 _ _).trans ((bif_f hq1 _ _).trans ((bif_f hq2 _ _).trans ((bif_t hq3 _ _).trans rfl)))); rw [e0]; exact pChk_p3 p s m b d hq0 hq1 hq2 hq3
    ·
     have e0 : pChk_c0 p s m b d = ((0 : Int)) := ((bif_f hq0 _ _).trans ((bif_f hq1 _ _).trans ((bif_f hq2 _ _).trans ((bif_f hq3 _ _).trans rfl)))); rw [e0]; exact pChk_p4 p s m b d hq0 hq1 hq2 hq3
noncomputable def pChk_k : List Value → Option Value
 | [.agg ⟨[.int .i64 p, .int .i64 s, .bool m, .bool b, .int .i64 d]⟩] => some (.int .i64 (pChk_c0 p s m b d))
 | _ => none
theorem pChk_ok : ∀ args v, pChk_k args = some v → Known Try.prog [] 21 args v := by
 intro args v h
 unfold pChk_k at h
 split at h
 ·injection h with h; subst h; exact pChk _ _ _ _ _
 ·cases h
noncomputable def rChk_c0 (p s : Int) (m b : Bool) (d : Int) : Int := (bif (decide (s < (0 : Int))) then ((2 : Int)) else (bif (decide (s > (1000 : Int))) then ((2 : Int)) else (bif (decide (d < (0 : Int))) then ((2 : Int)) else (bif (decide (d > (20 : Int))) then ((2 : Int)) else ((0 : Int))))))
theorem rChk_p0 (p s : Int) (m b : Bool) (d : Int)  (hq0 : (decide (s < (0 : Int))) = true) : Known Try.prog [] 22 [.agg #[.int .i64 p, .int .i64 s, .bool m, .bool b, .int .i64 d]] (.int .i64 ((2 : Int))) :=
 open_res mix GOk.none (T := GTab.none) (fuel := 3000) (ans := [(0, .b 1)]) (log := [(decide (s < (0 : Int))) = true]) (by kernel_rfl) ⟨hq0, trivial⟩ (by kernel_rfl)
theorem rChk_p1 (p s : Int) (m b : Bool) (d : Int)  (hq0 : (decide (s < (0 : Int))) = false) (hq1 : (decide (s > (1000 : Int))) = true) : Known Try.prog [] 22 [.agg #[.int .i64 p, .int .i64 s, .bool m, .bool b, .int .i64 d]] (.int .i64 ((2 : Int))) :=
 open_res mix GOk.none (T := GTab.none) (fuel := 3000) (ans := [(0, .b 0), (4, .b 1)]) (log := [(decide (s > (1000 : Int))) = true, (decide (s < (0 : Int))) = false]) (by kernel_rfl) ⟨hq1, hq0, trivial⟩ (by kernel_rfl)
theorem rChk_p2 (p s : Int) (m b : Bool) (d : Int)  (hq0 : (decide (s < (0 : Int))) = false) (hq1 : (decide (s > (1000 : Int))) = false) (hq2 : (decide (d < (0 : Int))) = true) : Known Try.prog [] 22 [.agg #[.int .i64 p, .int .i64 s, .bool m, .bool b, .int .i64 d]] (.int .i64 ((2 : Int))) :=
 open_res mix GOk.none (T := GTab.none) (fuel := 3000) (ans := [(0, .b 0), (4, .b 0), (8, .b 1)]) (log := [(decide (d < (0 : Int))) = true, (decide (s > (1000 : Int))) = false, (decide (s < (0 : Int))) = false]) (by kernel_rfl) ⟨hq2, hq1, hq0, trivial⟩ (by kernel_rfl)
theorem rChk_p3 (p s : Int) (m b : Bool) (d : Int)  (hq0 : (decide (s < (0 : Int))) = false) (hq1 : (decide (s > (1000 : Int))) = false) (hq2 : (decide (d < (0 : Int))) = false) (hq3 : (decide (d > (20 : Int))) = true) : Known Try.prog [] 22 [.agg #[.int .i64 p, .int .i64 s, .bool m, .bool b, .int .i64 d]] (.int .i64 ((2 : Int))) :=
 open_res mix GOk.none (T := GTab.none) (fuel := 3000) (ans := [(0, .b 0), (4, .b 0), (8, .b 0), (12, .b 1)]) (log := [(decide (d > (20 : Int))) = true, (decide (d < (0 : Int))) = false, (decide (s > (1000 : Int))) = false, (decide (s < (0 : Int))) = false]) (by kernel_rfl) ⟨hq3, hq2, hq1, hq0, trivial⟩ (by kernel_rfl)
theorem rChk_p4 (p s : Int) (m b : Bool) (d : Int)  (hq0 : (decide (s < (0 : Int))) = false) (hq1 : (decide (s > (1000 : Int))) = false) (hq2 : (decide (d < (0 : Int))) = false) (hq3 : (decide (d > (20 : Int))) = false) : Known Try.prog [] 22 [.agg #[.int .i64 p, .int .i64 s, .bool m, .bool b, .int .i64 d]] (.int .i64 ((0 : Int))) :=
 open_res mix GOk.none (T := GTab.none) (fuel := 3000) (ans := [(0, .b 0), (4, .b 0), (8, .b 0), (12, .b 0)]) (log := [(decide (d > (20 : Int))) = false, (decide (d < (0 : Int))) = false, (decide (s > (1000 : Int))) = false, (decide (s < (0 : Int))) = false]) (by kernel_rfl) ⟨hq3, hq2, hq1, hq0, trivial⟩ (by kernel_rfl)
set_option maxHeartbeats 8000000 in
theorem rChk (p s : Int) (m b : Bool) (d : Int)  : Known Try.prog [] 22 [.agg #[.int .i64 p, .int .i64 s, .bool m, .bool b, .int .i64 d]] (.int .i64 (rChk_c0 p s m b d)) := by
 rcases Bool.eq_false_or_eq_true (decide (s < (0 : Int))) with hq0 | hq0
 ·
  have e0 : rChk_c0 p s m b d = ((2 : Int)) := ((bif_t hq0 _ _).trans rfl); rw [e0]; exact rChk_p0 p s m b d hq0
 ·
  rcases Bool.eq_false_or_eq_true (decide (s > (1000 : Int))) with hq1 | hq1
  ·
   have e0 : rChk_c0 p s m b d = ((2 : Int)) := ((bif_f hq0 _ _).trans ((bif_t hq1 _ _).trans rfl)); rw [e0]; exact rChk_p1 p s m b d hq0 hq1
  ·
   rcases Bool.eq_false_or_eq_true (decide (d < (0 : Int))) with hq2 | hq2
   ·
    have e0 : rChk_c0 p s m b d = ((2 : Int)) := ((bif_f hq0 _ _).trans ((bif_f hq1 _ _).trans ((bif_t hq2 _ _).trans rfl))); rw [e0]; exact rChk_p2 p s m b d hq0 hq1 hq2
   ·
    rcases Bool.eq_false_or_eq_true (decide (d > (20 : Int))) with hq3 | hq3
    ·
     have e0 : rChk_c0 p s m b d = ((2 : Int)) := ((bif_f hq0 _ _).trans ((bif_f hq1 _ _).trans ((bif_f hq2 _ _).trans ((bif_t hq3 _ _).trans rfl)))); rw [e0]; exact rChk_p3 p s m b d hq0 hq1 hq2 hq3
    ·
     have e0 : rChk_c0 p s m b d = ((0 : Int)) := ((bif_f hq0 _ _).trans ((bif_f hq1 _ _).trans ((bif_f hq2 _ _).trans ((bif_f hq3 _ _).trans rfl)))); rw [e0]; exact rChk_p4 p s m b d hq0 hq1 hq2 hq3
noncomputable def rChk_k : List Value → Option Value
 | [.agg ⟨[.int .i64 p, .int .i64 s, .bool m, .bool b, .int .i64 d]⟩] => some (.int .i64 (rChk_c0 p s m b d))
 | _ => none
theorem rChk_ok : ∀ args v, rChk_k args = some v → Known Try.prog [] 22 args v := by
 intro args v h
 unfold rChk_k at h
 split at h
 ·injection h with h; subst h; exact rChk _ _ _ _ _
 ·cases h
noncomputable def tabK : GTab := (GTab.fn1 21 pChk_k (GTab.fn1 22 rChk_k GTab.none))
theorem tabK_ok : GOk Try.prog [] tabK := (GOk.fn1 pChk_ok (GOk.fn1 rChk_ok GOk.none))
noncomputable def caA_hd (xs : List Mv) : Hd := headD Try.prog [] tabK 3000 43 [.list (rowA gM xs) xs.length] [(0, .b 0), (1, .stop)]
noncomputable def caA_S (xs : List Mv) (y0 : Int) : St := ((entryK 1 41 [15, 5, 17, 13, 4, 16, 12, 20, 18, 14] 1 0 (caA_hd xs).s).updF [(11, .int .i64 y0)] [])
theorem caA_n (xs : List Mv) (hx : xs.length ≤ 10000) : 1 = (caA_hd xs).s.hs.next := by kernel_rfl
theorem caA_r (xs : List Mv) (hx : xs.length ≤ 10000) : (caA_hd xs).s.hs.rd < bitOf 1 := blt_iff.1 (by kernel_rfl)
theorem caA_w (xs : List Mv) (hx : xs.length ≤ 10000) : (caA_hd xs).s.hs.wr < bitOf 1 := blt_iff.1 (by kernel_rfl)
theorem caA_e0 (xs : List Mv) (hx : xs.length ≤ 10000) : canonS 1 41 [] [15, 5, 17, 13, 4, 16, 12, 20, 18, 14] 1 1 0 (caA_hd xs).s = some (caA_S xs ((0 : Int))) := by kernel_rfl
theorem caA_e1 (xs : List Mv) (hx : xs.length ≤ 10000) : canonOk 1 41 [] 1 (caA_hd xs).s = true := by kernel_rfl
theorem caA_p0 (xs : List Mv) (hx : xs.length ≤ 10000) (y0 : Int) (hi : (decide (0 ≤ y0 ∧ y0 ≤ 20000)) = true) (hq0 : (decide (y0 < (↑xs.length : Int))) = true) (hq1 : (decide ((0 : Int) ≤ y0)) = true) (hq2 : (pChk_c0 (el xs y0).fst (el xs y0).snd.fst (el xs y0).snd.snd.fst (el xs y0).snd.snd.snd.fst (el xs y0).snd.snd.snd.snd != (0 : Int)) = true) : bodyK Try.prog ([] : Vars).length tabK 3000 (caA_hd xs) (caA_S xs y0 ) [(0, .b 1), (1, .b 1), (2, .b 1), (3, .vals ([Value.int i64 (el xs y0).fst, Value.int i64 (el xs y0).snd.fst, Value.bool (el xs y0).snd.snd.fst, Value.bool (el xs y0).snd.snd.snd.fst, Value.int i64 (el xs y0).snd.snd.snd.snd])), (5, .b 1)] 1 41 [15, 5, 17, 13, 4, 16, 12, 20, 18, 14] 41 1 0 = some (.ret, bodySt (bodyK Try.prog ([] : Vars).length tabK 3000 (caA_hd xs) (caA_S xs y0 ) [(0, .b 1), (1, .b 1), (2, .b 1), (3, .vals ([Value.int i64 (el xs y0).fst, Value.int i64 (el xs y0).snd.fst, Value.bool (el xs y0).snd.snd.fst, Value.bool (el xs y0).snd.snd.snd.fst, Value.int i64 (el xs y0).snd.snd.snd.snd])), (5, .b 1)] 1 41 [15, 5, 17, 13, 4, 16, 12, 20, 18, 14] 41 1 0), [(pChk_c0 (el xs y0).fst (el xs y0).snd.fst (el xs y0).snd.snd.fst (el xs y0).snd.snd.snd.fst (el xs y0).snd.snd.snd.snd != (0 : Int)) = true, segC (rowA (gM) (xs)) (((y0).toNat) * 5 + 0) 5 = some ([Value.int i64 (el xs y0).fst, Value.int i64 (el xs y0).snd.fst, Value.bool (el xs y0).snd.snd.fst, Value.bool (el xs y0).snd.snd.snd.fst, Value.int i64 (el xs y0).snd.snd.snd.snd]), (decide (y0 < (↑xs.length : Int))) = true, (decide ((0 : Int) ≤ y0)) = true, (decide (y0 < (↑xs.length : Int))) = true]) := by kernel_rfl
theorem caA_q0 (xs : List Mv) (hx : xs.length ≤ 10000) (y0 : Int) (hi : (decide (0 ≤ y0 ∧ y0 ≤ 20000)) = true) (hq0 : (decide (y0 < (↑xs.length : Int))) = true) (hq1 : (decide ((0 : Int) ≤ y0)) = true) (hq2 : (pChk_c0 (el xs y0).fst (el xs y0).snd.fst (el xs y0).snd.snd.fst (el xs y0).snd.snd.snd.fst (el xs y0).snd.snd.snd.snd != (0 : Int)) = true) : (bodySt (bodyK Try.prog ([] : Vars).length tabK 3000 (caA_hd xs) (caA_S xs y0 ) [(0, .b 1), (1, .b 1), (2, .b 1), (3, .vals ([Value.int i64 (el xs y0).fst, Value.int i64 (el xs y0).snd.fst, Value.bool (el xs y0).snd.snd.fst, Value.bool (el xs y0).snd.snd.snd.fst, Value.int i64 (el xs y0).snd.snd.snd.snd])), (5, .b 1)] 1 41 [15, 5, 17, 13, 4, 16, 12, 20, 18, 14] 41 1 0)).hs.next = 41 := by kernel_rfl
theorem caA_p1 (xs : List Mv) (hx : xs.length ≤ 10000) (y0 : Int) (hi : (decide (0 ≤ y0 ∧ y0 ≤ 20000)) = true) (hq0 : (decide (y0 < (↑xs.length : Int))) = true) (hq1 : (decide ((0 : Int) ≤ y0)) = true) (hq2 : (pChk_c0 (el xs y0).fst (el xs y0).snd.fst (el xs y0).snd.snd.fst (el xs y0).snd.snd.snd.fst (el xs y0).snd.snd.snd.snd != (0 : Int)) = false) : bodyK Try.prog ([] : Vars).length tabK 3000 (caA_hd xs) (caA_S xs y0 ) [(0, .b 1), (1, .b 1), (2, .b 1), (3, .vals ([Value.int i64 (el xs y0).fst, Value.int i64 (el xs y0).snd.fst, Value.bool (el xs y0).snd.snd.fst, Value.bool (el xs y0).snd.snd.snd.fst, Value.int i64 (el xs y0).snd.snd.snd.snd])), (5, .b 0)] 1 41 [15, 5, 17, 13, 4, 16, 12, 20, 18, 14] 1 1 0 = some (.normal, (caA_S xs (i64.wrap (y0 + (1 : Int)))), [(pChk_c0 (el xs y0).fst (el xs y0).snd.fst (el xs y0).snd.snd.fst (el xs y0).snd.snd.snd.fst (el xs y0).snd.snd.snd.snd != (0 : Int)) = false, segC (rowA (gM) (xs)) (((y0).toNat) * 5 + 0) 5 = some ([Value.int i64 (el xs y0).fst, Value.int i64 (el xs y0).snd.fst, Value.bool (el xs y0).snd.snd.fst, Value.bool (el xs y0).snd.snd.snd.fst, Value.int i64 (el xs y0).snd.snd.snd.snd]), (decide (y0 < (↑xs.length : Int))) = true, (decide ((0 : Int) ≤ y0)) = true, (decide (y0 < (↑xs.length : Int))) = true]) := by kernel_rfl
theorem caA_p2 (xs : List Mv) (hx : xs.length ≤ 10000) (y0 : Int) (hi : (decide (0 ≤ y0 ∧ y0 ≤ 20000)) = true) (hq0 : (decide (y0 < (↑xs.length : Int))) = false) : bodyK Try.prog ([] : Vars).length tabK 3000 (caA_hd xs) (caA_S xs y0 ) [(0, .b 0)] 1 41 [15, 5, 17, 13, 4, 16, 12, 20, 18, 14] 41 1 0 = some (.exit 0, bodySt (bodyK Try.prog ([] : Vars).length tabK 3000 (caA_hd xs) (caA_S xs y0 ) [(0, .b 0)] 1 41 [15, 5, 17, 13, 4, 16, 12, 20, 18, 14] 41 1 0), [(decide (y0 < (↑xs.length : Int))) = false]) := by kernel_rfl
theorem caA_q2 (xs : List Mv) (hx : xs.length ≤ 10000) (y0 : Int) (hi : (decide (0 ≤ y0 ∧ y0 ≤ 20000)) = true) (hq0 : (decide (y0 < (↑xs.length : Int))) = false) : (bodySt (bodyK Try.prog ([] : Vars).length tabK 3000 (caA_hd xs) (caA_S xs y0 ) [(0, .b 0)] 1 41 [15, 5, 17, 13, 4, 16, 12, 20, 18, 14] 41 1 0)).hs.next = 41 := by kernel_rfl
theorem caA_d0 (xs : List Mv) (hx : xs.length ≤ 10000) (y0 : Int) (hi : (decide (0 ≤ y0 ∧ y0 ≤ 20000)) = true) (hq0 : (decide (y0 < (↑xs.length : Int))) = true) : (decide ((0 : Int) ≤ y0)) = true := by
 rcases Bool.eq_false_or_eq_true (decide ((0 : Int) ≤ y0)) with h | h
 ·exact h
 ·exfalso; (first | (simp_all only [Bool.and_eq_true, Bool.not_eq_true', Bool.false_eq_true, Bool.true_eq_false, reduceCtorEq]; done) | (simp_all; done) | (simp only [sx, sy, eq_self, ne_eq, IntKind.wrap_i64, wrapU64, Int.reduceLT] at * <;> first | contradiction | omega))
def caA_X : Nat → VX
 | 0 => .ret
 | 1 => .exit 0
 | _ => .normal
noncomputable def caA_E (kE : Nat) (xs : List Mv) (y0 : Int) : St := match kE with
 | 0 => bodySt (bodyK Try.prog ([] : Vars).length tabK 3000 (caA_hd xs) (caA_S xs y0 ) [(0, .b 1), (1, .b 1), (2, .b 1), (3, .vals ([Value.int i64 (el xs y0).fst, Value.int i64 (el xs y0).snd.fst, Value.bool (el xs y0).snd.snd.fst, Value.bool (el xs y0).snd.snd.snd.fst, Value.int i64 (el xs y0).snd.snd.snd.snd])), (5, .b 1)] 1 41 [15, 5, 17, 13, 4, 16, 12, 20, 18, 14] 41 1 0)
 | 1 => bodySt (bodyK Try.prog ([] : Vars).length tabK 3000 (caA_hd xs) (caA_S xs y0 ) [(0, .b 0)] 1 41 [15, 5, 17, 13, 4, 16, 12, 20, 18, 14] 41 1 0)
 | _ => (caA_hd xs).s
noncomputable def caA_f (xs : List Mv) : Nat → Int → Option (Nat × (Int))
 | 0, _ => none
 | fu + 1, y0 => (bif (decide (0 ≤ y0 ∧ y0 ≤ 20000)) then (bif (decide (y0 < (↑xs.length : Int))) then (bif (pChk_c0 (el xs y0).fst (el xs y0).snd.fst (el xs y0).snd.snd.fst (el xs y0).snd.snd.snd.fst (el xs y0).snd.snd.snd.snd != (0 : Int)) then some (0, y0) else caA_f xs fu (i64.wrap (y0 + (1 : Int)))) else some (1, y0)) else none)
theorem caA_fs (xs : List Mv) (fu : Nat) (y0 : Int) : caA_f xs (fu + 1) y0 = (bif (decide (0 ≤ y0 ∧ y0 ≤ 20000)) then (bif (decide (y0 < (↑xs.length : Int))) then (bif (pChk_c0 (el xs y0).fst (el xs y0).snd.fst (el xs y0).snd.snd.fst (el xs y0).snd.snd.snd.fst (el xs y0).snd.snd.snd.snd != (0 : Int)) then some (0, y0) else caA_f xs fu (i64.wrap (y0 + (1 : Int)))) else some (1, y0)) else none) := rfl
theorem caA_f0 (xs : List Mv) (y0 : Int) : caA_f xs 0 y0 = none := rfl
theorem caA_loop (xs : List Mv) (hx : xs.length ≤ 10000) : ∀ (fu : Nat) (y0 : Int) (kk : Nat) (zz : Int), caA_f xs fu y0 = some (kk, zz) → VStep (caA_hd xs).s.hs (caA_S xs y0 ).hs → RoundsC Try.prog [] 1 41 (caA_hd xs).s.hs (caA_hd xs).ro (caA_hd xs).a (caA_S xs y0 ) (caA_X kk) (caA_E kk xs zz ) ∧ ((caA_E kk xs zz )).hs.next = 41 := by
 intro fu
 induction fu with
 | zero =>
  intro y0 kk zz hf hSz
  have hf := (caA_f0 xs y0 ).symm.trans hf
  simp at hf
 | succ fu ih =>
  intro y0 kk zz hf hSz
  have hf := (caA_fs xs fu y0 ).symm.trans hf
  rcases bif_or hf with ⟨hi, hf⟩ | ⟨hi, hf⟩
  case inr => cases hf
  rcases bif_or hf with ⟨hq0, hf⟩ | ⟨hq0, hf⟩
  ·
   have hq1 := caA_d0 xs hx  y0 hi hq0 
   rcases bif_or hf with ⟨hq2, hf⟩ | ⟨hq2, hf⟩
   ·
    injection hf with hf; injection hf with e1 e2; subst e1; subst e2; obtain ⟨sz1, kz1, kz2, kz3⟩ := body_canon (caA_p0 xs hx  y0 hi  hq0 hq1 hq2) ⟨hq2, (seg_row (g := (gM)) (k := 5) (fun _ => rfl) (of_decide_eq_true hq1) (of_decide_eq_true hq0) (by decide) rfl), hq0, hq1, hq0, trivial⟩; exact ⟨rounds_end mix tabK_ok (caA_n xs hx  ) (caA_r xs hx  ) (caA_w xs hx  ) kz1 (fun h => by cases h) hSz kz2 kz3, caA_q0 xs hx  y0 hi  hq0 hq1 hq2⟩
   ·
    obtain ⟨sz1, kz1, kz2, kz3⟩ := body_canon (caA_p1 xs hx  y0 hi  hq0 hq1 hq2) ⟨hq2, (seg_row (g := (gM)) (k := 5) (fun _ => rfl) (of_decide_eq_true hq1) (of_decide_eq_true hq0) (by decide) rfl), hq0, hq1, hq0, trivial⟩; obtain ⟨gz1, gz2⟩ := ih (i64.wrap (y0 + (1 : Int))) kk zz hf (rounds_step mix tabK_ok (caA_n xs hx  ) (caA_r xs hx  ) (caA_w xs hx  ) kz1 hSz kz2 kz3); exact ⟨rounds_next mix tabK_ok (caA_n xs hx  ) (caA_r xs hx  ) (caA_w xs hx  ) kz1 hSz kz2 kz3 (fun _ => gz1), gz2⟩
  ·
   injection hf with hf; injection hf with e1 e2; subst e1; subst e2; obtain ⟨sz1, kz1, kz2, kz3⟩ := body_canon (caA_p2 xs hx  y0 hi  hq0) ⟨hq0, trivial⟩; exact ⟨rounds_end mix tabK_ok (caA_n xs hx  ) (caA_r xs hx  ) (caA_w xs hx  ) kz1 (fun h => by cases h) hSz kz2 kz3, caA_q2 xs hx  y0 hi  hq0⟩
theorem caA_ok (xs : List Mv) (hx : xs.length ≤ 10000) (fu kk : Nat) (zz : Int) (hf : caA_f xs fu ((0 : Int)) = some (kk, zz)) : ∀ B : Bd, B.L = [] → LoopOk Try.prog B (caA_hd xs).ro (caA_hd xs).a (caA_hd xs).s (caA_X kk) (caA_E kk xs zz ) := by
 have hSz := begin_step (caA_n xs hx  ) (caA_r xs hx  ) (caA_w xs hx  ) (caA_e0 xs hx  ) (caA_e1 xs hx  )
 obtain ⟨gz1, gz2⟩ := caA_loop xs hx  fu ((0 : Int)) kk zz hf hSz
 exact rounds_ok (caA_n xs hx  ) (Nat.le_of_ble_eq_true (by kernel_rfl)) gz2 (rounds_begin (caA_n xs hx  ) (caA_r xs hx  ) (caA_w xs hx  ) (caA_e0 xs hx  ) (caA_e1 xs hx  ) (fun _ => gz1))
noncomputable def raA_hd (xs : List Mv) (h s : Int) : Hd := headD Try.prog [] tabK 3000 35 [.list (rowA gM xs) xs.length, .val (.int .i64 h), .val (.int .i64 s)] [(0, .b 0), (1, .stop)]
noncomputable def raA_S (xs : List Mv) (h s : Int) (y0 : Int) : St := ((entryK 1 41 [15, 23, 19, 17, 13, 21, 8, 16, 24, 12, 20, 18, 14, 22] 1 0 (raA_hd xs h s).s).updF [(7, .int .i64 y0)] [])
theorem raA_n (xs : List Mv) (h s : Int) (hx : xs.length ≤ 10000) : 1 = (raA_hd xs h s).s.hs.next := by kernel_rfl
theorem raA_r (xs : List Mv) (h s : Int) (hx : xs.length ≤ 10000) : (raA_hd xs h s).s.hs.rd < bitOf 1 := blt_iff.1 (by kernel_rfl)
theorem raA_w (xs : List Mv) (h s : Int) (hx : xs.length ≤ 10000) : (raA_hd xs h s).s.hs.wr < bitOf 1 := blt_iff.1 (by kernel_rfl)
theorem raA_e0 (xs : List Mv) (h s : Int) (hx : xs.length ≤ 10000) : canonS 1 41 [] [15, 23, 19, 17, 13, 21, 8, 16, 24, 12, 20, 18, 14, 22] 1 1 0 (raA_hd xs h s).s = some (raA_S xs h s ((0 : Int))) := by kernel_rfl
theorem raA_e1 (xs : List Mv) (h s : Int) (hx : xs.length ≤ 10000) : canonOk 1 41 [] 1 (raA_hd xs h s).s = true := by kernel_rfl
theorem raA_p0 (xs : List Mv) (h s : Int) (hx : xs.length ≤ 10000) (y0 : Int) (hi : (decide (0 ≤ y0 ∧ y0 ≤ 20000)) = true) (hq0 : (decide (y0 < (↑xs.length : Int))) = true) (hq1 : (decide ((0 : Int) ≤ y0)) = true) (hq2 : (rChk_c0 (el xs y0).fst (el xs y0).snd.fst (el xs y0).snd.snd.fst (el xs y0).snd.snd.snd.fst (el xs y0).snd.snd.snd.snd != (0 : Int)) = true) : bodyK Try.prog ([] : Vars).length tabK 3000 (raA_hd xs h s) (raA_S xs h s y0 ) [(0, .b 1), (1, .b 1), (2, .b 1), (3, .vals ([Value.int i64 (el xs y0).fst, Value.int i64 (el xs y0).snd.fst, Value.bool (el xs y0).snd.snd.fst, Value.bool (el xs y0).snd.snd.snd.fst, Value.int i64 (el xs y0).snd.snd.snd.snd])), (5, .b 1)] 1 41 [15, 23, 19, 17, 13, 21, 8, 16, 24, 12, 20, 18, 14, 22] 41 1 0 = some (.ret, bodySt (bodyK Try.prog ([] : Vars).length tabK 3000 (raA_hd xs h s) (raA_S xs h s y0 ) [(0, .b 1), (1, .b 1), (2, .b 1), (3, .vals ([Value.int i64 (el xs y0).fst, Value.int i64 (el xs y0).snd.fst, Value.bool (el xs y0).snd.snd.fst, Value.bool (el xs y0).snd.snd.snd.fst, Value.int i64 (el xs y0).snd.snd.snd.snd])), (5, .b 1)] 1 41 [15, 23, 19, 17, 13, 21, 8, 16, 24, 12, 20, 18, 14, 22] 41 1 0), [(rChk_c0 (el xs y0).fst (el xs y0).snd.fst (el xs y0).snd.snd.fst (el xs y0).snd.snd.snd.fst (el xs y0).snd.snd.snd.snd != (0 : Int)) = true, segC (rowA (gM) (xs)) (((y0).toNat) * 5 + 0) 5 = some ([Value.int i64 (el xs y0).fst, Value.int i64 (el xs y0).snd.fst, Value.bool (el xs y0).snd.snd.fst, Value.bool (el xs y0).snd.snd.snd.fst, Value.int i64 (el xs y0).snd.snd.snd.snd]), (decide (y0 < (↑xs.length : Int))) = true, (decide ((0 : Int) ≤ y0)) = true, (decide (y0 < (↑xs.length : Int))) = true]) := by kernel_rfl
theorem raA_q0 (xs : List Mv) (h s : Int) (hx : xs.length ≤ 10000) (y0 : Int) (hi : (decide (0 ≤ y0 ∧ y0 ≤ 20000)) = true) (hq0 : (decide (y0 < (↑xs.length : Int))) = true) (hq1 : (decide ((0 : Int) ≤ y0)) = true) (hq2 : (rChk_c0 (el xs y0).fst (el xs y0).snd.fst (el xs y0).snd.snd.fst (el xs y0).snd.snd.snd.fst (el xs y0).snd.snd.snd.snd != (0 : Int)) = true) : (bodySt (bodyK Try.prog ([] : Vars).length tabK 3000 (raA_hd xs h s) (raA_S xs h s y0 ) [(0, .b 1), (1, .b 1), (2, .b 1), (3, .vals ([Value.int i64 (el xs y0).fst, Value.int i64 (el xs y0).snd.fst, Value.bool (el xs y0).snd.snd.fst, Value.bool (el xs y0).snd.snd.snd.fst, Value.int i64 (el xs y0).snd.snd.snd.snd])), (5, .b 1)] 1 41 [15, 23, 19, 17, 13, 21, 8, 16, 24, 12, 20, 18, 14, 22] 41 1 0)).hs.next = 41 := by kernel_rfl
theorem raA_p1 (xs : List Mv) (h s : Int) (hx : xs.length ≤ 10000) (y0 : Int) (hi : (decide (0 ≤ y0 ∧ y0 ≤ 20000)) = true) (hq0 : (decide (y0 < (↑xs.length : Int))) = true) (hq1 : (decide ((0 : Int) ≤ y0)) = true) (hq2 : (rChk_c0 (el xs y0).fst (el xs y0).snd.fst (el xs y0).snd.snd.fst (el xs y0).snd.snd.snd.fst (el xs y0).snd.snd.snd.snd != (0 : Int)) = false) : bodyK Try.prog ([] : Vars).length tabK 3000 (raA_hd xs h s) (raA_S xs h s y0 ) [(0, .b 1), (1, .b 1), (2, .b 1), (3, .vals ([Value.int i64 (el xs y0).fst, Value.int i64 (el xs y0).snd.fst, Value.bool (el xs y0).snd.snd.fst, Value.bool (el xs y0).snd.snd.snd.fst, Value.int i64 (el xs y0).snd.snd.snd.snd])), (5, .b 0)] 1 41 [15, 23, 19, 17, 13, 21, 8, 16, 24, 12, 20, 18, 14, 22] 1 1 0 = some (.normal, (raA_S xs h s (i64.wrap (y0 + (1 : Int)))), [(rChk_c0 (el xs y0).fst (el xs y0).snd.fst (el xs y0).snd.snd.fst (el xs y0).snd.snd.snd.fst (el xs y0).snd.snd.snd.snd != (0 : Int)) = false, segC (rowA (gM) (xs)) (((y0).toNat) * 5 + 0) 5 = some ([Value.int i64 (el xs y0).fst, Value.int i64 (el xs y0).snd.fst, Value.bool (el xs y0).snd.snd.fst, Value.bool (el xs y0).snd.snd.snd.fst, Value.int i64 (el xs y0).snd.snd.snd.snd]), (decide (y0 < (↑xs.length : Int))) = true, (decide ((0 : Int) ≤ y0)) = true, (decide (y0 < (↑xs.length : Int))) = true]) := by kernel_rfl
theorem raA_p2 (xs : List Mv) (h s : Int) (hx : xs.length ≤ 10000) (y0 : Int) (hi : (decide (0 ≤ y0 ∧ y0 ≤ 20000)) = true) (hq0 : (decide (y0 < (↑xs.length : Int))) = false) : bodyK Try.prog ([] : Vars).length tabK 3000 (raA_hd xs h s) (raA_S xs h s y0 ) [(0, .b 0)] 1 41 [15, 23, 19, 17, 13, 21, 8, 16, 24, 12, 20, 18, 14, 22] 41 1 0 = some (.exit 0, bodySt (bodyK Try.prog ([] : Vars).length tabK 3000 (raA_hd xs h s) (raA_S xs h s y0 ) [(0, .b 0)] 1 41 [15, 23, 19, 17, 13, 21, 8, 16, 24, 12, 20, 18, 14, 22] 41 1 0), [(decide (y0 < (↑xs.length : Int))) = false]) := by kernel_rfl
theorem raA_q2 (xs : List Mv) (h s : Int) (hx : xs.length ≤ 10000) (y0 : Int) (hi : (decide (0 ≤ y0 ∧ y0 ≤ 20000)) = true) (hq0 : (decide (y0 < (↑xs.length : Int))) = false) : (bodySt (bodyK Try.prog ([] : Vars).length tabK 3000 (raA_hd xs h s) (raA_S xs h s y0 ) [(0, .b 0)] 1 41 [15, 23, 19, 17, 13, 21, 8, 16, 24, 12, 20, 18, 14, 22] 41 1 0)).hs.next = 41 := by kernel_rfl
theorem raA_d0 (xs : List Mv) (h s : Int) (hx : xs.length ≤ 10000) (y0 : Int) (hi : (decide (0 ≤ y0 ∧ y0 ≤ 20000)) = true) (hq0 : (decide (y0 < (↑xs.length : Int))) = true) : (decide ((0 : Int) ≤ y0)) = true := by
 rcases Bool.eq_false_or_eq_true (decide ((0 : Int) ≤ y0)) with h | h
 ·exact h
 ·exfalso; (first | (simp_all only [Bool.and_eq_true, Bool.not_eq_true', Bool.false_eq_true, Bool.true_eq_false, reduceCtorEq]; done) | (simp_all; done) | (simp only [sx, sy, eq_self, ne_eq, IntKind.wrap_i64, wrapU64, Int.reduceLT] at * <;> first | contradiction | omega))
def raA_X : Nat → VX
 | 0 => .ret
 | 1 => .exit 0
 | _ => .normal
noncomputable def raA_E (kE : Nat) (xs : List Mv) (h s : Int) (y0 : Int) : St := match kE with
 | 0 => bodySt (bodyK Try.prog ([] : Vars).length tabK 3000 (raA_hd xs h s) (raA_S xs h s y0 ) [(0, .b 1), (1, .b 1), (2, .b 1), (3, .vals ([Value.int i64 (el xs y0).fst, Value.int i64 (el xs y0).snd.fst, Value.bool (el xs y0).snd.snd.fst, Value.bool (el xs y0).snd.snd.snd.fst, Value.int i64 (el xs y0).snd.snd.snd.snd])), (5, .b 1)] 1 41 [15, 23, 19, 17, 13, 21, 8, 16, 24, 12, 20, 18, 14, 22] 41 1 0)
 | 1 => bodySt (bodyK Try.prog ([] : Vars).length tabK 3000 (raA_hd xs h s) (raA_S xs h s y0 ) [(0, .b 0)] 1 41 [15, 23, 19, 17, 13, 21, 8, 16, 24, 12, 20, 18, 14, 22] 41 1 0)
 | _ => (raA_hd xs h s).s
noncomputable def raA_f (xs : List Mv) (h s : Int) : Nat → Int → Option (Nat × (Int))
 | 0, _ => none
 | fu + 1, y0 => (bif (decide (0 ≤ y0 ∧ y0 ≤ 20000)) then (bif (decide (y0 < (↑xs.length : Int))) then (bif (rChk_c0 (el xs y0).fst (el xs y0).snd.fst (el xs y0).snd.snd.fst (el xs y0).snd.snd.snd.fst (el xs y0).snd.snd.snd.snd != (0 : Int)) then some (0, y0) else raA_f xs h s fu (i64.wrap (y0 + (1 : Int)))) else some (1, y0)) else none)
theorem raA_fs (xs : List Mv) (h s : Int) (fu : Nat) (y0 : Int) : raA_f xs h s (fu + 1) y0 = (bif (decide (0 ≤ y0 ∧ y0 ≤ 20000)) then (bif (decide (y0 < (↑xs.length : Int))) then (bif (rChk_c0 (el xs y0).fst (el xs y0).snd.fst (el xs y0).snd.snd.fst (el xs y0).snd.snd.snd.fst (el xs y0).snd.snd.snd.snd != (0 : Int)) then some (0, y0) else raA_f xs h s fu (i64.wrap (y0 + (1 : Int)))) else some (1, y0)) else none) := rfl
theorem raA_f0 (xs : List Mv) (h s : Int) (y0 : Int) : raA_f xs h s 0 y0 = none := rfl
theorem raA_loop (xs : List Mv) (h s : Int) (hx : xs.length ≤ 10000) : ∀ (fu : Nat) (y0 : Int) (kk : Nat) (zz : Int), raA_f xs h s fu y0 = some (kk, zz) → VStep (raA_hd xs h s).s.hs (raA_S xs h s y0 ).hs → RoundsC Try.prog [] 1 41 (raA_hd xs h s).s.hs (raA_hd xs h s).ro (raA_hd xs h s).a (raA_S xs h s y0 ) (raA_X kk) (raA_E kk xs h s zz ) ∧ ((raA_E kk xs h s zz )).hs.next = 41 := by
 intro fu
 induction fu with
 | zero =>
  intro y0 kk zz hf hSz
  have hf := (raA_f0 xs h s y0 ).symm.trans hf
  simp at hf
 | succ fu ih =>
  intro y0 kk zz hf hSz
  have hf := (raA_fs xs h s fu y0 ).symm.trans hf
  rcases bif_or hf with ⟨hi, hf⟩ | ⟨hi, hf⟩
  case inr => cases hf
  rcases bif_or hf with ⟨hq0, hf⟩ | ⟨hq0, hf⟩
  ·
   have hq1 := raA_d0 xs h s hx  y0 hi hq0 
   rcases bif_or hf with ⟨hq2, hf⟩ | ⟨hq2, hf⟩
   ·
    injection hf with hf; injection hf with e1 e2; subst e1; subst e2; obtain ⟨sz1, kz1, kz2, kz3⟩ := body_canon (raA_p0 xs h s hx  y0 hi  hq0 hq1 hq2) ⟨hq2, (seg_row (g := (gM)) (k := 5) (fun _ => rfl) (of_decide_eq_true hq1) (of_decide_eq_true hq0) (by decide) rfl), hq0, hq1, hq0, trivial⟩; exact ⟨rounds_end mix tabK_ok (raA_n xs h s hx  ) (raA_r xs h s hx  ) (raA_w xs h s hx  ) kz1 (fun h => by cases h) hSz kz2 kz3, raA_q0 xs h s hx  y0 hi  hq0 hq1 hq2⟩
   ·
    obtain ⟨sz1, kz1, kz2, kz3⟩ := body_canon (raA_p1 xs h s hx  y0 hi  hq0 hq1 hq2) ⟨hq2, (seg_row (g := (gM)) (k := 5) (fun _ => rfl) (of_decide_eq_true hq1) (of_decide_eq_true hq0) (by decide) rfl), hq0, hq1, hq0, trivial⟩; obtain ⟨gz1, gz2⟩ := ih (i64.wrap (y0 + (1 : Int))) kk zz hf (rounds_step mix tabK_ok (raA_n xs h s hx  ) (raA_r xs h s hx  ) (raA_w xs h s hx  ) kz1 hSz kz2 kz3); exact ⟨rounds_next mix tabK_ok (raA_n xs h s hx  ) (raA_r xs h s hx  ) (raA_w xs h s hx  ) kz1 hSz kz2 kz3 (fun _ => gz1), gz2⟩
  ·
   injection hf with hf; injection hf with e1 e2; subst e1; subst e2; obtain ⟨sz1, kz1, kz2, kz3⟩ := body_canon (raA_p2 xs h s hx  y0 hi  hq0) ⟨hq0, trivial⟩; exact ⟨rounds_end mix tabK_ok (raA_n xs h s hx  ) (raA_r xs h s hx  ) (raA_w xs h s hx  ) kz1 (fun h => by cases h) hSz kz2 kz3, raA_q2 xs h s hx  y0 hi  hq0⟩
theorem raA_ok (xs : List Mv) (h s : Int) (hx : xs.length ≤ 10000) (fu kk : Nat) (zz : Int) (hf : raA_f xs h s fu ((0 : Int)) = some (kk, zz)) : ∀ B : Bd, B.L = [] → LoopOk Try.prog B (raA_hd xs h s).ro (raA_hd xs h s).a (raA_hd xs h s).s (raA_X kk) (raA_E kk xs h s zz ) := by
 have hSz := begin_step (raA_n xs h s hx  ) (raA_r xs h s hx  ) (raA_w xs h s hx  ) (raA_e0 xs h s hx  ) (raA_e1 xs h s hx  )
 obtain ⟨gz1, gz2⟩ := raA_loop xs h s hx  fu ((0 : Int)) kk zz hf hSz
 exact rounds_ok (raA_n xs h s hx  ) (Nat.le_of_ble_eq_true (by kernel_rfl)) gz2 (rounds_begin (raA_n xs h s hx  ) (raA_r xs h s hx  ) (raA_w xs h s hx  ) (raA_e0 xs h s hx  ) (raA_e1 xs h s hx  ) (fun _ => gz1))
end Go.Proofs.Ytbhmgchkgbenmaa
