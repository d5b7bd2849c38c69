/- Layer 33: WordBits: the program's functions. -/
import Derived.Test.YtfpabkpmcmfbhaaDoorWM
import Derived.Test.YtfpabkpmcmfbhaaDoorWY
import Derived.ProofKit
import Derived.IntWalk
namespace Go.Proofs.YtfpabkpmcmfbhaaDoor
open Go Go.RowKit
set_option linter.unusedVariables false
set_option linter.unusedSimpArgs false
set_option linter.unnecessarySimpa false
set_option maxHeartbeats 8000000
set_option maxRecDepth 100000
attribute [local irreducible] btB vlX pwI crR txW orL
noncomputable def cwY (a b c : Int) : Int := cw2_c0 c a b
noncomputable def csL (a c : Int) : List Int := if vlX a c = 0 then crR a else []
abbrev xoR (a b : Int) : Int := IntKind.i64.wrap (((BitVec.ofInt 64 a ^^^ BitVec.ofInt 64 b).toNat : Nat) : Int)
theorem rcars_all (a c : Int) : KnownR Tryd.prog knWordKnownL 7 [.val (.int .i64 a), .val (.int .i64 c)] (.tuple #[.complex .f64 0 (csL a c).length, .int .i64 (vlX a c)]) [(rowA gI (csL a c), 3)] := by
  unfold csL
  by_cases hv : vlX a c = 0
  · rw [if_pos hv, hv]; exact rcars a c hv
  · rw [if_neg hv]; exact rcE a c hv
theorem cwaD (c a : Int)  : KnownR Tryd.prog knWordKnownL 22 [.val (.int .i64 c), .list (⟨[.int .i64 a]⟩ : Array Value) 1] (.int .i64 (vlX a c)) ([]) := by have k := cw1 c a; rw [cw1_is] at k; exact k
noncomputable def cwaD_A (p : Int × Int × Unit) : List D := match p with
  | (c, a, _) => [.val (.int .i64 c), .list (⟨[.int .i64 a]⟩ : Array Value) 1]
noncomputable def cwaD_C (p : Int × Int × Unit) : Prop := match p with
  | (c, a, _) => True
noncomputable def cwaD_R (p : Int × Int × Unit) : Value × Outs := match p with
  | (c, a, _) => (.int .i64 (vlX a c), [])
theorem cwaD_inj : ∀ p q, cwaD_C p → cwaD_C q → cwaD_A p = cwaD_A q → cwaD_R p = cwaD_R q := by
  rintro ⟨c, a, _⟩ ⟨c', a', _⟩ _ _ e
  simp only [cwaD_A, List.cons.injEq, D.list.injEq, D.val.injEq, D.agg.injEq, Value.int.injEq, Value.bool.injEq, Value.string.injEq, Value.agg.injEq, Array.mk.injEq, and_true, true_and, gI_inj, gB_inj, gI_inj] at e
  simp_all
noncomputable def cwaD_k : List D → Option (Value × Outs) := fnP cwaD_A cwaD_C cwaD_R
theorem cwaD_n (c a : Int)    : KnownR Tryd.prog knWordKnownL 22 [.val (.int .i64 c), .list (⟨[.int .i64 a]⟩ : Array Value) 1] (.int .i64 (vlX a c)) ([]) := by
  skip
  exact cwaD _ _ 
theorem cwaD_ok : ∀ ds v bs, cwaD_k ds = some (v, bs) → KnownR Tryd.prog knWordKnownL 22 ds v bs := fnP_ok (by
  rintro ⟨c, a, _⟩ _
  exact cwaD_n _ _  )
theorem cwaD_at (c a : Int)    : cwaD_k [.val (.int .i64 c), .list (⟨[.int .i64 a]⟩ : Array Value) 1] = some (.int .i64 (vlX a c), []) := fnP_at (p := (c, a, ())) cwaD_inj trivial rfl rfl
theorem coD (a : Int) (ha : 0 ≤ a ∧ a ≤ 255) : KnownR Tryd.prog knWordKnownL 23 [.val (.int .i64 a)] (.complex .f64 0 (crR a).length) ([(rowA gI (crR a), 3)]) := cars_of a ha
noncomputable def coD_A (p : Int × Unit) : List D := match p with
  | (a, _) => [.val (.int .i64 a)]
noncomputable def coD_C (p : Int × Unit) : Prop := match p with
  | (a, _) => (0 ≤ a ∧ a ≤ 255) ∧ True
noncomputable def coD_R (p : Int × Unit) : Value × Outs := match p with
  | (a, _) => (.complex .f64 0 (crR a).length, [(rowA gI (crR a), 3)])
theorem coD_inj : ∀ p q, coD_C p → coD_C q → coD_A p = coD_A q → coD_R p = coD_R q := by
  rintro ⟨a, _⟩ ⟨a', _⟩ _ _ e
  simp only [coD_A, List.cons.injEq, D.list.injEq, D.val.injEq, D.agg.injEq, Value.int.injEq, Value.bool.injEq, Value.string.injEq, Value.agg.injEq, Array.mk.injEq, and_true, true_and, gI_inj, gB_inj, gI_inj] at e
  simp_all
noncomputable def coD_k : List D → Option (Value × Outs) := fnP coD_A coD_C coD_R
theorem coD_n (a : Int)   (ha : 0 ≤ a ∧ a ≤ 255) : KnownR Tryd.prog knWordKnownL 23 [.val (.int .i64 a)] (.complex .f64 0 (crR a).length) ([(rowA gI (crR a), 3)]) := by
  skip
  exact coD _ ha
theorem coD_ok : ∀ ds v bs, coD_k ds = some (v, bs) → KnownR Tryd.prog knWordKnownL 23 ds v bs := fnP_ok (by
  rintro ⟨a, _⟩ ⟨ha, _⟩
  exact coD_n _  ha)
theorem coD_at (a : Int)   (ha : 0 ≤ a ∧ a ≤ 255) : coD_k [.val (.int .i64 a)] = some (.complex .f64 0 (crR a).length, [(rowA gI (crR a), 3)]) := fnP_at (p := (a, ())) coD_inj ⟨ha, trivial⟩ rfl rfl
theorem cwbD (c a b : Int)  : KnownR Tryd.prog knWordKnownL 22 [.val (.int .i64 c), .list (⟨[.int .i64 a, .int .i64 b]⟩ : Array Value) 2] (.int .i64 (cwY a b c)) ([]) := cw2 c a b
noncomputable def cwbD_A (p : Int × Int × Int × Unit) : List D := match p with
  | (c, a, b, _) => [.val (.int .i64 c), .list (⟨[.int .i64 a, .int .i64 b]⟩ : Array Value) 2]
noncomputable def cwbD_C (p : Int × Int × Int × Unit) : Prop := match p with
  | (c, a, b, _) => True
noncomputable def cwbD_R (p : Int × Int × Int × Unit) : Value × Outs := match p with
  | (c, a, b, _) => (.int .i64 (cwY a b c), [])
theorem cwbD_inj : ∀ p q, cwbD_C p → cwbD_C q → cwbD_A p = cwbD_A q → cwbD_R p = cwbD_R q := by
  rintro ⟨c, a, b, _⟩ ⟨c', a', b', _⟩ _ _ e
  simp only [cwbD_A, List.cons.injEq, D.list.injEq, D.val.injEq, D.agg.injEq, Value.int.injEq, Value.bool.injEq, Value.string.injEq, Value.agg.injEq, Array.mk.injEq, and_true, true_and, gI_inj, gB_inj, gI_inj] at e
  simp_all
noncomputable def cwbD_k : List D → Option (Value × Outs) := fnP cwbD_A cwbD_C cwbD_R
theorem cwbD_n (c a b : Int)    : KnownR Tryd.prog knWordKnownL 22 [.val (.int .i64 c), .list (⟨[.int .i64 a, .int .i64 b]⟩ : Array Value) 2] (.int .i64 (cwY a b c)) ([]) := by
  skip
  exact cwbD _ _ _ 
theorem cwbD_ok : ∀ ds v bs, cwbD_k ds = some (v, bs) → KnownR Tryd.prog knWordKnownL 22 ds v bs := fnP_ok (by
  rintro ⟨c, a, b, _⟩ _
  exact cwbD_n _ _ _  )
theorem cwbD_at (c a b : Int)    : cwbD_k [.val (.int .i64 c), .list (⟨[.int .i64 a, .int .i64 b]⟩ : Array Value) 2] = some (.int .i64 (cwY a b c), []) := fnP_at (p := (c, a, b, ())) cwbD_inj trivial rfl rfl
theorem rcsD (a c : Int)  : KnownR Tryd.prog knWordKnownL 7 [.val (.int .i64 a), .val (.int .i64 c)] (.tuple #[.complex .f64 0 (csL a c).length, .int .i64 (vlX a c)]) ([(rowA gI (csL a c), 3)]) := rcars_all a c
noncomputable def rcsD_A (p : Int × Int × Unit) : List D := match p with
  | (a, c, _) => [.val (.int .i64 a), .val (.int .i64 c)]
noncomputable def rcsD_C (p : Int × Int × Unit) : Prop := match p with
  | (a, c, _) => True
noncomputable def rcsD_R (p : Int × Int × Unit) : Value × Outs := match p with
  | (a, c, _) => (.tuple #[.complex .f64 0 (csL a c).length, .int .i64 (vlX a c)], [(rowA gI (csL a c), 3)])
theorem rcsD_inj : ∀ p q, rcsD_C p → rcsD_C q → rcsD_A p = rcsD_A q → rcsD_R p = rcsD_R q := by
  rintro ⟨a, c, _⟩ ⟨a', c', _⟩ _ _ e
  simp only [rcsD_A, List.cons.injEq, D.list.injEq, D.val.injEq, D.agg.injEq, Value.int.injEq, Value.bool.injEq, Value.string.injEq, Value.agg.injEq, Array.mk.injEq, and_true, true_and, gI_inj, gB_inj, gI_inj] at e
  simp_all
noncomputable def rcsD_k : List D → Option (Value × Outs) := fnP rcsD_A rcsD_C rcsD_R
theorem rcsD_n (a c : Int)    : KnownR Tryd.prog knWordKnownL 7 [.val (.int .i64 a), .val (.int .i64 c)] (.tuple #[.complex .f64 0 (csL a c).length, .int .i64 (vlX a c)]) ([(rowA gI (csL a c), 3)]) := by
  skip
  exact rcsD _ _ 
theorem rcsD_ok : ∀ ds v bs, rcsD_k ds = some (v, bs) → KnownR Tryd.prog knWordKnownL 7 ds v bs := fnP_ok (by
  rintro ⟨a, c, _⟩ _
  exact rcsD_n _ _  )
theorem rcsD_at (a c : Int)    : rcsD_k [.val (.int .i64 a), .val (.int .i64 c)] = some (.tuple #[.complex .f64 0 (csL a c).length, .int .i64 (vlX a c)], [(rowA gI (csL a c), 3)]) := fnP_at (p := (a, c, ())) rcsD_inj trivial rfl rfl
theorem rmkD (xs : List Int) (c : Int) (hx : xs.length ≤ 20) (hc : 1 ≤ c ∧ c ≤ 8) (hr : ∀ x ∈ xs, 1 ≤ x ∧ x ≤ c) : KnownR Tryd.prog knWordKnownL 29 [.list (rowA gI xs) xs.length, .val (.int .i64 c)] (.tuple #[.int .i64 ((orL xs 0 : Nat) : Int), .int .i64 0]) ([]) := rmake xs c hx hc hr
noncomputable def rmkD_A (p : List Int × Int × Nat × Unit) : List D := match p with
  | (xs, c, nn0, _) => [.list (rowA gI xs) nn0, .val (.int .i64 c)]
noncomputable def rmkD_C (p : List Int × Int × Nat × Unit) : Prop := match p with
  | (xs, c, nn0, _) => (nn0 = xs.length) ∧ (xs.length ≤ 20) ∧ (1 ≤ c ∧ c ≤ 8) ∧ (∀ x ∈ xs, 1 ≤ x ∧ x ≤ c) ∧ True
noncomputable def rmkD_R (p : List Int × Int × Nat × Unit) : Value × Outs := match p with
  | (xs, c, nn0, _) => (.tuple #[.int .i64 ((orL xs 0 : Nat) : Int), .int .i64 0], [])
theorem rmkD_inj : ∀ p q, rmkD_C p → rmkD_C q → rmkD_A p = rmkD_A q → rmkD_R p = rmkD_R q := by
  rintro ⟨xs, c, nn0, _⟩ ⟨xs', c', nn0', _⟩ _ _ e
  simp only [rmkD_A, List.cons.injEq, D.list.injEq, D.val.injEq, D.agg.injEq, Value.int.injEq, Value.bool.injEq, Value.string.injEq, Value.agg.injEq, Array.mk.injEq, and_true, true_and, gI_inj, gB_inj, gI_inj] at e
  simp_all
noncomputable def rmkD_k : List D → Option (Value × Outs) := fnP rmkD_A rmkD_C rmkD_R
theorem rmkD_n (xs : List Int) (c : Int) (nn0 : Nat) (hn0 : nn0 = xs.length) (hx : xs.length ≤ 20) (hc : 1 ≤ c ∧ c ≤ 8) (hr : ∀ x ∈ xs, 1 ≤ x ∧ x ≤ c) : KnownR Tryd.prog knWordKnownL 29 [.list (rowA gI xs) nn0, .val (.int .i64 c)] (.tuple #[.int .i64 ((orL xs 0 : Nat) : Int), .int .i64 0]) ([]) := by
  subst hn0; skip
  exact rmkD _ _ hx hc hr
theorem rmkD_ok : ∀ ds v bs, rmkD_k ds = some (v, bs) → KnownR Tryd.prog knWordKnownL 29 ds v bs := fnP_ok (by
  rintro ⟨xs, c, nn0, _⟩ ⟨hn0, hx, hc, hr, _⟩
  exact rmkD_n _ _ _ hn0 hx hc hr)
theorem rmkD_at (xs : List Int) (c : Int) (nn0 : Nat) (hn0 : nn0 = xs.length) (hx : xs.length ≤ 20) (hc : 1 ≤ c ∧ c ≤ 8) (hr : ∀ x ∈ xs, 1 ≤ x ∧ x ≤ c) : rmkD_k [.list (rowA gI xs) nn0, .val (.int .i64 c)] = some (.tuple #[.int .i64 ((orL xs 0 : Nat) : Int), .int .i64 0], []) := fnP_at (p := (xs, c, nn0, ())) rmkD_inj ⟨hn0, hx, hc, hr, trivial⟩ rfl rfl
noncomputable def tabE1 : GTab := (GTab.fnD 22 cwaD_k (GTab.fnD 23 coD_k GTab.none))
theorem tabE1_ok : GOk Tryd.prog knWordKnownL tabE1 := (GOk.fnD cwaD_ok (GOk.fnD coD_ok GOk.none))
noncomputable def tabE2 : GTab := (GTab.fnD 22 cwbD_k (GTab.fnD 23 coD_k GTab.none))
theorem tabE2_ok : GOk Tryd.prog knWordKnownL tabE2 := (GOk.fnD cwbD_ok (GOk.fnD coD_ok GOk.none))
noncomputable def tabE3 : GTab := (GTab.fnD 7 rcsD_k (GTab.fnD 29 rmkD_k GTab.none))
theorem tabE3_ok : GOk Tryd.prog knWordKnownL tabE3 := (GOk.fnD rcsD_ok (GOk.fnD rmkD_ok GOk.none))
attribute [local irreducible] csL cwY
noncomputable def pcT_c0 (a c : Int) : List Int := (crR a)
theorem pcT_p0 (a c : Int) (hv : vlX a c = 0) (ha : 0 ≤ a ∧ a ≤ 255) (hq0 : (vlX a c != (0 : Int)) = false) : KnownR Tryd.prog knWordKnownL 6 [.val (.int .i64 a), .val (.int .i64 c)] (.tuple #[(.complex .f64 0 ((crR a)).length), (.int .i64 ((0 : Int)))]) [(rowA gI ((crR a)), 3)] :=
  knownR_eq (v := Value.tuple { toList := [Value.complex FloatKind.f64 (nat_lit 0) (crR a).length, Value.int IntKind.i64 (0 : Int)] }) (bs := [(rowA gI (crR a), nat_lit 3)]) (open_resD mix tabE1_ok (T := tabE1) (fuel := 3000) (es := [3]) (ans := [(0, .outs (Value.int IntKind.i64 (vlX a c)) ([])), (1, .b 0), (2, .outs (Value.complex FloatKind.f64 (0 : Nat) (crR a).length) ([(rowA gI (crR a), (3 : TypeId))]))]) (log := [(GTab.lookD (tabE1) ((23 : Nat)) ([D.val (Value.int IntKind.i64 a)])) = some (Value.complex FloatKind.f64 (0 : Nat) (crR a).length, [(rowA gI (crR a), (3 : TypeId))]), (vlX a c != (0 : Int)) = false, (GTab.lookD (tabE1) ((22 : Nat)) ([D.val (Value.int IntKind.i64 c), D.list { toList := [Value.int IntKind.i64 a] } (nat_lit 1)])) = some (Value.int IntKind.i64 (vlX a c), [])]) (by kernel_rfl) ⟨(coD_at (a) (by first | rfl | assumption | omega | (simp; done) | (simp_all; done) | (simp_all; omega))), hq0, (cwaD_at (c) (a)), trivial⟩ (by kernel_rfl)) (by first | rfl | (simp; done) | (simp_all; done)) (by first | rfl | (simp [rowA_nil]; done) | (simp only [rowA_eq]; rfl) | (simp_all [rowA_nil]; done))
set_option maxHeartbeats 8000000 in
theorem pcT (a c : Int) (hv : vlX a c = 0) (ha : 0 ≤ a ∧ a ≤ 255) : KnownR Tryd.prog knWordKnownL 6 [.val (.int .i64 a), .val (.int .i64 c)] (.tuple #[(.complex .f64 0 ((pcT_c0 a c)).length), (.int .i64 ((0 : Int)))]) [(rowA gI ((pcT_c0 a c)), 3)] := by
  have hq0 : (vlX a c != (0 : Int)) = false := by
    rcases Bool.eq_false_or_eq_true (vlX a c != (0 : Int)) with h | h
    · exfalso; (first | (simp_all only [Bool.and_eq_true, Bool.not_eq_true', Bool.false_eq_true, Bool.true_eq_false, reduceCtorEq]; done) | (simp only [sx, sy, eq_self, ne_eq, IntKind.wrap_i64, wrapU64, Int.reduceLT] at * <;> first | contradiction | omega) | omega | ((try simp only [sx, sy, eq_self, ne_eq, IntKind.wrap_i64, wrapU64, Int.reduceLT] at *) <;> omega) | (simp_all; done))
    · exact h
  have e0 : pcT_c0 a c = (crR a) := rfl; rw [e0]; exact pcT_p0 a c hv ha hq0

noncomputable def pcE_c1 (a c : Int) : Int := (vlX a c)
theorem pcE_p0 (a c : Int) (hv : ¬ vlX a c = 0) (hq0 : (vlX a c != (0 : Int)) = true) : KnownR Tryd.prog knWordKnownL 6 [.val (.int .i64 a), .val (.int .i64 c)] (.tuple #[(.complex .f64 0 ((([] : List Int))).length), (.int .i64 (vlX a c))]) [(rowA gI ((([] : List Int))), 3)] :=
  knownR_eq (v := Value.tuple { toList := [Value.complex FloatKind.f64 (nat_lit 0) (nat_lit 0), Value.int IntKind.i64 (vlX a c)] }) (bs := [({ toList := [] }, nat_lit 3)]) (open_resD mix tabE1_ok (T := tabE1) (fuel := 3000) (es := [3]) (ans := [(0, .outs (Value.int IntKind.i64 (vlX a c)) ([])), (1, .b 1)]) (log := [(vlX a c != (0 : Int)) = true, (GTab.lookD (tabE1) ((22 : Nat)) ([D.val (Value.int IntKind.i64 c), D.list { toList := [Value.int IntKind.i64 a] } (nat_lit 1)])) = some (Value.int IntKind.i64 (vlX a c), [])]) (by kernel_rfl) ⟨hq0, (cwaD_at (c) (a)), trivial⟩ (by kernel_rfl)) (by first | rfl | (simp; done) | (simp_all; done)) (by first | rfl | (simp [rowA_nil]; done) | (simp only [rowA_eq]; rfl) | (simp_all [rowA_nil]; done))
set_option maxHeartbeats 8000000 in
theorem pcE (a c : Int) (hv : ¬ vlX a c = 0) : KnownR Tryd.prog knWordKnownL 6 [.val (.int .i64 a), .val (.int .i64 c)] (.tuple #[(.complex .f64 0 ((([] : List Int))).length), (.int .i64 (pcE_c1 a c))]) [(rowA gI ((([] : List Int))), 3)] := by
  have hq0 : (vlX a c != (0 : Int)) = true := by
    rcases Bool.eq_false_or_eq_true (vlX a c != (0 : Int)) with h | h
    · exact h
    · exfalso; (first | (simp_all only [Bool.and_eq_true, Bool.not_eq_true', Bool.false_eq_true, Bool.true_eq_false, reduceCtorEq]; done) | (simp only [sx, sy, eq_self, ne_eq, IntKind.wrap_i64, wrapU64, Int.reduceLT] at * <;> first | contradiction | omega) | omega | ((try simp only [sx, sy, eq_self, ne_eq, IntKind.wrap_i64, wrapU64, Int.reduceLT] at *) <;> omega) | (simp_all; done))
  have e1 : pcE_c1 a c = (vlX a c) := rfl; rw [e1]; exact pcE_p0 a c hv hq0

noncomputable def ptE_c0 (a c : Int) : Int := (vlX a c)
theorem ptE_p0 (a c : Int) (hv : ¬ vlX a c = 0) (hq0 : (vlX a c != (0 : Int)) = true) : Known Tryd.prog knWordKnownL 8 [.int .i64 a, .int .i64 c] (.tuple #[(Value.string { data := #[] }), (.int .i64 (vlX a c))]) :=
  open_res mix tabE1_ok (T := tabE1) (fuel := 3000) (ans := [(0, .outs (Value.int IntKind.i64 (vlX a c)) ([])), (1, .b 1)]) (log := [(vlX a c != (0 : Int)) = true, (GTab.lookD (tabE1) ((22 : Nat)) ([D.val (Value.int IntKind.i64 c), D.list { toList := [Value.int IntKind.i64 a] } (nat_lit 1)])) = some (Value.int IntKind.i64 (vlX a c), [])]) (by kernel_rfl) ⟨hq0, (cwaD_at (c) (a)), trivial⟩ (by kernel_rfl)
set_option maxHeartbeats 8000000 in
theorem ptE (a c : Int) (hv : ¬ vlX a c = 0) : Known Tryd.prog knWordKnownL 8 [.int .i64 a, .int .i64 c] (.tuple #[(Value.string { data := #[] }), (.int .i64 (ptE_c0 a c))]) := by
  have hq0 : (vlX a c != (0 : Int)) = true := by
    rcases Bool.eq_false_or_eq_true (vlX a c != (0 : Int)) with h | h
    · exact h
    · exfalso; (first | (simp_all only [Bool.and_eq_true, Bool.not_eq_true', Bool.false_eq_true, Bool.true_eq_false, reduceCtorEq]; done) | (simp only [sx, sy, eq_self, ne_eq, IntKind.wrap_i64, wrapU64, Int.reduceLT] at * <;> first | contradiction | omega) | omega | ((try simp only [sx, sy, eq_self, ne_eq, IntKind.wrap_i64, wrapU64, Int.reduceLT] at *) <;> omega) | (simp_all; done))
  have e0 : ptE_c0 a c = (vlX a c) := rfl; rw [e0]; exact ptE_p0 a c hv hq0

noncomputable def pdT_c0 (a b c : Int) : List Int := (crR (IntKind.i64.wrap (↑(BitVec.ofInt (64 : Nat) a ^^^ BitVec.ofInt (64 : Nat) b).toNat : Int)))
theorem pdT_p0 (a b c : Int) (hv : cwY a b c = 0) (ha : 0 ≤ xoR a b ∧ xoR a b ≤ 255) (hq0 : (cwY a b c != (0 : Int)) = false) : KnownR Tryd.prog knWordKnownL 13 [.val (.int .i64 a), .val (.int .i64 b), .val (.int .i64 c)] (.tuple #[(.complex .f64 0 ((crR (IntKind.i64.wrap (↑(BitVec.ofInt (64 : Nat) a ^^^ BitVec.ofInt (64 : Nat) b).toNat : Int)))).length), (.int .i64 ((0 : Int)))]) [(rowA gI ((crR (IntKind.i64.wrap (↑(BitVec.ofInt (64 : Nat) a ^^^ BitVec.ofInt (64 : Nat) b).toNat : Int)))), 3)] :=
  knownR_eq (v := Value.tuple { toList := [Value.complex FloatKind.f64 (nat_lit 0) (crR (IntKind.i64.wrap (↑(BitVec.ofInt (64 : Nat) a ^^^ BitVec.ofInt (64 : Nat) b).toNat : Int))).length, Value.int IntKind.i64 (0 : Int)] }) (bs := [(rowA gI (crR (IntKind.i64.wrap (↑(BitVec.ofInt (64 : Nat) a ^^^ BitVec.ofInt (64 : Nat) b).toNat : Int))), nat_lit 3)]) (open_resD mix tabE2_ok (T := tabE2) (fuel := 3000) (es := [3]) (ans := [(0, .outs (Value.int IntKind.i64 (cwY a b c)) ([])), (1, .b 0), (2, .outs (Value.complex FloatKind.f64 (0 : Nat) (crR (IntKind.i64.wrap (↑(BitVec.ofInt (64 : Nat) a ^^^ BitVec.ofInt (64 : Nat) b).toNat : Int))).length) ([(rowA gI (crR (IntKind.i64.wrap (↑(BitVec.ofInt (64 : Nat) a ^^^ BitVec.ofInt (64 : Nat) b).toNat : Int))), (3 : TypeId))]))]) (log := [(GTab.lookD (tabE2) ((23 : Nat)) ([D.val (Value.int IntKind.i64 (IntKind.i64.wrap (↑(BitVec.ofInt (64 : Nat) a ^^^ BitVec.ofInt (64 : Nat) b).toNat : Int)))])) = some (Value.complex FloatKind.f64 (0 : Nat) (crR (IntKind.i64.wrap (↑(BitVec.ofInt (64 : Nat) a ^^^ BitVec.ofInt (64 : Nat) b).toNat : Int))).length, [(rowA gI (crR (IntKind.i64.wrap (↑(BitVec.ofInt (64 : Nat) a ^^^ BitVec.ofInt (64 : Nat) b).toNat : Int))), (3 : TypeId))]), (cwY a b c != (0 : Int)) = false, (GTab.lookD (tabE2) ((22 : Nat)) ([D.val (Value.int IntKind.i64 c), D.list { toList := [Value.int IntKind.i64 a, Value.int IntKind.i64 b] } (nat_lit 2)])) = some (Value.int IntKind.i64 (cwY a b c), [])]) (by kernel_rfl) ⟨(coD_at (IntKind.i64.wrap (↑(BitVec.ofInt (64 : Nat) a ^^^ BitVec.ofInt (64 : Nat) b).toNat : Int)) (by first | rfl | assumption | omega | (simp; done) | (simp_all; done) | (simp_all; omega))), hq0, (cwbD_at (c) (a) (b)), trivial⟩ (by kernel_rfl)) (by first | rfl | (simp; done) | (simp_all; done)) (by first | rfl | (simp [rowA_nil]; done) | (simp only [rowA_eq]; rfl) | (simp_all [rowA_nil]; done))
set_option maxHeartbeats 8000000 in
theorem pdT (a b c : Int) (hv : cwY a b c = 0) (ha : 0 ≤ xoR a b ∧ xoR a b ≤ 255) : KnownR Tryd.prog knWordKnownL 13 [.val (.int .i64 a), .val (.int .i64 b), .val (.int .i64 c)] (.tuple #[(.complex .f64 0 ((pdT_c0 a b c)).length), (.int .i64 ((0 : Int)))]) [(rowA gI ((pdT_c0 a b c)), 3)] := by
  have hq0 : (cwY a b c != (0 : Int)) = false := by
    rcases Bool.eq_false_or_eq_true (cwY a b c != (0 : Int)) with h | h
    · exfalso; (first | (simp_all only [Bool.and_eq_true, Bool.not_eq_true', Bool.false_eq_true, Bool.true_eq_false, reduceCtorEq]; done) | (simp only [sx, sy, eq_self, ne_eq, IntKind.wrap_i64, wrapU64, Int.reduceLT] at * <;> first | contradiction | omega) | omega | ((try simp only [sx, sy, eq_self, ne_eq, IntKind.wrap_i64, wrapU64, Int.reduceLT] at *) <;> omega) | (simp_all; done))
    · exact h
  have e0 : pdT_c0 a b c = (crR (IntKind.i64.wrap (↑(BitVec.ofInt (64 : Nat) a ^^^ BitVec.ofInt (64 : Nat) b).toNat : Int))) := rfl; rw [e0]; exact pdT_p0 a b c hv ha hq0

noncomputable def pdE_c1 (a b c : Int) : Int := (cwY a b c)
theorem pdE_p0 (a b c : Int) (hv : ¬ cwY a b c = 0) (hq0 : (cwY a b c != (0 : Int)) = true) : KnownR Tryd.prog knWordKnownL 13 [.val (.int .i64 a), .val (.int .i64 b), .val (.int .i64 c)] (.tuple #[(.complex .f64 0 ((([] : List Int))).length), (.int .i64 (cwY a b c))]) [(rowA gI ((([] : List Int))), 3)] :=
  knownR_eq (v := Value.tuple { toList := [Value.complex FloatKind.f64 (nat_lit 0) (nat_lit 0), Value.int IntKind.i64 (cwY a b c)] }) (bs := [({ toList := [] }, nat_lit 3)]) (open_resD mix tabE2_ok (T := tabE2) (fuel := 3000) (es := [3]) (ans := [(0, .outs (Value.int IntKind.i64 (cwY a b c)) ([])), (1, .b 1)]) (log := [(cwY a b c != (0 : Int)) = true, (GTab.lookD (tabE2) ((22 : Nat)) ([D.val (Value.int IntKind.i64 c), D.list { toList := [Value.int IntKind.i64 a, Value.int IntKind.i64 b] } (nat_lit 2)])) = some (Value.int IntKind.i64 (cwY a b c), [])]) (by kernel_rfl) ⟨hq0, (cwbD_at (c) (a) (b)), trivial⟩ (by kernel_rfl)) (by first | rfl | (simp; done) | (simp_all; done)) (by first | rfl | (simp [rowA_nil]; done) | (simp only [rowA_eq]; rfl) | (simp_all [rowA_nil]; done))
set_option maxHeartbeats 8000000 in
theorem pdE (a b c : Int) (hv : ¬ cwY a b c = 0) : KnownR Tryd.prog knWordKnownL 13 [.val (.int .i64 a), .val (.int .i64 b), .val (.int .i64 c)] (.tuple #[(.complex .f64 0 ((([] : List Int))).length), (.int .i64 (pdE_c1 a b c))]) [(rowA gI ((([] : List Int))), 3)] := by
  have hq0 : (cwY a b c != (0 : Int)) = true := by
    rcases Bool.eq_false_or_eq_true (cwY a b c != (0 : Int)) with h | h
    · exact h
    · exfalso; (first | (simp_all only [Bool.and_eq_true, Bool.not_eq_true', Bool.false_eq_true, Bool.true_eq_false, reduceCtorEq]; done) | (simp only [sx, sy, eq_self, ne_eq, IntKind.wrap_i64, wrapU64, Int.reduceLT] at * <;> first | contradiction | omega) | omega | ((try simp only [sx, sy, eq_self, ne_eq, IntKind.wrap_i64, wrapU64, Int.reduceLT] at *) <;> omega) | (simp_all; done))
  have e1 : pdE_c1 a b c = (cwY a b c) := rfl; rw [e1]; exact pdE_p0 a b c hv hq0

noncomputable def pmT_c0 (a b c : Int) : Int := (IntKind.i64.wrap (↑(BitVec.ofInt (64 : Nat) a ||| BitVec.ofInt (64 : Nat) b).toNat : Int))
theorem pmT_p0 (a b c : Int) (hv : cwY a b c = 0) (hq0 : (cwY a b c != (0 : Int)) = false) : KnownR Tryd.prog knWordKnownL 11 [.val (.int .i64 a), .val (.int .i64 b), .val (.int .i64 c)] (.tuple #[(.int .i64 (IntKind.i64.wrap (↑(BitVec.ofInt (64 : Nat) a ||| BitVec.ofInt (64 : Nat) b).toNat : Int))), (.int .i64 ((0 : Int)))]) [] :=
  knownR_eq (v := Value.tuple { toList := [Value.int IntKind.i64 (IntKind.i64.wrap (↑(BitVec.ofInt (64 : Nat) a ||| BitVec.ofInt (64 : Nat) b).toNat : Int)), Value.int IntKind.i64 (0 : Int)] }) (bs := []) (open_resD mix tabE2_ok (T := tabE2) (fuel := 3000) (es := []) (ans := [(0, .outs (Value.int IntKind.i64 (cwY a b c)) ([])), (1, .b 0)]) (log := [(cwY a b c != (0 : Int)) = false, (GTab.lookD (tabE2) ((22 : Nat)) ([D.val (Value.int IntKind.i64 c), D.list { toList := [Value.int IntKind.i64 a, Value.int IntKind.i64 b] } (nat_lit 2)])) = some (Value.int IntKind.i64 (cwY a b c), [])]) (by kernel_rfl) ⟨hq0, (cwbD_at (c) (a) (b)), trivial⟩ (by kernel_rfl)) (by first | rfl | (simp; done) | (simp_all; done)) (by first | rfl | (simp [rowA_nil]; done) | (simp only [rowA_eq]; rfl) | (simp_all [rowA_nil]; done))
set_option maxHeartbeats 8000000 in
theorem pmT (a b c : Int) (hv : cwY a b c = 0) : KnownR Tryd.prog knWordKnownL 11 [.val (.int .i64 a), .val (.int .i64 b), .val (.int .i64 c)] (.tuple #[(.int .i64 (pmT_c0 a b c)), (.int .i64 ((0 : Int)))]) [] := by
  have hq0 : (cwY a b c != (0 : Int)) = false := by
    rcases Bool.eq_false_or_eq_true (cwY a b c != (0 : Int)) with h | h
    · exfalso; (first | (simp_all only [Bool.and_eq_true, Bool.not_eq_true', Bool.false_eq_true, Bool.true_eq_false, reduceCtorEq]; done) | (simp only [sx, sy, eq_self, ne_eq, IntKind.wrap_i64, wrapU64, Int.reduceLT] at * <;> first | contradiction | omega) | omega | ((try simp only [sx, sy, eq_self, ne_eq, IntKind.wrap_i64, wrapU64, Int.reduceLT] at *) <;> omega) | (simp_all; done))
    · exact h
  have e0 : pmT_c0 a b c = (IntKind.i64.wrap (↑(BitVec.ofInt (64 : Nat) a ||| BitVec.ofInt (64 : Nat) b).toNat : Int)) := rfl; rw [e0]; exact pmT_p0 a b c hv hq0

noncomputable def pmE_c1 (a b c : Int) : Int := (cwY a b c)
theorem pmE_p0 (a b c : Int) (hv : ¬ cwY a b c = 0) (hq0 : (cwY a b c != (0 : Int)) = true) : KnownR Tryd.prog knWordKnownL 11 [.val (.int .i64 a), .val (.int .i64 b), .val (.int .i64 c)] (.tuple #[(.int .i64 ((0 : Int))), (.int .i64 (cwY a b c))]) [] :=
  knownR_eq (v := Value.tuple { toList := [Value.int IntKind.i64 (0 : Int), Value.int IntKind.i64 (cwY a b c)] }) (bs := []) (open_resD mix tabE2_ok (T := tabE2) (fuel := 3000) (es := []) (ans := [(0, .outs (Value.int IntKind.i64 (cwY a b c)) ([])), (1, .b 1)]) (log := [(cwY a b c != (0 : Int)) = true, (GTab.lookD (tabE2) ((22 : Nat)) ([D.val (Value.int IntKind.i64 c), D.list { toList := [Value.int IntKind.i64 a, Value.int IntKind.i64 b] } (nat_lit 2)])) = some (Value.int IntKind.i64 (cwY a b c), [])]) (by kernel_rfl) ⟨hq0, (cwbD_at (c) (a) (b)), trivial⟩ (by kernel_rfl)) (by first | rfl | (simp; done) | (simp_all; done)) (by first | rfl | (simp [rowA_nil]; done) | (simp only [rowA_eq]; rfl) | (simp_all [rowA_nil]; done))
set_option maxHeartbeats 8000000 in
theorem pmE (a b c : Int) (hv : ¬ cwY a b c = 0) : KnownR Tryd.prog knWordKnownL 11 [.val (.int .i64 a), .val (.int .i64 b), .val (.int .i64 c)] (.tuple #[(.int .i64 ((0 : Int))), (.int .i64 (pmE_c1 a b c))]) [] := by
  have hq0 : (cwY a b c != (0 : Int)) = true := by
    rcases Bool.eq_false_or_eq_true (cwY a b c != (0 : Int)) with h | h
    · exact h
    · exfalso; (first | (simp_all only [Bool.and_eq_true, Bool.not_eq_true', Bool.false_eq_true, Bool.true_eq_false, reduceCtorEq]; done) | (simp only [sx, sy, eq_self, ne_eq, IntKind.wrap_i64, wrapU64, Int.reduceLT] at * <;> first | contradiction | omega) | omega | ((try simp only [sx, sy, eq_self, ne_eq, IntKind.wrap_i64, wrapU64, Int.reduceLT] at *) <;> omega) | (simp_all; done))
  have e1 : pmE_c1 a b c = (cwY a b c) := rfl; rw [e1]; exact pmE_p0 a b c hv hq0

noncomputable def rgT_b2 (a b c : Int) : Bool := decide (((csL a c).length + (csL b c).length) * (8 : Nat) < (1000000000 : Nat))
noncomputable def rgT_c0 (a b c : Int) : Int := ((↑(orL (csL a c ++ csL b c) (0 : Nat)) : Int))
theorem rgT_p0 (a b c : Int) (hv : vlX a c = 0) (hw : vlX b c = 0) (hx : (csL a c ++ csL b c).length ≤ 20) (hc : 1 ≤ c ∧ c ≤ 8) (hr : ∀ x ∈ csL a c ++ csL b c, 1 ≤ x ∧ x ≤ c) (hl1 : (csL a c).length ≤ 20) (hl2 : (csL b c).length ≤ 20) (hq0 : (vlX a c != (0 : Int)) = false) (hq1 : (vlX b c != (0 : Int)) = false) (hq2 : (rgT_b2 a b c) = true) : KnownR Tryd.prog knWordKnownL 12 [.val (.int .i64 a), .val (.int .i64 b), .val (.int .i64 c)] (.tuple #[(.int .i64 ((↑(orL (csL a c ++ csL b c) (0 : Nat)) : Int))), (.int .i64 ((0 : Int)))]) [] :=
  knownR_eq (v := Value.tuple { toList := [Value.int IntKind.i64 (↑(orL (csL a c ++ csL b c) (0 : Nat)) : Int), Value.int IntKind.i64 (0 : Int)] }) (bs := []) (open_resD mix tabE3_ok (T := tabE3) (fuel := 3000) (es := []) (ans := [(0, .outs (Value.tuple #[Value.complex FloatKind.f64 (0 : Nat) (csL a c).length, Value.int IntKind.i64 (vlX a c)]) ([(rowA gI (csL a c), (3 : TypeId))])), (1, .outs (Value.tuple #[Value.complex FloatKind.f64 (0 : Nat) (csL b c).length, Value.int IntKind.i64 (vlX b c)]) ([(rowA gI (csL b c), (3 : TypeId))])), (2, .b 0), (5, .b 0), (6, .vals (List.flatMap (gI) (csL b c))), (7, .b 1), (8, .yes), (9, .arr (rowA (gI) (csL a c ++ csL b c))), (10, .outs (Value.tuple #[Value.int IntKind.i64 (↑(orL (csL a c ++ csL b c) (0 : Nat)) : Int), Value.int IntKind.i64 (0 : Int)]) ([]))]) (log := [(GTab.lookD (tabE3) ((29 : Nat)) ([D.list (rowA gI (csL a c ++ csL b c)) ((csL a c).length + (csL b c).length), D.val (Value.int IntKind.i64 c)])) = some (Value.tuple #[Value.int IntKind.i64 (↑(orL (csL a c ++ csL b c) (0 : Nat)) : Int), Value.int IntKind.i64 (0 : Int)], []), ((rowA (gI) (csL a c)).toList ++ (List.flatMap (gI) (csL b c))).toArray = rowA (gI) (csL a c ++ csL b c), ((rowA gI (csL a c)).size.beq ((csL a c).length.mul Tryd.prog.types[(3 : Nat)].size)) = true, (rgT_b2 a b c) = true, segC (rowA (gI) (csL b c)) 0 (((csL b c).length) * 1) = some (List.flatMap (gI) (csL b c)), (vlX b c != (0 : Int)) = false, (vlX a c != (0 : Int)) = false, (GTab.lookD (tabE3) ((7 : Nat)) ([D.val (Value.int IntKind.i64 b), D.val (Value.int IntKind.i64 c)])) = some (Value.tuple #[Value.complex FloatKind.f64 (0 : Nat) (csL b c).length, Value.int IntKind.i64 (vlX b c)], [(rowA gI (csL b c), (3 : TypeId))]), (GTab.lookD (tabE3) ((7 : Nat)) ([D.val (Value.int IntKind.i64 a), D.val (Value.int IntKind.i64 c)])) = some (Value.tuple #[Value.complex FloatKind.f64 (0 : Nat) (csL a c).length, Value.int IntKind.i64 (vlX a c)], [(rowA gI (csL a c), (3 : TypeId))])]) (by kernel_rfl) ⟨(rmkD_at (csL a c ++ csL b c) (c) ((csL a c).length + (csL b c).length) (by first | rfl | assumption | omega | (simp; done) | (simp_all; done) | (simp_all; omega)) (by first | rfl | assumption | omega | (simp; done) | (simp_all; done) | (simp_all; omega)) (by first | rfl | assumption | omega | (simp; done) | (simp_all; done) | (simp_all; omega)) (by first | rfl | assumption | omega | (simp; done) | (simp_all; done) | (simp_all; omega))), (row_app (g := (gI)) (by first | rfl | (simp; done) | (simp; omega))), (fact_size (g := (gI)) (k := 1) (fun _ => rfl) (by first | (simp; done) | (simp only [Nat.add_eq, Nat.sub_eq, List.length_take, List.length_drop, List.length_append, List.length_cons, List.length_nil, List.length_reverse, List.length_set]; omega) | (have hx2 := of_decide_eq_true hi; simp only [List.length_reverse, List.length_set] at *; omega))), hq2, (seg_all2 (g := (gI)) (k := 1) (fun _ => rfl) (by first | rfl | (simp; done) | (simp; omega))), hq1, hq0, (rcsD_at (b) (c)), (rcsD_at (a) (c)), trivial⟩ (by kernel_rfl)) (by first | rfl | (simp; done) | (simp_all; done)) (by first | rfl | (simp [rowA_nil]; done) | (simp only [rowA_eq]; rfl) | (simp_all [rowA_nil]; done))
set_option maxHeartbeats 8000000 in
theorem rgT (a b c : Int) (hv : vlX a c = 0) (hw : vlX b c = 0) (hx : (csL a c ++ csL b c).length ≤ 20) (hc : 1 ≤ c ∧ c ≤ 8) (hr : ∀ x ∈ csL a c ++ csL b c, 1 ≤ x ∧ x ≤ c) (hl1 : (csL a c).length ≤ 20) (hl2 : (csL b c).length ≤ 20) : KnownR Tryd.prog knWordKnownL 12 [.val (.int .i64 a), .val (.int .i64 b), .val (.int .i64 c)] (.tuple #[(.int .i64 (rgT_c0 a b c)), (.int .i64 ((0 : Int)))]) [] := by
  have hq0 : (vlX a c != (0 : Int)) = false := by
    rcases Bool.eq_false_or_eq_true (vlX a c != (0 : Int)) with h | h
    · exfalso; (try simp only [rgT_b2] at *); (first | (simp_all only [Bool.and_eq_true, Bool.not_eq_true', Bool.false_eq_true, Bool.true_eq_false, reduceCtorEq]; done) | (simp only [sx, sy, eq_self, ne_eq, IntKind.wrap_i64, wrapU64, Int.reduceLT] at * <;> first | contradiction | omega) | omega | ((try simp only [sx, sy, eq_self, ne_eq, IntKind.wrap_i64, wrapU64, Int.reduceLT] at *) <;> omega) | (simp_all; done))
    · exact h
  have hq1 : (vlX b c != (0 : Int)) = false := by
    rcases Bool.eq_false_or_eq_true (vlX b c != (0 : Int)) with h | h
    · exfalso; (try simp only [rgT_b2] at *); (first | (simp_all only [Bool.and_eq_true, Bool.not_eq_true', Bool.false_eq_true, Bool.true_eq_false, reduceCtorEq]; done) | (simp only [sx, sy, eq_self, ne_eq, IntKind.wrap_i64, wrapU64, Int.reduceLT] at * <;> first | contradiction | omega) | omega | ((try simp only [sx, sy, eq_self, ne_eq, IntKind.wrap_i64, wrapU64, Int.reduceLT] at *) <;> omega) | (simp_all; done))
    · exact h
  have hq2 : (rgT_b2 a b c) = true := by
    rcases Bool.eq_false_or_eq_true (rgT_b2 a b c) with h | h
    · exact h
    · exfalso; (try simp only [rgT_b2] at *); (first | (simp_all only [Bool.and_eq_true, Bool.not_eq_true', Bool.false_eq_true, Bool.true_eq_false, reduceCtorEq]; done) | (simp only [sx, sy, eq_self, ne_eq, IntKind.wrap_i64, wrapU64, Int.reduceLT] at * <;> first | contradiction | omega) | omega | ((try simp only [sx, sy, eq_self, ne_eq, IntKind.wrap_i64, wrapU64, Int.reduceLT] at *) <;> omega) | (simp_all; done))
  have e0 : rgT_c0 a b c = ((↑(orL (csL a c ++ csL b c) (0 : Nat)) : Int)) := rfl; rw [e0]; exact rgT_p0 a b c hv hw hx hc hr hl1 hl2 hq0 hq1 hq2

theorem rgE_p0 (a b c : Int) (hv : ¬ (vlX a c = 0 ∧ vlX b c = 0)) (hq0 : (vlX a c != (0 : Int)) = true) : KnownR Tryd.prog knWordKnownL 12 [.val (.int .i64 a), .val (.int .i64 b), .val (.int .i64 c)] (.tuple #[(.int .i64 ((0 : Int))), (.int .i64 ((2 : Int)))]) [] :=
  knownR_eq (v := Value.tuple { toList := [Value.int IntKind.i64 (0 : Int), Value.int IntKind.i64 (2 : Int)] }) (bs := []) (open_resD mix tabE3_ok (T := tabE3) (fuel := 3000) (es := []) (ans := [(0, .outs (Value.tuple #[Value.complex FloatKind.f64 (0 : Nat) (csL a c).length, Value.int IntKind.i64 (vlX a c)]) ([(rowA gI (csL a c), (3 : TypeId))])), (1, .outs (Value.tuple #[Value.complex FloatKind.f64 (0 : Nat) (csL b c).length, Value.int IntKind.i64 (vlX b c)]) ([(rowA gI (csL b c), (3 : TypeId))])), (2, .b 1)]) (log := [(vlX a c != (0 : Int)) = true, (GTab.lookD (tabE3) ((7 : Nat)) ([D.val (Value.int IntKind.i64 b), D.val (Value.int IntKind.i64 c)])) = some (Value.tuple #[Value.complex FloatKind.f64 (0 : Nat) (csL b c).length, Value.int IntKind.i64 (vlX b c)], [(rowA gI (csL b c), (3 : TypeId))]), (GTab.lookD (tabE3) ((7 : Nat)) ([D.val (Value.int IntKind.i64 a), D.val (Value.int IntKind.i64 c)])) = some (Value.tuple #[Value.complex FloatKind.f64 (0 : Nat) (csL a c).length, Value.int IntKind.i64 (vlX a c)], [(rowA gI (csL a c), (3 : TypeId))])]) (by kernel_rfl) ⟨hq0, (rcsD_at (b) (c)), (rcsD_at (a) (c)), trivial⟩ (by kernel_rfl)) (by first | rfl | (simp; done) | (simp_all; done)) (by first | rfl | (simp [rowA_nil]; done) | (simp only [rowA_eq]; rfl) | (simp_all [rowA_nil]; done))
theorem rgE_p1 (a b c : Int) (hv : ¬ (vlX a c = 0 ∧ vlX b c = 0)) (hq0 : (vlX a c != (0 : Int)) = false) (hq1 : (vlX b c != (0 : Int)) = true) : KnownR Tryd.prog knWordKnownL 12 [.val (.int .i64 a), .val (.int .i64 b), .val (.int .i64 c)] (.tuple #[(.int .i64 ((0 : Int))), (.int .i64 ((2 : Int)))]) [] :=
  knownR_eq (v := Value.tuple { toList := [Value.int IntKind.i64 (0 : Int), Value.int IntKind.i64 (2 : Int)] }) (bs := []) (open_resD mix tabE3_ok (T := tabE3) (fuel := 3000) (es := []) (ans := [(0, .outs (Value.tuple #[Value.complex FloatKind.f64 (0 : Nat) (csL a c).length, Value.int IntKind.i64 (vlX a c)]) ([(rowA gI (csL a c), (3 : TypeId))])), (1, .outs (Value.tuple #[Value.complex FloatKind.f64 (0 : Nat) (csL b c).length, Value.int IntKind.i64 (vlX b c)]) ([(rowA gI (csL b c), (3 : TypeId))])), (2, .b 0), (5, .b 1)]) (log := [(vlX b c != (0 : Int)) = true, (vlX a c != (0 : Int)) = false, (GTab.lookD (tabE3) ((7 : Nat)) ([D.val (Value.int IntKind.i64 b), D.val (Value.int IntKind.i64 c)])) = some (Value.tuple #[Value.complex FloatKind.f64 (0 : Nat) (csL b c).length, Value.int IntKind.i64 (vlX b c)], [(rowA gI (csL b c), (3 : TypeId))]), (GTab.lookD (tabE3) ((7 : Nat)) ([D.val (Value.int IntKind.i64 a), D.val (Value.int IntKind.i64 c)])) = some (Value.tuple #[Value.complex FloatKind.f64 (0 : Nat) (csL a c).length, Value.int IntKind.i64 (vlX a c)], [(rowA gI (csL a c), (3 : TypeId))])]) (by kernel_rfl) ⟨hq1, hq0, (rcsD_at (b) (c)), (rcsD_at (a) (c)), trivial⟩ (by kernel_rfl)) (by first | rfl | (simp; done) | (simp_all; done)) (by first | rfl | (simp [rowA_nil]; done) | (simp only [rowA_eq]; rfl) | (simp_all [rowA_nil]; done))
set_option maxHeartbeats 8000000 in
theorem rgE (a b c : Int) (hv : ¬ (vlX a c = 0 ∧ vlX b c = 0)) : KnownR Tryd.prog knWordKnownL 12 [.val (.int .i64 a), .val (.int .i64 b), .val (.int .i64 c)] (.tuple #[(.int .i64 ((0 : Int))), (.int .i64 ((2 : Int)))]) [] := by
  rcases Bool.eq_false_or_eq_true (vlX a c != (0 : Int)) with hq0 | hq0
  ·
    exact rgE_p0 a b c hv hq0
  ·
    have hq1 : (vlX b c != (0 : Int)) = true := by
      rcases Bool.eq_false_or_eq_true (vlX b c != (0 : Int)) with h | h
      · exact h
      · exfalso; (first | (simp_all only [Bool.and_eq_true, Bool.not_eq_true', Bool.false_eq_true, Bool.true_eq_false, reduceCtorEq]; done) | (simp only [sx, sy, eq_self, ne_eq, IntKind.wrap_i64, wrapU64, Int.reduceLT] at * <;> first | contradiction | omega) | omega | ((try simp only [sx, sy, eq_self, ne_eq, IntKind.wrap_i64, wrapU64, Int.reduceLT] at *) <;> omega) | (simp_all; done))
    exact rgE_p1 a b c hv hq0 hq1

end Go.Proofs.YtfpabkpmcmfbhaaDoor
