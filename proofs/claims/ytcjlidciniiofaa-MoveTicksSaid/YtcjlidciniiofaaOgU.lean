/- Layer 15: MoveTicks. -/
import Derived.Test.YtcjlidciniiofaaOgT
import Derived.Test.YtcjlidciniiofaaKnMoveKnown
namespace Go.Proofs.Ytcjlidciniiofaa
open Go Go.RowKit
set_option linter.unusedVariables false
set_option linter.unusedSimpArgs false
set_option linter.unnecessarySimpa false
set_option maxHeartbeats 8000000
set_option maxRecDepth 100000
theorem tk_eq (gs : List Int) (s b : Int) : rvT_c0 gs s b = mvT_c0 gs s b ∧ rvT_c1 gs s b = mvT_c1 gs s b := by
  unfold rvT_c0 rvT_c1 mvT_c0 mvT_c1
  rcases Bool.eq_false_or_eq_true (ckE gs == (0 : Int)) with h | h
  · rw [show (ckE gs != (0 : Int)) = false by simp only [bne, h, Bool.not_true], h]
    exact ⟨rfl, rfl⟩
  · rw [show (ckE gs != (0 : Int)) = true by simp only [bne, h, Bool.not_false], h]
    exact ⟨rfl, rfl⟩
theorem tk_p (gs : List Int) (s b : Int) (hx : gs.length ≤ 70) : KnownR Try.prog [] 8 [.list (rowA gI gs) gs.length, .val (.int .i64 s), .val (.int .i64 b)] (.tuple #[.int .i64 (mvT_c0 gs s b), .int .i64 (mvT_c1 gs s b)]) [] := mvT gs s b hx (ht_range gs)
theorem tk_r (gs : List Int) (s b : Int) (hx : gs.length ≤ 70) : KnownR Try.prog [] 9 [.list (rowA gI gs) gs.length, .val (.int .i64 s), .val (.int .i64 b)] (.tuple #[.int .i64 (mvT_c0 gs s b), .int .i64 (mvT_c1 gs s b)]) [] := by
  obtain ⟨e0, e1⟩ := tk_eq gs s b
  rw [← e0, ← e1]
  exact rvT gs s b hx (ht_range gs)
theorem tpD (gs : List Int) (s b : Int) (hx : gs.length ≤ 70) : KnownR Try.prog [] 8 [.list (rowA gI gs) gs.length, .val (.int .i64 s), .val (.int .i64 b)] (.tuple #[.int .i64 (mvT_c0 gs s b), .int .i64 (mvT_c1 gs s b)]) ([]) := tk_p gs s b hx
noncomputable def tpD_A (p : List Int × Int × Int × Nat × Unit) : List D := match p with
  | (gs, s, b, nn0, _) => [.list (rowA gI gs) nn0, .val (.int .i64 s), .val (.int .i64 b)]
noncomputable def tpD_C (p : List Int × Int × Int × Nat × Unit) : Prop := match p with
  | (gs, s, b, nn0, _) => (nn0 = gs.length) ∧ (gs.length ≤ 70) ∧ True
noncomputable def tpD_R (p : List Int × Int × Int × Nat × Unit) : Value × Outs := match p with
  | (gs, s, b, nn0, _) => (.tuple #[.int .i64 (mvT_c0 gs s b), .int .i64 (mvT_c1 gs s b)], [])
theorem tpD_inj : ∀ p q, tpD_C p → tpD_C q → tpD_A p = tpD_A q → tpD_R p = tpD_R q := by
  rintro ⟨gs, s, b, nn0, _⟩ ⟨gs', s', b', nn0', _⟩ _ _ e
  simp only [tpD_A, List.cons.injEq, D.list.injEq, D.val.injEq, D.agg.injEq, Value.int.injEq, Value.bool.injEq, Value.string.injEq, Value.agg.injEq, Array.mk.injEq, and_true, true_and, gI_inj, gB_inj] at e
  simp_all
noncomputable def tpD_k : List D → Option (Value × Outs) := fnP tpD_A tpD_C tpD_R
theorem tpD_n (gs : List Int) (s b : Int) (nn0 : Nat) (hn0 : nn0 = gs.length) (hx : gs.length ≤ 70) : KnownR Try.prog [] 8 [.list (rowA gI gs) nn0, .val (.int .i64 s), .val (.int .i64 b)] (.tuple #[.int .i64 (mvT_c0 gs s b), .int .i64 (mvT_c1 gs s b)]) ([]) := by
  subst hn0; skip
  exact tpD _ _ _ hx
theorem tpD_ok : ∀ ds v bs, tpD_k ds = some (v, bs) → KnownR Try.prog [] 8 ds v bs := fnP_ok (by
  rintro ⟨gs, s, b, nn0, _⟩ ⟨hn0, hx, _⟩
  exact tpD_n _ _ _ _ hn0 hx)
theorem tpD_at (gs : List Int) (s b : Int) (nn0 : Nat) (hn0 : nn0 = gs.length) (hx : gs.length ≤ 70) : tpD_k [.list (rowA gI gs) nn0, .val (.int .i64 s), .val (.int .i64 b)] = some (.tuple #[.int .i64 (mvT_c0 gs s b), .int .i64 (mvT_c1 gs s b)], []) := fnP_at (p := (gs, s, b, nn0, ())) tpD_inj ⟨hn0, hx, trivial⟩ rfl rfl
theorem trD (gs : List Int) (s b : Int) (hx : gs.length ≤ 70) : KnownR Try.prog [] 9 [.list (rowA gI gs) gs.length, .val (.int .i64 s), .val (.int .i64 b)] (.tuple #[.int .i64 (mvT_c0 gs s b), .int .i64 (mvT_c1 gs s b)]) ([]) := tk_r gs s b hx
noncomputable def trD_A (p : List Int × Int × Int × Nat × Unit) : List D := match p with
  | (gs, s, b, nn0, _) => [.list (rowA gI gs) nn0, .val (.int .i64 s), .val (.int .i64 b)]
noncomputable def trD_C (p : List Int × Int × Int × Nat × Unit) : Prop := match p with
  | (gs, s, b, nn0, _) => (nn0 = gs.length) ∧ (gs.length ≤ 70) ∧ True
noncomputable def trD_R (p : List Int × Int × Int × Nat × Unit) : Value × Outs := match p with
  | (gs, s, b, nn0, _) => (.tuple #[.int .i64 (mvT_c0 gs s b), .int .i64 (mvT_c1 gs s b)], [])
theorem trD_inj : ∀ p q, trD_C p → trD_C q → trD_A p = trD_A q → trD_R p = trD_R q := by
  rintro ⟨gs, s, b, nn0, _⟩ ⟨gs', s', b', nn0', _⟩ _ _ e
  simp only [trD_A, List.cons.injEq, D.list.injEq, D.val.injEq, D.agg.injEq, Value.int.injEq, Value.bool.injEq, Value.string.injEq, Value.agg.injEq, Array.mk.injEq, and_true, true_and, gI_inj, gB_inj] at e
  simp_all
noncomputable def trD_k : List D → Option (Value × Outs) := fnP trD_A trD_C trD_R
theorem trD_n (gs : List Int) (s b : Int) (nn0 : Nat) (hn0 : nn0 = gs.length) (hx : gs.length ≤ 70) : KnownR Try.prog [] 9 [.list (rowA gI gs) nn0, .val (.int .i64 s), .val (.int .i64 b)] (.tuple #[.int .i64 (mvT_c0 gs s b), .int .i64 (mvT_c1 gs s b)]) ([]) := by
  subst hn0; skip
  exact trD _ _ _ hx
theorem trD_ok : ∀ ds v bs, trD_k ds = some (v, bs) → KnownR Try.prog [] 9 ds v bs := fnP_ok (by
  rintro ⟨gs, s, b, nn0, _⟩ ⟨hn0, hx, _⟩
  exact trD_n _ _ _ _ hn0 hx)
theorem trD_at (gs : List Int) (s b : Int) (nn0 : Nat) (hn0 : nn0 = gs.length) (hx : gs.length ≤ 70) : trD_k [.list (rowA gI gs) nn0, .val (.int .i64 s), .val (.int .i64 b)] = some (.tuple #[.int .i64 (mvT_c0 gs s b), .int .i64 (mvT_c1 gs s b)], []) := fnP_at (p := (gs, s, b, nn0, ())) trD_inj ⟨hn0, hx, trivial⟩ rfl rfl
attribute [local irreducible] mvT_c0 mvT_c1
noncomputable def tabL : GTab := (GTab.fnD 8 tpD_k (GTab.fnD 9 trD_k (GTab.fn1 7 (fun l => match l with | [] => some (.bool true) | _ => none) GTab.none)))
theorem tabL_ok : GOk Try.prog [] tabL := (GOk.fnD tpD_ok (GOk.fnD trD_ok (GOk.fn1 (known0 knMoveKnown_e0) GOk.none)))
theorem lawT_p0 (gs : List Int) (s b : Int)  (hq0 : (decide ((↑gs.length : Int) > (70 : Int))) = true) : KnownR Try.prog [] 3 [.list (rowA gI gs) gs.length, .val (.int .i64 s), .val (.int .i64 b)] (.bool (true)) [] :=
  knownR_eq (v := Value.bool true) (bs := []) (open_resD mix tabL_ok (T := tabL) (fuel := 3000) (es := []) (ans := [(0, .b 1)]) (log := [(decide ((↑gs.length : Int) > (70 : Int))) = true]) (by kernel_rfl) ⟨hq0, trivial⟩ (by kernel_rfl)) (by first | rfl | (simp; done) | (simp_all; done)) (by first | rfl | (simp [rowA_nil]; done) | (simp only [rowA_eq]; rfl) | (simp_all [rowA_nil]; done))
theorem lawT_p1 (gs : List Int) (s b : Int)  (hq0 : (decide ((↑gs.length : Int) > (70 : Int))) = false) (hq1 : (mvT_c0 gs s b == mvT_c0 gs s b) = true) (hq2 : (mvT_c1 gs s b == mvT_c1 gs s b) = true) : KnownR Try.prog [] 3 [.list (rowA gI gs) gs.length, .val (.int .i64 s), .val (.int .i64 b)] (.bool (true)) [] :=
  knownR_eq (v := Value.bool true) (bs := []) (open_resD mix tabL_ok (T := tabL) (fuel := 3000) (es := []) (ans := [(0, .b 0), (1, .outs (Value.tuple #[Value.int IntKind.i64 (mvT_c0 gs s b), Value.int IntKind.i64 (mvT_c1 gs s b)]) ([])), (2, .outs (Value.tuple #[Value.int IntKind.i64 (mvT_c0 gs s b), Value.int IntKind.i64 (mvT_c1 gs s b)]) ([])), (3, .b 1), (7, .b 1)]) (log := [(mvT_c1 gs s b == mvT_c1 gs s b) = true, (mvT_c0 gs s b == mvT_c0 gs s b) = true, (GTab.lookD (tabL) ((9 : Nat)) ([D.list (rowA gI gs) gs.length, D.val (Value.int IntKind.i64 s), D.val (Value.int IntKind.i64 b)])) = some (Value.tuple #[Value.int IntKind.i64 (mvT_c0 gs s b), Value.int IntKind.i64 (mvT_c1 gs s b)], []), (GTab.lookD (tabL) ((8 : Nat)) ([D.list (rowA gI gs) gs.length, D.val (Value.int IntKind.i64 s), D.val (Value.int IntKind.i64 b)])) = some (Value.tuple #[Value.int IntKind.i64 (mvT_c0 gs s b), Value.int IntKind.i64 (mvT_c1 gs s b)], []), (decide ((↑gs.length : Int) > (70 : Int))) = false]) (by kernel_rfl) ⟨hq2, hq1, (trD_at (gs) (s) (b) (gs.length) (by first | rfl | assumption | omega | (simp; done) | (simp_all; done) | (simp_all; omega)) (by first | rfl | assumption | omega | (simp; done) | (simp_all; done) | (simp_all; omega))), (tpD_at (gs) (s) (b) (gs.length) (by first | rfl | assumption | omega | (simp; done) | (simp_all; done) | (simp_all; omega)) (by first | rfl | assumption | omega | (simp; done) | (simp_all; done) | (simp_all; omega))), hq0, trivial⟩ (by kernel_rfl)) (by first | rfl | (simp; done) | (simp_all; done)) (by first | rfl | (simp [rowA_nil]; done) | (simp only [rowA_eq]; rfl) | (simp_all [rowA_nil]; done))
set_option maxHeartbeats 8000000 in
theorem lawT (gs : List Int) (s b : Int)  : KnownR Try.prog [] 3 [.list (rowA gI gs) gs.length, .val (.int .i64 s), .val (.int .i64 b)] (.bool (true)) [] := by
  rcases Bool.eq_false_or_eq_true (decide ((↑gs.length : Int) > (70 : Int))) with hq0 | hq0
  ·
    exact lawT_p0 gs s b hq0
  ·
    have hq1 : (mvT_c0 gs s b == mvT_c0 gs s b) = true := by
      rcases Bool.eq_false_or_eq_true (mvT_c0 gs s b == mvT_c0 gs s b) with h | h
      · exact h
      · exfalso; (first | (simp_all only [Bool.and_eq_true, Bool.not_eq_true', Bool.false_eq_true, Bool.true_eq_false, reduceCtorEq]; done) | (simp only [sx, sy, eq_self, ne_eq, IntKind.wrap_i64, wrapU64, Int.reduceLT] at * <;> first | contradiction | omega) | omega | ((try simp only [sx, sy, eq_self, ne_eq, IntKind.wrap_i64, wrapU64, Int.reduceLT] at *) <;> omega) | (simp_all; done))
    have hq2 : (mvT_c1 gs s b == mvT_c1 gs s b) = true := by
      rcases Bool.eq_false_or_eq_true (mvT_c1 gs s b == mvT_c1 gs s b) with h | h
      · exact h
      · exfalso; (first | (simp_all only [Bool.and_eq_true, Bool.not_eq_true', Bool.false_eq_true, Bool.true_eq_false, reduceCtorEq]; done) | (simp only [sx, sy, eq_self, ne_eq, IntKind.wrap_i64, wrapU64, Int.reduceLT] at * <;> first | contradiction | omega) | omega | ((try simp only [sx, sy, eq_self, ne_eq, IntKind.wrap_i64, wrapU64, Int.reduceLT] at *) <;> omega) | (simp_all; done))
    exact lawT_p1 gs s b hq0 hq1 hq2

theorem moveTicks_true (A0 : Option Addr) (len0 cap0 : Nat) (gs : List Int) (s b : Int) (w : World) (hl0 : gs.length = len0) (hi0 : ListIn w (rowA gI gs) len0 A0 cap0) (hw0 : ∀ m ∈ gs, rowW gI m) (_ : In64 s) (_ : In64 b) :
    Calls Try.prog 3 #[.slice A0 len0 cap0, .int .i64 s, .int .i64 b] w fun e w' => e = .returned (.bool true) ∧ Below w.heap.size w w' := by
  subst hl0
  exact knownR_law (lawT gs s b) (LaidL.nil w) (.cons (.list hi0) (.cons (.val rfl) (.cons (.val rfl) .nil)))
end Go.Proofs.Ytcjlidciniiofaa
