import Derived.Test.YtaogbagopdlkmaaPL
import Derived.Test.YtaogbagopdlkmaaKnPhaseKnown
import Derived.Test.YtaogbagopdlkmaaFrL
import Derived.ProofKit
import Derived.IntWalk
set_option linter.unnecessarySimpa false
set_option linter.unusedSimpArgs false
set_option linter.unusedVariables false
namespace Go.Proofs.Ytaogbagopdlkmaa
open Go Go.RowKit
set_option maxHeartbeats 8000000
set_option maxRecDepth 100000
attribute [local irreducible] ckX trN slN tkV tkE'
theorem ptkD (m d t s c a b p q : Int)  : KnownR Try.prog [] 23 [.val (.agg #[.int .i64 m, .int .i64 d, .int .i64 t, .int .i64 s, .int .i64 c]), .val (.agg #[.int .i64 a, .int .i64 b, .int .i64 p, .int .i64 q])] (.tuple #[.int .i64 (tkV m d t s c a b p q), .int .i64 (tkE' m d t s c a b p q)]) ([]) := pTick m d t s c a b p q
noncomputable def ptkD_A (p : Int × Int × Int × Int × Int × Int × Int × Int × Int × Unit) : List D := match p with
 | (m, d, t, s, c, a, b, p, q, _) => [.val (.agg #[.int .i64 m, .int .i64 d, .int .i64 t, .int .i64 s, .int .i64 c]), .val (.agg #[.int .i64 a, .int .i64 b, .int .i64 p, .int .i64 q])]
noncomputable def ptkD_C (p : Int × Int × Int × Int × Int × Int × Int × Int × Int × Unit) : Prop := match p with
 | (m, d, t, s, c, a, b, p, q, _) => True
noncomputable def ptkD_R (p : Int × Int × Int × Int × Int × Int × Int × Int × Int × Unit) : Value × Outs := match p with
 | (m, d, t, s, c, a, b, p, q, _) => (.tuple #[.int .i64 (tkV m d t s c a b p q), .int .i64 (tkE' m d t s c a b p q)], [])
theorem ptkD_inj : ∀ p q, ptkD_C p → ptkD_C q → ptkD_A p = ptkD_A q → ptkD_R p = ptkD_R q := by
 rintro ⟨m, d, t, s, c, a, b, p, q, _⟩ ⟨m', d', t', s', c', a', b', p', q', _⟩ _ _ e
 simp only [ptkD_A, List.cons.injEq, D.list.injEq, D.val.injEq, D.agg.injEq, Value.int.injEq, Value.bool.injEq, Value.string.injEq, Value.agg.injEq, Array.mk.injEq, and_true, true_and, gI_inj, gB_inj, gI_inj] at e
 simp_all
noncomputable def ptkD_k : List D → Option (Value × Outs) := fnP ptkD_A ptkD_C ptkD_R
theorem ptkD_n (m d t s c a b p q : Int)    : KnownR Try.prog [] 23 [.val (.agg #[.int .i64 m, .int .i64 d, .int .i64 t, .int .i64 s, .int .i64 c]), .val (.agg #[.int .i64 a, .int .i64 b, .int .i64 p, .int .i64 q])] (.tuple #[.int .i64 (tkV m d t s c a b p q), .int .i64 (tkE' m d t s c a b p q)]) ([]) := by
 skip
 exact ptkD _ _ _ _ _ _ _ _ _ 
theorem ptkD_ok : ∀ ds v bs, ptkD_k ds = some (v, bs) → KnownR Try.prog [] 23 ds v bs := fnP_ok (by
 rintro ⟨m, d, t, s, c, a, b, p, q, _⟩ _
 exact ptkD_n _ _ _ _ _ _ _ _ _  )
theorem ptkD_at (m d t s c a b p q : Int)    : ptkD_k [.val (.agg #[.int .i64 m, .int .i64 d, .int .i64 t, .int .i64 s, .int .i64 c]), .val (.agg #[.int .i64 a, .int .i64 b, .int .i64 p, .int .i64 q])] = some (.tuple #[.int .i64 (tkV m d t s c a b p q), .int .i64 (tkE' m d t s c a b p q)], []) := fnP_at (p := (m, d, t, s, c, a, b, p, q, ())) ptkD_inj trivial rfl rfl
theorem rtkD (m d t s c a b p q : Int) (hs : s ≤ 9223372036854775807) (hcc : c ≤ 9223372036854775807) : KnownR Try.prog [] 24 [.val (.agg #[.int .i64 m, .int .i64 d, .int .i64 t, .int .i64 s, .int .i64 c]), .val (.agg #[.int .i64 a, .int .i64 b, .int .i64 p, .int .i64 q])] (.tuple #[.int .i64 (tkV m d t s c a b p q), .int .i64 (tkE' m d t s c a b p q)]) ([]) := rTick m d t s c a b p q hs hcc
noncomputable def rtkD_A (p : Int × Int × Int × Int × Int × Int × Int × Int × Int × Unit) : List D := match p with
 | (m, d, t, s, c, a, b, p, q, _) => [.val (.agg #[.int .i64 m, .int .i64 d, .int .i64 t, .int .i64 s, .int .i64 c]), .val (.agg #[.int .i64 a, .int .i64 b, .int .i64 p, .int .i64 q])]
noncomputable def rtkD_C (p : Int × Int × Int × Int × Int × Int × Int × Int × Int × Unit) : Prop := match p with
 | (m, d, t, s, c, a, b, p, q, _) => (s ≤ 9223372036854775807) ∧ (c ≤ 9223372036854775807) ∧ True
noncomputable def rtkD_R (p : Int × Int × Int × Int × Int × Int × Int × Int × Int × Unit) : Value × Outs := match p with
 | (m, d, t, s, c, a, b, p, q, _) => (.tuple #[.int .i64 (tkV m d t s c a b p q), .int .i64 (tkE' m d t s c a b p q)], [])
theorem rtkD_inj : ∀ p q, rtkD_C p → rtkD_C q → rtkD_A p = rtkD_A q → rtkD_R p = rtkD_R q := by
 rintro ⟨m, d, t, s, c, a, b, p, q, _⟩ ⟨m', d', t', s', c', a', b', p', q', _⟩ _ _ e
 simp only [rtkD_A, List.cons.injEq, D.list.injEq, D.val.injEq, D.agg.injEq, Value.int.injEq, Value.bool.injEq, Value.string.injEq, Value.agg.injEq, Array.mk.injEq, and_true, true_and, gI_inj, gB_inj, gI_inj] at e
 simp_all
noncomputable def rtkD_k : List D → Option (Value × Outs) := fnP rtkD_A rtkD_C rtkD_R
theorem rtkD_n (m d t s c a b p q : Int)   (hs : s ≤ 9223372036854775807) (hcc : c ≤ 9223372036854775807) : KnownR Try.prog [] 24 [.val (.agg #[.int .i64 m, .int .i64 d, .int .i64 t, .int .i64 s, .int .i64 c]), .val (.agg #[.int .i64 a, .int .i64 b, .int .i64 p, .int .i64 q])] (.tuple #[.int .i64 (tkV m d t s c a b p q), .int .i64 (tkE' m d t s c a b p q)]) ([]) := by
 skip
 exact rtkD _ _ _ _ _ _ _ _ _ hs hcc
theorem rtkD_ok : ∀ ds v bs, rtkD_k ds = some (v, bs) → KnownR Try.prog [] 24 ds v bs := fnP_ok (by
 rintro ⟨m, d, t, s, c, a, b, p, q, _⟩ ⟨hs, hcc, _⟩
 exact rtkD_n _ _ _ _ _ _ _ _ _  hs hcc)
theorem rtkD_at (m d t s c a b p q : Int)   (hs : s ≤ 9223372036854775807) (hcc : c ≤ 9223372036854775807) : rtkD_k [.val (.agg #[.int .i64 m, .int .i64 d, .int .i64 t, .int .i64 s, .int .i64 c]), .val (.agg #[.int .i64 a, .int .i64 b, .int .i64 p, .int .i64 q])] = some (.tuple #[.int .i64 (tkV m d t s c a b p q), .int .i64 (tkE' m d t s c a b p q)], []) := fnP_at (p := (m, d, t, s, c, a, b, p, q, ())) rtkD_inj ⟨hs, hcc, trivial⟩ rfl rfl
noncomputable def tabB : GTab := (GTab.fnD 23 ptkD_k (GTab.fnD 24 rtkD_k (GTab.fn1 22 (fun l => match l with | [] => some (.bool true) | _ => none) GTab.none)))
theorem tabB_ok : GOk Try.prog [] tabB := (GOk.fnD ptkD_ok (GOk.fnD rtkD_ok (GOk.fn1 (known0 knPhaseKnown_e0) GOk.none)))
theorem lawB_p0 (m d t s c a b p q : Int) (hs : s ≤ 9223372036854775807) (hcc : c ≤ 9223372036854775807) (hq0 : (tkV m d t s c a b p q == tkV m d t s c a b p q) = true) (hq1 : (tkE' m d t s c a b p q == tkE' m d t s c a b p q) = true) : KnownR Try.prog [] 4 [.val (.agg #[.int .i64 m, .int .i64 d, .int .i64 t, .int .i64 s, .int .i64 c]), .val (.agg #[.int .i64 a, .int .i64 b, .int .i64 p, .int .i64 q])] (.bool (true)) [] :=
 knownR_eq (v := Value.bool true) (bs := []) (open_resD mix tabB_ok (T := tabB) (fuel := 3000) (es := []) (ans := [(0, .outs (Value.tuple #[Value.int IntKind.i64 (tkV m d t s c a b p q), Value.int IntKind.i64 (tkE' m d t s c a b p q)]) ([])), (1, .outs (Value.tuple #[Value.int IntKind.i64 (tkV m d t s c a b p q), Value.int IntKind.i64 (tkE' m d t s c a b p q)]) ([])), (2, .b 1), (6, .b 1)]) (log := [(tkE' m d t s c a b p q == tkE' m d t s c a b p q) = true, (tkV m d t s c a b p q == tkV m d t s c a b p q) = true, (GTab.lookD (tabB) ((24 : Nat)) ([D.val (Value.agg { toList := [Value.int IntKind.i64 m, Value.int IntKind.i64 d, Value.int IntKind.i64 t, Value.int IntKind.i64 s, Value.int IntKind.i64 c] }), D.val (Value.agg { toList := [Value.int IntKind.i64 a, Value.int IntKind.i64 b, Value.int IntKind.i64 p, Value.int IntKind.i64 q] })])) = some (Value.tuple #[Value.int IntKind.i64 (tkV m d t s c a b p q), Value.int IntKind.i64 (tkE' m d t s c a b p q)], []), (GTab.lookD (tabB) ((23 : Nat)) ([D.val (Value.agg { toList := [Value.int IntKind.i64 m, Value.int IntKind.i64 d, Value.int IntKind.i64 t, Value.int IntKind.i64 s, Value.int IntKind.i64 c] }), D.val (Value.agg { toList := [Value.int IntKind.i64 a, Value.int IntKind.i64 b, Value.int IntKind.i64 p, Value.int IntKind.i64 q] })])) = some (Value.tuple #[Value.int IntKind.i64 (tkV m d t s c a b p q), Value.int IntKind.i64 (tkE' m d t s c a b p q)], [])]) (by kernel_rfl) ⟨hq1, hq0, (rtkD_at (m) (d) (t) (s) (c) (a) (b) (p) (q) (by first | rfl | assumption | omega | (simp; done) | (simp_all; done) | (simp_all; omega)) (by first | rfl | assumption | omega | (simp; done) | (simp_all; done) | (simp_all; omega))), (ptkD_at (m) (d) (t) (s) (c) (a) (b) (p) (q)), trivial⟩ (by kernel_rfl)) (by first | rfl | (simp; done) | (simp_all; done)) (by first | rfl | (simp [rowA_nil]; done) | (simp only [rowA_eq]; rfl) | (simp_all [rowA_nil]; done))
set_option maxHeartbeats 8000000 in
theorem lawB (m d t s c a b p q : Int) (hs : s ≤ 9223372036854775807) (hcc : c ≤ 9223372036854775807) : KnownR Try.prog [] 4 [.val (.agg #[.int .i64 m, .int .i64 d, .int .i64 t, .int .i64 s, .int .i64 c]), .val (.agg #[.int .i64 a, .int .i64 b, .int .i64 p, .int .i64 q])] (.bool (true)) [] := by
 have hq0 : (tkV m d t s c a b p q == tkV m d t s c a b p q) = true := by
  rcases Bool.eq_false_or_eq_true (tkV m d t s c a b p q == tkV m d t s c a b p q) with h | h
  ·exact h
  ·exfalso; (first | (simp_all only [Bool.and_eq_true, Bool.not_eq_true', Bool.false_eq_true, Bool.true_eq_false, reduceCtorEq]; done) | (simp only [sx, sy, eq_self, ne_eq, IntKind.wrap_i64, wrapU64, Int.reduceLT] at * <;> first | with_reducible contradiction | omega) | omega | ((try simp only [sx, sy, eq_self, ne_eq, IntKind.wrap_i64, wrapU64, Int.reduceLT] at *) <;> omega) | (simp_all; done))
 have hq1 : (tkE' m d t s c a b p q == tkE' m d t s c a b p q) = true := by
  rcases Bool.eq_false_or_eq_true (tkE' m d t s c a b p q == tkE' m d t s c a b p q) with h | h
  ·exact h
  ·exfalso; (first | (simp_all only [Bool.and_eq_true, Bool.not_eq_true', Bool.false_eq_true, Bool.true_eq_false, reduceCtorEq]; done) | (simp only [sx, sy, eq_self, ne_eq, IntKind.wrap_i64, wrapU64, Int.reduceLT] at * <;> first | with_reducible contradiction | omega) | omega | ((try simp only [sx, sy, eq_self, ne_eq, IntKind.wrap_i64, wrapU64, Int.reduceLT] at *) <;> omega) | (simp_all; done))
 exact lawB_p0 m d t s c a b p q hs hcc hq0 hq1
def In64 (n : Int) : Prop := -9223372036854775808 ≤ n ∧ n ≤ 9223372036854775807
theorem phaseBacks_true (m d t s c a b p q : Int) (w : World) (_ : In64 m) (_ : In64 d) (_ : In64 t) (h3 : In64 s) (h4 : In64 c) (_ : In64 a) (_ : In64 b) (_ : In64 p) (_ : In64 q) :
  Calls Try.prog 4 #[.agg #[.int .i64 m, .int .i64 d, .int .i64 t, .int .i64 s, .int .i64 c], .agg #[.int .i64 a, .int .i64 b, .int .i64 p, .int .i64 q]] w fun e w' => e = .returned (.bool true) ∧ Below w.heap.size w w' :=
 knownR_law (lawB m d t s c a b p q h3.2 h4.2) (LaidL.nil w) (.cons (.val rfl) (.cons (.val rfl) .nil))
end Go.Proofs.Ytaogbagopdlkmaa
