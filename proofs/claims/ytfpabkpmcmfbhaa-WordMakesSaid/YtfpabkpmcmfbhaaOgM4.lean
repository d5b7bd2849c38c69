/- Layer 33: WordMakes. -/
import Derived.Test.YtfpabkpmcmfbhaaUN33
import Derived.Test.YtfpabkpmcmfbhaaKnWordAwake
import Derived.Test.YtfpabkpmcmfbhaaFrL
namespace Go.Proofs.Ytfpabkpmcmfbhaa
open Go Go.RowKit
set_option linter.unusedVariables false
set_option linter.unusedSimpArgs false
set_option linter.unnecessarySimpa false
set_option maxHeartbeats 8000000
set_option maxRecDepth 100000
attribute [local irreducible] mkV mkE psR
theorem mkP (xs : List Int) (c : Int) (hx : xs.length ≤ 20) : KnownR Try.prog [] 18 [.list (rowA gI xs) xs.length, .val (.int .i64 c)] (.tuple #[.int .i64 (mkV xs c), .int .i64 (mkE xs c)]) ([]) := make_p xs c hx
noncomputable def mkP_A (p : List Int × Int × Nat × Unit) : List D := match p with
  | (xs, c, nn0, _) => [.list (rowA gI xs) nn0, .val (.int .i64 c)]
noncomputable def mkP_C (p : List Int × Int × Nat × Unit) : Prop := match p with
  | (xs, c, nn0, _) => (nn0 = xs.length) ∧ (xs.length ≤ 20) ∧ True
noncomputable def mkP_R (p : List Int × Int × Nat × Unit) : Value × Outs := match p with
  | (xs, c, nn0, _) => (.tuple #[.int .i64 (mkV xs c), .int .i64 (mkE xs c)], [])
theorem mkP_inj : ∀ p q, mkP_C p → mkP_C q → mkP_A p = mkP_A q → mkP_R p = mkP_R q := by
  rintro ⟨xs, c, nn0, _⟩ ⟨xs', c', nn0', _⟩ _ _ e
  simp only [mkP_A, List.cons.injEq, D.list.injEq, D.val.injEq, D.agg.injEq, Value.int.injEq, Value.bool.injEq, Value.string.injEq, Value.agg.injEq, Array.mk.injEq, and_true, true_and, gI_inj, gB_inj] at e
  simp_all
noncomputable def mkP_k : List D → Option (Value × Outs) := fnP mkP_A mkP_C mkP_R
theorem mkP_n (xs : List Int) (c : Int) (nn0 : Nat) (hn0 : nn0 = xs.length) (hx : xs.length ≤ 20) : KnownR Try.prog [] 18 [.list (rowA gI xs) nn0, .val (.int .i64 c)] (.tuple #[.int .i64 (mkV xs c), .int .i64 (mkE xs c)]) ([]) := by
  subst hn0; skip
  exact mkP _ _ hx
theorem mkP_ok : ∀ ds v bs, mkP_k ds = some (v, bs) → KnownR Try.prog [] 18 ds v bs := fnP_ok (by
  rintro ⟨xs, c, nn0, _⟩ ⟨hn0, hx, _⟩
  exact mkP_n _ _ _ hn0 hx)
theorem mkP_at (xs : List Int) (c : Int) (nn0 : Nat) (hn0 : nn0 = xs.length) (hx : xs.length ≤ 20) : mkP_k [.list (rowA gI xs) nn0, .val (.int .i64 c)] = some (.tuple #[.int .i64 (mkV xs c), .int .i64 (mkE xs c)], []) := fnP_at (p := (xs, c, nn0, ())) mkP_inj ⟨hn0, hx, trivial⟩ rfl rfl
theorem mkR (xs : List Int) (c : Int) (hx : xs.length ≤ 20) : KnownR Try.prog [] 19 [.list (rowA gI xs) xs.length, .val (.int .i64 c)] (.tuple #[.int .i64 (mkV xs c), .int .i64 (mkE xs c)]) ([]) := make_r xs c hx
noncomputable def mkR_A (p : List Int × Int × Nat × Unit) : List D := match p with
  | (xs, c, nn0, _) => [.list (rowA gI xs) nn0, .val (.int .i64 c)]
noncomputable def mkR_C (p : List Int × Int × Nat × Unit) : Prop := match p with
  | (xs, c, nn0, _) => (nn0 = xs.length) ∧ (xs.length ≤ 20) ∧ True
noncomputable def mkR_R (p : List Int × Int × Nat × Unit) : Value × Outs := match p with
  | (xs, c, nn0, _) => (.tuple #[.int .i64 (mkV xs c), .int .i64 (mkE xs c)], [])
theorem mkR_inj : ∀ p q, mkR_C p → mkR_C q → mkR_A p = mkR_A q → mkR_R p = mkR_R q := by
  rintro ⟨xs, c, nn0, _⟩ ⟨xs', c', nn0', _⟩ _ _ e
  simp only [mkR_A, List.cons.injEq, D.list.injEq, D.val.injEq, D.agg.injEq, Value.int.injEq, Value.bool.injEq, Value.string.injEq, Value.agg.injEq, Array.mk.injEq, and_true, true_and, gI_inj, gB_inj] at e
  simp_all
noncomputable def mkR_k : List D → Option (Value × Outs) := fnP mkR_A mkR_C mkR_R
theorem mkR_n (xs : List Int) (c : Int) (nn0 : Nat) (hn0 : nn0 = xs.length) (hx : xs.length ≤ 20) : KnownR Try.prog [] 19 [.list (rowA gI xs) nn0, .val (.int .i64 c)] (.tuple #[.int .i64 (mkV xs c), .int .i64 (mkE xs c)]) ([]) := by
  subst hn0; skip
  exact mkR _ _ hx
theorem mkR_ok : ∀ ds v bs, mkR_k ds = some (v, bs) → KnownR Try.prog [] 19 ds v bs := fnP_ok (by
  rintro ⟨xs, c, nn0, _⟩ ⟨hn0, hx, _⟩
  exact mkR_n _ _ _ hn0 hx)
theorem mkR_at (xs : List Int) (c : Int) (nn0 : Nat) (hn0 : nn0 = xs.length) (hx : xs.length ≤ 20) : mkR_k [.list (rowA gI xs) nn0, .val (.int .i64 c)] = some (.tuple #[.int .i64 (mkV xs c), .int .i64 (mkE xs c)], []) := fnP_at (p := (xs, c, nn0, ())) mkR_inj ⟨hn0, hx, trivial⟩ rfl rfl
theorem psP (s : ByteArray) : Known Try.prog [] 20 [.string s] (.tuple #[.int .i64 (psR s).1, .int .i64 (psR s).2.1, .int .i64 (psR s).2.2]) := parse_is s
noncomputable def psP_k : List Value → Option Value
  | [.string s] => some (.tuple #[.int .i64 (psR s).1, .int .i64 (psR s).2.1, .int .i64 (psR s).2.2])
  | _ => none
theorem psP_ok : ∀ args v, psP_k args = some v → Known Try.prog [] 20 args v := by
  intro args v h
  unfold psP_k at h
  split at h
  · injection h with h; subst h; exact psP _
  · cases h
theorem psQ (s : ByteArray) : Known Try.prog [] 21 [.string s] (.tuple #[.int .i64 (psR s).1, .int .i64 (psR s).2.1, .int .i64 (psR s).2.2]) := rarse_is s
noncomputable def psQ_k : List Value → Option Value
  | [.string s] => some (.tuple #[.int .i64 (psR s).1, .int .i64 (psR s).2.1, .int .i64 (psR s).2.2])
  | _ => none
theorem psQ_ok : ∀ args v, psQ_k args = some v → Known Try.prog [] 21 args v := by
  intro args v h
  unfold psQ_k at h
  split at h
  · injection h with h; subst h; exact psQ _
  · cases h
noncomputable def tabN : GTab := (GTab.fnD 18 mkP_k (GTab.fnD 19 mkR_k (GTab.fn1 20 psP_k (GTab.fn1 21 psQ_k (GTab.fn1 9 (fun l => match l with | [] => some (.bool true) | _ => none) GTab.none)))))
theorem tabN_ok : GOk Try.prog [] tabN := (GOk.fnD mkP_ok (GOk.fnD mkR_ok (GOk.fn1 psP_ok (GOk.fn1 psQ_ok (GOk.fn1 (known0 knWordAwake_e0) GOk.none)))))
theorem lawK_p0 (xs : List Int) (c : Int) (s : ByteArray)  (hq0 : (decide ((↑xs.length : Int) > (20 : Int))) = true) : KnownR Try.prog [] 5 [.list (rowA gI xs) xs.length, .val (.int .i64 c), .val (.string s)] (.bool (true)) [] :=
  knownR_eq (v := Value.bool true) (bs := []) (open_resD mix tabN_ok (T := tabN) (fuel := 3000) (es := []) (ans := [(0, .b 1)]) (log := [(decide ((↑xs.length : Int) > (20 : Int))) = true]) (by kernel_rfl) ⟨hq0, trivial⟩ (by kernel_rfl)) (by first | rfl | (simp; done) | (simp_all; done)) (by first | rfl | (simp [rowA_nil]; done) | (simp only [rowA_eq]; rfl) | (simp_all [rowA_nil]; done))
theorem lawK_p1 (xs : List Int) (c : Int) (s : ByteArray)  (hq0 : (decide ((↑xs.length : Int) > (20 : Int))) = false) (hq1 : (decide ((↑s.size : Int) > (20 : Int))) = true) : KnownR Try.prog [] 5 [.list (rowA gI xs) xs.length, .val (.int .i64 c), .val (.string s)] (.bool (true)) [] :=
  knownR_eq (v := Value.bool true) (bs := []) (open_resD mix tabN_ok (T := tabN) (fuel := 3000) (es := []) (ans := [(0, .b 0), (4, .b 1)]) (log := [(decide ((↑s.size : Int) > (20 : Int))) = true, (decide ((↑xs.length : Int) > (20 : Int))) = false]) (by kernel_rfl) ⟨hq1, hq0, trivial⟩ (by kernel_rfl)) (by first | rfl | (simp; done) | (simp_all; done)) (by first | rfl | (simp [rowA_nil]; done) | (simp only [rowA_eq]; rfl) | (simp_all [rowA_nil]; done))
theorem lawK_p2 (xs : List Int) (c : Int) (s : ByteArray)  (hq0 : (decide ((↑xs.length : Int) > (20 : Int))) = false) (hq1 : (decide ((↑s.size : Int) > (20 : Int))) = false) (hq2 : (mkV xs c == mkV xs c) = true) (hq3 : (mkE xs c == mkE xs c) = true) (hq4 : ((psR s).fst == (psR s).fst) = true) (hq5 : ((psR s).snd.fst == (psR s).snd.fst) = true) (hq6 : ((psR s).snd.snd == (psR s).snd.snd) = true) : KnownR Try.prog [] 5 [.list (rowA gI xs) xs.length, .val (.int .i64 c), .val (.string s)] (.bool (true)) [] :=
  knownR_eq (v := Value.bool true) (bs := []) (open_resD mix tabN_ok (T := tabN) (fuel := 3000) (es := []) (ans := [(0, .b 0), (4, .b 0), (5, .outs (Value.tuple #[Value.int IntKind.i64 (mkV xs c), Value.int IntKind.i64 (mkE xs c)]) ([])), (6, .outs (Value.tuple #[Value.int IntKind.i64 (mkV xs c), Value.int IntKind.i64 (mkE xs c)]) ([])), (9, .b 1), (13, .b 1), (17, .b 1), (21, .b 1), (25, .b 1)]) (log := [((psR s).snd.snd == (psR s).snd.snd) = true, ((psR s).snd.fst == (psR s).snd.fst) = true, ((psR s).fst == (psR s).fst) = true, (mkE xs c == mkE xs c) = true, (mkV xs c == mkV xs c) = true, (GTab.lookD (tabN) ((19 : Nat)) ([D.list (rowA gI xs) xs.length, D.val (Value.int IntKind.i64 c)])) = some (Value.tuple #[Value.int IntKind.i64 (mkV xs c), Value.int IntKind.i64 (mkE xs c)], []), (GTab.lookD (tabN) ((18 : Nat)) ([D.list (rowA gI xs) xs.length, D.val (Value.int IntKind.i64 c)])) = some (Value.tuple #[Value.int IntKind.i64 (mkV xs c), Value.int IntKind.i64 (mkE xs c)], []), (decide ((↑s.size : Int) > (20 : Int))) = false, (decide ((↑xs.length : Int) > (20 : Int))) = false]) (by kernel_rfl) ⟨hq6, hq5, hq4, hq3, hq2, (mkR_at (xs) (c) (xs.length) (by first | rfl | assumption | omega | (simp; done) | (simp_all; done) | (simp_all; omega)) (by first | rfl | assumption | omega | (simp; done) | (simp_all; done) | (simp_all; omega))), (mkP_at (xs) (c) (xs.length) (by first | rfl | assumption | omega | (simp; done) | (simp_all; done) | (simp_all; omega)) (by first | rfl | assumption | omega | (simp; done) | (simp_all; done) | (simp_all; omega))), hq1, hq0, trivial⟩ (by kernel_rfl)) (by first | rfl | (simp; done) | (simp_all; done)) (by first | rfl | (simp [rowA_nil]; done) | (simp only [rowA_eq]; rfl) | (simp_all [rowA_nil]; done))
set_option maxHeartbeats 8000000 in
theorem lawK (xs : List Int) (c : Int) (s : ByteArray)  : KnownR Try.prog [] 5 [.list (rowA gI xs) xs.length, .val (.int .i64 c), .val (.string s)] (.bool (true)) [] := by
  rcases Bool.eq_false_or_eq_true (decide ((↑xs.length : Int) > (20 : Int))) with hq0 | hq0
  ·
    exact lawK_p0 xs c s hq0
  ·
    rcases Bool.eq_false_or_eq_true (decide ((↑s.size : Int) > (20 : Int))) with hq1 | hq1
    ·
      exact lawK_p1 xs c s hq0 hq1
    ·
      have hq2 : (mkV xs c == mkV xs c) = true := by
        rcases Bool.eq_false_or_eq_true (mkV xs c == mkV xs c) with h | h
        · exact h
        · exfalso; (first | (simp_all only [Bool.and_eq_true, Bool.not_eq_true', Bool.false_eq_true, Bool.true_eq_false, reduceCtorEq]; done) | (simp only [sx, sy, eq_self, ne_eq, IntKind.wrap_i64, wrapU64, Int.reduceLT] at * <;> first | contradiction | omega) | omega | ((try simp only [sx, sy, eq_self, ne_eq, IntKind.wrap_i64, wrapU64, Int.reduceLT] at *) <;> omega) | (simp_all; done))
      have hq3 : (mkE xs c == mkE xs c) = true := by
        rcases Bool.eq_false_or_eq_true (mkE xs c == mkE xs c) with h | h
        · exact h
        · exfalso; (first | (simp_all only [Bool.and_eq_true, Bool.not_eq_true', Bool.false_eq_true, Bool.true_eq_false, reduceCtorEq]; done) | (simp only [sx, sy, eq_self, ne_eq, IntKind.wrap_i64, wrapU64, Int.reduceLT] at * <;> first | contradiction | omega) | omega | ((try simp only [sx, sy, eq_self, ne_eq, IntKind.wrap_i64, wrapU64, Int.reduceLT] at *) <;> omega) | (simp_all; done))
      have hq4 : ((psR s).fst == (psR s).fst) = true := by
        rcases Bool.eq_false_or_eq_true ((psR s).fst == (psR s).fst) with h | h
        · exact h
        · exfalso; (first | (simp_all only [Bool.and_eq_true, Bool.not_eq_true', Bool.false_eq_true, Bool.true_eq_false, reduceCtorEq]; done) | (simp only [sx, sy, eq_self, ne_eq, IntKind.wrap_i64, wrapU64, Int.reduceLT] at * <;> first | contradiction | omega) | omega | ((try simp only [sx, sy, eq_self, ne_eq, IntKind.wrap_i64, wrapU64, Int.reduceLT] at *) <;> omega) | (simp_all; done))
      have hq5 : ((psR s).snd.fst == (psR s).snd.fst) = true := by
        rcases Bool.eq_false_or_eq_true ((psR s).snd.fst == (psR s).snd.fst) with h | h
        · exact h
        · exfalso; (first | (simp_all only [Bool.and_eq_true, Bool.not_eq_true', Bool.false_eq_true, Bool.true_eq_false, reduceCtorEq]; done) | (simp only [sx, sy, eq_self, ne_eq, IntKind.wrap_i64, wrapU64, Int.reduceLT] at * <;> first | contradiction | omega) | omega | ((try simp only [sx, sy, eq_self, ne_eq, IntKind.wrap_i64, wrapU64, Int.reduceLT] at *) <;> omega) | (simp_all; done))
      have hq6 : ((psR s).snd.snd == (psR s).snd.snd) = true := by
        rcases Bool.eq_false_or_eq_true ((psR s).snd.snd == (psR s).snd.snd) with h | h
        · exact h
        · exfalso; (first | (simp_all only [Bool.and_eq_true, Bool.not_eq_true', Bool.false_eq_true, Bool.true_eq_false, reduceCtorEq]; done) | (simp only [sx, sy, eq_self, ne_eq, IntKind.wrap_i64, wrapU64, Int.reduceLT] at * <;> first | contradiction | omega) | omega | ((try simp only [sx, sy, eq_self, ne_eq, IntKind.wrap_i64, wrapU64, Int.reduceLT] at *) <;> omega) | (simp_all; done))
      exact lawK_p2 xs c s hq0 hq1 hq2 hq3 hq4 hq5 hq6

def In64 (n : Int) : Prop := -9223372036854775808 ≤ n ∧ n ≤ 9223372036854775807
theorem wordMakes_true (A0 : Option Addr) (len0 cap0 : Nat) (xs : List Int) (c : Int) (s : ByteArray) (w : World) (hl0 : xs.length = len0) (hi0 : ListIn w (rowA gI xs) len0 A0 cap0) (hw0 : ∀ m ∈ xs, rowW gI m) (_ : In64 c) :
    Calls Try.prog 5 #[.slice A0 len0 cap0, .int .i64 c, .string s] w fun e w' => e = .returned (.bool true) ∧ Below w.heap.size w w' := by
  subst hl0
  exact knownR_law (lawK xs c s) (LaidL.nil w) (.cons (.list hi0) (.cons (.val rfl) (.cons (.val rfl) .nil)))
end Go.Proofs.Ytfpabkpmcmfbhaa
