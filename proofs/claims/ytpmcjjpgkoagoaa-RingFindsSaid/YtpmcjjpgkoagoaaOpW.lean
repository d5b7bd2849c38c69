/- Layer 5: RingFinds. -/
import Derived.Test.YtpmcjjpgkoagoaaOpT
import Derived.ProofKit
import Derived.IntWalk
namespace Go.Proofs.Ytpmcjjpgkoagoaa
open Go Go.RowKit
set_option linter.unusedVariables false
set_option linter.unusedSimpArgs false
set_option linter.unnecessarySimpa false
set_option maxHeartbeats 8000000
set_option maxRecDepth 100000
def nL : List Hel := []
theorem putN {c m : Int} {l : List Hel} {x : Int} (hk : ckX c m l = 0) (hr : (l.length : Int) = c) : KnownR Try.prog [] 25 [.agg [.val (.int .i64 c), .val (.int .u64 m), .list (rowA gH l) l.length], .val (.int .i64 x)] (.tuple #[.agg #[.int .i64 0, .int .u64 0, .complex .f64 0 nL.length], .int .u64 0, .int .i64 5]) [(rowA gH nL, 35)] := by
  have k := pput_is c m l x
  have e : ptX c m l = 5 := by unfold ptX; rw [if_pos hk, if_pos hr]
  have e2 : ptR c m l x = [] := by unfold ptR; rw [e]; rfl
  unfold ptV at k
  rw [e2] at k
  simp only [e] at k
  exact k
attribute [local irreducible] agO modO wN mL mG mM ckX fiX fiI ixN pL dcL
theorem puH (c m : Int) (l : List Hel) (x : Int) (hk : ckX c m l = 0) (hr : (l.length : Int) = c) : KnownR Try.prog [] 25 [.agg [.val (.int .i64 c), .val (.int .u64 m), .list (rowA gH l) l.length], .val (.int .i64 x)] (.tuple #[.agg #[.int .i64 0, .int .u64 0, .complex .f64 0 nL.length], .int .u64 0, .int .i64 5]) ([(rowA gH nL, 35)]) := putN hk hr
noncomputable def puH_A (p : Int × Int × List Hel × Int × Nat × Unit) : List D := match p with
  | (c, m, l, x, nn0, _) => [.agg [.val (.int .i64 c), .val (.int .u64 m), .list (rowA gH l) nn0], .val (.int .i64 x)]
noncomputable def puH_C (p : Int × Int × List Hel × Int × Nat × Unit) : Prop := match p with
  | (c, m, l, x, nn0, _) => (nn0 = l.length) ∧ (ckX c m l = 0) ∧ ((l.length : Int) = c) ∧ True
noncomputable def puH_R (p : Int × Int × List Hel × Int × Nat × Unit) : Value × Outs := match p with
  | (c, m, l, x, nn0, _) => (.tuple #[.agg #[.int .i64 0, .int .u64 0, .complex .f64 0 nL.length], .int .u64 0, .int .i64 5], [(rowA gH nL, 35)])
theorem puH_inj : ∀ p q, puH_C p → puH_C q → puH_A p = puH_A q → puH_R p = puH_R q := by
  rintro ⟨c, m, l, x, nn0, _⟩ ⟨c', m', l', x', nn0', _⟩ _ _ e
  simp only [puH_A, List.cons.injEq, D.list.injEq, D.val.injEq, D.agg.injEq, Value.int.injEq, Value.bool.injEq, Value.string.injEq, Value.agg.injEq, Array.mk.injEq, and_true, true_and, gI_inj, gB_inj, gH_inj, gN_inj] at e
  simp_all
noncomputable def puH_k : List D → Option (Value × Outs) := fnP puH_A puH_C puH_R
theorem puH_n (c m : Int) (l : List Hel) (x : Int) (nn0 : Nat) (hn0 : nn0 = l.length) (hk : ckX c m l = 0) (hr : (l.length : Int) = c) : KnownR Try.prog [] 25 [.agg [.val (.int .i64 c), .val (.int .u64 m), .list (rowA gH l) nn0], .val (.int .i64 x)] (.tuple #[.agg #[.int .i64 0, .int .u64 0, .complex .f64 0 nL.length], .int .u64 0, .int .i64 5]) ([(rowA gH nL, 35)]) := by
  subst hn0; skip
  exact puH _ _ _ _ hk hr
theorem puH_ok : ∀ ds v bs, puH_k ds = some (v, bs) → KnownR Try.prog [] 25 ds v bs := fnP_ok (by
  rintro ⟨c, m, l, x, nn0, _⟩ ⟨hn0, hk, hr, _⟩
  exact puH_n _ _ _ _ _ hn0 hk hr)
theorem puH_at (c m : Int) (l : List Hel) (x : Int) (nn0 : Nat) (hn0 : nn0 = l.length) (hk : ckX c m l = 0) (hr : (l.length : Int) = c) : puH_k [.agg [.val (.int .i64 c), .val (.int .u64 m), .list (rowA gH l) nn0], .val (.int .i64 x)] = some (.tuple #[.agg #[.int .i64 0, .int .u64 0, .complex .f64 0 nL.length], .int .u64 0, .int .i64 5], [(rowA gH nL, 35)]) := fnP_at (p := (c, m, l, x, nn0, ())) puH_inj ⟨hn0, hk, hr, trivial⟩ rfl rfl
noncomputable def tabG : GTab := (GTab.fnD 36 maD_k (GTab.fnD 25 puH_k (GTab.fn1 5 (fun l => match l with | [] => some (.bool true) | _ => none) GTab.none)))
theorem tabG_ok : GOk Try.prog [] tabG := (GOk.fnD maD_ok (GOk.fnD puH_ok (GOk.fn1 (known0 knRingKnown_e1) GOk.none)))
theorem rfC_p0 (n : Int) (xs : List Int) (v u : Int) (hk : ckX (wN n) (mM n xs) (mL n xs) = 0) (hr : ((mL n xs).length : Int) = (wN n)) (hq0 : ((↑(mL n xs).length : Int) == wN n) = true) : KnownR Try.prog [] 7 [.val (.int .i64 n), .list (rowA gI xs) xs.length, .val (.int .i64 v), .val (.int .i64 u)] (.bool (true)) [] :=
  knownR_eq (v := Value.bool true) (bs := []) (open_resD mix tabG_ok (T := tabG) (fuel := 3000) (es := []) (ans := [(1, .outs (Value.tuple #[Value.agg #[Value.int IntKind.i64 (wN n), Value.int IntKind.u64 (mM n xs), Value.complex FloatKind.f64 (0 : Nat) (mL n xs).length], Value.complex FloatKind.f64 (1 : Nat) (mG n xs).length, Value.bool true]) ([(rowA gH (mL n xs), (35 : TypeId)), (rowA gN (mG n xs), (22 : TypeId))])), (3, .outs (Value.tuple #[Value.agg #[Value.int IntKind.i64 (0 : Int), Value.int IntKind.u64 (0 : Int), Value.complex FloatKind.f64 (0 : Nat) nL.length], Value.int IntKind.u64 (0 : Int), Value.int IntKind.i64 (5 : Int)]) ([(rowA gH nL, (35 : TypeId))])), (4, .b 1)]) (log := [((↑(mL n xs).length : Int) == wN n) = true, (GTab.lookD (tabG) ((25 : Nat)) ([D.agg [D.val (Value.int IntKind.i64 (wN n)), D.val (Value.int IntKind.u64 (mM n xs)), D.list (rowA gH (mL n xs)) (mL n xs).length], D.val (Value.int IntKind.i64 v)])) = some (Value.tuple #[Value.agg #[Value.int IntKind.i64 (0 : Int), Value.int IntKind.u64 (0 : Int), Value.complex FloatKind.f64 (0 : Nat) nL.length], Value.int IntKind.u64 (0 : Int), Value.int IntKind.i64 (5 : Int)], [(rowA gH nL, (35 : TypeId))]), (GTab.lookD (tabG) ((36 : Nat)) ([D.val (Value.int IntKind.i64 n), D.list (rowA gI xs) xs.length])) = some (Value.tuple #[Value.agg #[Value.int IntKind.i64 (wN n), Value.int IntKind.u64 (mM n xs), Value.complex FloatKind.f64 (0 : Nat) (mL n xs).length], Value.complex FloatKind.f64 (1 : Nat) (mG n xs).length, Value.bool true], [(rowA gH (mL n xs), (35 : TypeId)), (rowA gN (mG n xs), (22 : TypeId))])]) (by kernel_rfl) ⟨hq0, (puH_at (wN n) (mM n xs) (mL n xs) (v) ((mL n xs).length) (by first | rfl | assumption | omega | (simp; done) | (simp_all; done) | (simp_all; omega)) (by first | rfl | assumption | omega | (simp; done) | (simp_all; done) | (simp_all; omega)) (by first | rfl | assumption | omega | (simp; done) | (simp_all; done) | (simp_all; omega))), (maD_at (n) (xs) (xs.length) (by first | rfl | assumption | omega | (simp; done) | (simp_all; done) | (simp_all; omega))), trivial⟩ (by kernel_rfl)) (by first | rfl | (simp; done) | (simp_all; done)) (by first | rfl | (simp [rowA_nil]; done) | (simp only [rowA_eq]; rfl) | (simp_all [rowA_nil]; done))
set_option maxHeartbeats 8000000 in
theorem rfC (n : Int) (xs : List Int) (v u : Int) (hk : ckX (wN n) (mM n xs) (mL n xs) = 0) (hr : ((mL n xs).length : Int) = (wN n)) : KnownR Try.prog [] 7 [.val (.int .i64 n), .list (rowA gI xs) xs.length, .val (.int .i64 v), .val (.int .i64 u)] (.bool (true)) [] := by
  have hq0 : ((↑(mL n xs).length : Int) == wN n) = true := by
    rcases Bool.eq_false_or_eq_true ((↑(mL n xs).length : Int) == wN n) with h | h
    · exact h
    · exfalso; (first | (simp_all only [Bool.and_eq_true, Bool.not_eq_true', Bool.false_eq_true, Bool.true_eq_false, reduceCtorEq]; done) | (simp only [sx, sy, eq_self, ne_eq, IntKind.wrap_i64, wrapU64, Int.reduceLT] at * <;> first | contradiction | omega) | omega | ((try simp only [sx, sy, eq_self, ne_eq, IntKind.wrap_i64, wrapU64, Int.reduceLT] at *) <;> omega) | (simp_all; done))
  exact rfC_p0 n xs v u hk hr hq0

end Go.Proofs.Ytpmcjjpgkoagoaa

