import Derived.Test.YtaogbagopdlkmaaPG
import Derived.ProofKit
import Derived.IntWalk
set_option linter.unnecessarySimpa false
set_option linter.unusedSimpArgs false
set_option linter.unusedVariables false
namespace Go.Proofs.Ytaogbagopdlkmaa
open Go Go.RowKit
set_option maxHeartbeats 8000000
set_option maxRecDepth 100000
attribute [local irreducible] ckX trN slN phA phB phC phF phE
theorem poD (m d t s c x : Int)  : KnownR Try.prog [] 16 [.val (.agg #[.int .i64 m, .int .i64 d, .int .i64 t, .int .i64 s, .int .i64 c]), .val (.int .i64 x)] (.tuple #[.agg #[.int .i64 (phA m d t s c x), .int .i64 (phB m d t s c x), .int .i64 (phC m d t s c x), .int .i64 (phF m d t s c x)], .int .i64 (phE m d t s c x)]) ([]) := pOf m d t s c x
noncomputable def poD_A (p : Int × Int × Int × Int × Int × Int × Unit) : List D := match p with
 | (m, d, t, s, c, x, _) => [.val (.agg #[.int .i64 m, .int .i64 d, .int .i64 t, .int .i64 s, .int .i64 c]), .val (.int .i64 x)]
noncomputable def poD_C (p : Int × Int × Int × Int × Int × Int × Unit) : Prop := match p with
 | (m, d, t, s, c, x, _) => True
noncomputable def poD_R (p : Int × Int × Int × Int × Int × Int × Unit) : Value × Outs := match p with
 | (m, d, t, s, c, x, _) => (.tuple #[.agg #[.int .i64 (phA m d t s c x), .int .i64 (phB m d t s c x), .int .i64 (phC m d t s c x), .int .i64 (phF m d t s c x)], .int .i64 (phE m d t s c x)], [])
theorem poD_inj : ∀ p q, poD_C p → poD_C q → poD_A p = poD_A q → poD_R p = poD_R q := by
 rintro ⟨m, d, t, s, c, x, _⟩ ⟨m', d', t', s', c', x', _⟩ _ _ e
 simp only [poD_A, List.cons.injEq, D.list.injEq, D.val.injEq, D.agg.injEq, Value.int.injEq, Value.bool.injEq, Value.string.injEq, Value.agg.injEq, Array.mk.injEq, and_true, true_and, gI_inj, gB_inj, gQ_inj] at e
 simp_all
noncomputable def poD_k : List D → Option (Value × Outs) := fnP poD_A poD_C poD_R
theorem poD_n (m d t s c x : Int)    : KnownR Try.prog [] 16 [.val (.agg #[.int .i64 m, .int .i64 d, .int .i64 t, .int .i64 s, .int .i64 c]), .val (.int .i64 x)] (.tuple #[.agg #[.int .i64 (phA m d t s c x), .int .i64 (phB m d t s c x), .int .i64 (phC m d t s c x), .int .i64 (phF m d t s c x)], .int .i64 (phE m d t s c x)]) ([]) := by
 skip
 exact poD _ _ _ _ _ _ 
theorem poD_ok : ∀ ds v bs, poD_k ds = some (v, bs) → KnownR Try.prog [] 16 ds v bs := fnP_ok (by
 rintro ⟨m, d, t, s, c, x, _⟩ _
 exact poD_n _ _ _ _ _ _  )
theorem poD_at (m d t s c x : Int)    : poD_k [.val (.agg #[.int .i64 m, .int .i64 d, .int .i64 t, .int .i64 s, .int .i64 c]), .val (.int .i64 x)] = some (.tuple #[.agg #[.int .i64 (phA m d t s c x), .int .i64 (phB m d t s c x), .int .i64 (phC m d t s c x), .int .i64 (phF m d t s c x)], .int .i64 (phE m d t s c x)], []) := fnP_at (p := (m, d, t, s, c, x, ())) poD_inj trivial rfl rfl
theorem roD (m d t s c x : Int) (hs : s ≤ 9223372036854775807) (hcc : c ≤ 9223372036854775807) : KnownR Try.prog [] 17 [.val (.agg #[.int .i64 m, .int .i64 d, .int .i64 t, .int .i64 s, .int .i64 c]), .val (.int .i64 x)] (.tuple #[.agg #[.int .i64 (phA m d t s c x), .int .i64 (phB m d t s c x), .int .i64 (phC m d t s c x), .int .i64 (phF m d t s c x)], .int .i64 (phE m d t s c x)]) ([]) := rOf m d t s c x hs hcc
noncomputable def roD_A (p : Int × Int × Int × Int × Int × Int × Unit) : List D := match p with
 | (m, d, t, s, c, x, _) => [.val (.agg #[.int .i64 m, .int .i64 d, .int .i64 t, .int .i64 s, .int .i64 c]), .val (.int .i64 x)]
noncomputable def roD_C (p : Int × Int × Int × Int × Int × Int × Unit) : Prop := match p with
 | (m, d, t, s, c, x, _) => (s ≤ 9223372036854775807) ∧ (c ≤ 9223372036854775807) ∧ True
noncomputable def roD_R (p : Int × Int × Int × Int × Int × Int × Unit) : Value × Outs := match p with
 | (m, d, t, s, c, x, _) => (.tuple #[.agg #[.int .i64 (phA m d t s c x), .int .i64 (phB m d t s c x), .int .i64 (phC m d t s c x), .int .i64 (phF m d t s c x)], .int .i64 (phE m d t s c x)], [])
noncomputable def roD_k : List D → Option (Value × Outs) := fnP roD_A roD_C roD_R
theorem roD_n (m d t s c x : Int)   (hs : s ≤ 9223372036854775807) (hcc : c ≤ 9223372036854775807) : KnownR Try.prog [] 17 [.val (.agg #[.int .i64 m, .int .i64 d, .int .i64 t, .int .i64 s, .int .i64 c]), .val (.int .i64 x)] (.tuple #[.agg #[.int .i64 (phA m d t s c x), .int .i64 (phB m d t s c x), .int .i64 (phC m d t s c x), .int .i64 (phF m d t s c x)], .int .i64 (phE m d t s c x)]) ([]) := by
 skip
 exact roD _ _ _ _ _ _ hs hcc
theorem roD_ok : ∀ ds v bs, roD_k ds = some (v, bs) → KnownR Try.prog [] 17 ds v bs := fnP_ok (by
 rintro ⟨m, d, t, s, c, x, _⟩ ⟨hs, hcc, _⟩
 exact roD_n _ _ _ _ _ _  hs hcc)
noncomputable def tabPh : GTab := (GTab.fnD 16 poD_k (GTab.fnD 17 roD_k GTab.none))
theorem tabPh_ok : GOk Try.prog [] tabPh := (GOk.fnD poD_ok (GOk.fnD roD_ok GOk.none))
noncomputable def deP_c0 (m d t s c x : Int) : Bool := (bif (phE m d t s c x != (0 : Int)) then (false) else (phA m d t s c x == phA m d t s c x && (phB m d t s c x == (2 : Int) && (phC m d t s c x == phC m d t s c x && phF m d t s c x == (0 : Int)))))
noncomputable def deP_c1 (m d t s c x : Int) : Int := (bif (phE m d t s c x != (0 : Int)) then (phE m d t s c x) else ((0 : Int)))
theorem deP_p0 (m d t s c x : Int)  (hq0 : (phE m d t s c x != (0 : Int)) = true) : KnownR Try.prog [] 20 [.val (.agg #[.int .i64 m, .int .i64 d, .int .i64 t, .int .i64 s, .int .i64 c]), .val (.int .i64 x)] (.tuple #[(.bool (false)), (.int .i64 (phE m d t s c x))]) [] :=
 knownR_eq (v := Value.tuple { toList := [Value.bool false, Value.int IntKind.i64 (phE m d t s c x)] }) (bs := []) (open_resD mix tabPh_ok (T := tabPh) (fuel := 3000) (es := []) (ans := [(0, .outs (Value.tuple #[Value.agg #[Value.int IntKind.i64 (phA m d t s c x), Value.int IntKind.i64 (phB m d t s c x), Value.int IntKind.i64 (phC m d t s c x), Value.int IntKind.i64 (phF m d t s c x)], Value.int IntKind.i64 (phE m d t s c x)]) ([])), (1, .b 1)]) (log := [(phE m d t s c x != (0 : Int)) = true, (GTab.lookD (tabPh) ((16 : Nat)) ([D.val (Value.agg { toList := [Value.int IntKind.i64 m, Value.int IntKind.i64 d, Value.int IntKind.i64 t, Value.int IntKind.i64 s, Value.int IntKind.i64 c] }), D.val (Value.int IntKind.i64 x)])) = some (Value.tuple #[Value.agg #[Value.int IntKind.i64 (phA m d t s c x), Value.int IntKind.i64 (phB m d t s c x), Value.int IntKind.i64 (phC m d t s c x), Value.int IntKind.i64 (phF m d t s c x)], Value.int IntKind.i64 (phE m d t s c x)], [])]) (by kernel_rfl) ⟨hq0, (poD_at (m) (d) (t) (s) (c) (x)), trivial⟩ (by kernel_rfl)) (by first | rfl | (simp; done) | (simp_all; done)) (by first | rfl | (simp [rowA_nil]; done) | (simp only [rowA_eq]; rfl) | (simp_all [rowA_nil]; done))
theorem deP_p1 (m d t s c x : Int)  (hq0 : (phE m d t s c x != (0 : Int)) = false) : KnownR Try.prog [] 20 [.val (.agg #[.int .i64 m, .int .i64 d, .int .i64 t, .int .i64 s, .int .i64 c]), .val (.int .i64 x)] (.tuple #[(.bool (phA m d t s c x == phA m d t s c x && (phB m d t s c x == (2 : Int) && (phC m d t s c x == phC m d t s c x && phF m d t s c x == (0 : Int))))), (.int .i64 ((0 : Int)))]) [] :=
 knownR_eq (v := Value.tuple { toList := [Value.bool (phA m d t s c x == phA m d t s c x && (phB m d t s c x == (2 : Int) && (phC m d t s c x == phC m d t s c x && phF m d t s c x == (0 : Int)))), Value.int IntKind.i64 (0 : Int)] }) (bs := []) (open_resD mix tabPh_ok (T := tabPh) (fuel := 3000) (es := []) (ans := [(0, .outs (Value.tuple #[Value.agg #[Value.int IntKind.i64 (phA m d t s c x), Value.int IntKind.i64 (phB m d t s c x), Value.int IntKind.i64 (phC m d t s c x), Value.int IntKind.i64 (phF m d t s c x)], Value.int IntKind.i64 (phE m d t s c x)]) ([])), (1, .b 0)]) (log := [(phE m d t s c x != (0 : Int)) = false, (GTab.lookD (tabPh) ((16 : Nat)) ([D.val (Value.agg { toList := [Value.int IntKind.i64 m, Value.int IntKind.i64 d, Value.int IntKind.i64 t, Value.int IntKind.i64 s, Value.int IntKind.i64 c] }), D.val (Value.int IntKind.i64 x)])) = some (Value.tuple #[Value.agg #[Value.int IntKind.i64 (phA m d t s c x), Value.int IntKind.i64 (phB m d t s c x), Value.int IntKind.i64 (phC m d t s c x), Value.int IntKind.i64 (phF m d t s c x)], Value.int IntKind.i64 (phE m d t s c x)], [])]) (by kernel_rfl) ⟨hq0, (poD_at (m) (d) (t) (s) (c) (x)), trivial⟩ (by kernel_rfl)) (by first | rfl | (simp; done) | (simp_all; done)) (by first | rfl | (simp [rowA_nil]; done) | (simp only [rowA_eq]; rfl) | (simp_all [rowA_nil]; done))
set_option maxHeartbeats 8000000 in
theorem deP (m d t s c x : Int)  : KnownR Try.prog [] 20 [.val (.agg #[.int .i64 m, .int .i64 d, .int .i64 t, .int .i64 s, .int .i64 c]), .val (.int .i64 x)] (.tuple #[(.bool (deP_c0 m d t s c x)), (.int .i64 (deP_c1 m d t s c x))]) [] := by
 rcases Bool.eq_false_or_eq_true (phE m d t s c x != (0 : Int)) with hq0 | hq0
 ·
  have e0 : deP_c0 m d t s c x = (false) := ((bif_t hq0 _ _).trans rfl); rw [e0]; have e1 : deP_c1 m d t s c x = (phE m d t s c x) := ((bif_t hq0 _ _).trans rfl); rw [e1]; exact deP_p0 m d t s c x hq0
 ·
  have e0 : deP_c0 m d t s c x = (phA m d t s c x == phA m d t s c x && (phB m d t s c x == (2 : Int) && (phC m d t s c x == phC m d t s c x && phF m d t s c x == (0 : Int)))) := ((bif_f hq0 _ _).trans rfl); rw [e0]; have e1 : deP_c1 m d t s c x = ((0 : Int)) := ((bif_f hq0 _ _).trans rfl); rw [e1]; exact deP_p1 m d t s c x hq0
end Go.Proofs.Ytaogbagopdlkmaa
