import Derived.Test.YthkjdhjfiofbpaaUC
import Derived.ProofKit
import Derived.IntWalk
set_option linter.unnecessarySimpa false
set_option linter.unusedSimpArgs false
set_option linter.unusedVariables false
namespace Go.Proofs.Ythkjdhjfiofbpaa
open Go Go.RowKit
set_option maxHeartbeats 8000000
set_option maxRecDepth 100000
theorem psD (l : List Int) (f t : Int) (st : List Stp)  : KnownR Try.prog [] 9 [.agg [.list (rowA gI l) l.length, .val (.int .i64 f), .val (.int .i64 t)], .list (rowA gP st) st.length] (.tuple #[.complex .f64 0 (srR l f t st).length, .int .i64 (akX l f t st)]) ([(rowA gP (srR l f t st), 50)]) := pstr_is l f t st
noncomputable def psD_A (p : List Int × Int × Int × List Stp × Nat × Nat × Unit) : List D := match p with
 | (l, f, t, st, nn0, nn1, _) => [.agg [.list (rowA gI l) nn0, .val (.int .i64 f), .val (.int .i64 t)], .list (rowA gP st) nn1]
noncomputable def psD_C (p : List Int × Int × Int × List Stp × Nat × Nat × Unit) : Prop := match p with
 | (l, f, t, st, nn0, nn1, _) => (nn0 = l.length) ∧ (nn1 = st.length) ∧ True
noncomputable def psD_R (p : List Int × Int × Int × List Stp × Nat × Nat × Unit) : Value × Outs := match p with
 | (l, f, t, st, nn0, nn1, _) => (.tuple #[.complex .f64 0 (srR l f t st).length, .int .i64 (akX l f t st)], [(rowA gP (srR l f t st), 50)])
theorem psD_inj : ∀ p q, psD_C p → psD_C q → psD_A p = psD_A q → psD_R p = psD_R q := by
 rintro ⟨l, f, t, st, nn0, nn1, _⟩ ⟨l', f', t', st', nn0', nn1', _⟩ _ _ e
 simp only [psD_A, List.cons.injEq, D.list.injEq, D.val.injEq, D.agg.injEq, Value.int.injEq, Value.bool.injEq, Value.string.injEq, Value.agg.injEq, Array.mk.injEq, and_true, true_and, gI_inj, gB_inj, gP_inj] at e
 simp_all
noncomputable def psD_k : List D → Option (Value × Outs) := fnP psD_A psD_C psD_R
theorem psD_n (l : List Int) (f t : Int) (st : List Stp) (nn0 : Nat) (nn1 : Nat) (hn0 : nn0 = l.length) (hn1 : nn1 = st.length)  : KnownR Try.prog [] 9 [.agg [.list (rowA gI l) nn0, .val (.int .i64 f), .val (.int .i64 t)], .list (rowA gP st) nn1] (.tuple #[.complex .f64 0 (srR l f t st).length, .int .i64 (akX l f t st)]) ([(rowA gP (srR l f t st), 50)]) := by
 subst hn0; subst hn1; skip
 exact psD _ _ _ _ 
theorem psD_ok : ∀ ds v bs, psD_k ds = some (v, bs) → KnownR Try.prog [] 9 ds v bs := fnP_ok (by
 rintro ⟨l, f, t, st, nn0, nn1, _⟩ ⟨hn0, hn1, _⟩
 exact psD_n _ _ _ _ _ _ hn0 hn1 )
theorem psD_at (l : List Int) (f t : Int) (st : List Stp) (nn0 : Nat) (nn1 : Nat) (hn0 : nn0 = l.length) (hn1 : nn1 = st.length)  : psD_k [.agg [.list (rowA gI l) nn0, .val (.int .i64 f), .val (.int .i64 t)], .list (rowA gP st) nn1] = some (.tuple #[.complex .f64 0 (srR l f t st).length, .int .i64 (akX l f t st)], [(rowA gP (srR l f t st), 50)]) := fnP_at (p := (l, f, t, st, nn0, nn1, ())) psD_inj ⟨hn0, hn1, trivial⟩ rfl rfl
theorem pvD (l : List Int) (f t : Int) (st : List Stp) (a b : Int)  : KnownR Try.prog [] 11 [.agg [.list (rowA gI l) l.length, .val (.int .i64 f), .val (.int .i64 t)], .list (rowA gP st) st.length, .val (.int .i64 a), .val (.int .i64 b)] (.tuple #[.bool (cvB l f t st a b), .int .i64 (cvX l f t st a b)]) ([]) := pcov_is l f t st a b
noncomputable def pvD_A (p : List Int × Int × Int × List Stp × Int × Int × Nat × Nat × Unit) : List D := match p with
 | (l, f, t, st, a, b, nn0, nn1, _) => [.agg [.list (rowA gI l) nn0, .val (.int .i64 f), .val (.int .i64 t)], .list (rowA gP st) nn1, .val (.int .i64 a), .val (.int .i64 b)]
noncomputable def pvD_C (p : List Int × Int × Int × List Stp × Int × Int × Nat × Nat × Unit) : Prop := match p with
 | (l, f, t, st, a, b, nn0, nn1, _) => (nn0 = l.length) ∧ (nn1 = st.length) ∧ True
noncomputable def pvD_R (p : List Int × Int × Int × List Stp × Int × Int × Nat × Nat × Unit) : Value × Outs := match p with
 | (l, f, t, st, a, b, nn0, nn1, _) => (.tuple #[.bool (cvB l f t st a b), .int .i64 (cvX l f t st a b)], [])
theorem pvD_inj : ∀ p q, pvD_C p → pvD_C q → pvD_A p = pvD_A q → pvD_R p = pvD_R q := by
 rintro ⟨l, f, t, st, a, b, nn0, nn1, _⟩ ⟨l', f', t', st', a', b', nn0', nn1', _⟩ _ _ e
 simp only [pvD_A, List.cons.injEq, D.list.injEq, D.val.injEq, D.agg.injEq, Value.int.injEq, Value.bool.injEq, Value.string.injEq, Value.agg.injEq, Array.mk.injEq, and_true, true_and, gI_inj, gB_inj, gP_inj] at e
 simp_all
noncomputable def pvD_k : List D → Option (Value × Outs) := fnP pvD_A pvD_C pvD_R
theorem pvD_n (l : List Int) (f t : Int) (st : List Stp) (a b : Int) (nn0 : Nat) (nn1 : Nat) (hn0 : nn0 = l.length) (hn1 : nn1 = st.length)  : KnownR Try.prog [] 11 [.agg [.list (rowA gI l) nn0, .val (.int .i64 f), .val (.int .i64 t)], .list (rowA gP st) nn1, .val (.int .i64 a), .val (.int .i64 b)] (.tuple #[.bool (cvB l f t st a b), .int .i64 (cvX l f t st a b)]) ([]) := by
 subst hn0; subst hn1; skip
 exact pvD _ _ _ _ _ _ 
theorem pvD_ok : ∀ ds v bs, pvD_k ds = some (v, bs) → KnownR Try.prog [] 11 ds v bs := fnP_ok (by
 rintro ⟨l, f, t, st, a, b, nn0, nn1, _⟩ ⟨hn0, hn1, _⟩
 exact pvD_n _ _ _ _ _ _ _ _ hn0 hn1 )
theorem pvD_at (l : List Int) (f t : Int) (st : List Stp) (a b : Int) (nn0 : Nat) (nn1 : Nat) (hn0 : nn0 = l.length) (hn1 : nn1 = st.length)  : pvD_k [.agg [.list (rowA gI l) nn0, .val (.int .i64 f), .val (.int .i64 t)], .list (rowA gP st) nn1, .val (.int .i64 a), .val (.int .i64 b)] = some (.tuple #[.bool (cvB l f t st a b), .int .i64 (cvX l f t st a b)], []) := fnP_at (p := (l, f, t, st, a, b, nn0, nn1, ())) pvD_inj ⟨hn0, hn1, trivial⟩ rfl rfl
end Go.Proofs.Ythkjdhjfiofbpaa
