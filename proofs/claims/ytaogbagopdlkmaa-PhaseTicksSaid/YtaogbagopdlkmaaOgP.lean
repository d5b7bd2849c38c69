import Derived.Test.YtaogbagopdlkmaaPH
import Derived.Test.YtaogbagopdlkmaaKnPhaseKnown
import Derived.Test.YtaogbagopdlkmaaFrL
import Derived.ProofKit
import Derived.IntWalk
set_option linter.unnecessarySimpa false
set_option linter.unusedSimpArgs false
set_option linter.unusedVariables false
namespace Go.Proofs.Ytaogbagopdlkmaa
open Go Go.RowKit
set_option maxHeartbeats 8000000
set_option maxRecDepth 100000
attribute [local irreducible] ckX trN slN phA phB phC phF phE fiB deB trX slX
theorem ptrD (m d t s c : Int)  : KnownR Try.prog [] 10 [.val (.agg #[.int .i64 m, .int .i64 d, .int .i64 t, .int .i64 s, .int .i64 c])] (.tuple #[.int .i64 (trX m d t s c), .int .i64 (ckX m d t s c)]) ([]) := pTrips m d t s c
noncomputable def ptrD_A (p : Int × Int × Int × Int × Int × Unit) : List D := match p with
 | (m, d, t, s, c, _) => [.val (.agg #[.int .i64 m, .int .i64 d, .int .i64 t, .int .i64 s, .int .i64 c])]
noncomputable def ptrD_C (p : Int × Int × Int × Int × Int × Unit) : Prop := match p with
 | (m, d, t, s, c, _) => True
noncomputable def ptrD_R (p : Int × Int × Int × Int × Int × Unit) : Value × Outs := match p with
 | (m, d, t, s, c, _) => (.tuple #[.int .i64 (trX m d t s c), .int .i64 (ckX m d t s c)], [])
theorem ptrD_inj : ∀ p q, ptrD_C p → ptrD_C q → ptrD_A p = ptrD_A q → ptrD_R p = ptrD_R q := by
 rintro ⟨m, d, t, s, c, _⟩ ⟨m', d', t', s', c', _⟩ _ _ e
 simp only [ptrD_A, List.cons.injEq, D.list.injEq, D.val.injEq, D.agg.injEq, Value.int.injEq, Value.bool.injEq, Value.string.injEq, Value.agg.injEq, Array.mk.injEq, and_true, true_and, gI_inj, gB_inj, gQ_inj] at e
 simp_all
noncomputable def ptrD_k : List D → Option (Value × Outs) := fnP ptrD_A ptrD_C ptrD_R
theorem ptrD_n (m d t s c : Int)    : KnownR Try.prog [] 10 [.val (.agg #[.int .i64 m, .int .i64 d, .int .i64 t, .int .i64 s, .int .i64 c])] (.tuple #[.int .i64 (trX m d t s c), .int .i64 (ckX m d t s c)]) ([]) := by
 skip
 exact ptrD _ _ _ _ _ 
theorem ptrD_ok : ∀ ds v bs, ptrD_k ds = some (v, bs) → KnownR Try.prog [] 10 ds v bs := fnP_ok (by
 rintro ⟨m, d, t, s, c, _⟩ _
 exact ptrD_n _ _ _ _ _  )
theorem ptrD_at (m d t s c : Int)    : ptrD_k [.val (.agg #[.int .i64 m, .int .i64 d, .int .i64 t, .int .i64 s, .int .i64 c])] = some (.tuple #[.int .i64 (trX m d t s c), .int .i64 (ckX m d t s c)], []) := fnP_at (p := (m, d, t, s, c, ())) ptrD_inj trivial rfl rfl
theorem rtrD (m d t s c : Int) (hs : s ≤ 9223372036854775807) (hcc : c ≤ 9223372036854775807) : KnownR Try.prog [] 11 [.val (.agg #[.int .i64 m, .int .i64 d, .int .i64 t, .int .i64 s, .int .i64 c])] (.tuple #[.int .i64 (trX m d t s c), .int .i64 (ckX m d t s c)]) ([]) := rTrips m d t s c hs hcc
noncomputable def rtrD_A (p : Int × Int × Int × Int × Int × Unit) : List D := match p with
 | (m, d, t, s, c, _) => [.val (.agg #[.int .i64 m, .int .i64 d, .int .i64 t, .int .i64 s, .int .i64 c])]
noncomputable def rtrD_C (p : Int × Int × Int × Int × Int × Unit) : Prop := match p with
 | (m, d, t, s, c, _) => (s ≤ 9223372036854775807) ∧ (c ≤ 9223372036854775807) ∧ True
noncomputable def rtrD_R (p : Int × Int × Int × Int × Int × Unit) : Value × Outs := match p with
 | (m, d, t, s, c, _) => (.tuple #[.int .i64 (trX m d t s c), .int .i64 (ckX m d t s c)], [])
theorem rtrD_inj : ∀ p q, rtrD_C p → rtrD_C q → rtrD_A p = rtrD_A q → rtrD_R p = rtrD_R q := by
 rintro ⟨m, d, t, s, c, _⟩ ⟨m', d', t', s', c', _⟩ _ _ e
 simp only [rtrD_A, List.cons.injEq, D.list.injEq, D.val.injEq, D.agg.injEq, Value.int.injEq, Value.bool.injEq, Value.string.injEq, Value.agg.injEq, Array.mk.injEq, and_true, true_and, gI_inj, gB_inj, gQ_inj] at e
 simp_all
noncomputable def rtrD_k : List D → Option (Value × Outs) := fnP rtrD_A rtrD_C rtrD_R
theorem rtrD_n (m d t s c : Int)   (hs : s ≤ 9223372036854775807) (hcc : c ≤ 9223372036854775807) : KnownR Try.prog [] 11 [.val (.agg #[.int .i64 m, .int .i64 d, .int .i64 t, .int .i64 s, .int .i64 c])] (.tuple #[.int .i64 (trX m d t s c), .int .i64 (ckX m d t s c)]) ([]) := by
 skip
 exact rtrD _ _ _ _ _ hs hcc
theorem rtrD_ok : ∀ ds v bs, rtrD_k ds = some (v, bs) → KnownR Try.prog [] 11 ds v bs := fnP_ok (by
 rintro ⟨m, d, t, s, c, _⟩ ⟨hs, hcc, _⟩
 exact rtrD_n _ _ _ _ _  hs hcc)
theorem rtrD_at (m d t s c : Int)   (hs : s ≤ 9223372036854775807) (hcc : c ≤ 9223372036854775807) : rtrD_k [.val (.agg #[.int .i64 m, .int .i64 d, .int .i64 t, .int .i64 s, .int .i64 c])] = some (.tuple #[.int .i64 (trX m d t s c), .int .i64 (ckX m d t s c)], []) := fnP_at (p := (m, d, t, s, c, ())) rtrD_inj ⟨hs, hcc, trivial⟩ rfl rfl
theorem pslD (m d t s c : Int)  : KnownR Try.prog [] 12 [.val (.agg #[.int .i64 m, .int .i64 d, .int .i64 t, .int .i64 s, .int .i64 c])] (.tuple #[.int .i64 (slX m d t s c), .int .i64 (ckX m d t s c)]) ([]) := pSlots m d t s c
noncomputable def pslD_A (p : Int × Int × Int × Int × Int × Unit) : List D := match p with
 | (m, d, t, s, c, _) => [.val (.agg #[.int .i64 m, .int .i64 d, .int .i64 t, .int .i64 s, .int .i64 c])]
noncomputable def pslD_C (p : Int × Int × Int × Int × Int × Unit) : Prop := match p with
 | (m, d, t, s, c, _) => True
noncomputable def pslD_R (p : Int × Int × Int × Int × Int × Unit) : Value × Outs := match p with
 | (m, d, t, s, c, _) => (.tuple #[.int .i64 (slX m d t s c), .int .i64 (ckX m d t s c)], [])
theorem pslD_inj : ∀ p q, pslD_C p → pslD_C q → pslD_A p = pslD_A q → pslD_R p = pslD_R q := by
 rintro ⟨m, d, t, s, c, _⟩ ⟨m', d', t', s', c', _⟩ _ _ e
 simp only [pslD_A, List.cons.injEq, D.list.injEq, D.val.injEq, D.agg.injEq, Value.int.injEq, Value.bool.injEq, Value.string.injEq, Value.agg.injEq, Array.mk.injEq, and_true, true_and, gI_inj, gB_inj, gQ_inj] at e
 simp_all
noncomputable def pslD_k : List D → Option (Value × Outs) := fnP pslD_A pslD_C pslD_R
theorem pslD_n (m d t s c : Int)    : KnownR Try.prog [] 12 [.val (.agg #[.int .i64 m, .int .i64 d, .int .i64 t, .int .i64 s, .int .i64 c])] (.tuple #[.int .i64 (slX m d t s c), .int .i64 (ckX m d t s c)]) ([]) := by
 skip
 exact pslD _ _ _ _ _ 
theorem pslD_ok : ∀ ds v bs, pslD_k ds = some (v, bs) → KnownR Try.prog [] 12 ds v bs := fnP_ok (by
 rintro ⟨m, d, t, s, c, _⟩ _
 exact pslD_n _ _ _ _ _  )
theorem pslD_at (m d t s c : Int)    : pslD_k [.val (.agg #[.int .i64 m, .int .i64 d, .int .i64 t, .int .i64 s, .int .i64 c])] = some (.tuple #[.int .i64 (slX m d t s c), .int .i64 (ckX m d t s c)], []) := fnP_at (p := (m, d, t, s, c, ())) pslD_inj trivial rfl rfl
theorem rslD (m d t s c : Int) (hs : s ≤ 9223372036854775807) (hcc : c ≤ 9223372036854775807) : KnownR Try.prog [] 13 [.val (.agg #[.int .i64 m, .int .i64 d, .int .i64 t, .int .i64 s, .int .i64 c])] (.tuple #[.int .i64 (slX m d t s c), .int .i64 (ckX m d t s c)]) ([]) := rSlots m d t s c hs hcc
noncomputable def rslD_A (p : Int × Int × Int × Int × Int × Unit) : List D := match p with
 | (m, d, t, s, c, _) => [.val (.agg #[.int .i64 m, .int .i64 d, .int .i64 t, .int .i64 s, .int .i64 c])]
noncomputable def rslD_C (p : Int × Int × Int × Int × Int × Unit) : Prop := match p with
 | (m, d, t, s, c, _) => (s ≤ 9223372036854775807) ∧ (c ≤ 9223372036854775807) ∧ True
noncomputable def rslD_R (p : Int × Int × Int × Int × Int × Unit) : Value × Outs := match p with
 | (m, d, t, s, c, _) => (.tuple #[.int .i64 (slX m d t s c), .int .i64 (ckX m d t s c)], [])
theorem rslD_inj : ∀ p q, rslD_C p → rslD_C q → rslD_A p = rslD_A q → rslD_R p = rslD_R q := by
 rintro ⟨m, d, t, s, c, _⟩ ⟨m', d', t', s', c', _⟩ _ _ e
 simp only [rslD_A, List.cons.injEq, D.list.injEq, D.val.injEq, D.agg.injEq, Value.int.injEq, Value.bool.injEq, Value.string.injEq, Value.agg.injEq, Array.mk.injEq, and_true, true_and, gI_inj, gB_inj, gQ_inj] at e
 simp_all
noncomputable def rslD_k : List D → Option (Value × Outs) := fnP rslD_A rslD_C rslD_R
theorem rslD_n (m d t s c : Int)   (hs : s ≤ 9223372036854775807) (hcc : c ≤ 9223372036854775807) : KnownR Try.prog [] 13 [.val (.agg #[.int .i64 m, .int .i64 d, .int .i64 t, .int .i64 s, .int .i64 c])] (.tuple #[.int .i64 (slX m d t s c), .int .i64 (ckX m d t s c)]) ([]) := by
 skip
 exact rslD _ _ _ _ _ hs hcc
theorem rslD_ok : ∀ ds v bs, rslD_k ds = some (v, bs) → KnownR Try.prog [] 13 ds v bs := fnP_ok (by
 rintro ⟨m, d, t, s, c, _⟩ ⟨hs, hcc, _⟩
 exact rslD_n _ _ _ _ _  hs hcc)
theorem rslD_at (m d t s c : Int)   (hs : s ≤ 9223372036854775807) (hcc : c ≤ 9223372036854775807) : rslD_k [.val (.agg #[.int .i64 m, .int .i64 d, .int .i64 t, .int .i64 s, .int .i64 c])] = some (.tuple #[.int .i64 (slX m d t s c), .int .i64 (ckX m d t s c)], []) := fnP_at (p := (m, d, t, s, c, ())) rslD_inj ⟨hs, hcc, trivial⟩ rfl rfl
theorem pfiD (m d t s c x : Int)  : KnownR Try.prog [] 18 [.val (.agg #[.int .i64 m, .int .i64 d, .int .i64 t, .int .i64 s, .int .i64 c]), .val (.int .i64 x)] (.tuple #[.bool (fiB m d t s c x), .int .i64 (phE m d t s c x)]) ([]) := pFirst m d t s c x
noncomputable def pfiD_A (p : Int × Int × Int × Int × Int × Int × Unit) : List D := match p with
 | (m, d, t, s, c, x, _) => [.val (.agg #[.int .i64 m, .int .i64 d, .int .i64 t, .int .i64 s, .int .i64 c]), .val (.int .i64 x)]
noncomputable def pfiD_C (p : Int × Int × Int × Int × Int × Int × Unit) : Prop := match p with
 | (m, d, t, s, c, x, _) => True
noncomputable def pfiD_R (p : Int × Int × Int × Int × Int × Int × Unit) : Value × Outs := match p with
 | (m, d, t, s, c, x, _) => (.tuple #[.bool (fiB m d t s c x), .int .i64 (phE m d t s c x)], [])
theorem pfiD_inj : ∀ p q, pfiD_C p → pfiD_C q → pfiD_A p = pfiD_A q → pfiD_R p = pfiD_R q := by
 rintro ⟨m, d, t, s, c, x, _⟩ ⟨m', d', t', s', c', x', _⟩ _ _ e
 simp only [pfiD_A, List.cons.injEq, D.list.injEq, D.val.injEq, D.agg.injEq, Value.int.injEq, Value.bool.injEq, Value.string.injEq, Value.agg.injEq, Array.mk.injEq, and_true, true_and, gI_inj, gB_inj, gQ_inj] at e
 simp_all
noncomputable def pfiD_k : List D → Option (Value × Outs) := fnP pfiD_A pfiD_C pfiD_R
theorem pfiD_n (m d t s c x : Int)    : KnownR Try.prog [] 18 [.val (.agg #[.int .i64 m, .int .i64 d, .int .i64 t, .int .i64 s, .int .i64 c]), .val (.int .i64 x)] (.tuple #[.bool (fiB m d t s c x), .int .i64 (phE m d t s c x)]) ([]) := by
 skip
 exact pfiD _ _ _ _ _ _ 
theorem pfiD_ok : ∀ ds v bs, pfiD_k ds = some (v, bs) → KnownR Try.prog [] 18 ds v bs := fnP_ok (by
 rintro ⟨m, d, t, s, c, x, _⟩ _
 exact pfiD_n _ _ _ _ _ _  )
theorem pfiD_at (m d t s c x : Int)    : pfiD_k [.val (.agg #[.int .i64 m, .int .i64 d, .int .i64 t, .int .i64 s, .int .i64 c]), .val (.int .i64 x)] = some (.tuple #[.bool (fiB m d t s c x), .int .i64 (phE m d t s c x)], []) := fnP_at (p := (m, d, t, s, c, x, ())) pfiD_inj trivial rfl rfl
theorem rfiD (m d t s c x : Int) (hs : s ≤ 9223372036854775807) (hcc : c ≤ 9223372036854775807) : KnownR Try.prog [] 19 [.val (.agg #[.int .i64 m, .int .i64 d, .int .i64 t, .int .i64 s, .int .i64 c]), .val (.int .i64 x)] (.tuple #[.bool (fiB m d t s c x), .int .i64 (phE m d t s c x)]) ([]) := rFirst m d t s c x hs hcc
noncomputable def rfiD_A (p : Int × Int × Int × Int × Int × Int × Unit) : List D := match p with
 | (m, d, t, s, c, x, _) => [.val (.agg #[.int .i64 m, .int .i64 d, .int .i64 t, .int .i64 s, .int .i64 c]), .val (.int .i64 x)]
noncomputable def rfiD_C (p : Int × Int × Int × Int × Int × Int × Unit) : Prop := match p with
 | (m, d, t, s, c, x, _) => (s ≤ 9223372036854775807) ∧ (c ≤ 9223372036854775807) ∧ True
noncomputable def rfiD_R (p : Int × Int × Int × Int × Int × Int × Unit) : Value × Outs := match p with
 | (m, d, t, s, c, x, _) => (.tuple #[.bool (fiB m d t s c x), .int .i64 (phE m d t s c x)], [])
theorem rfiD_inj : ∀ p q, rfiD_C p → rfiD_C q → rfiD_A p = rfiD_A q → rfiD_R p = rfiD_R q := by
 rintro ⟨m, d, t, s, c, x, _⟩ ⟨m', d', t', s', c', x', _⟩ _ _ e
 simp only [rfiD_A, List.cons.injEq, D.list.injEq, D.val.injEq, D.agg.injEq, Value.int.injEq, Value.bool.injEq, Value.string.injEq, Value.agg.injEq, Array.mk.injEq, and_true, true_and, gI_inj, gB_inj, gQ_inj] at e
 simp_all
noncomputable def rfiD_k : List D → Option (Value × Outs) := fnP rfiD_A rfiD_C rfiD_R
theorem rfiD_n (m d t s c x : Int)   (hs : s ≤ 9223372036854775807) (hcc : c ≤ 9223372036854775807) : KnownR Try.prog [] 19 [.val (.agg #[.int .i64 m, .int .i64 d, .int .i64 t, .int .i64 s, .int .i64 c]), .val (.int .i64 x)] (.tuple #[.bool (fiB m d t s c x), .int .i64 (phE m d t s c x)]) ([]) := by
 skip
 exact rfiD _ _ _ _ _ _ hs hcc
theorem rfiD_ok : ∀ ds v bs, rfiD_k ds = some (v, bs) → KnownR Try.prog [] 19 ds v bs := fnP_ok (by
 rintro ⟨m, d, t, s, c, x, _⟩ ⟨hs, hcc, _⟩
 exact rfiD_n _ _ _ _ _ _  hs hcc)
theorem rfiD_at (m d t s c x : Int)   (hs : s ≤ 9223372036854775807) (hcc : c ≤ 9223372036854775807) : rfiD_k [.val (.agg #[.int .i64 m, .int .i64 d, .int .i64 t, .int .i64 s, .int .i64 c]), .val (.int .i64 x)] = some (.tuple #[.bool (fiB m d t s c x), .int .i64 (phE m d t s c x)], []) := fnP_at (p := (m, d, t, s, c, x, ())) rfiD_inj ⟨hs, hcc, trivial⟩ rfl rfl
theorem pdeD (m d t s c x : Int)  : KnownR Try.prog [] 20 [.val (.agg #[.int .i64 m, .int .i64 d, .int .i64 t, .int .i64 s, .int .i64 c]), .val (.int .i64 x)] (.tuple #[.bool (deB m d t s c x), .int .i64 (phE m d t s c x)]) ([]) := pDecision m d t s c x
noncomputable def pdeD_A (p : Int × Int × Int × Int × Int × Int × Unit) : List D := match p with
 | (m, d, t, s, c, x, _) => [.val (.agg #[.int .i64 m, .int .i64 d, .int .i64 t, .int .i64 s, .int .i64 c]), .val (.int .i64 x)]
noncomputable def pdeD_C (p : Int × Int × Int × Int × Int × Int × Unit) : Prop := match p with
 | (m, d, t, s, c, x, _) => True
noncomputable def pdeD_R (p : Int × Int × Int × Int × Int × Int × Unit) : Value × Outs := match p with
 | (m, d, t, s, c, x, _) => (.tuple #[.bool (deB m d t s c x), .int .i64 (phE m d t s c x)], [])
theorem pdeD_inj : ∀ p q, pdeD_C p → pdeD_C q → pdeD_A p = pdeD_A q → pdeD_R p = pdeD_R q := by
 rintro ⟨m, d, t, s, c, x, _⟩ ⟨m', d', t', s', c', x', _⟩ _ _ e
 simp only [pdeD_A, List.cons.injEq, D.list.injEq, D.val.injEq, D.agg.injEq, Value.int.injEq, Value.bool.injEq, Value.string.injEq, Value.agg.injEq, Array.mk.injEq, and_true, true_and, gI_inj, gB_inj, gQ_inj] at e
 simp_all
noncomputable def pdeD_k : List D → Option (Value × Outs) := fnP pdeD_A pdeD_C pdeD_R
theorem pdeD_n (m d t s c x : Int)    : KnownR Try.prog [] 20 [.val (.agg #[.int .i64 m, .int .i64 d, .int .i64 t, .int .i64 s, .int .i64 c]), .val (.int .i64 x)] (.tuple #[.bool (deB m d t s c x), .int .i64 (phE m d t s c x)]) ([]) := by
 skip
 exact pdeD _ _ _ _ _ _ 
theorem pdeD_ok : ∀ ds v bs, pdeD_k ds = some (v, bs) → KnownR Try.prog [] 20 ds v bs := fnP_ok (by
 rintro ⟨m, d, t, s, c, x, _⟩ _
 exact pdeD_n _ _ _ _ _ _  )
theorem pdeD_at (m d t s c x : Int)    : pdeD_k [.val (.agg #[.int .i64 m, .int .i64 d, .int .i64 t, .int .i64 s, .int .i64 c]), .val (.int .i64 x)] = some (.tuple #[.bool (deB m d t s c x), .int .i64 (phE m d t s c x)], []) := fnP_at (p := (m, d, t, s, c, x, ())) pdeD_inj trivial rfl rfl
theorem rdeD (m d t s c x : Int) (hs : s ≤ 9223372036854775807) (hcc : c ≤ 9223372036854775807) : KnownR Try.prog [] 21 [.val (.agg #[.int .i64 m, .int .i64 d, .int .i64 t, .int .i64 s, .int .i64 c]), .val (.int .i64 x)] (.tuple #[.bool (deB m d t s c x), .int .i64 (phE m d t s c x)]) ([]) := rDecision m d t s c x hs hcc
noncomputable def rdeD_A (p : Int × Int × Int × Int × Int × Int × Unit) : List D := match p with
 | (m, d, t, s, c, x, _) => [.val (.agg #[.int .i64 m, .int .i64 d, .int .i64 t, .int .i64 s, .int .i64 c]), .val (.int .i64 x)]
noncomputable def rdeD_C (p : Int × Int × Int × Int × Int × Int × Unit) : Prop := match p with
 | (m, d, t, s, c, x, _) => (s ≤ 9223372036854775807) ∧ (c ≤ 9223372036854775807) ∧ True
noncomputable def rdeD_R (p : Int × Int × Int × Int × Int × Int × Unit) : Value × Outs := match p with
 | (m, d, t, s, c, x, _) => (.tuple #[.bool (deB m d t s c x), .int .i64 (phE m d t s c x)], [])
theorem rdeD_inj : ∀ p q, rdeD_C p → rdeD_C q → rdeD_A p = rdeD_A q → rdeD_R p = rdeD_R q := by
 rintro ⟨m, d, t, s, c, x, _⟩ ⟨m', d', t', s', c', x', _⟩ _ _ e
 simp only [rdeD_A, List.cons.injEq, D.list.injEq, D.val.injEq, D.agg.injEq, Value.int.injEq, Value.bool.injEq, Value.string.injEq, Value.agg.injEq, Array.mk.injEq, and_true, true_and, gI_inj, gB_inj, gQ_inj] at e
 simp_all
noncomputable def rdeD_k : List D → Option (Value × Outs) := fnP rdeD_A rdeD_C rdeD_R
theorem rdeD_n (m d t s c x : Int)   (hs : s ≤ 9223372036854775807) (hcc : c ≤ 9223372036854775807) : KnownR Try.prog [] 21 [.val (.agg #[.int .i64 m, .int .i64 d, .int .i64 t, .int .i64 s, .int .i64 c]), .val (.int .i64 x)] (.tuple #[.bool (deB m d t s c x), .int .i64 (phE m d t s c x)]) ([]) := by
 skip
 exact rdeD _ _ _ _ _ _ hs hcc
theorem rdeD_ok : ∀ ds v bs, rdeD_k ds = some (v, bs) → KnownR Try.prog [] 21 ds v bs := fnP_ok (by
 rintro ⟨m, d, t, s, c, x, _⟩ ⟨hs, hcc, _⟩
 exact rdeD_n _ _ _ _ _ _  hs hcc)
theorem rdeD_at (m d t s c x : Int)   (hs : s ≤ 9223372036854775807) (hcc : c ≤ 9223372036854775807) : rdeD_k [.val (.agg #[.int .i64 m, .int .i64 d, .int .i64 t, .int .i64 s, .int .i64 c]), .val (.int .i64 x)] = some (.tuple #[.bool (deB m d t s c x), .int .i64 (phE m d t s c x)], []) := fnP_at (p := (m, d, t, s, c, x, ())) rdeD_inj ⟨hs, hcc, trivial⟩ rfl rfl
noncomputable def tabK : GTab := (GTab.fnD 16 poD_k (GTab.fnD 17 roD_k (GTab.fnD 14 pkD_k (GTab.fnD 15 rkD_k (GTab.fnD 10 ptrD_k (GTab.fnD 11 rtrD_k (GTab.fnD 12 pslD_k (GTab.fnD 13 rslD_k (GTab.fnD 18 pfiD_k (GTab.fnD 19 rfiD_k (GTab.fnD 20 pdeD_k (GTab.fnD 21 rdeD_k (GTab.fn1 22 (fun l => match l with | [] => some (.bool true) | _ => none) GTab.none)))))))))))))
theorem tabK_ok : GOk Try.prog [] tabK := (GOk.fnD poD_ok (GOk.fnD roD_ok (GOk.fnD pkD_ok (GOk.fnD rkD_ok (GOk.fnD ptrD_ok (GOk.fnD rtrD_ok (GOk.fnD pslD_ok (GOk.fnD rslD_ok (GOk.fnD pfiD_ok (GOk.fnD rfiD_ok (GOk.fnD pdeD_ok (GOk.fnD rdeD_ok (GOk.fn1 (known0 knPhaseKnown_e0) GOk.none)))))))))))))
noncomputable def lawK_b3 (m d t s c x : Int) : Bool := !(phA m d t s c x == phA m d t s c x && (phB m d t s c x == phB m d t s c x && (phC m d t s c x == phC m d t s c x && phF m d t s c x == phF m d t s c x)))
theorem lawK_p0 (m d t s c x : Int) (hs : s ≤ 9223372036854775807) (hcc : c ≤ 9223372036854775807) (hq0 : (ckX m d t s c != ckX m d t s c) = false) (hq1 : (trX m d t s c != trX m d t s c) = false) (hq2 : (slX m d t s c != slX m d t s c) = false) (hq3 : (lawK_b3 m d t s c x) = false) (hq4 : (phE m d t s c x != phE m d t s c x) = false) (hq5 : (fiB m d t s c x == fiB m d t s c x) = true) (hq6 : (phE m d t s c x == phE m d t s c x) = true) (hq7 : (deB m d t s c x == deB m d t s c x) = true) : KnownR Try.prog [] 3 [.val (.agg #[.int .i64 m, .int .i64 d, .int .i64 t, .int .i64 s, .int .i64 c]), .val (.int .i64 x)] (.bool (true)) [] :=
 knownR_eq (v := Value.bool true) (bs := []) (open_resD mix tabK_ok (T := tabK) (fuel := 3000) (es := []) (ans := [(0, .outs (Value.tuple #[Value.int IntKind.i64 (trX m d t s c), Value.int IntKind.i64 (ckX m d t s c)]) ([])), (1, .outs (Value.tuple #[Value.int IntKind.i64 (trX m d t s c), Value.int IntKind.i64 (ckX m d t s c)]) ([])), (2, .outs (Value.tuple #[Value.int IntKind.i64 (slX m d t s c), Value.int IntKind.i64 (ckX m d t s c)]) ([])), (3, .outs (Value.tuple #[Value.int IntKind.i64 (slX m d t s c), Value.int IntKind.i64 (ckX m d t s c)]) ([])), (4, .outs (Value.int IntKind.i64 (ckX m d t s c)) ([])), (5, .outs (Value.int IntKind.i64 (ckX m d t s c)) ([])), (6, .b 0), (10, .b 0), (14, .b 0), (18, .b 0), (22, .b 0), (23, .outs (Value.tuple #[Value.agg #[Value.int IntKind.i64 (phA m d t s c x), Value.int IntKind.i64 (phB m d t s c x), Value.int IntKind.i64 (phC m d t s c x), Value.int IntKind.i64 (phF m d t s c x)], Value.int IntKind.i64 (phE m d t s c x)]) ([])), (24, .outs (Value.tuple #[Value.agg #[Value.int IntKind.i64 (phA m d t s c x), Value.int IntKind.i64 (phB m d t s c x), Value.int IntKind.i64 (phC m d t s c x), Value.int IntKind.i64 (phF m d t s c x)], Value.int IntKind.i64 (phE m d t s c x)]) ([])), (25, .b 0), (29, .b 0), (30, .outs (Value.tuple #[Value.bool (fiB m d t s c x), Value.int IntKind.i64 (phE m d t s c x)]) ([])), (31, .outs (Value.tuple #[Value.bool (fiB m d t s c x), Value.int IntKind.i64 (phE m d t s c x)]) ([])), (32, .outs (Value.tuple #[Value.bool (deB m d t s c x), Value.int IntKind.i64 (phE m d t s c x)]) ([])), (33, .outs (Value.tuple #[Value.bool (deB m d t s c x), Value.int IntKind.i64 (phE m d t s c x)]) ([])), (34, .b 1), (38, .b 1), (42, .b 1), (46, .b 1)]) (log := [(phE m d t s c x == phE m d t s c x) = true, (deB m d t s c x == deB m d t s c x) = true, (phE m d t s c x == phE m d t s c x) = true, (fiB m d t s c x == fiB m d t s c x) = true, (GTab.lookD (tabK) ((21 : Nat)) ([D.val (Value.agg { toList := [Value.int IntKind.i64 m, Value.int IntKind.i64 d, Value.int IntKind.i64 t, Value.int IntKind.i64 s, Value.int IntKind.i64 c] }), D.val (Value.int IntKind.i64 x)])) = some (Value.tuple #[Value.bool (deB m d t s c x), Value.int IntKind.i64 (phE m d t s c x)], []), (GTab.lookD (tabK) ((20 : Nat)) ([D.val (Value.agg { toList := [Value.int IntKind.i64 m, Value.int IntKind.i64 d, Value.int IntKind.i64 t, Value.int IntKind.i64 s, Value.int IntKind.i64 c] }), D.val (Value.int IntKind.i64 x)])) = some (Value.tuple #[Value.bool (deB m d t s c x), Value.int IntKind.i64 (phE m d t s c x)], []), (GTab.lookD (tabK) ((19 : Nat)) ([D.val (Value.agg { toList := [Value.int IntKind.i64 m, Value.int IntKind.i64 d, Value.int IntKind.i64 t, Value.int IntKind.i64 s, Value.int IntKind.i64 c] }), D.val (Value.int IntKind.i64 x)])) = some (Value.tuple #[Value.bool (fiB m d t s c x), Value.int IntKind.i64 (phE m d t s c x)], []), (GTab.lookD (tabK) ((18 : Nat)) ([D.val (Value.agg { toList := [Value.int IntKind.i64 m, Value.int IntKind.i64 d, Value.int IntKind.i64 t, Value.int IntKind.i64 s, Value.int IntKind.i64 c] }), D.val (Value.int IntKind.i64 x)])) = some (Value.tuple #[Value.bool (fiB m d t s c x), Value.int IntKind.i64 (phE m d t s c x)], []), (phE m d t s c x != phE m d t s c x) = false, (lawK_b3 m d t s c x) = false, (GTab.lookD (tabK) ((17 : Nat)) ([D.val (Value.agg { toList := [Value.int IntKind.i64 m, Value.int IntKind.i64 d, Value.int IntKind.i64 t, Value.int IntKind.i64 s, Value.int IntKind.i64 c] }), D.val (Value.int IntKind.i64 x)])) = some (Value.tuple #[Value.agg #[Value.int IntKind.i64 (phA m d t s c x), Value.int IntKind.i64 (phB m d t s c x), Value.int IntKind.i64 (phC m d t s c x), Value.int IntKind.i64 (phF m d t s c x)], Value.int IntKind.i64 (phE m d t s c x)], []), (GTab.lookD (tabK) ((16 : Nat)) ([D.val (Value.agg { toList := [Value.int IntKind.i64 m, Value.int IntKind.i64 d, Value.int IntKind.i64 t, Value.int IntKind.i64 s, Value.int IntKind.i64 c] }), D.val (Value.int IntKind.i64 x)])) = some (Value.tuple #[Value.agg #[Value.int IntKind.i64 (phA m d t s c x), Value.int IntKind.i64 (phB m d t s c x), Value.int IntKind.i64 (phC m d t s c x), Value.int IntKind.i64 (phF m d t s c x)], Value.int IntKind.i64 (phE m d t s c x)], []), (ckX m d t s c != ckX m d t s c) = false, (slX m d t s c != slX m d t s c) = false, (ckX m d t s c != ckX m d t s c) = false, (trX m d t s c != trX m d t s c) = false, (ckX m d t s c != ckX m d t s c) = false, (GTab.lookD (tabK) ((15 : Nat)) ([D.val (Value.agg { toList := [Value.int IntKind.i64 m, Value.int IntKind.i64 d, Value.int IntKind.i64 t, Value.int IntKind.i64 s, Value.int IntKind.i64 c] })])) = some (Value.int IntKind.i64 (ckX m d t s c), []), (GTab.lookD (tabK) ((14 : Nat)) ([D.val (Value.agg { toList := [Value.int IntKind.i64 m, Value.int IntKind.i64 d, Value.int IntKind.i64 t, Value.int IntKind.i64 s, Value.int IntKind.i64 c] })])) = some (Value.int IntKind.i64 (ckX m d t s c), []), (GTab.lookD (tabK) ((13 : Nat)) ([D.val (Value.agg { toList := [Value.int IntKind.i64 m, Value.int IntKind.i64 d, Value.int IntKind.i64 t, Value.int IntKind.i64 s, Value.int IntKind.i64 c] })])) = some (Value.tuple #[Value.int IntKind.i64 (slX m d t s c), Value.int IntKind.i64 (ckX m d t s c)], []), (GTab.lookD (tabK) ((12 : Nat)) ([D.val (Value.agg { toList := [Value.int IntKind.i64 m, Value.int IntKind.i64 d, Value.int IntKind.i64 t, Value.int IntKind.i64 s, Value.int IntKind.i64 c] })])) = some (Value.tuple #[Value.int IntKind.i64 (slX m d t s c), Value.int IntKind.i64 (ckX m d t s c)], []), (GTab.lookD (tabK) ((11 : Nat)) ([D.val (Value.agg { toList := [Value.int IntKind.i64 m, Value.int IntKind.i64 d, Value.int IntKind.i64 t, Value.int IntKind.i64 s, Value.int IntKind.i64 c] })])) = some (Value.tuple #[Value.int IntKind.i64 (trX m d t s c), Value.int IntKind.i64 (ckX m d t s c)], []), (GTab.lookD (tabK) ((10 : Nat)) ([D.val (Value.agg { toList := [Value.int IntKind.i64 m, Value.int IntKind.i64 d, Value.int IntKind.i64 t, Value.int IntKind.i64 s, Value.int IntKind.i64 c] })])) = some (Value.tuple #[Value.int IntKind.i64 (trX m d t s c), Value.int IntKind.i64 (ckX m d t s c)], [])]) (by kernel_rfl) ⟨hq6, hq7, hq6, hq5, (rdeD_at (m) (d) (t) (s) (c) (x) (by first | rfl | assumption | omega | (simp; done) | (simp_all; done) | (simp_all; omega)) (by first | rfl | assumption | omega | (simp; done) | (simp_all; done) | (simp_all; omega))), (pdeD_at (m) (d) (t) (s) (c) (x)), (rfiD_at (m) (d) (t) (s) (c) (x) (by first | rfl | assumption | omega | (simp; done) | (simp_all; done) | (simp_all; omega)) (by first | rfl | assumption | omega | (simp; done) | (simp_all; done) | (simp_all; omega))), (pfiD_at (m) (d) (t) (s) (c) (x)), hq4, hq3, (roD_at (m) (d) (t) (s) (c) (x) (by first | rfl | assumption | omega | (simp; done) | (simp_all; done) | (simp_all; omega)) (by first | rfl | assumption | omega | (simp; done) | (simp_all; done) | (simp_all; omega))), (poD_at (m) (d) (t) (s) (c) (x)), hq0, hq2, hq0, hq1, hq0, (rkD_at (m) (d) (t) (s) (c) (by first | rfl | assumption | omega | (simp; done) | (simp_all; done) | (simp_all; omega)) (by first | rfl | assumption | omega | (simp; done) | (simp_all; done) | (simp_all; omega))), (pkD_at (m) (d) (t) (s) (c)), (rslD_at (m) (d) (t) (s) (c) (by first | rfl | assumption | omega | (simp; done) | (simp_all; done) | (simp_all; omega)) (by first | rfl | assumption | omega | (simp; done) | (simp_all; done) | (simp_all; omega))), (pslD_at (m) (d) (t) (s) (c)), (rtrD_at (m) (d) (t) (s) (c) (by first | rfl | assumption | omega | (simp; done) | (simp_all; done) | (simp_all; omega)) (by first | rfl | assumption | omega | (simp; done) | (simp_all; done) | (simp_all; omega))), (ptrD_at (m) (d) (t) (s) (c)), trivial⟩ (by kernel_rfl)) (by first | rfl | (simp; done) | (simp_all; done)) (by first | rfl | (simp [rowA_nil]; done) | (simp only [rowA_eq]; rfl) | (simp_all [rowA_nil]; done))
set_option maxHeartbeats 8000000 in
theorem lawK (m d t s c x : Int) (hs : s ≤ 9223372036854775807) (hcc : c ≤ 9223372036854775807) : KnownR Try.prog [] 3 [.val (.agg #[.int .i64 m, .int .i64 d, .int .i64 t, .int .i64 s, .int .i64 c]), .val (.int .i64 x)] (.bool (true)) [] := by
 have hq0 : (ckX m d t s c != ckX m d t s c) = false := by
  rcases Bool.eq_false_or_eq_true (ckX m d t s c != ckX m d t s c) with h | h
  ·exfalso; (try simp only [lawK_b3] at *); (first | (simp_all only [Bool.and_eq_true, Bool.not_eq_true', Bool.false_eq_true, Bool.true_eq_false, reduceCtorEq]; done) | (simp only [sx, sy, eq_self, ne_eq, IntKind.wrap_i64, wrapU64, Int.reduceLT] at * <;> first | with_reducible contradiction | omega) | omega | ((try simp only [sx, sy, eq_self, ne_eq, IntKind.wrap_i64, wrapU64, Int.reduceLT] at *) <;> omega) | (simp_all; done))
  ·exact h
 have hq1 : (trX m d t s c != trX m d t s c) = false := by
  rcases Bool.eq_false_or_eq_true (trX m d t s c != trX m d t s c) with h | h
  ·exfalso; (try simp only [lawK_b3] at *); (first | (simp_all only [Bool.and_eq_true, Bool.not_eq_true', Bool.false_eq_true, Bool.true_eq_false, reduceCtorEq]; done) | (simp only [sx, sy, eq_self, ne_eq, IntKind.wrap_i64, wrapU64, Int.reduceLT] at * <;> first | with_reducible contradiction | omega) | omega | ((try simp only [sx, sy, eq_self, ne_eq, IntKind.wrap_i64, wrapU64, Int.reduceLT] at *) <;> omega) | (simp_all; done))
  ·exact h
 have hq2 : (slX m d t s c != slX m d t s c) = false := by
  rcases Bool.eq_false_or_eq_true (slX m d t s c != slX m d t s c) with h | h
  ·exfalso; (try simp only [lawK_b3] at *); (first | (simp_all only [Bool.and_eq_true, Bool.not_eq_true', Bool.false_eq_true, Bool.true_eq_false, reduceCtorEq]; done) | (simp only [sx, sy, eq_self, ne_eq, IntKind.wrap_i64, wrapU64, Int.reduceLT] at * <;> first | with_reducible contradiction | omega) | omega | ((try simp only [sx, sy, eq_self, ne_eq, IntKind.wrap_i64, wrapU64, Int.reduceLT] at *) <;> omega) | (simp_all; done))
  ·exact h
 have hq3 : (lawK_b3 m d t s c x) = false := by
  rcases Bool.eq_false_or_eq_true (lawK_b3 m d t s c x) with h | h
  ·exfalso; (try simp only [lawK_b3] at *); (first | (simp_all only [Bool.and_eq_true, Bool.not_eq_true', Bool.false_eq_true, Bool.true_eq_false, reduceCtorEq]; done) | (simp only [sx, sy, eq_self, ne_eq, IntKind.wrap_i64, wrapU64, Int.reduceLT] at * <;> first | with_reducible contradiction | omega) | omega | ((try simp only [sx, sy, eq_self, ne_eq, IntKind.wrap_i64, wrapU64, Int.reduceLT] at *) <;> omega) | (simp_all; done))
  ·exact h
 have hq4 : (phE m d t s c x != phE m d t s c x) = false := by
  rcases Bool.eq_false_or_eq_true (phE m d t s c x != phE m d t s c x) with h | h
  ·exfalso; (try simp only [lawK_b3] at *); (first | (simp_all only [Bool.and_eq_true, Bool.not_eq_true', Bool.false_eq_true, Bool.true_eq_false, reduceCtorEq]; done) | (simp only [sx, sy, eq_self, ne_eq, IntKind.wrap_i64, wrapU64, Int.reduceLT] at * <;> first | with_reducible contradiction | omega) | omega | ((try simp only [sx, sy, eq_self, ne_eq, IntKind.wrap_i64, wrapU64, Int.reduceLT] at *) <;> omega) | (simp_all; done))
  ·exact h
 have hq5 : (fiB m d t s c x == fiB m d t s c x) = true := by
  rcases Bool.eq_false_or_eq_true (fiB m d t s c x == fiB m d t s c x) with h | h
  ·exact h
  ·exfalso; (try simp only [lawK_b3] at *); (first | (simp_all only [Bool.and_eq_true, Bool.not_eq_true', Bool.false_eq_true, Bool.true_eq_false, reduceCtorEq]; done) | (simp only [sx, sy, eq_self, ne_eq, IntKind.wrap_i64, wrapU64, Int.reduceLT] at * <;> first | with_reducible contradiction | omega) | omega | ((try simp only [sx, sy, eq_self, ne_eq, IntKind.wrap_i64, wrapU64, Int.reduceLT] at *) <;> omega) | (simp_all; done))
 have hq6 : (phE m d t s c x == phE m d t s c x) = true := by
  rcases Bool.eq_false_or_eq_true (phE m d t s c x == phE m d t s c x) with h | h
  ·exact h
  ·exfalso; (try simp only [lawK_b3] at *); (first | (simp_all only [Bool.and_eq_true, Bool.not_eq_true', Bool.false_eq_true, Bool.true_eq_false, reduceCtorEq]; done) | (simp only [sx, sy, eq_self, ne_eq, IntKind.wrap_i64, wrapU64, Int.reduceLT] at * <;> first | with_reducible contradiction | omega) | omega | ((try simp only [sx, sy, eq_self, ne_eq, IntKind.wrap_i64, wrapU64, Int.reduceLT] at *) <;> omega) | (simp_all; done))
 have hq7 : (deB m d t s c x == deB m d t s c x) = true := by
  rcases Bool.eq_false_or_eq_true (deB m d t s c x == deB m d t s c x) with h | h
  ·exact h
  ·exfalso; (try simp only [lawK_b3] at *); (first | (simp_all only [Bool.and_eq_true, Bool.not_eq_true', Bool.false_eq_true, Bool.true_eq_false, reduceCtorEq]; done) | (simp only [sx, sy, eq_self, ne_eq, IntKind.wrap_i64, wrapU64, Int.reduceLT] at * <;> first | with_reducible contradiction | omega) | omega | ((try simp only [sx, sy, eq_self, ne_eq, IntKind.wrap_i64, wrapU64, Int.reduceLT] at *) <;> omega) | (simp_all; done))
 exact lawK_p0 m d t s c x hs hcc hq0 hq1 hq2 hq3 hq4 hq5 hq6 hq7
def In64 (n : Int) : Prop := -9223372036854775808 ≤ n ∧ n ≤ 9223372036854775807
theorem phaseTicks_true (m d t s c x : Int) (w : World) (_ : In64 m) (_ : In64 d) (_ : In64 t) (h3 : In64 s) (h4 : In64 c) (_ : In64 x) :
  Calls Try.prog 3 #[.agg #[.int .i64 m, .int .i64 d, .int .i64 t, .int .i64 s, .int .i64 c], .int .i64 x] w fun e w' => e = .returned (.bool true) ∧ Below w.heap.size w w' :=
 knownR_law (lawK m d t s c x h3.2 h4.2) (LaidL.nil w) (.cons (.val rfl) (.cons (.val rfl) .nil))
end Go.Proofs.Ytaogbagopdlkmaa
