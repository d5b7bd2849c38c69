/- Layer 33: WordBits. -/
import Derived.Test.YtfpabkpmcmfbhaaDoorWN
import Derived.Test.YtfpabkpmcmfbhaaDoorSI33
import Derived.Test.YtfpabkpmcmfbhaaDoorKnWordKnown
import Derived.Test.YtfpabkpmcmfbhaaDoorFrL
import Derived.ProofKit
import Derived.IntWalk
namespace Go.Proofs.YtfpabkpmcmfbhaaDoor
open Go Go.RowKit
set_option linter.unusedVariables false
set_option linter.unusedSimpArgs false
set_option linter.unnecessarySimpa false
set_option maxHeartbeats 8000000
set_option maxRecDepth 100000
attribute [local irreducible] vlX csL tsX ewX dfL mgX
theorem caP (a c : Int)  : KnownR Tryd.prog knWordKnownL 6 [.val (.int .i64 a), .val (.int .i64 c)] (.tuple #[.complex .f64 0 (csL a c).length, .int .i64 (vlX a c)]) ([(rowA gI (csL a c), 3)]) := pcars_all a c
noncomputable def caP_A (p : Int × Int × Unit) : List D := match p with
  | (a, c, _) => [.val (.int .i64 a), .val (.int .i64 c)]
noncomputable def caP_C (p : Int × Int × Unit) : Prop := match p with
  | (a, c, _) => True
noncomputable def caP_R (p : Int × Int × Unit) : Value × Outs := match p with
  | (a, c, _) => (.tuple #[.complex .f64 0 (csL a c).length, .int .i64 (vlX a c)], [(rowA gI (csL a c), 3)])
theorem caP_inj : ∀ p q, caP_C p → caP_C q → caP_A p = caP_A q → caP_R p = caP_R q := by
  rintro ⟨a, c, _⟩ ⟨a', c', _⟩ _ _ e
  simp only [caP_A, List.cons.injEq, D.list.injEq, D.val.injEq, D.agg.injEq, Value.int.injEq, Value.bool.injEq, Value.string.injEq, Value.agg.injEq, Array.mk.injEq, and_true, true_and, gI_inj, gB_inj, gI_inj] at e
  simp_all
noncomputable def caP_k : List D → Option (Value × Outs) := fnP caP_A caP_C caP_R
theorem caP_n (a c : Int)    : KnownR Tryd.prog knWordKnownL 6 [.val (.int .i64 a), .val (.int .i64 c)] (.tuple #[.complex .f64 0 (csL a c).length, .int .i64 (vlX a c)]) ([(rowA gI (csL a c), 3)]) := by
  skip
  exact caP _ _ 
theorem caP_ok : ∀ ds v bs, caP_k ds = some (v, bs) → KnownR Tryd.prog knWordKnownL 6 ds v bs := fnP_ok (by
  rintro ⟨a, c, _⟩ _
  exact caP_n _ _  )
theorem caP_at (a c : Int)    : caP_k [.val (.int .i64 a), .val (.int .i64 c)] = some (.tuple #[.complex .f64 0 (csL a c).length, .int .i64 (vlX a c)], [(rowA gI (csL a c), 3)]) := fnP_at (p := (a, c, ())) caP_inj trivial rfl rfl
theorem caR (a c : Int)  : KnownR Tryd.prog knWordKnownL 7 [.val (.int .i64 a), .val (.int .i64 c)] (.tuple #[.complex .f64 0 (csL a c).length, .int .i64 (vlX a c)]) ([(rowA gI (csL a c), 3)]) := rcars_all a c
noncomputable def caR_A (p : Int × Int × Unit) : List D := match p with
  | (a, c, _) => [.val (.int .i64 a), .val (.int .i64 c)]
noncomputable def caR_C (p : Int × Int × Unit) : Prop := match p with
  | (a, c, _) => True
noncomputable def caR_R (p : Int × Int × Unit) : Value × Outs := match p with
  | (a, c, _) => (.tuple #[.complex .f64 0 (csL a c).length, .int .i64 (vlX a c)], [(rowA gI (csL a c), 3)])
theorem caR_inj : ∀ p q, caR_C p → caR_C q → caR_A p = caR_A q → caR_R p = caR_R q := by
  rintro ⟨a, c, _⟩ ⟨a', c', _⟩ _ _ e
  simp only [caR_A, List.cons.injEq, D.list.injEq, D.val.injEq, D.agg.injEq, Value.int.injEq, Value.bool.injEq, Value.string.injEq, Value.agg.injEq, Array.mk.injEq, and_true, true_and, gI_inj, gB_inj, gI_inj] at e
  simp_all
noncomputable def caR_k : List D → Option (Value × Outs) := fnP caR_A caR_C caR_R
theorem caR_n (a c : Int)    : KnownR Tryd.prog knWordKnownL 7 [.val (.int .i64 a), .val (.int .i64 c)] (.tuple #[.complex .f64 0 (csL a c).length, .int .i64 (vlX a c)]) ([(rowA gI (csL a c), 3)]) := by
  skip
  exact caR _ _ 
theorem caR_ok : ∀ ds v bs, caR_k ds = some (v, bs) → KnownR Tryd.prog knWordKnownL 7 ds v bs := fnP_ok (by
  rintro ⟨a, c, _⟩ _
  exact caR_n _ _  )
theorem caR_at (a c : Int)    : caR_k [.val (.int .i64 a), .val (.int .i64 c)] = some (.tuple #[.complex .f64 0 (csL a c).length, .int .i64 (vlX a c)], [(rowA gI (csL a c), 3)]) := fnP_at (p := (a, c, ())) caR_inj trivial rfl rfl
theorem teP (a c : Int) : Known Tryd.prog knWordKnownL 8 [.int .i64 a, .int .i64 c] (.tuple #[.string (tsX a c), .int .i64 (vlX a c)]) := ptext_all a c
noncomputable def teP_k : List Value → Option Value
  | [.int .i64 a, .int .i64 c] => some (.tuple #[.string (tsX a c), .int .i64 (vlX a c)])
  | _ => none
theorem teP_ok : ∀ args v, teP_k args = some v → Known Tryd.prog knWordKnownL 8 args v := by
  intro args v h
  unfold teP_k at h
  split at h
  · injection h with h; subst h; exact teP _ _
  · cases h
theorem teR (a c : Int) : Known Tryd.prog knWordKnownL 9 [.int .i64 a, .int .i64 c] (.tuple #[.string (tsX a c), .int .i64 (vlX a c)]) := rtext_all a c
noncomputable def teR_k : List Value → Option Value
  | [.int .i64 a, .int .i64 c] => some (.tuple #[.string (tsX a c), .int .i64 (vlX a c)])
  | _ => none
theorem teR_ok : ∀ args v, teR_k args = some v → Known Tryd.prog knWordKnownL 9 args v := by
  intro args v h
  unfold teR_k at h
  split at h
  · injection h with h; subst h; exact teR _ _
  · cases h
theorem meP (a b c : Int)  : KnownR Tryd.prog knWordKnownL 11 [.val (.int .i64 a), .val (.int .i64 b), .val (.int .i64 c)] (.tuple #[.int .i64 (mgX a b c), .int .i64 (ewX a b c)]) ([]) := pmerge a b c
noncomputable def meP_A (p : Int × Int × Int × Unit) : List D := match p with
  | (a, b, c, _) => [.val (.int .i64 a), .val (.int .i64 b), .val (.int .i64 c)]
noncomputable def meP_C (p : Int × Int × Int × Unit) : Prop := match p with
  | (a, b, c, _) => True
noncomputable def meP_R (p : Int × Int × Int × Unit) : Value × Outs := match p with
  | (a, b, c, _) => (.tuple #[.int .i64 (mgX a b c), .int .i64 (ewX a b c)], [])
theorem meP_inj : ∀ p q, meP_C p → meP_C q → meP_A p = meP_A q → meP_R p = meP_R q := by
  rintro ⟨a, b, c, _⟩ ⟨a', b', c', _⟩ _ _ e
  simp only [meP_A, List.cons.injEq, D.list.injEq, D.val.injEq, D.agg.injEq, Value.int.injEq, Value.bool.injEq, Value.string.injEq, Value.agg.injEq, Array.mk.injEq, and_true, true_and, gI_inj, gB_inj, gI_inj] at e
  simp_all
noncomputable def meP_k : List D → Option (Value × Outs) := fnP meP_A meP_C meP_R
theorem meP_n (a b c : Int)    : KnownR Tryd.prog knWordKnownL 11 [.val (.int .i64 a), .val (.int .i64 b), .val (.int .i64 c)] (.tuple #[.int .i64 (mgX a b c), .int .i64 (ewX a b c)]) ([]) := by
  skip
  exact meP _ _ _ 
theorem meP_ok : ∀ ds v bs, meP_k ds = some (v, bs) → KnownR Tryd.prog knWordKnownL 11 ds v bs := fnP_ok (by
  rintro ⟨a, b, c, _⟩ _
  exact meP_n _ _ _  )
theorem meP_at (a b c : Int)    : meP_k [.val (.int .i64 a), .val (.int .i64 b), .val (.int .i64 c)] = some (.tuple #[.int .i64 (mgX a b c), .int .i64 (ewX a b c)], []) := fnP_at (p := (a, b, c, ())) meP_inj trivial rfl rfl
theorem meR (a b c : Int)  : KnownR Tryd.prog knWordKnownL 12 [.val (.int .i64 a), .val (.int .i64 b), .val (.int .i64 c)] (.tuple #[.int .i64 (mgX a b c), .int .i64 (ewX a b c)]) ([]) := rmerge a b c
noncomputable def meR_A (p : Int × Int × Int × Unit) : List D := match p with
  | (a, b, c, _) => [.val (.int .i64 a), .val (.int .i64 b), .val (.int .i64 c)]
noncomputable def meR_C (p : Int × Int × Int × Unit) : Prop := match p with
  | (a, b, c, _) => True
noncomputable def meR_R (p : Int × Int × Int × Unit) : Value × Outs := match p with
  | (a, b, c, _) => (.tuple #[.int .i64 (mgX a b c), .int .i64 (ewX a b c)], [])
theorem meR_inj : ∀ p q, meR_C p → meR_C q → meR_A p = meR_A q → meR_R p = meR_R q := by
  rintro ⟨a, b, c, _⟩ ⟨a', b', c', _⟩ _ _ e
  simp only [meR_A, List.cons.injEq, D.list.injEq, D.val.injEq, D.agg.injEq, Value.int.injEq, Value.bool.injEq, Value.string.injEq, Value.agg.injEq, Array.mk.injEq, and_true, true_and, gI_inj, gB_inj, gI_inj] at e
  simp_all
noncomputable def meR_k : List D → Option (Value × Outs) := fnP meR_A meR_C meR_R
theorem meR_n (a b c : Int)    : KnownR Tryd.prog knWordKnownL 12 [.val (.int .i64 a), .val (.int .i64 b), .val (.int .i64 c)] (.tuple #[.int .i64 (mgX a b c), .int .i64 (ewX a b c)]) ([]) := by
  skip
  exact meR _ _ _ 
theorem meR_ok : ∀ ds v bs, meR_k ds = some (v, bs) → KnownR Tryd.prog knWordKnownL 12 ds v bs := fnP_ok (by
  rintro ⟨a, b, c, _⟩ _
  exact meR_n _ _ _  )
theorem meR_at (a b c : Int)    : meR_k [.val (.int .i64 a), .val (.int .i64 b), .val (.int .i64 c)] = some (.tuple #[.int .i64 (mgX a b c), .int .i64 (ewX a b c)], []) := fnP_at (p := (a, b, c, ())) meR_inj trivial rfl rfl
theorem diP (a b c : Int)  : KnownR Tryd.prog knWordKnownL 13 [.val (.int .i64 a), .val (.int .i64 b), .val (.int .i64 c)] (.tuple #[.complex .f64 0 (dfL a b c).length, .int .i64 (ewX a b c)]) ([(rowA gI (dfL a b c), 3)]) := pdiffer a b c
noncomputable def diP_A (p : Int × Int × Int × Unit) : List D := match p with
  | (a, b, c, _) => [.val (.int .i64 a), .val (.int .i64 b), .val (.int .i64 c)]
noncomputable def diP_C (p : Int × Int × Int × Unit) : Prop := match p with
  | (a, b, c, _) => True
noncomputable def diP_R (p : Int × Int × Int × Unit) : Value × Outs := match p with
  | (a, b, c, _) => (.tuple #[.complex .f64 0 (dfL a b c).length, .int .i64 (ewX a b c)], [(rowA gI (dfL a b c), 3)])
theorem diP_inj : ∀ p q, diP_C p → diP_C q → diP_A p = diP_A q → diP_R p = diP_R q := by
  rintro ⟨a, b, c, _⟩ ⟨a', b', c', _⟩ _ _ e
  simp only [diP_A, List.cons.injEq, D.list.injEq, D.val.injEq, D.agg.injEq, Value.int.injEq, Value.bool.injEq, Value.string.injEq, Value.agg.injEq, Array.mk.injEq, and_true, true_and, gI_inj, gB_inj, gI_inj] at e
  simp_all
noncomputable def diP_k : List D → Option (Value × Outs) := fnP diP_A diP_C diP_R
theorem diP_n (a b c : Int)    : KnownR Tryd.prog knWordKnownL 13 [.val (.int .i64 a), .val (.int .i64 b), .val (.int .i64 c)] (.tuple #[.complex .f64 0 (dfL a b c).length, .int .i64 (ewX a b c)]) ([(rowA gI (dfL a b c), 3)]) := by
  skip
  exact diP _ _ _ 
theorem diP_ok : ∀ ds v bs, diP_k ds = some (v, bs) → KnownR Tryd.prog knWordKnownL 13 ds v bs := fnP_ok (by
  rintro ⟨a, b, c, _⟩ _
  exact diP_n _ _ _  )
theorem diP_at (a b c : Int)    : diP_k [.val (.int .i64 a), .val (.int .i64 b), .val (.int .i64 c)] = some (.tuple #[.complex .f64 0 (dfL a b c).length, .int .i64 (ewX a b c)], [(rowA gI (dfL a b c), 3)]) := fnP_at (p := (a, b, c, ())) diP_inj trivial rfl rfl
theorem diR (a b c : Int)  : KnownR Tryd.prog knWordKnownL 14 [.val (.int .i64 a), .val (.int .i64 b), .val (.int .i64 c)] (.tuple #[.complex .f64 0 (dfL a b c).length, .int .i64 (ewX a b c)]) ([(rowA gI (dfL a b c), 3)]) := rdiffer_all a b c
noncomputable def diR_A (p : Int × Int × Int × Unit) : List D := match p with
  | (a, b, c, _) => [.val (.int .i64 a), .val (.int .i64 b), .val (.int .i64 c)]
noncomputable def diR_C (p : Int × Int × Int × Unit) : Prop := match p with
  | (a, b, c, _) => True
noncomputable def diR_R (p : Int × Int × Int × Unit) : Value × Outs := match p with
  | (a, b, c, _) => (.tuple #[.complex .f64 0 (dfL a b c).length, .int .i64 (ewX a b c)], [(rowA gI (dfL a b c), 3)])
theorem diR_inj : ∀ p q, diR_C p → diR_C q → diR_A p = diR_A q → diR_R p = diR_R q := by
  rintro ⟨a, b, c, _⟩ ⟨a', b', c', _⟩ _ _ e
  simp only [diR_A, List.cons.injEq, D.list.injEq, D.val.injEq, D.agg.injEq, Value.int.injEq, Value.bool.injEq, Value.string.injEq, Value.agg.injEq, Array.mk.injEq, and_true, true_and, gI_inj, gB_inj, gI_inj] at e
  simp_all
noncomputable def diR_k : List D → Option (Value × Outs) := fnP diR_A diR_C diR_R
theorem diR_n (a b c : Int)    : KnownR Tryd.prog knWordKnownL 14 [.val (.int .i64 a), .val (.int .i64 b), .val (.int .i64 c)] (.tuple #[.complex .f64 0 (dfL a b c).length, .int .i64 (ewX a b c)]) ([(rowA gI (dfL a b c), 3)]) := by
  skip
  exact diR _ _ _ 
theorem diR_ok : ∀ ds v bs, diR_k ds = some (v, bs) → KnownR Tryd.prog knWordKnownL 14 ds v bs := fnP_ok (by
  rintro ⟨a, b, c, _⟩ _
  exact diR_n _ _ _  )
theorem diR_at (a b c : Int)    : diR_k [.val (.int .i64 a), .val (.int .i64 b), .val (.int .i64 c)] = some (.tuple #[.complex .f64 0 (dfL a b c).length, .int .i64 (ewX a b c)], [(rowA gI (dfL a b c), 3)]) := fnP_at (p := (a, b, c, ())) diR_inj trivial rfl rfl
theorem sqD (xs ys : List Int) (hx : xs.length ≤ 20000) (hxy : xs = ys) : KnownR Tryd.prog knWordKnownL 10 [.list (rowA gI xs) xs.length, .list (rowA gI ys) ys.length] (.bool true) ([]) := same_q xs ys hx hxy
noncomputable def sqD_A (p : List Int × List Int × Nat × Nat × Unit) : List D := match p with
  | (xs, ys, nn0, nn1, _) => [.list (rowA gI xs) nn0, .list (rowA gI ys) nn1]
noncomputable def sqD_C (p : List Int × List Int × Nat × Nat × Unit) : Prop := match p with
  | (xs, ys, nn0, nn1, _) => (nn0 = xs.length) ∧ (nn1 = ys.length) ∧ (xs.length ≤ 20000) ∧ (xs = ys) ∧ True
noncomputable def sqD_R (p : List Int × List Int × Nat × Nat × Unit) : Value × Outs := match p with
  | (xs, ys, nn0, nn1, _) => (.bool true, [])
theorem sqD_inj : ∀ p q, sqD_C p → sqD_C q → sqD_A p = sqD_A q → sqD_R p = sqD_R q := by
  rintro ⟨xs, ys, nn0, nn1, _⟩ ⟨xs', ys', nn0', nn1', _⟩ _ _ e
  simp only [sqD_A, List.cons.injEq, D.list.injEq, D.val.injEq, D.agg.injEq, Value.int.injEq, Value.bool.injEq, Value.string.injEq, Value.agg.injEq, Array.mk.injEq, and_true, true_and, gI_inj, gB_inj, gI_inj] at e
  simp_all
noncomputable def sqD_k : List D → Option (Value × Outs) := fnP sqD_A sqD_C sqD_R
theorem sqD_n (xs ys : List Int) (nn0 : Nat) (nn1 : Nat) (hn0 : nn0 = xs.length) (hn1 : nn1 = ys.length) (hx : xs.length ≤ 20000) (hxy : xs = ys) : KnownR Tryd.prog knWordKnownL 10 [.list (rowA gI xs) nn0, .list (rowA gI ys) nn1] (.bool true) ([]) := by
  subst hn0; subst hn1; skip
  exact sqD _ _ hx hxy
theorem sqD_ok : ∀ ds v bs, sqD_k ds = some (v, bs) → KnownR Tryd.prog knWordKnownL 10 ds v bs := fnP_ok (by
  rintro ⟨xs, ys, nn0, nn1, _⟩ ⟨hn0, hn1, hx, hxy, _⟩
  exact sqD_n _ _ _ _ hn0 hn1 hx hxy)
theorem sqD_at (xs ys : List Int) (nn0 : Nat) (nn1 : Nat) (hn0 : nn0 = xs.length) (hn1 : nn1 = ys.length) (hx : xs.length ≤ 20000) (hxy : xs = ys) : sqD_k [.list (rowA gI xs) nn0, .list (rowA gI ys) nn1] = some (.bool true, []) := fnP_at (p := (xs, ys, nn0, nn1, ())) sqD_inj ⟨hn0, hn1, hx, hxy, trivial⟩ rfl rfl
noncomputable def tabW3 : GTab := (GTab.fnD 6 caP_k (GTab.fnD 7 caR_k (GTab.fn1 8 teP_k (GTab.fn1 9 teR_k (GTab.fnD 11 meP_k (GTab.fnD 12 meR_k (GTab.fnD 13 diP_k (GTab.fnD 14 diR_k (GTab.fnD 10 sqD_k (GTab.fn1 15 (fun l => match l with | [] => some (.bool true) | _ => none) GTab.none))))))))))
theorem tabW3_ok : GOk Tryd.prog knWordKnownL tabW3 := (GOk.fnD caP_ok (GOk.fnD caR_ok (GOk.fn1 teP_ok (GOk.fn1 teR_ok (GOk.fnD meP_ok (GOk.fnD meR_ok (GOk.fnD diP_ok (GOk.fnD diR_ok (GOk.fnD sqD_ok (GOk.fn1 (known0 knWordKnown_e0) GOk.none))))))))))
noncomputable def lawB_c0 (a b c : Int) : Bool := (bif (!(tsX a c).toList == (tsX a c).toList) then (false) else (true))
theorem lawB_p0 (a b c : Int) (h1 : (csL a c).length ≤ 20000) (h2 : (dfL a b c).length ≤ 20000) (hq0 : (vlX a c != vlX a c) = false) (hq1 : (!(tsX a c).toList == (tsX a c).toList) = true) : Known Tryd.prog knWordKnownL 3 [.int .i64 a, .int .i64 b, .int .i64 c] (.bool (false)) :=
  open_res mix tabW3_ok (T := tabW3) (fuel := 3000) (ans := [(0, .outs (Value.tuple #[Value.complex FloatKind.f64 (0 : Nat) (csL a c).length, Value.int IntKind.i64 (vlX a c)]) ([(rowA gI (csL a c), (3 : TypeId))])), (1, .outs (Value.tuple #[Value.complex FloatKind.f64 (0 : Nat) (csL a c).length, Value.int IntKind.i64 (vlX a c)]) ([(rowA gI (csL a c), (3 : TypeId))])), (4, .outs (Value.bool true) ([])), (9, .b 0), (13, .b 1)]) (log := [(!(tsX a c).toList == (tsX a c).toList) = true, (vlX a c != vlX a c) = false, (GTab.lookD (tabW3) ((10 : Nat)) ([D.list (rowA gI (csL a c)) (csL a c).length, D.list (rowA gI (csL a c)) (csL a c).length])) = some (Value.bool true, []), (GTab.lookD (tabW3) ((7 : Nat)) ([D.val (Value.int IntKind.i64 a), D.val (Value.int IntKind.i64 c)])) = some (Value.tuple #[Value.complex FloatKind.f64 (0 : Nat) (csL a c).length, Value.int IntKind.i64 (vlX a c)], [(rowA gI (csL a c), (3 : TypeId))]), (GTab.lookD (tabW3) ((6 : Nat)) ([D.val (Value.int IntKind.i64 a), D.val (Value.int IntKind.i64 c)])) = some (Value.tuple #[Value.complex FloatKind.f64 (0 : Nat) (csL a c).length, Value.int IntKind.i64 (vlX a c)], [(rowA gI (csL a c), (3 : TypeId))])]) (by kernel_rfl) ⟨hq1, hq0, (sqD_at (csL a c) (csL a c) ((csL a c).length) ((csL a c).length) (by first | rfl | assumption | omega | (simp; done) | (simp_all; done) | (simp_all; omega)) (by first | rfl | assumption | omega | (simp; done) | (simp_all; done) | (simp_all; omega)) (by first | rfl | assumption | omega | (simp; done) | (simp_all; done) | (simp_all; omega)) (by first | rfl | assumption | omega | (simp; done) | (simp_all; done) | (simp_all; omega))), (caR_at (a) (c)), (caP_at (a) (c)), trivial⟩ (by kernel_rfl)
theorem lawB_p1 (a b c : Int) (h1 : (csL a c).length ≤ 20000) (h2 : (dfL a b c).length ≤ 20000) (hq0 : (vlX a c != vlX a c) = false) (hq1 : (!(tsX a c).toList == (tsX a c).toList) = false) (hq2 : (mgX a b c == mgX a b c) = true) (hq3 : (ewX a b c == ewX a b c) = true) : Known Tryd.prog knWordKnownL 3 [.int .i64 a, .int .i64 b, .int .i64 c] (.bool (true)) :=
  open_res mix tabW3_ok (T := tabW3) (fuel := 3000) (ans := [(0, .outs (Value.tuple #[Value.complex FloatKind.f64 (0 : Nat) (csL a c).length, Value.int IntKind.i64 (vlX a c)]) ([(rowA gI (csL a c), (3 : TypeId))])), (1, .outs (Value.tuple #[Value.complex FloatKind.f64 (0 : Nat) (csL a c).length, Value.int IntKind.i64 (vlX a c)]) ([(rowA gI (csL a c), (3 : TypeId))])), (4, .outs (Value.bool true) ([])), (9, .b 0), (13, .b 0), (17, .b 0), (18, .outs (Value.tuple #[Value.int IntKind.i64 (mgX a b c), Value.int IntKind.i64 (ewX a b c)]) ([])), (19, .outs (Value.tuple #[Value.int IntKind.i64 (mgX a b c), Value.int IntKind.i64 (ewX a b c)]) ([])), (20, .outs (Value.tuple #[Value.complex FloatKind.f64 (0 : Nat) (dfL a b c).length, Value.int IntKind.i64 (ewX a b c)]) ([(rowA gI (dfL a b c), (3 : TypeId))])), (21, .outs (Value.tuple #[Value.complex FloatKind.f64 (0 : Nat) (dfL a b c).length, Value.int IntKind.i64 (ewX a b c)]) ([(rowA gI (dfL a b c), (3 : TypeId))])), (22, .b 1), (26, .b 1), (29, .outs (Value.bool true) ([])), (35, .b 1)]) (log := [(ewX a b c == ewX a b c) = true, (GTab.lookD (tabW3) ((10 : Nat)) ([D.list (rowA gI (dfL a b c)) (dfL a b c).length, D.list (rowA gI (dfL a b c)) (dfL a b c).length])) = some (Value.bool true, []), (ewX a b c == ewX a b c) = true, (mgX a b c == mgX a b c) = true, (GTab.lookD (tabW3) ((14 : Nat)) ([D.val (Value.int IntKind.i64 a), D.val (Value.int IntKind.i64 b), D.val (Value.int IntKind.i64 c)])) = some (Value.tuple #[Value.complex FloatKind.f64 (0 : Nat) (dfL a b c).length, Value.int IntKind.i64 (ewX a b c)], [(rowA gI (dfL a b c), (3 : TypeId))]), (GTab.lookD (tabW3) ((13 : Nat)) ([D.val (Value.int IntKind.i64 a), D.val (Value.int IntKind.i64 b), D.val (Value.int IntKind.i64 c)])) = some (Value.tuple #[Value.complex FloatKind.f64 (0 : Nat) (dfL a b c).length, Value.int IntKind.i64 (ewX a b c)], [(rowA gI (dfL a b c), (3 : TypeId))]), (GTab.lookD (tabW3) ((12 : Nat)) ([D.val (Value.int IntKind.i64 a), D.val (Value.int IntKind.i64 b), D.val (Value.int IntKind.i64 c)])) = some (Value.tuple #[Value.int IntKind.i64 (mgX a b c), Value.int IntKind.i64 (ewX a b c)], []), (GTab.lookD (tabW3) ((11 : Nat)) ([D.val (Value.int IntKind.i64 a), D.val (Value.int IntKind.i64 b), D.val (Value.int IntKind.i64 c)])) = some (Value.tuple #[Value.int IntKind.i64 (mgX a b c), Value.int IntKind.i64 (ewX a b c)], []), (vlX a c != vlX a c) = false, (!(tsX a c).toList == (tsX a c).toList) = false, (vlX a c != vlX a c) = false, (GTab.lookD (tabW3) ((10 : Nat)) ([D.list (rowA gI (csL a c)) (csL a c).length, D.list (rowA gI (csL a c)) (csL a c).length])) = some (Value.bool true, []), (GTab.lookD (tabW3) ((7 : Nat)) ([D.val (Value.int IntKind.i64 a), D.val (Value.int IntKind.i64 c)])) = some (Value.tuple #[Value.complex FloatKind.f64 (0 : Nat) (csL a c).length, Value.int IntKind.i64 (vlX a c)], [(rowA gI (csL a c), (3 : TypeId))]), (GTab.lookD (tabW3) ((6 : Nat)) ([D.val (Value.int IntKind.i64 a), D.val (Value.int IntKind.i64 c)])) = some (Value.tuple #[Value.complex FloatKind.f64 (0 : Nat) (csL a c).length, Value.int IntKind.i64 (vlX a c)], [(rowA gI (csL a c), (3 : TypeId))])]) (by kernel_rfl) ⟨hq3, (sqD_at (dfL a b c) (dfL a b c) ((dfL a b c).length) ((dfL a b c).length) (by first | rfl | assumption | omega | (simp; done) | (simp_all; done) | (simp_all; omega)) (by first | rfl | assumption | omega | (simp; done) | (simp_all; done) | (simp_all; omega)) (by first | rfl | assumption | omega | (simp; done) | (simp_all; done) | (simp_all; omega)) (by first | rfl | assumption | omega | (simp; done) | (simp_all; done) | (simp_all; omega))), hq3, hq2, (diR_at (a) (b) (c)), (diP_at (a) (b) (c)), (meR_at (a) (b) (c)), (meP_at (a) (b) (c)), hq0, hq1, hq0, (sqD_at (csL a c) (csL a c) ((csL a c).length) ((csL a c).length) (by first | rfl | assumption | omega | (simp; done) | (simp_all; done) | (simp_all; omega)) (by first | rfl | assumption | omega | (simp; done) | (simp_all; done) | (simp_all; omega)) (by first | rfl | assumption | omega | (simp; done) | (simp_all; done) | (simp_all; omega)) (by first | rfl | assumption | omega | (simp; done) | (simp_all; done) | (simp_all; omega))), (caR_at (a) (c)), (caP_at (a) (c)), trivial⟩ (by kernel_rfl)
set_option maxHeartbeats 8000000 in
theorem lawB (a b c : Int) (h1 : (csL a c).length ≤ 20000) (h2 : (dfL a b c).length ≤ 20000) : Known Tryd.prog knWordKnownL 3 [.int .i64 a, .int .i64 b, .int .i64 c] (.bool (lawB_c0 a b c)) := by
  have hq0 : (vlX a c != vlX a c) = false := by
    rcases Bool.eq_false_or_eq_true (vlX a c != vlX a c) with h | h
    · exfalso; (first | (simp_all only [Bool.and_eq_true, Bool.not_eq_true', Bool.false_eq_true, Bool.true_eq_false, reduceCtorEq]; done) | (simp only [sx, sy, eq_self, ne_eq, IntKind.wrap_i64, wrapU64, Int.reduceLT] at * <;> first | contradiction | omega) | omega | ((try simp only [sx, sy, eq_self, ne_eq, IntKind.wrap_i64, wrapU64, Int.reduceLT] at *) <;> omega) | (simp_all; done))
    · exact h
  rcases Bool.eq_false_or_eq_true (!(tsX a c).toList == (tsX a c).toList) with hq1 | hq1
  ·
    have e0 : lawB_c0 a b c = (false) := ((bif_t hq1 _ _).trans rfl); rw [e0]; exact lawB_p0 a b c h1 h2 hq0 hq1
  ·
    have hq2 : (mgX a b c == mgX a b c) = true := by
      rcases Bool.eq_false_or_eq_true (mgX a b c == mgX a b c) with h | h
      · exact h
      · exfalso; (first | (simp_all only [Bool.and_eq_true, Bool.not_eq_true', Bool.false_eq_true, Bool.true_eq_false, reduceCtorEq]; done) | (simp only [sx, sy, eq_self, ne_eq, IntKind.wrap_i64, wrapU64, Int.reduceLT] at * <;> first | contradiction | omega) | omega | ((try simp only [sx, sy, eq_self, ne_eq, IntKind.wrap_i64, wrapU64, Int.reduceLT] at *) <;> omega) | (simp_all; done))
    have hq3 : (ewX a b c == ewX a b c) = true := by
      rcases Bool.eq_false_or_eq_true (ewX a b c == ewX a b c) with h | h
      · exact h
      · exfalso; (first | (simp_all only [Bool.and_eq_true, Bool.not_eq_true', Bool.false_eq_true, Bool.true_eq_false, reduceCtorEq]; done) | (simp only [sx, sy, eq_self, ne_eq, IntKind.wrap_i64, wrapU64, Int.reduceLT] at * <;> first | contradiction | omega) | omega | ((try simp only [sx, sy, eq_self, ne_eq, IntKind.wrap_i64, wrapU64, Int.reduceLT] at *) <;> omega) | (simp_all; done))
    have e0 : lawB_c0 a b c = (true) := ((bif_f hq1 _ _).trans rfl); rw [e0]; exact lawB_p1 a b c h1 h2 hq0 hq1 hq2 hq3

def In64 (n : Int) : Prop := -9223372036854775808 ≤ n ∧ n ≤ 9223372036854775807
theorem wordBits_true (a b c : Int) (w : World) (_ : In64 a) (_ : In64 b) (_ : In64 c) (hl : LaidL knWordKnownL w) :
    Calls Tryd.prog 3 #[.int .i64 a, .int .i64 b, .int .i64 c] w fun e w' => e = .returned (.bool true) ∧ Below w.heap.size w w' := by
  have k := lawB a b c (csL_len a c) (dfL_len a b c)
  have e : lawB_c0 a b c = true := by unfold lawB_c0; simp
  rw [e] at k
  exact k.2.2 w hl
end Go.Proofs.YtfpabkpmcmfbhaaDoor
