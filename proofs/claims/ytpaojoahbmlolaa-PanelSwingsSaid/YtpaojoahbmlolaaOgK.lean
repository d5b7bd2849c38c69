/- Layer 16: PanelSwings. -/
import Derived.Test.YtpaojoahbmlolaaKI
import Derived.Test.YtpaojoahbmlolaaOgH
import Derived.ProofKit
import Derived.IntWalk
namespace Go.Proofs.Ytpaojoahbmlolaa
open Go Go.RowKit
set_option linter.unusedVariables false
set_option linter.unusedSimpArgs false
set_option linter.unnecessarySimpa false
theorem sgD (a w y : Int) (xs : List Int) (hh : xs.length = xs.length) : KnownR Try.prog [] 23 [.val (.agg #[.int .i64 a, .int .i64 w, .int .i64 y]), .list (rowA gI xs) xs.length] (.tuple #[.agg #[.int .i64 (sgP a w y xs), .int .i64 (sgW a w y xs), .int .i64 (sgY a w y xs)], .int .i64 (sgO a w y xs), .int .i64 (sgC a w y xs), .int .i64 (sgE a w y xs)]) ([]) := swing_pg a w y xs
noncomputable def sgD_A (p : Int × Int × Int × List Int × Nat × Unit) : List D := match p with
  | (a, w, y, xs, nn0, _) => [.val (.agg #[.int .i64 a, .int .i64 w, .int .i64 y]), .list (rowA gI xs) nn0]
noncomputable def sgD_C (p : Int × Int × Int × List Int × Nat × Unit) : Prop := match p with
  | (a, w, y, xs, nn0, _) => (nn0 = xs.length) ∧ (xs.length = xs.length) ∧ True
noncomputable def sgD_R (p : Int × Int × Int × List Int × Nat × Unit) : Value × Outs := match p with
  | (a, w, y, xs, nn0, _) => (.tuple #[.agg #[.int .i64 (sgP a w y xs), .int .i64 (sgW a w y xs), .int .i64 (sgY a w y xs)], .int .i64 (sgO a w y xs), .int .i64 (sgC a w y xs), .int .i64 (sgE a w y xs)], [])
theorem sgD_inj : ∀ p q, sgD_C p → sgD_C q → sgD_A p = sgD_A q → sgD_R p = sgD_R q := by
  rintro ⟨a, w, y, xs, nn0, _⟩ ⟨a', w', y', xs', nn0', _⟩ _ _ e
  simp only [sgD_A, List.cons.injEq, D.list.injEq, D.val.injEq, D.agg.injEq, Value.int.injEq, Value.bool.injEq, Value.string.injEq, Value.agg.injEq, Array.mk.injEq, and_true, true_and, gI_inj, gB_inj] at e
  simp_all
noncomputable def sgD_k : List D → Option (Value × Outs) := fnP sgD_A sgD_C sgD_R
theorem sgD_n (a w y : Int) (xs : List Int) (nn0 : Nat) (hn0 : nn0 = xs.length) (hh : xs.length = xs.length) : KnownR Try.prog [] 23 [.val (.agg #[.int .i64 a, .int .i64 w, .int .i64 y]), .list (rowA gI xs) nn0] (.tuple #[.agg #[.int .i64 (sgP a w y xs), .int .i64 (sgW a w y xs), .int .i64 (sgY a w y xs)], .int .i64 (sgO a w y xs), .int .i64 (sgC a w y xs), .int .i64 (sgE a w y xs)]) ([]) := by
  subst hn0; skip
  exact sgD _ _ _ _ hh
theorem sgD_ok : ∀ ds v bs, sgD_k ds = some (v, bs) → KnownR Try.prog [] 23 ds v bs := fnP_ok (by
  rintro ⟨a, w, y, xs, nn0, _⟩ ⟨hn0, hh, _⟩
  exact sgD_n _ _ _ _ _ hn0 hh)
theorem sgD_at (a w y : Int) (xs : List Int) (nn0 : Nat) (hn0 : nn0 = xs.length) (hh : xs.length = xs.length) : sgD_k [.val (.agg #[.int .i64 a, .int .i64 w, .int .i64 y]), .list (rowA gI xs) nn0] = some (.tuple #[.agg #[.int .i64 (sgP a w y xs), .int .i64 (sgW a w y xs), .int .i64 (sgY a w y xs)], .int .i64 (sgO a w y xs), .int .i64 (sgC a w y xs), .int .i64 (sgE a w y xs)], []) := fnP_at (p := (a, w, y, xs, nn0, ())) sgD_inj ⟨hn0, hh, trivial⟩ rfl rfl
theorem srD (a w y : Int) (xs : List Int) (hh : xs.length = xs.length) : KnownR Try.prog [] 24 [.val (.agg #[.int .i64 a, .int .i64 w, .int .i64 y]), .list (rowA gI xs) xs.length] (.tuple #[.agg #[.int .i64 (sgP a w y xs), .int .i64 (sgW a w y xs), .int .i64 (sgY a w y xs)], .int .i64 (sgO a w y xs), .int .i64 (sgC a w y xs), .int .i64 (sgE a w y xs)]) ([]) := swing_rg a w y xs
noncomputable def srD_A (p : Int × Int × Int × List Int × Nat × Unit) : List D := match p with
  | (a, w, y, xs, nn0, _) => [.val (.agg #[.int .i64 a, .int .i64 w, .int .i64 y]), .list (rowA gI xs) nn0]
noncomputable def srD_C (p : Int × Int × Int × List Int × Nat × Unit) : Prop := match p with
  | (a, w, y, xs, nn0, _) => (nn0 = xs.length) ∧ (xs.length = xs.length) ∧ True
noncomputable def srD_R (p : Int × Int × Int × List Int × Nat × Unit) : Value × Outs := match p with
  | (a, w, y, xs, nn0, _) => (.tuple #[.agg #[.int .i64 (sgP a w y xs), .int .i64 (sgW a w y xs), .int .i64 (sgY a w y xs)], .int .i64 (sgO a w y xs), .int .i64 (sgC a w y xs), .int .i64 (sgE a w y xs)], [])
theorem srD_inj : ∀ p q, srD_C p → srD_C q → srD_A p = srD_A q → srD_R p = srD_R q := by
  rintro ⟨a, w, y, xs, nn0, _⟩ ⟨a', w', y', xs', nn0', _⟩ _ _ e
  simp only [srD_A, List.cons.injEq, D.list.injEq, D.val.injEq, D.agg.injEq, Value.int.injEq, Value.bool.injEq, Value.string.injEq, Value.agg.injEq, Array.mk.injEq, and_true, true_and, gI_inj, gB_inj] at e
  simp_all
noncomputable def srD_k : List D → Option (Value × Outs) := fnP srD_A srD_C srD_R
theorem srD_n (a w y : Int) (xs : List Int) (nn0 : Nat) (hn0 : nn0 = xs.length) (hh : xs.length = xs.length) : KnownR Try.prog [] 24 [.val (.agg #[.int .i64 a, .int .i64 w, .int .i64 y]), .list (rowA gI xs) nn0] (.tuple #[.agg #[.int .i64 (sgP a w y xs), .int .i64 (sgW a w y xs), .int .i64 (sgY a w y xs)], .int .i64 (sgO a w y xs), .int .i64 (sgC a w y xs), .int .i64 (sgE a w y xs)]) ([]) := by
  subst hn0; skip
  exact srD _ _ _ _ hh
theorem srD_ok : ∀ ds v bs, srD_k ds = some (v, bs) → KnownR Try.prog [] 24 ds v bs := fnP_ok (by
  rintro ⟨a, w, y, xs, nn0, _⟩ ⟨hn0, hh, _⟩
  exact srD_n _ _ _ _ _ hn0 hh)
theorem srD_at (a w y : Int) (xs : List Int) (nn0 : Nat) (hn0 : nn0 = xs.length) (hh : xs.length = xs.length) : srD_k [.val (.agg #[.int .i64 a, .int .i64 w, .int .i64 y]), .list (rowA gI xs) nn0] = some (.tuple #[.agg #[.int .i64 (sgP a w y xs), .int .i64 (sgW a w y xs), .int .i64 (sgY a w y xs)], .int .i64 (sgO a w y xs), .int .i64 (sgC a w y xs), .int .i64 (sgE a w y xs)], []) := fnP_at (p := (a, w, y, xs, nn0, ())) srD_inj ⟨hn0, hh, trivial⟩ rfl rfl
theorem olD (a w y t n : Int) (hh : t = t) : KnownR Try.prog [] 28 [.val (.agg #[.int .i64 a, .int .i64 w, .int .i64 y]), .val (.int .i64 t), .val (.int .i64 n)] (.tuple #[.complex .f64 0 (olL a w y t n).length, .int .i64 (olE a w y t n)]) ([(rowA gI (olL a w y t n), 3)]) := orders_p a w y t n
noncomputable def olD_A (p : Int × Int × Int × Int × Int × Unit) : List D := match p with
  | (a, w, y, t, n, _) => [.val (.agg #[.int .i64 a, .int .i64 w, .int .i64 y]), .val (.int .i64 t), .val (.int .i64 n)]
noncomputable def olD_C (p : Int × Int × Int × Int × Int × Unit) : Prop := match p with
  | (a, w, y, t, n, _) => (t = t) ∧ True
noncomputable def olD_R (p : Int × Int × Int × Int × Int × Unit) : Value × Outs := match p with
  | (a, w, y, t, n, _) => (.tuple #[.complex .f64 0 (olL a w y t n).length, .int .i64 (olE a w y t n)], [(rowA gI (olL a w y t n), 3)])
theorem olD_inj : ∀ p q, olD_C p → olD_C q → olD_A p = olD_A q → olD_R p = olD_R q := by
  rintro ⟨a, w, y, t, n, _⟩ ⟨a', w', y', t', n', _⟩ _ _ e
  simp only [olD_A, List.cons.injEq, D.list.injEq, D.val.injEq, D.agg.injEq, Value.int.injEq, Value.bool.injEq, Value.string.injEq, Value.agg.injEq, Array.mk.injEq, and_true, true_and, gI_inj, gB_inj] at e
  simp_all
noncomputable def olD_k : List D → Option (Value × Outs) := fnP olD_A olD_C olD_R
theorem olD_n (a w y t n : Int)   (hh : t = t) : KnownR Try.prog [] 28 [.val (.agg #[.int .i64 a, .int .i64 w, .int .i64 y]), .val (.int .i64 t), .val (.int .i64 n)] (.tuple #[.complex .f64 0 (olL a w y t n).length, .int .i64 (olE a w y t n)]) ([(rowA gI (olL a w y t n), 3)]) := by
  skip
  exact olD _ _ _ _ _ hh
theorem olD_ok : ∀ ds v bs, olD_k ds = some (v, bs) → KnownR Try.prog [] 28 ds v bs := fnP_ok (by
  rintro ⟨a, w, y, t, n, _⟩ ⟨hh, _⟩
  exact olD_n _ _ _ _ _  hh)
theorem olD_at (a w y t n : Int)   (hh : t = t) : olD_k [.val (.agg #[.int .i64 a, .int .i64 w, .int .i64 y]), .val (.int .i64 t), .val (.int .i64 n)] = some (.tuple #[.complex .f64 0 (olL a w y t n).length, .int .i64 (olE a w y t n)], [(rowA gI (olL a w y t n), 3)]) := fnP_at (p := (a, w, y, t, n, ())) olD_inj ⟨hh, trivial⟩ rfl rfl
theorem rlD (a w y t n : Int) (hh : t = t) : KnownR Try.prog [] 29 [.val (.agg #[.int .i64 a, .int .i64 w, .int .i64 y]), .val (.int .i64 t), .val (.int .i64 n)] (.tuple #[.complex .f64 0 (olL a w y t n).length, .int .i64 (olE a w y t n)]) ([(rowA gI (olL a w y t n), 3)]) := orders_r a w y t n
noncomputable def rlD_A (p : Int × Int × Int × Int × Int × Unit) : List D := match p with
  | (a, w, y, t, n, _) => [.val (.agg #[.int .i64 a, .int .i64 w, .int .i64 y]), .val (.int .i64 t), .val (.int .i64 n)]
noncomputable def rlD_C (p : Int × Int × Int × Int × Int × Unit) : Prop := match p with
  | (a, w, y, t, n, _) => (t = t) ∧ True
noncomputable def rlD_R (p : Int × Int × Int × Int × Int × Unit) : Value × Outs := match p with
  | (a, w, y, t, n, _) => (.tuple #[.complex .f64 0 (olL a w y t n).length, .int .i64 (olE a w y t n)], [(rowA gI (olL a w y t n), 3)])
theorem rlD_inj : ∀ p q, rlD_C p → rlD_C q → rlD_A p = rlD_A q → rlD_R p = rlD_R q := by
  rintro ⟨a, w, y, t, n, _⟩ ⟨a', w', y', t', n', _⟩ _ _ e
  simp only [rlD_A, List.cons.injEq, D.list.injEq, D.val.injEq, D.agg.injEq, Value.int.injEq, Value.bool.injEq, Value.string.injEq, Value.agg.injEq, Array.mk.injEq, and_true, true_and, gI_inj, gB_inj] at e
  simp_all
noncomputable def rlD_k : List D → Option (Value × Outs) := fnP rlD_A rlD_C rlD_R
theorem rlD_n (a w y t n : Int)   (hh : t = t) : KnownR Try.prog [] 29 [.val (.agg #[.int .i64 a, .int .i64 w, .int .i64 y]), .val (.int .i64 t), .val (.int .i64 n)] (.tuple #[.complex .f64 0 (olL a w y t n).length, .int .i64 (olE a w y t n)]) ([(rowA gI (olL a w y t n), 3)]) := by
  skip
  exact rlD _ _ _ _ _ hh
theorem rlD_ok : ∀ ds v bs, rlD_k ds = some (v, bs) → KnownR Try.prog [] 29 ds v bs := fnP_ok (by
  rintro ⟨a, w, y, t, n, _⟩ ⟨hh, _⟩
  exact rlD_n _ _ _ _ _  hh)
theorem rlD_at (a w y t n : Int)   (hh : t = t) : rlD_k [.val (.agg #[.int .i64 a, .int .i64 w, .int .i64 y]), .val (.int .i64 t), .val (.int .i64 n)] = some (.tuple #[.complex .f64 0 (olL a w y t n).length, .int .i64 (olE a w y t n)], [(rowA gI (olL a w y t n), 3)]) := fnP_at (p := (a, w, y, t, n, ())) rlD_inj ⟨hh, trivial⟩ rfl rfl
theorem owD (xs : List Int) (hl : xs.length ≤ 10010) : KnownR Try.prog [] 22 [.list (rowA gI xs) xs.length] (.complex .f64 0 xs.length) ([(rowA gI xs, 3)]) := owI xs hl
noncomputable def owD_A (p : List Int × Nat × Unit) : List D := match p with
  | (xs, nn0, _) => [.list (rowA gI xs) nn0]
noncomputable def owD_C (p : List Int × Nat × Unit) : Prop := match p with
  | (xs, nn0, _) => (nn0 = xs.length) ∧ (xs.length ≤ 10010) ∧ True
noncomputable def owD_R (p : List Int × Nat × Unit) : Value × Outs := match p with
  | (xs, nn0, _) => (.complex .f64 0 xs.length, [(rowA gI xs, 3)])
theorem owD_inj : ∀ p q, owD_C p → owD_C q → owD_A p = owD_A q → owD_R p = owD_R q := by
  rintro ⟨xs, nn0, _⟩ ⟨xs', nn0', _⟩ _ _ e
  simp only [owD_A, List.cons.injEq, D.list.injEq, D.val.injEq, D.agg.injEq, Value.int.injEq, Value.bool.injEq, Value.string.injEq, Value.agg.injEq, Array.mk.injEq, and_true, true_and, gI_inj, gB_inj] at e
  simp_all
noncomputable def owD_k : List D → Option (Value × Outs) := fnP owD_A owD_C owD_R
theorem owD_n (xs : List Int) (nn0 : Nat) (hn0 : nn0 = xs.length) (hl : xs.length ≤ 10010) : KnownR Try.prog [] 22 [.list (rowA gI xs) nn0] (.complex .f64 0 xs.length) ([(rowA gI xs, 3)]) := by
  subst hn0; skip
  exact owD _ hl
theorem owD_ok : ∀ ds v bs, owD_k ds = some (v, bs) → KnownR Try.prog [] 22 ds v bs := fnP_ok (by
  rintro ⟨xs, nn0, _⟩ ⟨hn0, hl, _⟩
  exact owD_n _ _ hn0 hl)
theorem owD_at (xs : List Int) (nn0 : Nat) (hn0 : nn0 = xs.length) (hl : xs.length ≤ 10010) : owD_k [.list (rowA gI xs) nn0] = some (.complex .f64 0 xs.length, [(rowA gI xs, 3)]) := fnP_at (p := (xs, nn0, ())) owD_inj ⟨hn0, hl, trivial⟩ rfl rfl
theorem sqD (xs ys : List Int) (hx : xs.length ≤ 20000) (hxy : xs = ys) : KnownR Try.prog [] 25 [.list (rowA gI xs) xs.length, .list (rowA gI ys) ys.length] (.bool true) ([]) := same_q xs ys hx hxy
noncomputable def sqD_A (p : List Int × List Int × Nat × Nat × Unit) : List D := match p with
  | (xs, ys, nn0, nn1, _) => [.list (rowA gI xs) nn0, .list (rowA gI ys) nn1]
noncomputable def sqD_C (p : List Int × List Int × Nat × Nat × Unit) : Prop := match p with
  | (xs, ys, nn0, nn1, _) => (nn0 = xs.length) ∧ (nn1 = ys.length) ∧ (xs.length ≤ 20000) ∧ (xs = ys) ∧ True
noncomputable def sqD_R (p : List Int × List Int × Nat × Nat × Unit) : Value × Outs := match p with
  | (xs, ys, nn0, nn1, _) => (.bool true, [])
theorem sqD_inj : ∀ p q, sqD_C p → sqD_C q → sqD_A p = sqD_A q → sqD_R p = sqD_R q := by
  rintro ⟨xs, ys, nn0, nn1, _⟩ ⟨xs', ys', nn0', nn1', _⟩ _ _ e
  simp only [sqD_A, List.cons.injEq, D.list.injEq, D.val.injEq, D.agg.injEq, Value.int.injEq, Value.bool.injEq, Value.string.injEq, Value.agg.injEq, Array.mk.injEq, and_true, true_and, gI_inj, gB_inj] at e
  simp_all
noncomputable def sqD_k : List D → Option (Value × Outs) := fnP sqD_A sqD_C sqD_R
theorem sqD_n (xs ys : List Int) (nn0 : Nat) (nn1 : Nat) (hn0 : nn0 = xs.length) (hn1 : nn1 = ys.length) (hx : xs.length ≤ 20000) (hxy : xs = ys) : KnownR Try.prog [] 25 [.list (rowA gI xs) nn0, .list (rowA gI ys) nn1] (.bool true) ([]) := by
  subst hn0; subst hn1; skip
  exact sqD _ _ hx hxy
theorem sqD_ok : ∀ ds v bs, sqD_k ds = some (v, bs) → KnownR Try.prog [] 25 ds v bs := fnP_ok (by
  rintro ⟨xs, ys, nn0, nn1, _⟩ ⟨hn0, hn1, hx, hxy, _⟩
  exact sqD_n _ _ _ _ hn0 hn1 hx hxy)
theorem sqD_at (xs ys : List Int) (nn0 : Nat) (nn1 : Nat) (hn0 : nn0 = xs.length) (hn1 : nn1 = ys.length) (hx : xs.length ≤ 20000) (hxy : xs = ys) : sqD_k [.list (rowA gI xs) nn0, .list (rowA gI ys) nn1] = some (.bool true, []) := fnP_at (p := (xs, ys, nn0, nn1, ())) sqD_inj ⟨hn0, hn1, hx, hxy, trivial⟩ rfl rfl
theorem qLsR (a w y t : Int) : Known Try.prog [] 27 [.agg #[.int .i64 a, .int .i64 w, .int .i64 y], .int .i64 t] (.tuple #[.int .i64 (pLs_c0 a w y t), .int .i64 (pLs_c1 a w y t)]) := rLeast_is a w y t
noncomputable def qLsR_k : List Value → Option Value
  | [.agg ⟨[.int .i64 a, .int .i64 w, .int .i64 y]⟩, .int .i64 t] => some (.tuple #[.int .i64 (pLs_c0 a w y t), .int .i64 (pLs_c1 a w y t)])
  | _ => none
theorem qLsR_ok : ∀ args v, qLsR_k args = some v → Known Try.prog [] 27 args v := by
  intro args v h
  unfold qLsR_k at h
  split at h
  · injection h with h; subst h; exact qLsR _ _ _ _
  · cases h
noncomputable def tabW : GTab := (GTab.fnD 23 sgD_k (GTab.fnD 24 srD_k (GTab.fnD 28 olD_k (GTab.fnD 29 rlD_k (GTab.fnD 22 owD_k (GTab.fnD 25 sqD_k (GTab.fn1 26 pLs_k (GTab.fn1 27 qLsR_k (GTab.fn1 21 (fun l => match l with | [] => some (.bool true) | _ => none) GTab.none)))))))))
theorem tabW_ok : GOk Try.prog [] tabW := (GOk.fnD sgD_ok (GOk.fnD srD_ok (GOk.fnD olD_ok (GOk.fnD rlD_ok (GOk.fnD owD_ok (GOk.fnD sqD_ok (GOk.fn1 pLs_ok (GOk.fn1 qLsR_ok (GOk.fn1 (known0 knPanelKnown_e0) GOk.none)))))))))
noncomputable def lawS1_b3 (a w y : Int) (xs : List Int) (t n : Int) : Bool := !(sgP a w y xs == sgP a w y xs && (sgW a w y xs == sgW a w y xs && sgY a w y xs == sgY a w y xs))
theorem lawS1_p0 (a w y : Int) (xs : List Int) (t n : Int) (hx : xs.length ≤ 1010) (ho : (olL a w y t n).length ≤ 1000) (hq0 : (decide ((↑xs.length : Int) > (200 : Int))) = true) (hq1 : (decide ((↑xs.length : Int) ≤ (1000 : Int))) = true) : KnownR Try.prog [] 4 [.val (.agg #[.int .i64 a, .int .i64 w, .int .i64 y]), .list (rowA gI xs) xs.length, .val (.int .i64 t), .val (.int .i64 n)] (.bool (true)) [] :=
  knownR_eq (v := Value.bool true) (bs := []) (open_resD mix tabW_ok (T := tabW) (fuel := 3000) (es := []) (ans := [(0, .b 1), (4, .b 1)]) (log := [(decide ((↑xs.length : Int) ≤ (1000 : Int))) = true, (decide ((↑xs.length : Int) > (200 : Int))) = true]) (by kernel_rfl) ⟨hq1, hq0, trivial⟩ (by kernel_rfl)) (by first | rfl | (simp; done) | (simp_all; done)) (by first | rfl | (simp [rowA_nil]; done) | (simp_all [rowA_nil]; done))
theorem lawS1_p1 (a w y : Int) (xs : List Int) (t n : Int) (hx : xs.length ≤ 1010) (ho : (olL a w y t n).length ≤ 1000) (hq0 : (decide ((↑xs.length : Int) > (200 : Int))) = true) (hq1 : (decide ((↑xs.length : Int) ≤ (1000 : Int))) = false) (hq2 : (decide ((↑xs.length : Int) > (1010 : Int))) = false) (hq3 : (lawS1_b3 a w y xs t n) = false) (hq4 : (sgO a w y xs != sgO a w y xs) = false) (hq5 : (sgC a w y xs != sgC a w y xs) = false) (hq6 : (sgE a w y xs != sgE a w y xs) = false) (hq7 : (pLs_c0 a w y t == pLs_c0 a w y t) = true) (hq8 : (pLs_c1 a w y t == pLs_c1 a w y t) = true) (hq9 : (olE a w y t n == olE a w y t n) = true) : KnownR Try.prog [] 4 [.val (.agg #[.int .i64 a, .int .i64 w, .int .i64 y]), .list (rowA gI xs) xs.length, .val (.int .i64 t), .val (.int .i64 n)] (.bool (true)) [] :=
  knownR_eq (v := Value.bool true) (bs := []) (open_resD mix tabW_ok (T := tabW) (fuel := 3000) (es := []) (ans := [(0, .b 1), (4, .b 0), (8, .b 0), (9, .outs (Value.complex FloatKind.f64 (0 : Nat) xs.length) ([(rowA gI xs, (3 : TypeId))])), (10, .outs (Value.tuple #[Value.agg #[Value.int IntKind.i64 (sgP a w y xs), Value.int IntKind.i64 (sgW a w y xs), Value.int IntKind.i64 (sgY a w y xs)], Value.int IntKind.i64 (sgO a w y xs), Value.int IntKind.i64 (sgC a w y xs), Value.int IntKind.i64 (sgE a w y xs)]) ([])), (11, .outs (Value.tuple #[Value.agg #[Value.int IntKind.i64 (sgP a w y xs), Value.int IntKind.i64 (sgW a w y xs), Value.int IntKind.i64 (sgY a w y xs)], Value.int IntKind.i64 (sgO a w y xs), Value.int IntKind.i64 (sgC a w y xs), Value.int IntKind.i64 (sgE a w y xs)]) ([])), (12, .b 0), (16, .b 0), (20, .b 0), (24, .b 0), (27, .outs (Value.bool true) ([])), (33, .outs (Value.tuple #[Value.complex FloatKind.f64 (0 : Nat) (olL a w y t n).length, Value.int IntKind.i64 (olE a w y t n)]) ([(rowA gI (olL a w y t n), (3 : TypeId))])), (34, .outs (Value.tuple #[Value.complex FloatKind.f64 (0 : Nat) (olL a w y t n).length, Value.int IntKind.i64 (olE a w y t n)]) ([(rowA gI (olL a w y t n), (3 : TypeId))])), (35, .b 1), (39, .b 1), (42, .outs (Value.bool true) ([])), (48, .b 1)]) (log := [(olE a w y t n == olE a w y t n) = true, (GTab.lookD (tabW) ((25 : Nat)) ([D.list (rowA gI (olL a w y t n)) (olL a w y t n).length, D.list (rowA gI (olL a w y t n)) (olL a w y t n).length])) = some (Value.bool true, []), (pLs_c1 a w y t == pLs_c1 a w y t) = true, (pLs_c0 a w y t == pLs_c0 a w y t) = true, (GTab.lookD (tabW) ((29 : Nat)) ([D.val (Value.agg { toList := [Value.int IntKind.i64 a, Value.int IntKind.i64 w, Value.int IntKind.i64 y] }), D.val (Value.int IntKind.i64 t), D.val (Value.int IntKind.i64 n)])) = some (Value.tuple #[Value.complex FloatKind.f64 (0 : Nat) (olL a w y t n).length, Value.int IntKind.i64 (olE a w y t n)], [(rowA gI (olL a w y t n), (3 : TypeId))]), (GTab.lookD (tabW) ((28 : Nat)) ([D.val (Value.agg { toList := [Value.int IntKind.i64 a, Value.int IntKind.i64 w, Value.int IntKind.i64 y] }), D.val (Value.int IntKind.i64 t), D.val (Value.int IntKind.i64 n)])) = some (Value.tuple #[Value.complex FloatKind.f64 (0 : Nat) (olL a w y t n).length, Value.int IntKind.i64 (olE a w y t n)], [(rowA gI (olL a w y t n), (3 : TypeId))]), (GTab.lookD (tabW) ((25 : Nat)) ([D.list (rowA gI xs) xs.length, D.list (rowA gI xs) xs.length])) = some (Value.bool true, []), (sgE a w y xs != sgE a w y xs) = false, (sgC a w y xs != sgC a w y xs) = false, (sgO a w y xs != sgO a w y xs) = false, (lawS1_b3 a w y xs t n) = false, (GTab.lookD (tabW) ((24 : Nat)) ([D.val (Value.agg { toList := [Value.int IntKind.i64 a, Value.int IntKind.i64 w, Value.int IntKind.i64 y] }), D.list (rowA gI xs) xs.length])) = some (Value.tuple #[Value.agg #[Value.int IntKind.i64 (sgP a w y xs), Value.int IntKind.i64 (sgW a w y xs), Value.int IntKind.i64 (sgY a w y xs)], Value.int IntKind.i64 (sgO a w y xs), Value.int IntKind.i64 (sgC a w y xs), Value.int IntKind.i64 (sgE a w y xs)], []), (GTab.lookD (tabW) ((23 : Nat)) ([D.val (Value.agg { toList := [Value.int IntKind.i64 a, Value.int IntKind.i64 w, Value.int IntKind.i64 y] }), D.list (rowA gI xs) xs.length])) = some (Value.tuple #[Value.agg #[Value.int IntKind.i64 (sgP a w y xs), Value.int IntKind.i64 (sgW a w y xs), Value.int IntKind.i64 (sgY a w y xs)], Value.int IntKind.i64 (sgO a w y xs), Value.int IntKind.i64 (sgC a w y xs), Value.int IntKind.i64 (sgE a w y xs)], []), (GTab.lookD (tabW) ((22 : Nat)) ([D.list (rowA gI xs) xs.length])) = some (Value.complex FloatKind.f64 (0 : Nat) xs.length, [(rowA gI xs, (3 : TypeId))]), (decide ((↑xs.length : Int) > (1010 : Int))) = false, (decide ((↑xs.length : Int) ≤ (1000 : Int))) = false, (decide ((↑xs.length : Int) > (200 : Int))) = true]) (by kernel_rfl) ⟨hq9, (sqD_at (olL a w y t n) (olL a w y t n) ((olL a w y t n).length) ((olL a w y t n).length) (by first | rfl | assumption | omega | (simp; done) | (simp_all; done) | (simp_all; omega)) (by first | rfl | assumption | omega | (simp; done) | (simp_all; done) | (simp_all; omega)) (by first | rfl | assumption | omega | (simp; done) | (simp_all; done) | (simp_all; omega)) (by first | rfl | assumption | omega | (simp; done) | (simp_all; done) | (simp_all; omega))), hq8, hq7, (rlD_at (a) (w) (y) (t) (n) (by first | rfl | assumption | omega | (simp; done) | (simp_all; done) | (simp_all; omega))), (olD_at (a) (w) (y) (t) (n) (by first | rfl | assumption | omega | (simp; done) | (simp_all; done) | (simp_all; omega))), (sqD_at (xs) (xs) (xs.length) (xs.length) (by first | rfl | assumption | omega | (simp; done) | (simp_all; done) | (simp_all; omega)) (by first | rfl | assumption | omega | (simp; done) | (simp_all; done) | (simp_all; omega)) (by first | rfl | assumption | omega | (simp; done) | (simp_all; done) | (simp_all; omega)) (by first | rfl | assumption | omega | (simp; done) | (simp_all; done) | (simp_all; omega))), hq6, hq5, hq4, hq3, (srD_at (a) (w) (y) (xs) (xs.length) (by first | rfl | assumption | omega | (simp; done) | (simp_all; done) | (simp_all; omega)) (by first | rfl | assumption | omega | (simp; done) | (simp_all; done) | (simp_all; omega))), (sgD_at (a) (w) (y) (xs) (xs.length) (by first | rfl | assumption | omega | (simp; done) | (simp_all; done) | (simp_all; omega)) (by first | rfl | assumption | omega | (simp; done) | (simp_all; done) | (simp_all; omega))), (owD_at (xs) (xs.length) (by first | rfl | assumption | omega | (simp; done) | (simp_all; done) | (simp_all; omega)) (by first | rfl | assumption | omega | (simp; done) | (simp_all; done) | (simp_all; omega))), hq2, hq1, hq0, trivial⟩ (by kernel_rfl)) (by first | rfl | (simp; done) | (simp_all; done)) (by first | rfl | (simp [rowA_nil]; done) | (simp_all [rowA_nil]; done))
theorem lawS1_p2 (a w y : Int) (xs : List Int) (t n : Int) (hx : xs.length ≤ 1010) (ho : (olL a w y t n).length ≤ 1000) (hq0 : (decide ((↑xs.length : Int) > (200 : Int))) = false) (hq2 : (decide ((↑xs.length : Int) > (1010 : Int))) = false) (hq3 : (lawS1_b3 a w y xs t n) = false) (hq4 : (sgO a w y xs != sgO a w y xs) = false) (hq5 : (sgC a w y xs != sgC a w y xs) = false) (hq6 : (sgE a w y xs != sgE a w y xs) = false) (hq7 : (pLs_c0 a w y t == pLs_c0 a w y t) = true) (hq8 : (pLs_c1 a w y t == pLs_c1 a w y t) = true) (hq9 : (olE a w y t n == olE a w y t n) = true) : KnownR Try.prog [] 4 [.val (.agg #[.int .i64 a, .int .i64 w, .int .i64 y]), .list (rowA gI xs) xs.length, .val (.int .i64 t), .val (.int .i64 n)] (.bool (true)) [] :=
  knownR_eq (v := Value.bool true) (bs := []) (open_resD mix tabW_ok (T := tabW) (fuel := 3000) (es := []) (ans := [(0, .b 0), (8, .b 0), (9, .outs (Value.complex FloatKind.f64 (0 : Nat) xs.length) ([(rowA gI xs, (3 : TypeId))])), (10, .outs (Value.tuple #[Value.agg #[Value.int IntKind.i64 (sgP a w y xs), Value.int IntKind.i64 (sgW a w y xs), Value.int IntKind.i64 (sgY a w y xs)], Value.int IntKind.i64 (sgO a w y xs), Value.int IntKind.i64 (sgC a w y xs), Value.int IntKind.i64 (sgE a w y xs)]) ([])), (11, .outs (Value.tuple #[Value.agg #[Value.int IntKind.i64 (sgP a w y xs), Value.int IntKind.i64 (sgW a w y xs), Value.int IntKind.i64 (sgY a w y xs)], Value.int IntKind.i64 (sgO a w y xs), Value.int IntKind.i64 (sgC a w y xs), Value.int IntKind.i64 (sgE a w y xs)]) ([])), (12, .b 0), (16, .b 0), (20, .b 0), (24, .b 0), (27, .outs (Value.bool true) ([])), (33, .outs (Value.tuple #[Value.complex FloatKind.f64 (0 : Nat) (olL a w y t n).length, Value.int IntKind.i64 (olE a w y t n)]) ([(rowA gI (olL a w y t n), (3 : TypeId))])), (34, .outs (Value.tuple #[Value.complex FloatKind.f64 (0 : Nat) (olL a w y t n).length, Value.int IntKind.i64 (olE a w y t n)]) ([(rowA gI (olL a w y t n), (3 : TypeId))])), (35, .b 1), (39, .b 1), (42, .outs (Value.bool true) ([])), (48, .b 1)]) (log := [(olE a w y t n == olE a w y t n) = true, (GTab.lookD (tabW) ((25 : Nat)) ([D.list (rowA gI (olL a w y t n)) (olL a w y t n).length, D.list (rowA gI (olL a w y t n)) (olL a w y t n).length])) = some (Value.bool true, []), (pLs_c1 a w y t == pLs_c1 a w y t) = true, (pLs_c0 a w y t == pLs_c0 a w y t) = true, (GTab.lookD (tabW) ((29 : Nat)) ([D.val (Value.agg { toList := [Value.int IntKind.i64 a, Value.int IntKind.i64 w, Value.int IntKind.i64 y] }), D.val (Value.int IntKind.i64 t), D.val (Value.int IntKind.i64 n)])) = some (Value.tuple #[Value.complex FloatKind.f64 (0 : Nat) (olL a w y t n).length, Value.int IntKind.i64 (olE a w y t n)], [(rowA gI (olL a w y t n), (3 : TypeId))]), (GTab.lookD (tabW) ((28 : Nat)) ([D.val (Value.agg { toList := [Value.int IntKind.i64 a, Value.int IntKind.i64 w, Value.int IntKind.i64 y] }), D.val (Value.int IntKind.i64 t), D.val (Value.int IntKind.i64 n)])) = some (Value.tuple #[Value.complex FloatKind.f64 (0 : Nat) (olL a w y t n).length, Value.int IntKind.i64 (olE a w y t n)], [(rowA gI (olL a w y t n), (3 : TypeId))]), (GTab.lookD (tabW) ((25 : Nat)) ([D.list (rowA gI xs) xs.length, D.list (rowA gI xs) xs.length])) = some (Value.bool true, []), (sgE a w y xs != sgE a w y xs) = false, (sgC a w y xs != sgC a w y xs) = false, (sgO a w y xs != sgO a w y xs) = false, (lawS1_b3 a w y xs t n) = false, (GTab.lookD (tabW) ((24 : Nat)) ([D.val (Value.agg { toList := [Value.int IntKind.i64 a, Value.int IntKind.i64 w, Value.int IntKind.i64 y] }), D.list (rowA gI xs) xs.length])) = some (Value.tuple #[Value.agg #[Value.int IntKind.i64 (sgP a w y xs), Value.int IntKind.i64 (sgW a w y xs), Value.int IntKind.i64 (sgY a w y xs)], Value.int IntKind.i64 (sgO a w y xs), Value.int IntKind.i64 (sgC a w y xs), Value.int IntKind.i64 (sgE a w y xs)], []), (GTab.lookD (tabW) ((23 : Nat)) ([D.val (Value.agg { toList := [Value.int IntKind.i64 a, Value.int IntKind.i64 w, Value.int IntKind.i64 y] }), D.list (rowA gI xs) xs.length])) = some (Value.tuple #[Value.agg #[Value.int IntKind.i64 (sgP a w y xs), Value.int IntKind.i64 (sgW a w y xs), Value.int IntKind.i64 (sgY a w y xs)], Value.int IntKind.i64 (sgO a w y xs), Value.int IntKind.i64 (sgC a w y xs), Value.int IntKind.i64 (sgE a w y xs)], []), (GTab.lookD (tabW) ((22 : Nat)) ([D.list (rowA gI xs) xs.length])) = some (Value.complex FloatKind.f64 (0 : Nat) xs.length, [(rowA gI xs, (3 : TypeId))]), (decide ((↑xs.length : Int) > (1010 : Int))) = false, (decide ((↑xs.length : Int) > (200 : Int))) = false]) (by kernel_rfl) ⟨hq9, (sqD_at (olL a w y t n) (olL a w y t n) ((olL a w y t n).length) ((olL a w y t n).length) (by first | rfl | assumption | omega | (simp; done) | (simp_all; done) | (simp_all; omega)) (by first | rfl | assumption | omega | (simp; done) | (simp_all; done) | (simp_all; omega)) (by first | rfl | assumption | omega | (simp; done) | (simp_all; done) | (simp_all; omega)) (by first | rfl | assumption | omega | (simp; done) | (simp_all; done) | (simp_all; omega))), hq8, hq7, (rlD_at (a) (w) (y) (t) (n) (by first | rfl | assumption | omega | (simp; done) | (simp_all; done) | (simp_all; omega))), (olD_at (a) (w) (y) (t) (n) (by first | rfl | assumption | omega | (simp; done) | (simp_all; done) | (simp_all; omega))), (sqD_at (xs) (xs) (xs.length) (xs.length) (by first | rfl | assumption | omega | (simp; done) | (simp_all; done) | (simp_all; omega)) (by first | rfl | assumption | omega | (simp; done) | (simp_all; done) | (simp_all; omega)) (by first | rfl | assumption | omega | (simp; done) | (simp_all; done) | (simp_all; omega)) (by first | rfl | assumption | omega | (simp; done) | (simp_all; done) | (simp_all; omega))), hq6, hq5, hq4, hq3, (srD_at (a) (w) (y) (xs) (xs.length) (by first | rfl | assumption | omega | (simp; done) | (simp_all; done) | (simp_all; omega)) (by first | rfl | assumption | omega | (simp; done) | (simp_all; done) | (simp_all; omega))), (sgD_at (a) (w) (y) (xs) (xs.length) (by first | rfl | assumption | omega | (simp; done) | (simp_all; done) | (simp_all; omega)) (by first | rfl | assumption | omega | (simp; done) | (simp_all; done) | (simp_all; omega))), (owD_at (xs) (xs.length) (by first | rfl | assumption | omega | (simp; done) | (simp_all; done) | (simp_all; omega)) (by first | rfl | assumption | omega | (simp; done) | (simp_all; done) | (simp_all; omega))), hq2, hq0, trivial⟩ (by kernel_rfl)) (by first | rfl | (simp; done) | (simp_all; done)) (by first | rfl | (simp [rowA_nil]; done) | (simp_all [rowA_nil]; done))
set_option maxHeartbeats 8000000 in
theorem lawS1 (a w y : Int) (xs : List Int) (t n : Int) (hx : xs.length ≤ 1010) (ho : (olL a w y t n).length ≤ 1000) : KnownR Try.prog [] 4 [.val (.agg #[.int .i64 a, .int .i64 w, .int .i64 y]), .list (rowA gI xs) xs.length, .val (.int .i64 t), .val (.int .i64 n)] (.bool (true)) [] := by
  rcases Bool.eq_false_or_eq_true (decide ((↑xs.length : Int) > (200 : Int))) with hq0 | hq0
  ·
    rcases Bool.eq_false_or_eq_true (decide ((↑xs.length : Int) ≤ (1000 : Int))) with hq1 | hq1
    ·
      exact lawS1_p0 a w y xs t n hx ho hq0 hq1
    ·
      have hq2 : (decide ((↑xs.length : Int) > (1010 : Int))) = false := by
        rcases Bool.eq_false_or_eq_true (decide ((↑xs.length : Int) > (1010 : Int))) with h | h
        · exfalso; (try simp only [lawS1_b3] at *); (first | (simp_all only [Bool.and_eq_true, Bool.not_eq_true', Bool.false_eq_true, Bool.true_eq_false, reduceCtorEq]; done) | (simp only [sx, sy, eq_self, ne_eq, IntKind.wrap_i64, wrapU64, Int.reduceLT] at * <;> first | contradiction | omega) | (simp_all; done))
        · exact h
      have hq3 : (lawS1_b3 a w y xs t n) = false := by
        rcases Bool.eq_false_or_eq_true (lawS1_b3 a w y xs t n) with h | h
        · exfalso; (try simp only [lawS1_b3] at *); (first | (simp_all only [Bool.and_eq_true, Bool.not_eq_true', Bool.false_eq_true, Bool.true_eq_false, reduceCtorEq]; done) | (simp only [sx, sy, eq_self, ne_eq, IntKind.wrap_i64, wrapU64, Int.reduceLT] at * <;> first | contradiction | omega) | (simp_all; done))
        · exact h
      have hq4 : (sgO a w y xs != sgO a w y xs) = false := by
        rcases Bool.eq_false_or_eq_true (sgO a w y xs != sgO a w y xs) with h | h
        · exfalso; (try simp only [lawS1_b3] at *); (first | (simp_all only [Bool.and_eq_true, Bool.not_eq_true', Bool.false_eq_true, Bool.true_eq_false, reduceCtorEq]; done) | (simp only [sx, sy, eq_self, ne_eq, IntKind.wrap_i64, wrapU64, Int.reduceLT] at * <;> first | contradiction | omega) | (simp_all; done))
        · exact h
      have hq5 : (sgC a w y xs != sgC a w y xs) = false := by
        rcases Bool.eq_false_or_eq_true (sgC a w y xs != sgC a w y xs) with h | h
        · exfalso; (try simp only [lawS1_b3] at *); (first | (simp_all only [Bool.and_eq_true, Bool.not_eq_true', Bool.false_eq_true, Bool.true_eq_false, reduceCtorEq]; done) | (simp only [sx, sy, eq_self, ne_eq, IntKind.wrap_i64, wrapU64, Int.reduceLT] at * <;> first | contradiction | omega) | (simp_all; done))
        · exact h
      have hq6 : (sgE a w y xs != sgE a w y xs) = false := by
        rcases Bool.eq_false_or_eq_true (sgE a w y xs != sgE a w y xs) with h | h
        · exfalso; (try simp only [lawS1_b3] at *); (first | (simp_all only [Bool.and_eq_true, Bool.not_eq_true', Bool.false_eq_true, Bool.true_eq_false, reduceCtorEq]; done) | (simp only [sx, sy, eq_self, ne_eq, IntKind.wrap_i64, wrapU64, Int.reduceLT] at * <;> first | contradiction | omega) | (simp_all; done))
        · exact h
      have hq7 : (pLs_c0 a w y t == pLs_c0 a w y t) = true := by
        rcases Bool.eq_false_or_eq_true (pLs_c0 a w y t == pLs_c0 a w y t) with h | h
        · exact h
        · exfalso; (try simp only [lawS1_b3] at *); (first | (simp_all only [Bool.and_eq_true, Bool.not_eq_true', Bool.false_eq_true, Bool.true_eq_false, reduceCtorEq]; done) | (simp only [sx, sy, eq_self, ne_eq, IntKind.wrap_i64, wrapU64, Int.reduceLT] at * <;> first | contradiction | omega) | (simp_all; done))
      have hq8 : (pLs_c1 a w y t == pLs_c1 a w y t) = true := by
        rcases Bool.eq_false_or_eq_true (pLs_c1 a w y t == pLs_c1 a w y t) with h | h
        · exact h
        · exfalso; (try simp only [lawS1_b3] at *); (first | (simp_all only [Bool.and_eq_true, Bool.not_eq_true', Bool.false_eq_true, Bool.true_eq_false, reduceCtorEq]; done) | (simp only [sx, sy, eq_self, ne_eq, IntKind.wrap_i64, wrapU64, Int.reduceLT] at * <;> first | contradiction | omega) | (simp_all; done))
      have hq9 : (olE a w y t n == olE a w y t n) = true := by
        rcases Bool.eq_false_or_eq_true (olE a w y t n == olE a w y t n) with h | h
        · exact h
        · exfalso; (try simp only [lawS1_b3] at *); (first | (simp_all only [Bool.and_eq_true, Bool.not_eq_true', Bool.false_eq_true, Bool.true_eq_false, reduceCtorEq]; done) | (simp only [sx, sy, eq_self, ne_eq, IntKind.wrap_i64, wrapU64, Int.reduceLT] at * <;> first | contradiction | omega) | (simp_all; done))
      exact lawS1_p1 a w y xs t n hx ho hq0 hq1 hq2 hq3 hq4 hq5 hq6 hq7 hq8 hq9
  ·
    have hq2 : (decide ((↑xs.length : Int) > (1010 : Int))) = false := by
      rcases Bool.eq_false_or_eq_true (decide ((↑xs.length : Int) > (1010 : Int))) with h | h
      · exfalso; (try simp only [lawS1_b3] at *); (first | (simp_all only [Bool.and_eq_true, Bool.not_eq_true', Bool.false_eq_true, Bool.true_eq_false, reduceCtorEq]; done) | (simp only [sx, sy, eq_self, ne_eq, IntKind.wrap_i64, wrapU64, Int.reduceLT] at * <;> first | contradiction | omega) | (simp_all; done))
      · exact h
    have hq3 : (lawS1_b3 a w y xs t n) = false := by
      rcases Bool.eq_false_or_eq_true (lawS1_b3 a w y xs t n) with h | h
      · exfalso; (try simp only [lawS1_b3] at *); (first | (simp_all only [Bool.and_eq_true, Bool.not_eq_true', Bool.false_eq_true, Bool.true_eq_false, reduceCtorEq]; done) | (simp only [sx, sy, eq_self, ne_eq, IntKind.wrap_i64, wrapU64, Int.reduceLT] at * <;> first | contradiction | omega) | (simp_all; done))
      · exact h
    have hq4 : (sgO a w y xs != sgO a w y xs) = false := by
      rcases Bool.eq_false_or_eq_true (sgO a w y xs != sgO a w y xs) with h | h
      · exfalso; (try simp only [lawS1_b3] at *); (first | (simp_all only [Bool.and_eq_true, Bool.not_eq_true', Bool.false_eq_true, Bool.true_eq_false, reduceCtorEq]; done) | (simp only [sx, sy, eq_self, ne_eq, IntKind.wrap_i64, wrapU64, Int.reduceLT] at * <;> first | contradiction | omega) | (simp_all; done))
      · exact h
    have hq5 : (sgC a w y xs != sgC a w y xs) = false := by
      rcases Bool.eq_false_or_eq_true (sgC a w y xs != sgC a w y xs) with h | h
      · exfalso; (try simp only [lawS1_b3] at *); (first | (simp_all only [Bool.and_eq_true, Bool.not_eq_true', Bool.false_eq_true, Bool.true_eq_false, reduceCtorEq]; done) | (simp only [sx, sy, eq_self, ne_eq, IntKind.wrap_i64, wrapU64, Int.reduceLT] at * <;> first | contradiction | omega) | (simp_all; done))
      · exact h
    have hq6 : (sgE a w y xs != sgE a w y xs) = false := by
      rcases Bool.eq_false_or_eq_true (sgE a w y xs != sgE a w y xs) with h | h
      · exfalso; (try simp only [lawS1_b3] at *); (first | (simp_all only [Bool.and_eq_true, Bool.not_eq_true', Bool.false_eq_true, Bool.true_eq_false, reduceCtorEq]; done) | (simp only [sx, sy, eq_self, ne_eq, IntKind.wrap_i64, wrapU64, Int.reduceLT] at * <;> first | contradiction | omega) | (simp_all; done))
      · exact h
    have hq7 : (pLs_c0 a w y t == pLs_c0 a w y t) = true := by
      rcases Bool.eq_false_or_eq_true (pLs_c0 a w y t == pLs_c0 a w y t) with h | h
      · exact h
      · exfalso; (try simp only [lawS1_b3] at *); (first | (simp_all only [Bool.and_eq_true, Bool.not_eq_true', Bool.false_eq_true, Bool.true_eq_false, reduceCtorEq]; done) | (simp only [sx, sy, eq_self, ne_eq, IntKind.wrap_i64, wrapU64, Int.reduceLT] at * <;> first | contradiction | omega) | (simp_all; done))
    have hq8 : (pLs_c1 a w y t == pLs_c1 a w y t) = true := by
      rcases Bool.eq_false_or_eq_true (pLs_c1 a w y t == pLs_c1 a w y t) with h | h
      · exact h
      · exfalso; (try simp only [lawS1_b3] at *); (first | (simp_all only [Bool.and_eq_true, Bool.not_eq_true', Bool.false_eq_true, Bool.true_eq_false, reduceCtorEq]; done) | (simp only [sx, sy, eq_self, ne_eq, IntKind.wrap_i64, wrapU64, Int.reduceLT] at * <;> first | contradiction | omega) | (simp_all; done))
    have hq9 : (olE a w y t n == olE a w y t n) = true := by
      rcases Bool.eq_false_or_eq_true (olE a w y t n == olE a w y t n) with h | h
      · exact h
      · exfalso; (try simp only [lawS1_b3] at *); (first | (simp_all only [Bool.and_eq_true, Bool.not_eq_true', Bool.false_eq_true, Bool.true_eq_false, reduceCtorEq]; done) | (simp only [sx, sy, eq_self, ne_eq, IntKind.wrap_i64, wrapU64, Int.reduceLT] at * <;> first | contradiction | omega) | (simp_all; done))
    exact lawS1_p2 a w y xs t n hx ho hq0 hq2 hq3 hq4 hq5 hq6 hq7 hq8 hq9

theorem lawS2_p0 (a w y : Int) (xs : List Int) (t n : Int) (hx : 1010 < xs.length) (hx2 : xs.length ≤ 18446744073709551615) (hq0 : (decide ((↑xs.length : Int) > (200 : Int))) = true) (hq1 : (decide ((↑xs.length : Int) ≤ (1000 : Int))) = false) (hq2 : (decide ((↑xs.length : Int) > (1010 : Int))) = true) : KnownR Try.prog [] 4 [.val (.agg #[.int .i64 a, .int .i64 w, .int .i64 y]), .list (rowA gI xs) xs.length, .val (.int .i64 t), .val (.int .i64 n)] (.bool (true)) [] :=
  knownR_eq (v := Value.bool true) (bs := []) (open_resD mix tabW_ok (T := tabW) (fuel := 3000) (es := []) (ans := [(0, .b 1), (4, .b 0), (8, .b 1)]) (log := [(decide ((↑xs.length : Int) > (1010 : Int))) = true, (decide ((↑xs.length : Int) ≤ (1000 : Int))) = false, (decide ((↑xs.length : Int) > (200 : Int))) = true]) (by kernel_rfl) ⟨hq2, hq1, hq0, trivial⟩ (by kernel_rfl)) (by first | rfl | (simp; done) | (simp_all; done)) (by first | rfl | (simp [rowA_nil]; done) | (simp_all [rowA_nil]; done))
set_option maxHeartbeats 8000000 in
theorem lawS2 (a w y : Int) (xs : List Int) (t n : Int) (hx : 1010 < xs.length) (hx2 : xs.length ≤ 18446744073709551615) : KnownR Try.prog [] 4 [.val (.agg #[.int .i64 a, .int .i64 w, .int .i64 y]), .list (rowA gI xs) xs.length, .val (.int .i64 t), .val (.int .i64 n)] (.bool (true)) [] := by
  have hq0 : (decide ((↑xs.length : Int) > (200 : Int))) = true := by
    rcases Bool.eq_false_or_eq_true (decide ((↑xs.length : Int) > (200 : Int))) with h | h
    · exact h
    · exfalso; (first | (simp_all only [Bool.and_eq_true, Bool.not_eq_true', Bool.false_eq_true, Bool.true_eq_false, reduceCtorEq]; done) | (simp only [sx, sy, eq_self, ne_eq, IntKind.wrap_i64, wrapU64, Int.reduceLT] at * <;> first | contradiction | omega) | (simp_all; done))
  have hq1 : (decide ((↑xs.length : Int) ≤ (1000 : Int))) = false := by
    rcases Bool.eq_false_or_eq_true (decide ((↑xs.length : Int) ≤ (1000 : Int))) with h | h
    · exfalso; (first | (simp_all only [Bool.and_eq_true, Bool.not_eq_true', Bool.false_eq_true, Bool.true_eq_false, reduceCtorEq]; done) | (simp only [sx, sy, eq_self, ne_eq, IntKind.wrap_i64, wrapU64, Int.reduceLT] at * <;> first | contradiction | omega) | (simp_all; done))
    · exact h
  have hq2 : (decide ((↑xs.length : Int) > (1010 : Int))) = true := by
    rcases Bool.eq_false_or_eq_true (decide ((↑xs.length : Int) > (1010 : Int))) with h | h
    · exact h
    · exfalso; (first | (simp_all only [Bool.and_eq_true, Bool.not_eq_true', Bool.false_eq_true, Bool.true_eq_false, reduceCtorEq]; done) | (simp only [sx, sy, eq_self, ne_eq, IntKind.wrap_i64, wrapU64, Int.reduceLT] at * <;> first | contradiction | omega) | (simp_all; done))
  exact lawS2_p0 a w y xs t n hx hx2 hq0 hq1 hq2

end Go.Proofs.Ytpaojoahbmlolaa
