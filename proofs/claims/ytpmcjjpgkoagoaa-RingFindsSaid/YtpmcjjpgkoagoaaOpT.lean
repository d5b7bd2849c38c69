/- Layer 5: RingFinds. -/
import Derived.Test.YtpmcjjpgkoagoaaYS
import Derived.ProofKit
import Derived.IntWalk
namespace Go.Proofs.Ytpmcjjpgkoagoaa
open Go Go.RowKit
set_option linter.unusedVariables false
set_option linter.unusedSimpArgs false
set_option linter.unnecessarySimpa false
set_option maxHeartbeats 8000000
set_option maxRecDepth 100000
noncomputable def agO (m x : Int) : Int := IntKind.u64.wrap (IntKind.u64.wrap (m - 1) - x)
noncomputable def modO (n m : Int) : Int := n % m
attribute [local irreducible] agO modO wN mL mG mM ckX fiX fiI ixN pL dcL ptX ptV ptR
theorem maD (n : Int) (xs : List Int)  : KnownR Try.prog [] 36 [.val (.int .i64 n), .list (rowA gI xs) xs.length] (.tuple #[.agg #[.int .i64 (wN n), .int .u64 (mM n xs), .complex .f64 0 (mL n xs).length], .complex .f64 1 (mG n xs).length, .bool true]) ([(rowA gH (mL n xs), 35), (rowA gN (mG n xs), 22)]) := made_is n xs
noncomputable def maD_A (p : Int × List Int × Nat × Unit) : List D := match p with
  | (n, xs, nn0, _) => [.val (.int .i64 n), .list (rowA gI xs) nn0]
noncomputable def maD_C (p : Int × List Int × Nat × Unit) : Prop := match p with
  | (n, xs, nn0, _) => (nn0 = xs.length) ∧ True
noncomputable def maD_R (p : Int × List Int × Nat × Unit) : Value × Outs := match p with
  | (n, xs, nn0, _) => (.tuple #[.agg #[.int .i64 (wN n), .int .u64 (mM n xs), .complex .f64 0 (mL n xs).length], .complex .f64 1 (mG n xs).length, .bool true], [(rowA gH (mL n xs), 35), (rowA gN (mG n xs), 22)])
theorem maD_inj : ∀ p q, maD_C p → maD_C q → maD_A p = maD_A q → maD_R p = maD_R q := by
  rintro ⟨n, xs, nn0, _⟩ ⟨n', xs', nn0', _⟩ _ _ e
  simp only [maD_A, List.cons.injEq, D.list.injEq, D.val.injEq, D.agg.injEq, Value.int.injEq, Value.bool.injEq, Value.string.injEq, Value.agg.injEq, Array.mk.injEq, and_true, true_and, gI_inj, gB_inj, gH_inj, gN_inj] at e
  simp_all
noncomputable def maD_k : List D → Option (Value × Outs) := fnP maD_A maD_C maD_R
theorem maD_n (n : Int) (xs : List Int) (nn0 : Nat) (hn0 : nn0 = xs.length)  : KnownR Try.prog [] 36 [.val (.int .i64 n), .list (rowA gI xs) nn0] (.tuple #[.agg #[.int .i64 (wN n), .int .u64 (mM n xs), .complex .f64 0 (mL n xs).length], .complex .f64 1 (mG n xs).length, .bool true]) ([(rowA gH (mL n xs), 35), (rowA gN (mG n xs), 22)]) := by
  subst hn0; skip
  exact maD _ _ 
theorem maD_ok : ∀ ds v bs, maD_k ds = some (v, bs) → KnownR Try.prog [] 36 ds v bs := fnP_ok (by
  rintro ⟨n, xs, nn0, _⟩ ⟨hn0, _⟩
  exact maD_n _ _ _ hn0 )
theorem maD_at (n : Int) (xs : List Int) (nn0 : Nat) (hn0 : nn0 = xs.length)  : maD_k [.val (.int .i64 n), .list (rowA gI xs) nn0] = some (.tuple #[.agg #[.int .i64 (wN n), .int .u64 (mM n xs), .complex .f64 0 (mL n xs).length], .complex .f64 1 (mG n xs).length, .bool true], [(rowA gH (mL n xs), 35), (rowA gN (mG n xs), 22)]) := fnP_at (p := (n, xs, nn0, ())) maD_inj ⟨hn0, trivial⟩ rfl rfl
theorem puG (c m : Int) (l : List Hel) (x : Int) (hk : ckX c m l = 0) (hr : (l.length : Int) < c) (hm : m ≤ 1000) : KnownR Try.prog [] 25 [.agg [.val (.int .i64 c), .val (.int .u64 m), .list (rowA gH l) l.length], .val (.int .i64 x)] (.tuple #[.agg #[.int .i64 c, .int .u64 (m + 1), .complex .f64 0 (pL m l x).length], .int .u64 m, .int .i64 0]) ([(rowA gH (pL m l x), 35)]) := putV hk hr hm
noncomputable def puG_A (p : Int × Int × List Hel × Int × Nat × Unit) : List D := match p with
  | (c, m, l, x, nn0, _) => [.agg [.val (.int .i64 c), .val (.int .u64 m), .list (rowA gH l) nn0], .val (.int .i64 x)]
noncomputable def puG_C (p : Int × Int × List Hel × Int × Nat × Unit) : Prop := match p with
  | (c, m, l, x, nn0, _) => (nn0 = l.length) ∧ (ckX c m l = 0) ∧ ((l.length : Int) < c) ∧ (m ≤ 1000) ∧ True
noncomputable def puG_R (p : Int × Int × List Hel × Int × Nat × Unit) : Value × Outs := match p with
  | (c, m, l, x, nn0, _) => (.tuple #[.agg #[.int .i64 c, .int .u64 (m + 1), .complex .f64 0 (pL m l x).length], .int .u64 m, .int .i64 0], [(rowA gH (pL m l x), 35)])
theorem puG_inj : ∀ p q, puG_C p → puG_C q → puG_A p = puG_A q → puG_R p = puG_R q := by
  rintro ⟨c, m, l, x, nn0, _⟩ ⟨c', m', l', x', nn0', _⟩ _ _ e
  simp only [puG_A, List.cons.injEq, D.list.injEq, D.val.injEq, D.agg.injEq, Value.int.injEq, Value.bool.injEq, Value.string.injEq, Value.agg.injEq, Array.mk.injEq, and_true, true_and, gI_inj, gB_inj, gH_inj, gN_inj] at e
  simp_all
noncomputable def puG_k : List D → Option (Value × Outs) := fnP puG_A puG_C puG_R
theorem puG_n (c m : Int) (l : List Hel) (x : Int) (nn0 : Nat) (hn0 : nn0 = l.length) (hk : ckX c m l = 0) (hr : (l.length : Int) < c) (hm : m ≤ 1000) : KnownR Try.prog [] 25 [.agg [.val (.int .i64 c), .val (.int .u64 m), .list (rowA gH l) nn0], .val (.int .i64 x)] (.tuple #[.agg #[.int .i64 c, .int .u64 (m + 1), .complex .f64 0 (pL m l x).length], .int .u64 m, .int .i64 0]) ([(rowA gH (pL m l x), 35)]) := by
  subst hn0; skip
  exact puG _ _ _ _ hk hr hm
theorem puG_ok : ∀ ds v bs, puG_k ds = some (v, bs) → KnownR Try.prog [] 25 ds v bs := fnP_ok (by
  rintro ⟨c, m, l, x, nn0, _⟩ ⟨hn0, hk, hr, hm, _⟩
  exact puG_n _ _ _ _ _ hn0 hk hr hm)
theorem puG_at (c m : Int) (l : List Hel) (x : Int) (nn0 : Nat) (hn0 : nn0 = l.length) (hk : ckX c m l = 0) (hr : (l.length : Int) < c) (hm : m ≤ 1000) : puG_k [.agg [.val (.int .i64 c), .val (.int .u64 m), .list (rowA gH l) nn0], .val (.int .i64 x)] = some (.tuple #[.agg #[.int .i64 c, .int .u64 (m + 1), .complex .f64 0 (pL m l x).length], .int .u64 m, .int .i64 0], [(rowA gH (pL m l x), 35)]) := fnP_at (p := (c, m, l, x, nn0, ())) puG_inj ⟨hn0, hk, hr, hm, trivial⟩ rfl rfl
theorem fiG (c m : Int) (l : List Hel) (x : Int)  : KnownR Try.prog [] 18 [.agg [.val (.int .i64 c), .val (.int .u64 m), .list (rowA gH l) l.length], .val (.int .u64 x)] (.tuple #[.int .i64 (fiI c m l x), .int .i64 (fiX c m l x)]) ([]) := pfind_is c m l x
noncomputable def fiG_A (p : Int × Int × List Hel × Int × Nat × Unit) : List D := match p with
  | (c, m, l, x, nn0, _) => [.agg [.val (.int .i64 c), .val (.int .u64 m), .list (rowA gH l) nn0], .val (.int .u64 x)]
noncomputable def fiG_C (p : Int × Int × List Hel × Int × Nat × Unit) : Prop := match p with
  | (c, m, l, x, nn0, _) => (nn0 = l.length) ∧ True
noncomputable def fiG_R (p : Int × Int × List Hel × Int × Nat × Unit) : Value × Outs := match p with
  | (c, m, l, x, nn0, _) => (.tuple #[.int .i64 (fiI c m l x), .int .i64 (fiX c m l x)], [])
theorem fiG_inj : ∀ p q, fiG_C p → fiG_C q → fiG_A p = fiG_A q → fiG_R p = fiG_R q := by
  rintro ⟨c, m, l, x, nn0, _⟩ ⟨c', m', l', x', nn0', _⟩ _ _ e
  simp only [fiG_A, List.cons.injEq, D.list.injEq, D.val.injEq, D.agg.injEq, Value.int.injEq, Value.bool.injEq, Value.string.injEq, Value.agg.injEq, Array.mk.injEq, and_true, true_and, gI_inj, gB_inj, gH_inj, gN_inj] at e
  simp_all
noncomputable def fiG_k : List D → Option (Value × Outs) := fnP fiG_A fiG_C fiG_R
theorem fiG_n (c m : Int) (l : List Hel) (x : Int) (nn0 : Nat) (hn0 : nn0 = l.length)  : KnownR Try.prog [] 18 [.agg [.val (.int .i64 c), .val (.int .u64 m), .list (rowA gH l) nn0], .val (.int .u64 x)] (.tuple #[.int .i64 (fiI c m l x), .int .i64 (fiX c m l x)]) ([]) := by
  subst hn0; skip
  exact fiG _ _ _ _ 
theorem fiG_ok : ∀ ds v bs, fiG_k ds = some (v, bs) → KnownR Try.prog [] 18 ds v bs := fnP_ok (by
  rintro ⟨c, m, l, x, nn0, _⟩ ⟨hn0, _⟩
  exact fiG_n _ _ _ _ _ hn0 )
theorem fiG_at (c m : Int) (l : List Hel) (x : Int) (nn0 : Nat) (hn0 : nn0 = l.length)  : fiG_k [.agg [.val (.int .i64 c), .val (.int .u64 m), .list (rowA gH l) nn0], .val (.int .u64 x)] = some (.tuple #[.int .i64 (fiI c m l x), .int .i64 (fiX c m l x)], []) := fnP_at (p := (c, m, l, x, nn0, ())) fiG_inj ⟨hn0, trivial⟩ rfl rfl
theorem agG (c m : Int) (l : List Hel) (x : Int) (hk : ckX c m l = 0) (hix : ixN l x < l.length) : KnownR Try.prog [] 20 [.agg [.val (.int .i64 c), .val (.int .u64 m), .list (rowA gH l) l.length], .val (.int .u64 x)] (.tuple #[.int .u64 (agO m x), .int .i64 0]) ([]) := (by unfold agO; exact ageV hk hix)
noncomputable def agG_A (p : Int × Int × List Hel × Int × Nat × Unit) : List D := match p with
  | (c, m, l, x, nn0, _) => [.agg [.val (.int .i64 c), .val (.int .u64 m), .list (rowA gH l) nn0], .val (.int .u64 x)]
noncomputable def agG_C (p : Int × Int × List Hel × Int × Nat × Unit) : Prop := match p with
  | (c, m, l, x, nn0, _) => (nn0 = l.length) ∧ (ckX c m l = 0) ∧ (ixN l x < l.length) ∧ True
noncomputable def agG_R (p : Int × Int × List Hel × Int × Nat × Unit) : Value × Outs := match p with
  | (c, m, l, x, nn0, _) => (.tuple #[.int .u64 (agO m x), .int .i64 0], [])
theorem agG_inj : ∀ p q, agG_C p → agG_C q → agG_A p = agG_A q → agG_R p = agG_R q := by
  rintro ⟨c, m, l, x, nn0, _⟩ ⟨c', m', l', x', nn0', _⟩ _ _ e
  simp only [agG_A, List.cons.injEq, D.list.injEq, D.val.injEq, D.agg.injEq, Value.int.injEq, Value.bool.injEq, Value.string.injEq, Value.agg.injEq, Array.mk.injEq, and_true, true_and, gI_inj, gB_inj, gH_inj, gN_inj] at e
  simp_all
noncomputable def agG_k : List D → Option (Value × Outs) := fnP agG_A agG_C agG_R
theorem agG_n (c m : Int) (l : List Hel) (x : Int) (nn0 : Nat) (hn0 : nn0 = l.length) (hk : ckX c m l = 0) (hix : ixN l x < l.length) : KnownR Try.prog [] 20 [.agg [.val (.int .i64 c), .val (.int .u64 m), .list (rowA gH l) nn0], .val (.int .u64 x)] (.tuple #[.int .u64 (agO m x), .int .i64 0]) ([]) := by
  subst hn0; skip
  exact agG _ _ _ _ hk hix
theorem agG_ok : ∀ ds v bs, agG_k ds = some (v, bs) → KnownR Try.prog [] 20 ds v bs := fnP_ok (by
  rintro ⟨c, m, l, x, nn0, _⟩ ⟨hn0, hk, hix, _⟩
  exact agG_n _ _ _ _ _ hn0 hk hix)
theorem agG_at (c m : Int) (l : List Hel) (x : Int) (nn0 : Nat) (hn0 : nn0 = l.length) (hk : ckX c m l = 0) (hix : ixN l x < l.length) : agG_k [.agg [.val (.int .i64 c), .val (.int .u64 m), .list (rowA gH l) nn0], .val (.int .u64 x)] = some (.tuple #[.int .u64 (agO m x), .int .i64 0], []) := fnP_at (p := (c, m, l, x, nn0, ())) agG_inj ⟨hn0, hk, hix, trivial⟩ rfl rfl
theorem drG (c m : Int) (l : List Hel) (x : Int) (hk : ckX c m l = 0) (hix : ixN l x < l.length) : KnownR Try.prog [] 27 [.agg [.val (.int .i64 c), .val (.int .u64 m), .list (rowA gH l) l.length], .val (.int .u64 x)] (.tuple #[.agg #[.int .i64 c, .int .u64 m, .complex .f64 0 (dcL l x).length], .agg #[.int .u64 (el l (ixN l x : Int)).1, .int .i64 (el l (ixN l x : Int)).2], .int .i64 0]) ([(rowA gH (dcL l x), 35)]) := dropV hk hix
noncomputable def drG_A (p : Int × Int × List Hel × Int × Nat × Unit) : List D := match p with
  | (c, m, l, x, nn0, _) => [.agg [.val (.int .i64 c), .val (.int .u64 m), .list (rowA gH l) nn0], .val (.int .u64 x)]
noncomputable def drG_C (p : Int × Int × List Hel × Int × Nat × Unit) : Prop := match p with
  | (c, m, l, x, nn0, _) => (nn0 = l.length) ∧ (ckX c m l = 0) ∧ (ixN l x < l.length) ∧ True
noncomputable def drG_R (p : Int × Int × List Hel × Int × Nat × Unit) : Value × Outs := match p with
  | (c, m, l, x, nn0, _) => (.tuple #[.agg #[.int .i64 c, .int .u64 m, .complex .f64 0 (dcL l x).length], .agg #[.int .u64 (el l (ixN l x : Int)).1, .int .i64 (el l (ixN l x : Int)).2], .int .i64 0], [(rowA gH (dcL l x), 35)])
theorem drG_inj : ∀ p q, drG_C p → drG_C q → drG_A p = drG_A q → drG_R p = drG_R q := by
  rintro ⟨c, m, l, x, nn0, _⟩ ⟨c', m', l', x', nn0', _⟩ _ _ e
  simp only [drG_A, List.cons.injEq, D.list.injEq, D.val.injEq, D.agg.injEq, Value.int.injEq, Value.bool.injEq, Value.string.injEq, Value.agg.injEq, Array.mk.injEq, and_true, true_and, gI_inj, gB_inj, gH_inj, gN_inj] at e
  simp_all
noncomputable def drG_k : List D → Option (Value × Outs) := fnP drG_A drG_C drG_R
theorem drG_n (c m : Int) (l : List Hel) (x : Int) (nn0 : Nat) (hn0 : nn0 = l.length) (hk : ckX c m l = 0) (hix : ixN l x < l.length) : KnownR Try.prog [] 27 [.agg [.val (.int .i64 c), .val (.int .u64 m), .list (rowA gH l) nn0], .val (.int .u64 x)] (.tuple #[.agg #[.int .i64 c, .int .u64 m, .complex .f64 0 (dcL l x).length], .agg #[.int .u64 (el l (ixN l x : Int)).1, .int .i64 (el l (ixN l x : Int)).2], .int .i64 0]) ([(rowA gH (dcL l x), 35)]) := by
  subst hn0; skip
  exact drG _ _ _ _ hk hix
theorem drG_ok : ∀ ds v bs, drG_k ds = some (v, bs) → KnownR Try.prog [] 27 ds v bs := fnP_ok (by
  rintro ⟨c, m, l, x, nn0, _⟩ ⟨hn0, hk, hix, _⟩
  exact drG_n _ _ _ _ _ hn0 hk hix)
theorem drG_at (c m : Int) (l : List Hel) (x : Int) (nn0 : Nat) (hn0 : nn0 = l.length) (hk : ckX c m l = 0) (hix : ixN l x < l.length) : drG_k [.agg [.val (.int .i64 c), .val (.int .u64 m), .list (rowA gH l) nn0], .val (.int .u64 x)] = some (.tuple #[.agg #[.int .i64 c, .int .u64 m, .complex .f64 0 (dcL l x).length], .agg #[.int .u64 (el l (ixN l x : Int)).1, .int .i64 (el l (ixN l x : Int)).2], .int .i64 0], [(rowA gH (dcL l x), 35)]) := fnP_at (p := (c, m, l, x, nn0, ())) drG_inj ⟨hn0, hk, hix, trivial⟩ rfl rfl
theorem sgD (x y : List Hel) (hx : (x.length : Int) ≤ 100000) : KnownR Try.prog [] 31 [.list (rowA gH x) x.length, .list (rowA gH y) y.length] (.bool (decide (x = y))) ([]) := same_is x y hx
noncomputable def sgD_A (p : List Hel × List Hel × Nat × Nat × Unit) : List D := match p with
  | (x, y, nn0, nn1, _) => [.list (rowA gH x) nn0, .list (rowA gH y) nn1]
noncomputable def sgD_C (p : List Hel × List Hel × Nat × Nat × Unit) : Prop := match p with
  | (x, y, nn0, nn1, _) => (nn0 = x.length) ∧ (nn1 = y.length) ∧ ((x.length : Int) ≤ 100000) ∧ True
noncomputable def sgD_R (p : List Hel × List Hel × Nat × Nat × Unit) : Value × Outs := match p with
  | (x, y, nn0, nn1, _) => (.bool (decide (x = y)), [])
theorem sgD_inj : ∀ p q, sgD_C p → sgD_C q → sgD_A p = sgD_A q → sgD_R p = sgD_R q := by
  rintro ⟨x, y, nn0, nn1, _⟩ ⟨x', y', nn0', nn1', _⟩ _ _ e
  simp only [sgD_A, List.cons.injEq, D.list.injEq, D.val.injEq, D.agg.injEq, Value.int.injEq, Value.bool.injEq, Value.string.injEq, Value.agg.injEq, Array.mk.injEq, and_true, true_and, gI_inj, gB_inj, gH_inj, gN_inj] at e
  simp_all
noncomputable def sgD_k : List D → Option (Value × Outs) := fnP sgD_A sgD_C sgD_R
theorem sgD_n (x y : List Hel) (nn0 : Nat) (nn1 : Nat) (hn0 : nn0 = x.length) (hn1 : nn1 = y.length) (hx : (x.length : Int) ≤ 100000) : KnownR Try.prog [] 31 [.list (rowA gH x) nn0, .list (rowA gH y) nn1] (.bool (decide (x = y))) ([]) := by
  subst hn0; subst hn1; skip
  exact sgD _ _ hx
theorem sgD_ok : ∀ ds v bs, sgD_k ds = some (v, bs) → KnownR Try.prog [] 31 ds v bs := fnP_ok (by
  rintro ⟨x, y, nn0, nn1, _⟩ ⟨hn0, hn1, hx, _⟩
  exact sgD_n _ _ _ _ hn0 hn1 hx)
theorem sgD_at (x y : List Hel) (nn0 : Nat) (nn1 : Nat) (hn0 : nn0 = x.length) (hn1 : nn1 = y.length) (hx : (x.length : Int) ≤ 100000) : sgD_k [.list (rowA gH x) nn0, .list (rowA gH y) nn1] = some (.bool (decide (x = y)), []) := fnP_at (p := (x, y, nn0, nn1, ())) sgD_inj ⟨hn0, hn1, hx, trivial⟩ rfl rfl
theorem qMoF (n m : Int) (hg : (decide (0 < m ∧ m ≤ 4611686018427387904)) = true) : Known Try.prog [] 37 [.int .i64 n, .int .i64 m] (.int .i64 (modO n m)) := (by unfold modO; exact kMod (of_decide_eq_true hg))
noncomputable def qMoF_k : List Value → Option (Bool × Value)
  | [.int .i64 n, .int .i64 m] => some (decide (0 < m ∧ m ≤ 4611686018427387904), .int .i64 (modO n m))
  | _ => none
theorem qMoF_ok : ∀ args v, qMoF_k args = some (true, v) → Known Try.prog [] 37 args v := by
  intro args v h
  unfold qMoF_k at h
  split at h
  · injection h with h; injection h with hg h; subst h; exact qMoF _ _ hg
  · cases h
noncomputable def tabF : GTab := (GTab.fn 37 qMoF_k (GTab.fnD 36 maD_k (GTab.fnD 25 puG_k (GTab.fnD 18 fiG_k (GTab.fnD 20 agG_k (GTab.fnD 27 drG_k (GTab.fnD 31 sgD_k (GTab.fn1 5 (fun l => match l with | [] => some (.bool true) | _ => none) GTab.none))))))))
theorem tabF_ok : GOk Try.prog [] tabF := (GOk.fn qMoF_ok (GOk.fnD maD_ok (GOk.fnD puG_ok (GOk.fnD fiG_ok (GOk.fnD agG_ok (GOk.fnD drG_ok (GOk.fnD sgD_ok (GOk.fn1 (known0 knRingKnown_e1) GOk.none))))))))
end Go.Proofs.Ytpmcjjpgkoagoaa
