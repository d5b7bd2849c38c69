/- Layer 13: DriveParts. -/
import Derived.Test.YtkmooakeilkdiaaDG
import Derived.Test.YtkmooakeilkdiaaKnDriveKnown
import Derived.ProofKit
import Derived.IntWalk
namespace Go.Proofs.Ytkmooakeilkdiaa
open Go Go.RowKit
set_option linter.unusedVariables false
set_option linter.unusedSimpArgs false
set_option linter.unnecessarySimpa false
set_option maxHeartbeats 8000000
set_option maxRecDepth 100000
theorem kmod_t {n m : Int} (h : 0 < m) : n.tmod m = if 0 ≤ n then n % m else -((-n) % m) := by
  split
  · rename_i hn
    exact Int.tmod_eq_emod_of_nonneg hn
  · rename_i hn
    have e : n = -(-n) := by omega
    conv => lhs; rw [e]
    rw [Int.neg_tmod, Int.tmod_eq_emod_of_nonneg (by omega)]
theorem kMod {n m : Int} (h : 0 < m ∧ m ≤ 4611686018427387904) : Known Try.prog [] 23 [.int .i64 n, .int .i64 m] (.int .i64 (n % m)) := by
  have k := mod n m
  have e : mod_c0 n m = n % m := by
    unfold mod_c0
    have b0 := Int.emod_nonneg n (by omega : m ≠ 0)
    have b1 := Int.emod_lt_of_pos n h.1
    have c0 : decide (m < 1) = false := decide_eq_false (by omega)
    rw [c0, cond_false]
    by_cases hn : 0 ≤ n
    · rw [Int.tmod_eq_emod_of_nonneg hn, decide_eq_false (by omega), cond_false]
    · have t1 : n.tmod m = -((-n) % m) := by rw [kmod_t h.1, if_neg hn]
      have d0 := Int.emod_nonneg (-n) (by omega : m ≠ 0)
      have d1 := Int.emod_lt_of_pos (-n) h.1
      have key : n % m = if (-n) % m = 0 then 0 else m - (-n) % m := by
        split
        · rename_i z
          have := Int.dvd_of_emod_eq_zero z
          exact Int.emod_eq_zero_of_dvd (Int.dvd_neg.1 this)
        · rename_i z
          have e1 : n = m - (-n) % m + m * (-((-n) / m) - 1) := by
            have := Int.emod_add_mul_ediv (-n) m
            rw [Int.mul_sub, Int.mul_neg, Int.mul_one]; omega
          rw [e1, Int.add_mul_emod_self_left, Int.emod_eq_of_lt (by omega) (by omega)]
          rw [← e1]
      rw [t1, key]
      split
      · rename_i z
        rw [z, decide_eq_false (by omega), cond_false]; omega
      · rename_i z
        rw [decide_eq_true (by omega), cond_true, Go.IntWalk.i64_in _ ⟨by omega, by omega⟩]; omega
  rw [e] at k
  exact k
theorem qMod (n m : Int) (hg : (decide (0 < m ∧ m ≤ 4611686018427387904)) = true) : Known Try.prog [] 23 [.int .i64 n, .int .i64 m] (.int .i64 (n % m)) := kMod (of_decide_eq_true hg)
noncomputable def qMod_k : List Value → Option (Bool × Value)
  | [.int .i64 n, .int .i64 m] => some (decide (0 < m ∧ m ≤ 4611686018427387904), .int .i64 (n % m))
  | _ => none
theorem qMod_ok : ∀ args v, qMod_k args = some (true, v) → Known Try.prog [] 23 args v := by
  intro args v h
  unfold qMod_k at h
  split at h
  · injection h with h; injection h with hg h; subst h; exact qMod _ _ hg
  · cases h
noncomputable def tabMd : GTab := (GTab.fn 23 qMod_k GTab.none)
theorem tabMd_ok : GOk Try.prog [] tabMd := (GOk.fn qMod_ok GOk.none)
noncomputable def mdG_c0 (a b n : Int) : Int := (a % (400 : Int))
noncomputable def mdG_c1 (a b n : Int) : Int := (b % (400 : Int))
noncomputable def mdG_c2 (a b n : Int) : Int := (IntKind.i64.wrap ((1 : Int) + (n % (1000 : Int)).tmod (20 : Int)))
noncomputable def mdG_c3 (a b n : Int) : Int := ((IntKind.i64.wrap ((n % (1000 : Int)).tdiv (20 : Int))).tmod (6 : Int))
theorem mdG_p0 (a b n : Int) (hn : 0 ≤ n % 1000 ∧ n % 1000 ≤ 999) : Known Try.prog [] 19 [.int .i64 a, .int .i64 b, .int .i64 n] (.tuple #[(.int .i64 (a % (400 : Int))), (.int .i64 (b % (400 : Int))), (.int .i64 (IntKind.i64.wrap ((1 : Int) + (n % (1000 : Int)).tmod (20 : Int)))), (.int .i64 ((IntKind.i64.wrap ((n % (1000 : Int)).tdiv (20 : Int))).tmod (6 : Int)))]) :=
  open_res mix tabMd_ok (T := tabMd) (fuel := 3000) (ans := []) (log := []) (by kernel_rfl) trivial (by kernel_rfl)
set_option maxHeartbeats 8000000 in
theorem mdG (a b n : Int) (hn : 0 ≤ n % 1000 ∧ n % 1000 ≤ 999) : Known Try.prog [] 19 [.int .i64 a, .int .i64 b, .int .i64 n] (.tuple #[(.int .i64 (mdG_c0 a b n)), (.int .i64 (mdG_c1 a b n)), (.int .i64 (mdG_c2 a b n)), (.int .i64 (mdG_c3 a b n))]) := by
  have e0 : mdG_c0 a b n = (a % (400 : Int)) := rfl; rw [e0]; have e1 : mdG_c1 a b n = (b % (400 : Int)) := rfl; rw [e1]; have e2 : mdG_c2 a b n = (IntKind.i64.wrap ((1 : Int) + (n % (1000 : Int)).tmod (20 : Int))) := rfl; rw [e2]; have e3 : mdG_c3 a b n = ((IntKind.i64.wrap ((n % (1000 : Int)).tdiv (20 : Int))).tmod (6 : Int)) := rfl; rw [e3]; exact mdG_p0 a b n hn

noncomputable def frO (a : Int) : Int := a % 400
noncomputable def spO (n : Int) : Int := 1 + n % 1000 % 20
noncomputable def brO (n : Int) : Int := n % 1000 / 20 % 6
theorem made_is (a b n : Int) : Known Try.prog [] 19 [.int .i64 a, .int .i64 b, .int .i64 n] (.tuple #[.int .i64 (frO a), .int .i64 (frO b), .int .i64 (spO n), .int .i64 (brO n)]) := by
  have k := mdG a b n (by omega)
  have e : mdG_c0 a b n = frO a ∧ mdG_c1 a b n = frO b ∧ mdG_c2 a b n = spO n ∧ mdG_c3 a b n = brO n := by
    unfold mdG_c0 mdG_c1 mdG_c2 mdG_c3 frO spO brO
    have h0 : 0 ≤ n % 1000 ∧ n % 1000 ≤ 999 := by omega
    generalize n % 1000 = z at h0
    refine ⟨rfl, rfl, ?_, ?_⟩
    · rw [Int.tmod_eq_emod_of_nonneg h0.1, w8 (by omega)]
    · rw [Int.tdiv_eq_ediv_of_nonneg h0.1, w8 (by omega), Int.tmod_eq_emod_of_nonneg (by omega)]
  rw [e.1, e.2.1, e.2.2.1, e.2.2.2] at k
  exact k
/-- the part and the ticks left with which a drive goes -/
noncomputable def gQ (p g k : Int) : Int := if g = p then 0 else if k = 0 then 2 else 1
noncomputable def gL (p g k : Int) : Int := if g = p then 0 else k
noncomputable def atG (p : Int) : Bool := decide (0 ≤ p ∧ p ≤ 63000)
noncomputable def goG (p x v q l g k : Int) : Bool := decide (x = p ∧ v = 0 ∧ q = 0 ∧ l = 0 ∧ 0 ≤ p ∧ p ≤ 63000 ∧ 0 ≤ g ∧ g ≤ 63000 ∧ 0 ≤ k ∧ k ≤ 5)
theorem at_k {p : Int} (h : atG p = true) : Known Try.prog [] 17 [.int .i64 p] (.tuple #[.agg #[.int .i64 p, .int .i64 p, .int .i64 0, .int .i64 0, .int .i64 0], .int .i64 0]) := by
  have k := atP p (of_decide_eq_true h)
  unfold atP_c0 atP_c1 at k
  exact k
theorem go_k {p x v q l g k : Int} (h : goG p x v q l g k = true) : Known Try.prog [] 12 [.agg #[.int .i64 p, .int .i64 x, .int .i64 v, .int .i64 q, .int .i64 l], .int .i64 g, .int .i64 k] (.tuple #[.agg #[.int .i64 p, .int .i64 g, .int .i64 0, .int .i64 (gQ p g k), .int .i64 (gL p g k)], .int .i64 0]) := by
  obtain ⟨rfl, rfl, rfl, rfl, hh⟩ := of_decide_eq_true h
  have r := goP x g k hh
  have e : goP_c0 x g k = x ∧ goP_c1 x g k = g ∧ goP_c3 x g k = gQ x g k ∧ goP_c4 x g k = gL x g k := by
    unfold goP_c0 goP_c1 goP_c3 goP_c4 gQ gL
    by_cases c : g = x
    · subst c; simp
    · have cb : (g == x) = false := by simpa using c
      rw [cb]
      simp only [cond_false, if_neg c]
      refine ⟨trivial, trivial, ?_, trivial⟩
      by_cases d : k = 0
      · subst d; rfl
      · rw [if_neg d, show (k == 0) = false by simpa using d]; rfl
  rw [e.1, e.2.1, e.2.2.1, e.2.2.2] at r
  exact r
noncomputable def sG (p g v q l s k : Int) : Bool := Classical.propDecidable (DOk p g v q l s k) |>.decide
theorem sG_iff {p g v q l s k : Int} : sG p g v q l s k = true ↔ DOk p g v q l s k := by
  unfold sG
  exact @decide_eq_true_iff _ (Classical.propDecidable _)
noncomputable def nG (n : Int) : Bool := decide (0 ≤ n ∧ n ≤ 200000)
noncomputable def rP (g s k n p v q l : Int) : Int := (dN g s k n.toNat (p, v, q, l)).1
noncomputable def rV (g s k n p v q l : Int) : Int := (dN g s k n.toNat (p, v, q, l)).2.1
noncomputable def rQ (g s k n p v q l : Int) : Int := (dN g s k n.toNat (p, v, q, l)).2.2.1
noncomputable def rL (g s k n p v q l : Int) : Int := (dN g s k n.toNat (p, v, q, l)).2.2.2
noncomputable def rM (g s k n p v q l : Int) : Int := mN g s k n.toNat (p, v, q, l)
theorem run_k {p g v q l s k n : Int} (h : (sG p g v q l s k && nG n) = true) : Known Try.prog [] 22 [.agg #[.int .i64 p, .int .i64 g, .int .i64 v, .int .i64 q, .int .i64 l], .int .i64 s, .int .i64 k, .int .i64 n]
    (.tuple #[.agg #[.int .i64 (rP g s k n p v q l), .int .i64 g, .int .i64 (rV g s k n p v q l), .int .i64 (rQ g s k n p v q l), .int .i64 (rL g s k n p v q l)], .int .i64 (rM g s k n p v q l), .int .i64 0]) := by
  rw [Bool.and_eq_true] at h
  exact run_ok (sG_iff.1 h.1) (of_decide_eq_true h.2)
attribute [local irreducible] frO spO brO gQ gL atG goG sG nG rP rV rQ rL rM tP tV tQ tL
theorem kMd (a b n : Int) : Known Try.prog [] 19 [.int .i64 a, .int .i64 b, .int .i64 n] (.tuple #[.int .i64 (frO a), .int .i64 (frO b), .int .i64 (spO n), .int .i64 (brO n)]) := made_is a b n
noncomputable def kMd_k : List Value → Option Value
  | [.int .i64 a, .int .i64 b, .int .i64 n] => some (.tuple #[.int .i64 (frO a), .int .i64 (frO b), .int .i64 (spO n), .int .i64 (brO n)])
  | _ => none
theorem kMd_ok : ∀ args v, kMd_k args = some v → Known Try.prog [] 19 args v := by
  intro args v h
  unfold kMd_k at h
  split at h
  · injection h with h; subst h; exact kMd _ _ _
  · cases h
theorem kAt (p : Int) (hg : (atG p) = true) : Known Try.prog [] 17 [.int .i64 p] (.tuple #[.agg #[.int .i64 p, .int .i64 p, .int .i64 0, .int .i64 0, .int .i64 0], .int .i64 0]) := at_k hg
noncomputable def kAt_k : List Value → Option (Bool × Value)
  | [.int .i64 p] => some (atG p, .tuple #[.agg #[.int .i64 p, .int .i64 p, .int .i64 0, .int .i64 0, .int .i64 0], .int .i64 0])
  | _ => none
theorem kAt_ok : ∀ args v, kAt_k args = some (true, v) → Known Try.prog [] 17 args v := by
  intro args v h
  unfold kAt_k at h
  split at h
  · injection h with h; injection h with hg h; subst h; exact kAt _ hg
  · cases h
theorem kGo (p x v q l g k : Int) (hg : (goG p x v q l g k) = true) : Known Try.prog [] 12 [.agg #[.int .i64 p, .int .i64 x, .int .i64 v, .int .i64 q, .int .i64 l], .int .i64 g, .int .i64 k] (.tuple #[.agg #[.int .i64 p, .int .i64 g, .int .i64 0, .int .i64 (gQ p g k), .int .i64 (gL p g k)], .int .i64 0]) := go_k hg
noncomputable def kGo_k : List Value → Option (Bool × Value)
  | [.agg ⟨[.int .i64 p, .int .i64 x, .int .i64 v, .int .i64 q, .int .i64 l]⟩, .int .i64 g, .int .i64 k] => some (goG p x v q l g k, .tuple #[.agg #[.int .i64 p, .int .i64 g, .int .i64 0, .int .i64 (gQ p g k), .int .i64 (gL p g k)], .int .i64 0])
  | _ => none
theorem kGo_ok : ∀ args v, kGo_k args = some (true, v) → Known Try.prog [] 12 args v := by
  intro args v h
  unfold kGo_k at h
  split at h
  · injection h with h; injection h with hg h; subst h; exact kGo _ _ _ _ _ _ _ hg
  · cases h
theorem kRn (p g v q l s k n : Int) (hg : ((sG p g v q l s k && nG n)) = true) : Known Try.prog [] 22 [.agg #[.int .i64 p, .int .i64 g, .int .i64 v, .int .i64 q, .int .i64 l], .int .i64 s, .int .i64 k, .int .i64 n] (.tuple #[.agg #[.int .i64 (rP g s k n p v q l), .int .i64 g, .int .i64 (rV g s k n p v q l), .int .i64 (rQ g s k n p v q l), .int .i64 (rL g s k n p v q l)], .int .i64 (rM g s k n p v q l), .int .i64 0]) := run_k hg
noncomputable def kRn_k : List Value → Option (Bool × Value)
  | [.agg ⟨[.int .i64 p, .int .i64 g, .int .i64 v, .int .i64 q, .int .i64 l]⟩, .int .i64 s, .int .i64 k, .int .i64 n] => some ((sG p g v q l s k && nG n), .tuple #[.agg #[.int .i64 (rP g s k n p v q l), .int .i64 g, .int .i64 (rV g s k n p v q l), .int .i64 (rQ g s k n p v q l), .int .i64 (rL g s k n p v q l)], .int .i64 (rM g s k n p v q l), .int .i64 0])
  | _ => none
theorem kRn_ok : ∀ args v, kRn_k args = some (true, v) → Known Try.prog [] 22 args v := by
  intro args v h
  unfold kRn_k at h
  split at h
  · injection h with h; injection h with hg h; subst h; exact kRn _ _ _ _ _ _ _ _ hg
  · cases h
theorem kSt (p g v q l s k : Int) (hg : (sG p g v q l s k) = true) : Known Try.prog [] 16 [.agg #[.int .i64 p, .int .i64 g, .int .i64 v, .int .i64 q, .int .i64 l], .int .i64 s, .int .i64 k] (.tuple #[.agg #[.int .i64 (tP p g v q s), .int .i64 g, .int .i64 (tV p g v q s), .int .i64 (tQ p g v q l s k), .int .i64 (tL p g v q l s k)], .bool (tM q), .int .i64 0]) := pStep_all (sG_iff.1 hg)
noncomputable def kSt_k : List Value → Option (Bool × Value)
  | [.agg ⟨[.int .i64 p, .int .i64 g, .int .i64 v, .int .i64 q, .int .i64 l]⟩, .int .i64 s, .int .i64 k] => some (sG p g v q l s k, .tuple #[.agg #[.int .i64 (tP p g v q s), .int .i64 g, .int .i64 (tV p g v q s), .int .i64 (tQ p g v q l s k), .int .i64 (tL p g v q l s k)], .bool (tM q), .int .i64 0])
  | _ => none
theorem kSt_ok : ∀ args v, kSt_k args = some (true, v) → Known Try.prog [] 16 args v := by
  intro args v h
  unfold kSt_k at h
  split at h
  · injection h with h; injection h with hg h; subst h; exact kSt _ _ _ _ _ _ _ hg
  · cases h
theorem drive_known : Known Try.prog [] 4 [] (.bool true) := run_res knDriveKnown_mix knDriveKnown_k0 driveKnown_run
noncomputable def tabPa : GTab := (GTab.fn1 19 kMd_k (GTab.fn 17 kAt_k (GTab.fn 12 kGo_k (GTab.fn 22 kRn_k (GTab.fn 16 kSt_k (GTab.fn1 4 (fun l => match l with | [] => some (.bool true) | _ => none) tabMd))))))
theorem tabPa_ok : GOk Try.prog [] tabPa := (GOk.fn1 kMd_ok (GOk.fn kAt_ok (GOk.fn kGo_ok (GOk.fn kRn_ok (GOk.fn kSt_ok (GOk.fn1 (known0 drive_known) tabMd_ok))))))
end Go.Proofs.Ytkmooakeilkdiaa
