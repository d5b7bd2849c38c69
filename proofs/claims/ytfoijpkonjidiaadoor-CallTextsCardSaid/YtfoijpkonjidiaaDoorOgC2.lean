/- Layer 20: CallTexts. -/
import Derived.Test.YtfoijpkonjidiaaDoorCZ
import Derived.Test.YtfoijpkonjidiaaDoorCY
import Derived.ProofKit
import Derived.IntWalk
namespace Go.Proofs.YtfoijpkonjidiaaDoor
open Go Go.RowKit
set_option linter.unusedVariables false
set_option linter.unusedSimpArgs false
set_option linter.unnecessarySimpa false
set_option maxHeartbeats 8000000
set_option maxRecDepth 100000
theorem kCK : Known Tryd.prog knCallKnownL 6 [] (.bool true) := run_res knCallKnown_mix knCallKnown_k0 callKnown_run
def mdV (n m : Int) : Int := n % m
theorem and3 {a b : Bool} (h : (a && b) = true) : a = true ∧ b = true := by simpa using h
theorem qMd (n m : Int) (hg : (decide (0 < m ∧ m ≤ 4611686018427387904)) = true) : Known Tryd.prog knCallKnownL 39 [.int .i64 n, .int .i64 m] (.int .i64 (mdV n m)) := kMod (of_decide_eq_true hg)
noncomputable def qMd_k : List Value → Option (Bool × Value)
  | [.int .i64 n, .int .i64 m] => some (decide (0 < m ∧ m ≤ 4611686018427387904), .int .i64 (mdV n m))
  | _ => none
theorem qMd_ok : ∀ args v, qMd_k args = some (true, v) → Known Tryd.prog knCallKnownL 39 args v := by
  intro args v h
  unfold qMd_k at h
  split at h
  · injection h with h; injection h with hg h; subst h; exact qMd _ _ hg
  · cases h
theorem maD (n : Int) : Known Tryd.prog knCallKnownL 36 [.int .i64 n] (.agg #[.int .i64 (mK n), .int .i64 (mF n), .int .i64 (mC n), .int .i64 (mA n)]) := pMade n
noncomputable def maD_k : List Value → Option Value
  | [.int .i64 n] => some (.agg #[.int .i64 (mK n), .int .i64 (mF n), .int .i64 (mC n), .int .i64 (mA n)])
  | _ => none
theorem maD_ok : ∀ args v, maD_k args = some v → Known Tryd.prog knCallKnownL 36 args v := by
  intro args v h
  unfold maD_k at h
  split at h
  · injection h with h; subst h; exact maD _
  · cases h
theorem txD (a b c d : Int) (hg : (gCl a b c d) = true) : Known Tryd.prog knCallKnownL 20 [.agg #[.int .i64 a, .int .i64 b, .int .i64 c, .int .i64 d]] (.tuple #[.string (tXC a b c d), .int .i64 0]) := by have h := gCl_iff.1 hg; have k := ctext (nm_lt h); rw [nm_clV h] at k; exact k
noncomputable def txD_k : List Value → Option (Bool × Value)
  | [.agg ⟨[.int .i64 a, .int .i64 b, .int .i64 c, .int .i64 d]⟩] => some (gCl a b c d, .tuple #[.string (tXC a b c d), .int .i64 0])
  | _ => none
theorem txD_ok : ∀ args v, txD_k args = some (true, v) → Known Tryd.prog knCallKnownL 20 args v := by
  intro args v h
  unfold txD_k at h
  split at h
  · injection h with h; injection h with hg h; subst h; exact txD _ _ _ _ hg
  · cases h
theorem psD (s : ByteArray) (hg : (gPs s) = true) : Known Tryd.prog knCallKnownL 29 [.string s] (.tuple #[.agg #[.int .i64 (rK s), .int .i64 (rF s), .int .i64 (rC s), .int .i64 (rA s)], .int .i64 0]) := by obtain ⟨i, hi, rfl⟩ := gPs_iff.1 hg; have k := cparse hi; have e := dc_all ⟨i, hi⟩; dsimp only at e; unfold rK rF rC rA; rw [e]; exact k
noncomputable def psD_k : List Value → Option (Bool × Value)
  | [.string s] => some (gPs s, .tuple #[.agg #[.int .i64 (rK s), .int .i64 (rF s), .int .i64 (rC s), .int .i64 (rA s)], .int .i64 0])
  | _ => none
theorem psD_ok : ∀ args v, psD_k args = some (true, v) → Known Tryd.prog knCallKnownL 29 args v := by
  intro args v h
  unfold psD_k at h
  split at h
  · injection h with h; injection h with hg h; subst h; exact psD _ hg
  · cases h
theorem svD (a b c d f g : Int) (hg : ((gCl a b c d && decide (f = b ∧ 1 ≤ g ∧ g ≤ 8))) = true) : Known Tryd.prog knCallKnownL 16 [.agg #[.int .i64 a, .int .i64 b, .int .i64 c, .int .i64 d], .int .i64 f, .int .i64 g] (.tuple #[.bool (pSv_c0 a b c d f g), .int .i64 0]) := by have h := gCl_iff.1 (and3 hg).1; have q := of_decide_eq_true (and3 hg).2; exact pSv a b c d f g h.1 h.2.1 h.2.2 q.1 q.2
noncomputable def svD_k : List Value → Option (Bool × Value)
  | [.agg ⟨[.int .i64 a, .int .i64 b, .int .i64 c, .int .i64 d]⟩, .int .i64 f, .int .i64 g] => some ((gCl a b c d && decide (f = b ∧ 1 ≤ g ∧ g ≤ 8)), .tuple #[.bool (pSv_c0 a b c d f g), .int .i64 0])
  | _ => none
theorem svD_ok : ∀ args v, svD_k args = some (true, v) → Known Tryd.prog knCallKnownL 16 args v := by
  intro args v h
  unfold svD_k at h
  split at h
  · injection h with h; injection h with hg h; subst h; exact svD _ _ _ _ _ _ hg
  · cases h
theorem agD (a b c d t : Int) (hg : ((gCl a b c d && decide (d ≤ t ∧ t ≤ 2000))) = true) : Known Tryd.prog knCallKnownL 18 [.agg #[.int .i64 a, .int .i64 b, .int .i64 c, .int .i64 d], .int .i64 t] (.tuple #[.int .i64 (IntKind.i64.wrap (t - d)), .int .i64 0]) := by have h := gCl_iff.1 (and3 hg).1; have q := of_decide_eq_true (and3 hg).2; exact pAg a b c d t h.1 h.2.1 h.2.2 q
noncomputable def agD_k : List Value → Option (Bool × Value)
  | [.agg ⟨[.int .i64 a, .int .i64 b, .int .i64 c, .int .i64 d]⟩, .int .i64 t] => some ((gCl a b c d && decide (d ≤ t ∧ t ≤ 2000)), .tuple #[.int .i64 (IntKind.i64.wrap (t - d)), .int .i64 0])
  | _ => none
theorem agD_ok : ∀ args v, agD_k args = some (true, v) → Known Tryd.prog knCallKnownL 18 args v := by
  intro args v h
  unfold agD_k at h
  split at h
  · injection h with h; injection h with hg h; subst h; exact agD _ _ _ _ _ hg
  · cases h
attribute [local irreducible] mdV mK mF mC mA gCl gPs tXC rK rF rC rA pSv_c0
noncomputable def tabTx : GTab := (GTab.fn 39 qMd_k (GTab.fn1 36 maD_k (GTab.fn 20 txD_k (GTab.fn 29 psD_k (GTab.fn 16 svD_k (GTab.fn 18 agD_k (GTab.fn1 6 (fun l => match l with | [] => some (.bool true) | _ => none) GTab.none)))))))
theorem tabTx_ok : GOk Tryd.prog knCallKnownL tabTx := (GOk.fn qMd_ok (GOk.fn1 maD_ok (GOk.fn txD_ok (GOk.fn psD_ok (GOk.fn svD_ok (GOk.fn agD_ok (GOk.fn1 (known0 kCK) GOk.none)))))))
noncomputable abbrev tX (x : Int) : ByteArray := tXC (mK x) (mF x) (mC x) (mA x)
noncomputable abbrev cR (z : Int) : Int := IntKind.i64.wrap (1 + mdV z 8)
noncomputable abbrev nW (x z : Int) : Int := IntKind.i64.wrap (mA x + mdV z 1000)
noncomputable def lawT_b3 (x y car later : Int) : Bool := gCl (mK x) (mF x) (mC x) (mA x) && decide (mF x = mF x ∧ (1 : Int) ≤ IntKind.i64.wrap ((1 : Int) + mdV car (8 : Int)) ∧ IntKind.i64.wrap ((1 : Int) + mdV car (8 : Int)) ≤ (8 : Int))
noncomputable def lawT_b4 (x y car later : Int) : Bool := gCl (mK x) (mF x) (mC x) (mA x) && decide (mA x ≤ IntKind.i64.wrap (mA x + mdV later (1000 : Int)) ∧ IntKind.i64.wrap (mA x + mdV later (1000 : Int)) ≤ (2000 : Int))
noncomputable def lawT_b5 (x y car later : Int) : Bool := gCl (mK x) (mF x) (mC x) (mA x) && decide (mA x ≤ IntKind.i64.wrap (IntKind.i64.wrap (mA x + mdV later (1000 : Int)) + (1 : Int)) ∧ IntKind.i64.wrap (IntKind.i64.wrap (mA x + mdV later (1000 : Int)) + (1 : Int)) ≤ (2000 : Int))
noncomputable def lawT_b6 (x y car later : Int) : Bool := IntKind.i64.wrap (IntKind.i64.wrap (IntKind.i64.wrap (mA x + mdV later (1000 : Int)) + (1 : Int)) - mA x) != IntKind.i64.wrap (IntKind.i64.wrap (IntKind.i64.wrap (mA x + mdV later (1000 : Int)) - mA x) + (1 : Int))
noncomputable def lawT_b7 (x y car later : Int) : Bool := IntKind.i64.wrap (IntKind.i64.wrap (mA x + mdV later (1000 : Int)) - mA x) != IntKind.i64.wrap (IntKind.i64.wrap (mA x + mdV later (1000 : Int)) - mA x)
noncomputable def lawT_b8 (x y car later : Int) : Bool := rK (tXC (mK x) (mF x) (mC x) (mA x)) == mK x && (rF (tXC (mK x) (mF x) (mC x) (mA x)) == mF x && (rC (tXC (mK x) (mF x) (mC x) (mA x)) == mC x && rA (tXC (mK x) (mF x) (mC x) (mA x)) == mA x))
noncomputable def lawT_b9 (x y car later : Int) : Bool := ((tXC (mK x) (mF x) (mC x) (mA x)).toList == (tXC (mK y) (mF y) (mC y) (mA y)).toList) == (mK x == mK y && (mF x == mF y && (mC x == mC y && mA x == mA y)))
noncomputable def lawT_c0 (x y car later : Int) : Bool := (bif (IntKind.i64.wrap (IntKind.i64.wrap (IntKind.i64.wrap (mA x + mdV later (1000 : Int)) + (1 : Int)) - mA x) != IntKind.i64.wrap (IntKind.i64.wrap (IntKind.i64.wrap (mA x + mdV later (1000 : Int)) - mA x) + (1 : Int))) then (false) else (bif (IntKind.i64.wrap (IntKind.i64.wrap (mA x + mdV later (1000 : Int)) - mA x) != IntKind.i64.wrap (IntKind.i64.wrap (mA x + mdV later (1000 : Int)) - mA x)) then (false) else (bif (rK (tXC (mK x) (mF x) (mC x) (mA x)) == mK x && (rF (tXC (mK x) (mF x) (mC x) (mA x)) == mF x && (rC (tXC (mK x) (mF x) (mC x) (mA x)) == mC x && rA (tXC (mK x) (mF x) (mC x) (mA x)) == mA x))) then (bif (((tXC (mK x) (mF x) (mC x) (mA x)).toList == (tXC (mK y) (mF y) (mC y) (mA y)).toList) == (mK x == mK y && (mF x == mF y && (mC x == mC y && mA x == mA y)))) then (bif (mK x != (3 : Int)) then (pSv_c0 (mK x) (mF x) (mC x) (mA x) (mF x) (IntKind.i64.wrap ((1 : Int) + mdV car (8 : Int))) == true) else (pSv_c0 (mK x) (mF x) (mC x) (mA x) (mF x) (IntKind.i64.wrap ((1 : Int) + mdV car (8 : Int))) == (mC x == IntKind.i64.wrap ((1 : Int) + mdV car (8 : Int))))) else (false)) else (false))))
theorem lawT_p0 (x y car later : Int) (ga : gCl (mK x) (mF x) (mC x) (mA x) = true) (gb : gCl (mK y) (mF y) (mC y) (mA y) = true) (gc : gPs (tX x) = true) (gd : (gCl (mK x) (mF x) (mC x) (mA x) && decide (mF x = mF x ∧ 1 ≤ cR car ∧ cR car ≤ 8)) = true) (ge : (gCl (mK x) (mF x) (mC x) (mA x) && decide (mA x ≤ nW x later ∧ nW x later ≤ 2000)) = true) (gf : (gCl (mK x) (mF x) (mC x) (mA x) && decide (mA x ≤ IntKind.i64.wrap (nW x later + 1) ∧ IntKind.i64.wrap (nW x later + 1) ≤ 2000)) = true) (hq0 : (gCl (mK x) (mF x) (mC x) (mA x)) = true) (hq1 : (gCl (mK y) (mF y) (mC y) (mA y)) = true) (hq2 : (gPs (tXC (mK x) (mF x) (mC x) (mA x))) = true) (hq3 : (lawT_b3 x y car later) = true) (hq4 : (lawT_b4 x y car later) = true) (hq5 : (lawT_b5 x y car later) = true) (hq6 : (lawT_b6 x y car later) = true) : Known Tryd.prog knCallKnownL 9 [.int .i64 x, .int .i64 y, .int .i64 car, .int .i64 later] (.bool (false)) :=
  open_res mix tabTx_ok (T := tabTx) (fuel := 3000) (ans := [(3, .b 1), (4, .b 1), (5, .b 1), (7, .b 1), (9, .b 1), (10, .b 1), (31, .b 1)]) (log := [(lawT_b6 x y car later) = true, (lawT_b5 x y car later) = true, (lawT_b4 x y car later) = true, (lawT_b3 x y car later) = true, (gPs (tXC (mK x) (mF x) (mC x) (mA x))) = true, (gCl (mK y) (mF y) (mC y) (mA y)) = true, (gCl (mK x) (mF x) (mC x) (mA x)) = true]) (by kernel_rfl) ⟨hq6, hq5, hq4, hq3, hq2, hq1, hq0, trivial⟩ (by kernel_rfl)
theorem lawT_p1 (x y car later : Int) (ga : gCl (mK x) (mF x) (mC x) (mA x) = true) (gb : gCl (mK y) (mF y) (mC y) (mA y) = true) (gc : gPs (tX x) = true) (gd : (gCl (mK x) (mF x) (mC x) (mA x) && decide (mF x = mF x ∧ 1 ≤ cR car ∧ cR car ≤ 8)) = true) (ge : (gCl (mK x) (mF x) (mC x) (mA x) && decide (mA x ≤ nW x later ∧ nW x later ≤ 2000)) = true) (gf : (gCl (mK x) (mF x) (mC x) (mA x) && decide (mA x ≤ IntKind.i64.wrap (nW x later + 1) ∧ IntKind.i64.wrap (nW x later + 1) ≤ 2000)) = true) (hq0 : (gCl (mK x) (mF x) (mC x) (mA x)) = true) (hq1 : (gCl (mK y) (mF y) (mC y) (mA y)) = true) (hq2 : (gPs (tXC (mK x) (mF x) (mC x) (mA x))) = true) (hq3 : (lawT_b3 x y car later) = true) (hq4 : (lawT_b4 x y car later) = true) (hq5 : (lawT_b5 x y car later) = true) (hq6 : (lawT_b6 x y car later) = false) (hq7 : (lawT_b7 x y car later) = true) : Known Tryd.prog knCallKnownL 9 [.int .i64 x, .int .i64 y, .int .i64 car, .int .i64 later] (.bool (false)) :=
  open_res mix tabTx_ok (T := tabTx) (fuel := 3000) (ans := [(3, .b 1), (4, .b 1), (5, .b 1), (7, .b 1), (9, .b 1), (10, .b 1), (31, .b 0), (38, .b 1)]) (log := [(lawT_b7 x y car later) = true, (lawT_b6 x y car later) = false, (lawT_b5 x y car later) = true, (lawT_b4 x y car later) = true, (lawT_b3 x y car later) = true, (gPs (tXC (mK x) (mF x) (mC x) (mA x))) = true, (gCl (mK y) (mF y) (mC y) (mA y)) = true, (gCl (mK x) (mF x) (mC x) (mA x)) = true]) (by kernel_rfl) ⟨hq7, hq6, hq5, hq4, hq3, hq2, hq1, hq0, trivial⟩ (by kernel_rfl)
theorem lawT_p2 (x y car later : Int) (ga : gCl (mK x) (mF x) (mC x) (mA x) = true) (gb : gCl (mK y) (mF y) (mC y) (mA y) = true) (gc : gPs (tX x) = true) (gd : (gCl (mK x) (mF x) (mC x) (mA x) && decide (mF x = mF x ∧ 1 ≤ cR car ∧ cR car ≤ 8)) = true) (ge : (gCl (mK x) (mF x) (mC x) (mA x) && decide (mA x ≤ nW x later ∧ nW x later ≤ 2000)) = true) (gf : (gCl (mK x) (mF x) (mC x) (mA x) && decide (mA x ≤ IntKind.i64.wrap (nW x later + 1) ∧ IntKind.i64.wrap (nW x later + 1) ≤ 2000)) = true) (hq0 : (gCl (mK x) (mF x) (mC x) (mA x)) = true) (hq1 : (gCl (mK y) (mF y) (mC y) (mA y)) = true) (hq2 : (gPs (tXC (mK x) (mF x) (mC x) (mA x))) = true) (hq3 : (lawT_b3 x y car later) = true) (hq4 : (lawT_b4 x y car later) = true) (hq5 : (lawT_b5 x y car later) = true) (hq6 : (lawT_b6 x y car later) = false) (hq7 : (lawT_b7 x y car later) = false) (hq8 : (lawT_b8 x y car later) = true) (hq9 : (lawT_b9 x y car later) = true) (hq10 : (mK x != (3 : Int)) = true) : Known Tryd.prog knCallKnownL 9 [.int .i64 x, .int .i64 y, .int .i64 car, .int .i64 later] (.bool (pSv_c0 (mK x) (mF x) (mC x) (mA x) (mF x) (IntKind.i64.wrap ((1 : Int) + mdV car (8 : Int))) == true)) :=
  open_res mix tabTx_ok (T := tabTx) (fuel := 3000) (ans := [(3, .b 1), (4, .b 1), (5, .b 1), (7, .b 1), (9, .b 1), (10, .b 1), (31, .b 0), (38, .b 0), (43, .b 1), (51, .b 1), (56, .b 1)]) (log := [(mK x != (3 : Int)) = true, (lawT_b9 x y car later) = true, (lawT_b8 x y car later) = true, (lawT_b7 x y car later) = false, (lawT_b6 x y car later) = false, (lawT_b5 x y car later) = true, (lawT_b4 x y car later) = true, (lawT_b3 x y car later) = true, (gPs (tXC (mK x) (mF x) (mC x) (mA x))) = true, (gCl (mK y) (mF y) (mC y) (mA y)) = true, (gCl (mK x) (mF x) (mC x) (mA x)) = true]) (by kernel_rfl) ⟨hq10, hq9, hq8, hq7, hq6, hq5, hq4, hq3, hq2, hq1, hq0, trivial⟩ (by kernel_rfl)
theorem lawT_p3 (x y car later : Int) (ga : gCl (mK x) (mF x) (mC x) (mA x) = true) (gb : gCl (mK y) (mF y) (mC y) (mA y) = true) (gc : gPs (tX x) = true) (gd : (gCl (mK x) (mF x) (mC x) (mA x) && decide (mF x = mF x ∧ 1 ≤ cR car ∧ cR car ≤ 8)) = true) (ge : (gCl (mK x) (mF x) (mC x) (mA x) && decide (mA x ≤ nW x later ∧ nW x later ≤ 2000)) = true) (gf : (gCl (mK x) (mF x) (mC x) (mA x) && decide (mA x ≤ IntKind.i64.wrap (nW x later + 1) ∧ IntKind.i64.wrap (nW x later + 1) ≤ 2000)) = true) (hq0 : (gCl (mK x) (mF x) (mC x) (mA x)) = true) (hq1 : (gCl (mK y) (mF y) (mC y) (mA y)) = true) (hq2 : (gPs (tXC (mK x) (mF x) (mC x) (mA x))) = true) (hq3 : (lawT_b3 x y car later) = true) (hq4 : (lawT_b4 x y car later) = true) (hq5 : (lawT_b5 x y car later) = true) (hq6 : (lawT_b6 x y car later) = false) (hq7 : (lawT_b7 x y car later) = false) (hq8 : (lawT_b8 x y car later) = true) (hq9 : (lawT_b9 x y car later) = true) (hq10 : (mK x != (3 : Int)) = false) : Known Tryd.prog knCallKnownL 9 [.int .i64 x, .int .i64 y, .int .i64 car, .int .i64 later] (.bool (pSv_c0 (mK x) (mF x) (mC x) (mA x) (mF x) (IntKind.i64.wrap ((1 : Int) + mdV car (8 : Int))) == (mC x == IntKind.i64.wrap ((1 : Int) + mdV car (8 : Int))))) :=
  open_res mix tabTx_ok (T := tabTx) (fuel := 3000) (ans := [(3, .b 1), (4, .b 1), (5, .b 1), (7, .b 1), (9, .b 1), (10, .b 1), (31, .b 0), (38, .b 0), (43, .b 1), (51, .b 1), (56, .b 0)]) (log := [(mK x != (3 : Int)) = false, (lawT_b9 x y car later) = true, (lawT_b8 x y car later) = true, (lawT_b7 x y car later) = false, (lawT_b6 x y car later) = false, (lawT_b5 x y car later) = true, (lawT_b4 x y car later) = true, (lawT_b3 x y car later) = true, (gPs (tXC (mK x) (mF x) (mC x) (mA x))) = true, (gCl (mK y) (mF y) (mC y) (mA y)) = true, (gCl (mK x) (mF x) (mC x) (mA x)) = true]) (by kernel_rfl) ⟨hq10, hq9, hq8, hq7, hq6, hq5, hq4, hq3, hq2, hq1, hq0, trivial⟩ (by kernel_rfl)
theorem lawT_p4 (x y car later : Int) (ga : gCl (mK x) (mF x) (mC x) (mA x) = true) (gb : gCl (mK y) (mF y) (mC y) (mA y) = true) (gc : gPs (tX x) = true) (gd : (gCl (mK x) (mF x) (mC x) (mA x) && decide (mF x = mF x ∧ 1 ≤ cR car ∧ cR car ≤ 8)) = true) (ge : (gCl (mK x) (mF x) (mC x) (mA x) && decide (mA x ≤ nW x later ∧ nW x later ≤ 2000)) = true) (gf : (gCl (mK x) (mF x) (mC x) (mA x) && decide (mA x ≤ IntKind.i64.wrap (nW x later + 1) ∧ IntKind.i64.wrap (nW x later + 1) ≤ 2000)) = true) (hq0 : (gCl (mK x) (mF x) (mC x) (mA x)) = true) (hq1 : (gCl (mK y) (mF y) (mC y) (mA y)) = true) (hq2 : (gPs (tXC (mK x) (mF x) (mC x) (mA x))) = true) (hq3 : (lawT_b3 x y car later) = true) (hq4 : (lawT_b4 x y car later) = true) (hq5 : (lawT_b5 x y car later) = true) (hq6 : (lawT_b6 x y car later) = false) (hq7 : (lawT_b7 x y car later) = false) (hq8 : (lawT_b8 x y car later) = true) (hq9 : (lawT_b9 x y car later) = false) : Known Tryd.prog knCallKnownL 9 [.int .i64 x, .int .i64 y, .int .i64 car, .int .i64 later] (.bool (false)) :=
  open_res mix tabTx_ok (T := tabTx) (fuel := 3000) (ans := [(3, .b 1), (4, .b 1), (5, .b 1), (7, .b 1), (9, .b 1), (10, .b 1), (31, .b 0), (38, .b 0), (43, .b 1), (51, .b 0)]) (log := [(lawT_b9 x y car later) = false, (lawT_b8 x y car later) = true, (lawT_b7 x y car later) = false, (lawT_b6 x y car later) = false, (lawT_b5 x y car later) = true, (lawT_b4 x y car later) = true, (lawT_b3 x y car later) = true, (gPs (tXC (mK x) (mF x) (mC x) (mA x))) = true, (gCl (mK y) (mF y) (mC y) (mA y)) = true, (gCl (mK x) (mF x) (mC x) (mA x)) = true]) (by kernel_rfl) ⟨hq9, hq8, hq7, hq6, hq5, hq4, hq3, hq2, hq1, hq0, trivial⟩ (by kernel_rfl)
theorem lawT_p5 (x y car later : Int) (ga : gCl (mK x) (mF x) (mC x) (mA x) = true) (gb : gCl (mK y) (mF y) (mC y) (mA y) = true) (gc : gPs (tX x) = true) (gd : (gCl (mK x) (mF x) (mC x) (mA x) && decide (mF x = mF x ∧ 1 ≤ cR car ∧ cR car ≤ 8)) = true) (ge : (gCl (mK x) (mF x) (mC x) (mA x) && decide (mA x ≤ nW x later ∧ nW x later ≤ 2000)) = true) (gf : (gCl (mK x) (mF x) (mC x) (mA x) && decide (mA x ≤ IntKind.i64.wrap (nW x later + 1) ∧ IntKind.i64.wrap (nW x later + 1) ≤ 2000)) = true) (hq0 : (gCl (mK x) (mF x) (mC x) (mA x)) = true) (hq1 : (gCl (mK y) (mF y) (mC y) (mA y)) = true) (hq2 : (gPs (tXC (mK x) (mF x) (mC x) (mA x))) = true) (hq3 : (lawT_b3 x y car later) = true) (hq4 : (lawT_b4 x y car later) = true) (hq5 : (lawT_b5 x y car later) = true) (hq6 : (lawT_b6 x y car later) = false) (hq7 : (lawT_b7 x y car later) = false) (hq8 : (lawT_b8 x y car later) = false) : Known Tryd.prog knCallKnownL 9 [.int .i64 x, .int .i64 y, .int .i64 car, .int .i64 later] (.bool (false)) :=
  open_res mix tabTx_ok (T := tabTx) (fuel := 3000) (ans := [(3, .b 1), (4, .b 1), (5, .b 1), (7, .b 1), (9, .b 1), (10, .b 1), (31, .b 0), (38, .b 0), (43, .b 0)]) (log := [(lawT_b8 x y car later) = false, (lawT_b7 x y car later) = false, (lawT_b6 x y car later) = false, (lawT_b5 x y car later) = true, (lawT_b4 x y car later) = true, (lawT_b3 x y car later) = true, (gPs (tXC (mK x) (mF x) (mC x) (mA x))) = true, (gCl (mK y) (mF y) (mC y) (mA y)) = true, (gCl (mK x) (mF x) (mC x) (mA x)) = true]) (by kernel_rfl) ⟨hq8, hq7, hq6, hq5, hq4, hq3, hq2, hq1, hq0, trivial⟩ (by kernel_rfl)
set_option maxHeartbeats 8000000 in
theorem lawT (x y car later : Int) (ga : gCl (mK x) (mF x) (mC x) (mA x) = true) (gb : gCl (mK y) (mF y) (mC y) (mA y) = true) (gc : gPs (tX x) = true) (gd : (gCl (mK x) (mF x) (mC x) (mA x) && decide (mF x = mF x ∧ 1 ≤ cR car ∧ cR car ≤ 8)) = true) (ge : (gCl (mK x) (mF x) (mC x) (mA x) && decide (mA x ≤ nW x later ∧ nW x later ≤ 2000)) = true) (gf : (gCl (mK x) (mF x) (mC x) (mA x) && decide (mA x ≤ IntKind.i64.wrap (nW x later + 1) ∧ IntKind.i64.wrap (nW x later + 1) ≤ 2000)) = true) : Known Tryd.prog knCallKnownL 9 [.int .i64 x, .int .i64 y, .int .i64 car, .int .i64 later] (.bool (lawT_c0 x y car later)) := by
  have hq0 : (gCl (mK x) (mF x) (mC x) (mA x)) = true := by
    rcases Bool.eq_false_or_eq_true (gCl (mK x) (mF x) (mC x) (mA x)) with h | h
    · exact h
    · exfalso; (try simp only [lawT_b3, lawT_b4, lawT_b5, lawT_b6, lawT_b7, lawT_b8, lawT_b9] at *); (first | (simp_all only [Bool.and_eq_true, Bool.not_eq_true', Bool.false_eq_true, Bool.true_eq_false, reduceCtorEq]; done) | (simp only [sx, sy, eq_self, ne_eq, IntKind.wrap_i64, wrapU64, Int.reduceLT] at * <;> first | contradiction | omega) | omega | ((try simp only [sx, sy, eq_self, ne_eq, IntKind.wrap_i64, wrapU64, Int.reduceLT] at *) <;> omega) | (simp_all; done))
  have hq1 : (gCl (mK y) (mF y) (mC y) (mA y)) = true := by
    rcases Bool.eq_false_or_eq_true (gCl (mK y) (mF y) (mC y) (mA y)) with h | h
    · exact h
    · exfalso; (try simp only [lawT_b3, lawT_b4, lawT_b5, lawT_b6, lawT_b7, lawT_b8, lawT_b9] at *); (first | (simp_all only [Bool.and_eq_true, Bool.not_eq_true', Bool.false_eq_true, Bool.true_eq_false, reduceCtorEq]; done) | (simp only [sx, sy, eq_self, ne_eq, IntKind.wrap_i64, wrapU64, Int.reduceLT] at * <;> first | contradiction | omega) | omega | ((try simp only [sx, sy, eq_self, ne_eq, IntKind.wrap_i64, wrapU64, Int.reduceLT] at *) <;> omega) | (simp_all; done))
  have hq2 : (gPs (tXC (mK x) (mF x) (mC x) (mA x))) = true := by
    rcases Bool.eq_false_or_eq_true (gPs (tXC (mK x) (mF x) (mC x) (mA x))) with h | h
    · exact h
    · exfalso; (try simp only [lawT_b3, lawT_b4, lawT_b5, lawT_b6, lawT_b7, lawT_b8, lawT_b9] at *); (first | (simp_all only [Bool.and_eq_true, Bool.not_eq_true', Bool.false_eq_true, Bool.true_eq_false, reduceCtorEq]; done) | (simp only [sx, sy, eq_self, ne_eq, IntKind.wrap_i64, wrapU64, Int.reduceLT] at * <;> first | contradiction | omega) | omega | ((try simp only [sx, sy, eq_self, ne_eq, IntKind.wrap_i64, wrapU64, Int.reduceLT] at *) <;> omega) | (simp_all; done))
  have hq3 : (lawT_b3 x y car later) = true := by
    rcases Bool.eq_false_or_eq_true (lawT_b3 x y car later) with h | h
    · exact h
    · exfalso; (try simp only [lawT_b3, lawT_b4, lawT_b5, lawT_b6, lawT_b7, lawT_b8, lawT_b9] at *); (first | (simp_all only [Bool.and_eq_true, Bool.not_eq_true', Bool.false_eq_true, Bool.true_eq_false, reduceCtorEq]; done) | (simp only [sx, sy, eq_self, ne_eq, IntKind.wrap_i64, wrapU64, Int.reduceLT] at * <;> first | contradiction | omega) | omega | ((try simp only [sx, sy, eq_self, ne_eq, IntKind.wrap_i64, wrapU64, Int.reduceLT] at *) <;> omega) | (simp_all; done))
  have hq4 : (lawT_b4 x y car later) = true := by
    rcases Bool.eq_false_or_eq_true (lawT_b4 x y car later) with h | h
    · exact h
    · exfalso; (try simp only [lawT_b3, lawT_b4, lawT_b5, lawT_b6, lawT_b7, lawT_b8, lawT_b9] at *); (first | (simp_all only [Bool.and_eq_true, Bool.not_eq_true', Bool.false_eq_true, Bool.true_eq_false, reduceCtorEq]; done) | (simp only [sx, sy, eq_self, ne_eq, IntKind.wrap_i64, wrapU64, Int.reduceLT] at * <;> first | contradiction | omega) | omega | ((try simp only [sx, sy, eq_self, ne_eq, IntKind.wrap_i64, wrapU64, Int.reduceLT] at *) <;> omega) | (simp_all; done))
  have hq5 : (lawT_b5 x y car later) = true := by
    rcases Bool.eq_false_or_eq_true (lawT_b5 x y car later) with h | h
    · exact h
    · exfalso; (try simp only [lawT_b3, lawT_b4, lawT_b5, lawT_b6, lawT_b7, lawT_b8, lawT_b9] at *); (first | (simp_all only [Bool.and_eq_true, Bool.not_eq_true', Bool.false_eq_true, Bool.true_eq_false, reduceCtorEq]; done) | (simp only [sx, sy, eq_self, ne_eq, IntKind.wrap_i64, wrapU64, Int.reduceLT] at * <;> first | contradiction | omega) | omega | ((try simp only [sx, sy, eq_self, ne_eq, IntKind.wrap_i64, wrapU64, Int.reduceLT] at *) <;> omega) | (simp_all; done))
  rcases Bool.eq_false_or_eq_true (lawT_b6 x y car later) with hq6 | hq6
  ·
    have e0 : lawT_c0 x y car later = (false) := ((bif_t hq6 _ _).trans rfl); rw [e0]; exact lawT_p0 x y car later ga gb gc gd ge gf hq0 hq1 hq2 hq3 hq4 hq5 hq6
  ·
    rcases Bool.eq_false_or_eq_true (lawT_b7 x y car later) with hq7 | hq7
    ·
      have e0 : lawT_c0 x y car later = (false) := ((bif_f hq6 _ _).trans ((bif_t hq7 _ _).trans rfl)); rw [e0]; exact lawT_p1 x y car later ga gb gc gd ge gf hq0 hq1 hq2 hq3 hq4 hq5 hq6 hq7
    ·
      rcases Bool.eq_false_or_eq_true (lawT_b8 x y car later) with hq8 | hq8
      ·
        rcases Bool.eq_false_or_eq_true (lawT_b9 x y car later) with hq9 | hq9
        ·
          rcases Bool.eq_false_or_eq_true (mK x != (3 : Int)) with hq10 | hq10
          ·
            have e0 : lawT_c0 x y car later = (pSv_c0 (mK x) (mF x) (mC x) (mA x) (mF x) (IntKind.i64.wrap ((1 : Int) + mdV car (8 : Int))) == true) := ((bif_f hq6 _ _).trans ((bif_f hq7 _ _).trans ((bif_t hq8 _ _).trans ((bif_t hq9 _ _).trans ((bif_t hq10 _ _).trans rfl))))); rw [e0]; exact lawT_p2 x y car later ga gb gc gd ge gf hq0 hq1 hq2 hq3 hq4 hq5 hq6 hq7 hq8 hq9 hq10
          ·
            have e0 : lawT_c0 x y car later = (pSv_c0 (mK x) (mF x) (mC x) (mA x) (mF x) (IntKind.i64.wrap ((1 : Int) + mdV car (8 : Int))) == (mC x == IntKind.i64.wrap ((1 : Int) + mdV car (8 : Int)))) := ((bif_f hq6 _ _).trans ((bif_f hq7 _ _).trans ((bif_t hq8 _ _).trans ((bif_t hq9 _ _).trans ((bif_f hq10 _ _).trans rfl))))); rw [e0]; exact lawT_p3 x y car later ga gb gc gd ge gf hq0 hq1 hq2 hq3 hq4 hq5 hq6 hq7 hq8 hq9 hq10
        ·
          have e0 : lawT_c0 x y car later = (false) := ((bif_f hq6 _ _).trans ((bif_f hq7 _ _).trans ((bif_t hq8 _ _).trans ((bif_f hq9 _ _).trans rfl)))); rw [e0]; exact lawT_p4 x y car later ga gb gc gd ge gf hq0 hq1 hq2 hq3 hq4 hq5 hq6 hq7 hq8 hq9
      ·
        have e0 : lawT_c0 x y car later = (false) := ((bif_f hq6 _ _).trans ((bif_f hq7 _ _).trans ((bif_f hq8 _ _).trans rfl))); rw [e0]; exact lawT_p5 x y car later ga gb gc gd ge gf hq0 hq1 hq2 hq3 hq4 hq5 hq6 hq7 hq8

end Go.Proofs.YtfoijpkonjidiaaDoor
