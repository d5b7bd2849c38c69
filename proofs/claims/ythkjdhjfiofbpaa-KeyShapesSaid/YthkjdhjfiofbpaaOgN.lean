import Derived.Test.YthkjdhjfiofbpaaUG
import Derived.ProofKit
import Derived.IntWalk
set_option linter.unnecessarySimpa false
set_option linter.unusedSimpArgs false
set_option linter.unusedVariables false
namespace Go.Proofs.Ythkjdhjfiofbpaa
open Go Go.RowKit
set_option maxHeartbeats 8000000
set_option maxRecDepth 100000
noncomputable def sm0_c0 (xs : List Int) (smA_z0 : List Stp) (smA_z1 : Int) (smA_z2 : Int)  : List (Int×Int) := (smA_z0.reverse)
theorem sm0_p0 (xs : List Int) (smA_z0 : List Stp) (smA_z1 : Int) (smA_z2 : Int)   (smA_l : ∀ B : Bd, B.L = [] → LoopOk Try.prog B (smA_hd xs).ro (smA_hd xs).a (smA_hd xs).s (smA_X 0) (smA_E 0 xs smA_z0 smA_z1 smA_z2 )) : KnownR Try.prog [] 21 [.list (rowA gI xs) xs.length] (.complex .f64 0 ((smA_z0.reverse)).length) [(rowA gP ((smA_z0.reverse)), 39)] :=
 knownR_eq (v := Value.complex FloatKind.f64 (nat_lit 0) smA_z0.length) (bs := [(rowA gP smA_z0.reverse, nat_lit 39)]) (open_resD mix (GOk.add tabV_ok smA_l) (T := (GTab.add tabV 5 (smA_hd xs).ro (smA_hd xs).a (smA_hd xs).s (smA_X 0) (smA_E 0 xs smA_z0 smA_z1 smA_z2 ) (by kernel_rfl))) (fuel := 3000) (es := [39]) (ans := [(0, .loop (smA_X 0) (smA_E 0 xs smA_z0 smA_z1 smA_z2 )), ]) (log := [LoopRes Try.prog ([] : Vars).length (GTab.add tabV 5 (smA_hd xs).ro (smA_hd xs).a (smA_hd xs).s (smA_X 0) (smA_E 0 xs smA_z0 smA_z1 smA_z2 ) (by kernel_rfl)) (smA_hd xs).ro (smA_hd xs).a (smA_hd xs).s (smA_X 0) (smA_E 0 xs smA_z0 smA_z1 smA_z2 )]) (by kernel_rfl) ⟨(loop_known2 add_eq), trivial⟩ (by kernel_rfl)) (by first | rfl | (simp; done) | (simp_all; done)) (by first | rfl | (simp [rowA_nil]; done) | (simp only [rowA_eq]; rfl) | (simp_all [rowA_nil]; done))
set_option maxHeartbeats 8000000 in
theorem sm0 (xs : List Int) (smA_z0 : List Stp) (smA_z1 : Int) (smA_z2 : Int)   (smA_l : ∀ B : Bd, B.L = [] → LoopOk Try.prog B (smA_hd xs).ro (smA_hd xs).a (smA_hd xs).s (smA_X 0) (smA_E 0 xs smA_z0 smA_z1 smA_z2 )) : KnownR Try.prog [] 21 [.list (rowA gI xs) xs.length] (.complex .f64 0 ((sm0_c0 xs smA_z0 smA_z1 smA_z2)).length) [(rowA gP ((sm0_c0 xs smA_z0 smA_z1 smA_z2)), 39)] := by
 have e0 : sm0_c0 xs smA_z0 smA_z1 smA_z2 = (smA_z0.reverse) := rfl; rw [e0]; exact sm0_p0 xs smA_z0 smA_z1 smA_z2 smA_l
theorem stamps_is (xs : List Int) : KnownR Try.prog [] 21 [.list (rowA gI xs) xs.length] (.complex .f64 0 (stL xs).length) [(rowA gP (stL xs), 39)] := by
 obtain ⟨z, hz⟩ := smA_go (xs := xs) (xs.take 30).length 0 [] 0 (by omega) (by simp) (by omega) (by omega)
 rw [List.drop_zero, List.append_nil] at hz
 have ho := smA_ok xs _ _ _ hz
 dsimp only at ho
 have r := sm0 xs _ _ _ ho
 have e : (smL (xs.take 30) 0).reverse.reverse = stL xs := List.reverse_reverse _
 have e2 : (smL (xs.take 30) 0).reverse.length = (stL xs).length := by rw [List.length_reverse]; rfl
 simp only [sm0_c0, e] at r
 first | exact r | (rw [← e2]; exact r)
attribute [local irreducible] ckX lfX lfN keL srR akX stL
theorem stD (xs : List Int)  : KnownR Try.prog [] 21 [.list (rowA gI xs) xs.length] (.complex .f64 0 (stL xs).length) ([(rowA gP (stL xs), 39)]) := stamps_is xs
noncomputable def stD_A (p : List Int × Nat × Unit) : List D := match p with
 | (xs, nn0, _) => [.list (rowA gI xs) nn0]
noncomputable def stD_C (p : List Int × Nat × Unit) : Prop := match p with
 | (xs, nn0, _) => (nn0 = xs.length) ∧ True
noncomputable def stD_R (p : List Int × Nat × Unit) : Value × Outs := match p with
 | (xs, nn0, _) => (.complex .f64 0 (stL xs).length, [(rowA gP (stL xs), 39)])
theorem stD_inj : ∀ p q, stD_C p → stD_C q → stD_A p = stD_A q → stD_R p = stD_R q := by
 rintro ⟨xs, nn0, _⟩ ⟨xs', nn0', _⟩ _ _ e
 simp only [stD_A, List.cons.injEq, D.list.injEq, D.val.injEq, D.agg.injEq, Value.int.injEq, Value.bool.injEq, Value.string.injEq, Value.agg.injEq, Array.mk.injEq, and_true, true_and, gI_inj, gB_inj, gP_inj] at e
 simp_all
noncomputable def stD_k : List D → Option (Value × Outs) := fnP stD_A stD_C stD_R
theorem stD_n (xs : List Int) (nn0 : Nat) (hn0 : nn0 = xs.length)  : KnownR Try.prog [] 21 [.list (rowA gI xs) nn0] (.complex .f64 0 (stL xs).length) ([(rowA gP (stL xs), 39)]) := by
 subst hn0; skip
 exact stD _ 
theorem stD_ok : ∀ ds v bs, stD_k ds = some (v, bs) → KnownR Try.prog [] 21 ds v bs := fnP_ok (by
 rintro ⟨xs, nn0, _⟩ ⟨hn0, _⟩
 exact stD_n _ _ hn0 )
theorem stD_at (xs : List Int) (nn0 : Nat) (hn0 : nn0 = xs.length)  : stD_k [.list (rowA gI xs) nn0] = some (.complex .f64 0 (stL xs).length, [(rowA gP (stL xs), 39)]) := fnP_at (p := (xs, nn0, ())) stD_inj ⟨hn0, trivial⟩ rfl rfl
end Go.Proofs.Ythkjdhjfiofbpaa
