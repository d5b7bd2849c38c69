/- Layer 14: lists. -/
import Derived.Test.YtbhmgchkgbenmaaEvZ7
import Derived.Test.YtbhmgchkgbenmaaProg
import Derived.Test.YtbhmgchkgbenmaaKnLimitKnown
import Derived.ProofKit
import Derived.IntWalk
namespace Go.Proofs.Ytbhmgchkgbenmaa
open Go Go.RowKit
set_option linter.unusedVariables false
set_option linter.unusedSimpArgs false
set_option linter.unnecessarySimpa false
abbrev Mv := Int × Int × Bool × Bool × Int
def gM (m : Mv) : List Value := [.int .i64 m.1, .int .i64 m.2.1, .bool m.2.2.1, .bool m.2.2.2.1, .int .i64 m.2.2.2.2]
theorem gM_inj {l m : List Mv} : rowA gM l = rowA gM m ↔ l = m := ⟨row_inj (k := 5) (fun _ => rfl) (by decide) (fun a b h => by obtain ⟨_, _, _, _, _⟩ := a; obtain ⟨_, _, _, _, _⟩ := b; simpa [gM] using h), fun h => by rw [h]⟩
noncomputable def own0_c0 (xs : List Mv) : List Mv := (xs)
theorem own0_p0 (xs : List Mv) (hl : xs.length ≤ 10010) (hq0 : (decide (xs.length * (32 : Nat) < (1000000000 : Nat))) = true) : KnownR Try.prog [] 12 [.list (rowA gM xs) xs.length] (.complex .f64 0 ((xs)).length) [(rowA gM ((xs)), 38)] :=
  knownR_eq (v := Value.complex FloatKind.f64 (nat_lit 0) xs.length) (bs := [(rowA gM xs, nat_lit 38)]) (open_resD mix GOk.none (T := GTab.none) (fuel := 3000) (es := [38]) (ans := [(0, .vals (List.flatMap (gM) (xs))), (1, .b 1), (2, .arr (rowA (gM) (xs)))]) (log := [(List.flatMap (gM) (xs)).toArray = rowA (gM) (xs), (decide (xs.length * (32 : Nat) < (1000000000 : Nat))) = true, segC (rowA (gM) (xs)) 0 (((xs).length) * 5) = some (List.flatMap (gM) (xs))]) (by kernel_rfl) ⟨(row_new (g := (gM)) rfl), hq0, (seg_all (g := (gM)) (k := 5) (fun _ => rfl) rfl), trivial⟩ (by kernel_rfl)) (by first | rfl | simp) (by first | rfl | simp [rowA_nil])
set_option maxHeartbeats 8000000 in
theorem own0 (xs : List Mv) (hl : xs.length ≤ 10010) : KnownR Try.prog [] 12 [.list (rowA gM xs) xs.length] (.complex .f64 0 ((own0_c0 xs)).length) [(rowA gM ((own0_c0 xs)), 38)] := by
  have hq0 : (decide (xs.length * (32 : Nat) < (1000000000 : Nat))) = true := by
    rcases Bool.eq_false_or_eq_true (decide (xs.length * (32 : Nat) < (1000000000 : Nat))) with h | h
    · exact h
    · exfalso; (first | (simp_all only [Bool.and_eq_true, Bool.not_eq_true', Bool.false_eq_true, Bool.true_eq_false, reduceCtorEq]; done) | (simp_all; done) | (simp only [sx, sy, eq_self, ne_eq, IntKind.wrap_i64, wrapU64, Int.reduceLT] at * <;> first | contradiction | omega))
  have e0 : own0_c0 xs = (xs) := rfl; rw [e0]; exact own0_p0 xs hl hq0

theorem own (xs : List Mv) (hl : xs.length ≤ 10010) : KnownR Try.prog [] 12 [.list (rowA gM xs) xs.length] (.complex .f64 0 xs.length) ([(rowA gM xs, 38)]) := own0 xs hl
noncomputable def own_A (p : List Mv × Nat × Unit) : List D := match p with
  | (xs, nn0, _) => [.list (rowA gM xs) nn0]
noncomputable def own_C (p : List Mv × Nat × Unit) : Prop := match p with
  | (xs, nn0, _) => (nn0 = xs.length) ∧ (xs.length ≤ 10010) ∧ True
noncomputable def own_R (p : List Mv × Nat × Unit) : Value × Outs := match p with
  | (xs, nn0, _) => (.complex .f64 0 xs.length, [(rowA gM xs, 38)])
theorem own_inj : ∀ p q, own_C p → own_C q → own_A p = own_A q → own_R p = own_R q := by
  rintro ⟨xs, nn0, _⟩ ⟨xs', nn0', _⟩ _ _ e
  simp only [own_A, List.cons.injEq, D.list.injEq, D.val.injEq, D.agg.injEq, Value.int.injEq, Value.bool.injEq, Value.string.injEq, Value.agg.injEq, Array.mk.injEq, and_true, true_and, gI_inj, gB_inj, gM_inj] at e
  simp_all
noncomputable def own_k : List D → Option (Value × Outs) := fnP own_A own_C own_R
theorem own_n (xs : List Mv) (nn0 : Nat) (hn0 : nn0 = xs.length) (hl : xs.length ≤ 10010) : KnownR Try.prog [] 12 [.list (rowA gM xs) nn0] (.complex .f64 0 xs.length) ([(rowA gM xs, 38)]) := by
  subst_vars
  exact own _ hl
theorem own_ok : ∀ ds v bs, own_k ds = some (v, bs) → KnownR Try.prog [] 12 ds v bs := fnP_ok (by
  rintro ⟨xs, nn0, _⟩ ⟨hn0, hl, _⟩
  exact own_n _ _ hn0 hl)
theorem own_at (xs : List Mv) (nn0 : Nat) (hn0 : nn0 = xs.length) (hl : xs.length ≤ 10010) : own_k [.list (rowA gM xs) nn0] = some (.complex .f64 0 xs.length, [(rowA gM xs, 38)]) := fnP_at (p := (xs, nn0, ())) own_inj ⟨hn0, hl, trivial⟩ rfl rfl
end Go.Proofs.Ytbhmgchkgbenmaa
