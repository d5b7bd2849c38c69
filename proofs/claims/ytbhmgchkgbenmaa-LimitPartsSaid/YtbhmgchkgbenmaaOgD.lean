import Derived.Test.YtbhmgchkgbenmaaEvZ7
import Derived.Test.YtbhmgchkgbenmaaProg
import Derived.Test.YtbhmgchkgbenmaaKnLimitKnown
import Derived.ProofKit
import Derived.IntWalk
set_option linter.unnecessarySimpa false
set_option linter.unusedSimpArgs false
set_option linter.unusedVariables false
namespace Go.Proofs.Ytbhmgchkgbenmaa
open Go Go.RowKit
def eT_ : TV := TV.nil
def nT_ (o : Option Value) (l r : TV) : TV := TV.node o l r
def oU_ : Option Value := some (Value.tuple ⟨[]⟩)
def oJ_ : Option Value := some junk
def tU_ : TV := TV.node (some (Value.tuple ⟨[]⟩)) TV.nil TV.nil
def tJ_ : TV := TV.node (some junk) TV.nil TV.nil
def eR_ : Tr := Tr.nil
def nR_ (l r : Tr) : Tr := Tr.node none l r
abbrev Mv := Int × Int × Bool × Bool × Int
def gM (m : Mv) : List Value := [.int .i64 m.1, .int .i64 m.2.1, .bool m.2.2.1, .bool m.2.2.2.1, .int .i64 m.2.2.2.2]
theorem gM_inj {l m : List Mv} : rowA gM l = rowA gM m ↔ l = m := ⟨row_inj (k := 5) (fun _ => rfl) (by decide) (fun a b h => by obtain ⟨_, _, _, _, _⟩ := a; obtain ⟨_, _, _, _, _⟩ := b; simpa [gM] using h), fun h => by rw [h]⟩
noncomputable def own0_c0 (xs : List Mv) : List Mv := (xs)
theorem own0_p0 (xs : List Mv) (hl : xs.length ≤ 10010) (hq0 : (decide (xs.length * (32 : Nat) < (1000000000 : Nat))) = true) : KnownR Try.prog [] 12 [.list (rowA gM xs) xs.length] (.complex .f64 0 ((xs)).length) [(rowA gM ((xs)), 38)] :=
 knownR_eq (v := Value.complex FloatKind.f64 (nat_lit 0) xs.length) (bs := [(rowA gM xs, nat_lit 38)]) (open_resD mix GOk.none (T := GTab.none) (fuel := 3000) (es := [38]) (ans := [(0, .vals (List.flatMap (gM) (xs))), (1, .b 1), (2, .arr (rowA (gM) (xs)))]) (log := [(List.flatMap (gM) (xs)).toArray = rowA (gM) (xs), (decide (xs.length * (32 : Nat) < (1000000000 : Nat))) = true, segC (rowA (gM) (xs)) 0 (((xs).length) * 5) = some (List.flatMap (gM) (xs))]) (by kernel_rfl) ⟨(row_new (g := (gM)) rfl), hq0, (seg_all (g := (gM)) (k := 5) (fun _ => rfl) rfl), trivial⟩ (by kernel_rfl)) (by first | rfl | simp) (by first | rfl | simp [rowA_nil])
set_option maxHeartbeats 8000000 in
theorem own0 (xs : List Mv) (hl : xs.length ≤ 10010) : KnownR Try.prog [] 12 [.list (rowA gM xs) xs.length] (.complex .f64 0 ((own0_c0 xs)).length) [(rowA gM ((own0_c0 xs)), 38)] := by
 have hq0 : (decide (xs.length * (32 : Nat) < (1000000000 : Nat))) = true := by
  rcases Bool.eq_false_or_eq_true (decide (xs.length * (32 : Nat) < (1000000000 : Nat))) with h | h
  ·exact h
  ·exfalso; (first | (simp_all only [Bool.and_eq_true, Bool.not_eq_true', Bool.false_eq_true, Bool.true_eq_false, reduceCtorEq]; done) | (simp_all; done) | (simp only [sx, sy, eq_self, ne_eq, IntKind.wrap_i64, wrapU64, Int.reduceLT] at * <;> first | contradiction | omega))
 have e0 : own0_c0 xs = (xs) := rfl; rw [e0]; exact own0_p0 xs hl hq0
theorem own (xs : List Mv) (hl : xs.length ≤ 10010) : KnownR Try.prog [] 12 [.list (rowA gM xs) xs.length] (.complex .f64 0 xs.length) ([(rowA gM xs, 38)]) := own0 xs hl
end Go.Proofs.Ytbhmgchkgbenmaa
