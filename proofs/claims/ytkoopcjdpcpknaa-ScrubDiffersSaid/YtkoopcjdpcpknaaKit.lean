/- Contracts of the kit. -/
import Derived.Test.YtkoopcjdpcpknaaChecked
import Derived.WalkKit
import Derived.ProofKit
import Derived.Lib.Hide
import Derived.Deep.QuietTactic
import Derived.BigQuiet
namespace Go.Proofs.Ytkoopcjdpcpknaa
open Go.RowKit
set_option linter.unusedVariables false

theorem ret_int {k : IntKind} {a b : Int} (h : a = b) : Ending.returned (.int k a) = .returned (.int k b) := by rw [h]
theorem ret_bool {a b : Bool} (h : a = b) : Ending.returned (.bool a) = .returned (.bool b) := by rw [h]

/-- an element, 0 behind the end -/
def nth (l : List Int) (i : Nat) : Int := l.getD i 0
theorem nth_eq {l : List Int} {i : Nat} (h : i < l.length) : nth l i = l[i] := by simp [nth, h]
theorem nth_ext {a b : List Int} (h : a.length = b.length) (h2 : ∀ i, i < a.length → nth a i = nth b i) : a = b :=
  List.ext_getElem h fun i h3 h4 => by rw [← nth_eq h3, ← nth_eq h4]; exact h2 i h3
theorem take_nth {l : List Int} {k : Nat} (h : k < l.length) : l.take (k + 1) = l.take k ++ [nth l k] := by
  rw [nth_eq h, List.take_succ_eq_append_getElem h]
theorem nth_append_left {a b : List Int} {i : Nat} (h : i < a.length) : nth (a ++ b) i = nth a i := by
  rw [nth_eq h, nth_eq (by simp; omega), List.getElem_append_left]
theorem nth_map {α : Type} (f : α → Int) {l : List α} {i : Nat} (h : i < l.length) : nth (l.map f) i = f l[i] := by
  rw [nth_eq (by simpa using h)]; simp
theorem nth_cons_succ (x : Int) (l : List Int) (i : Nat) : nth (x :: l) (i + 1) = nth l i := by simp [nth]
theorem nth_cons_zero (x : Int) (l : List Int) : nth (x :: l) 0 = x := by simp [nth]
theorem nth_none {l : List Int} {i : Nat} (h : l.length ≤ i) : nth l i = 0 := by simp [nth, List.getElem?_eq_none h]

/-- the slice's cells are these ints -/
def Ints (w : World) (A : Option Addr) (xs : List Int) : Prop :=
  xs.length = 0 ∨ ∃ b o, A = some ⟨b, o, none⟩ ∧ ∀ i, i < xs.length → w.cell? ⟨b, o + i, none⟩ = some (.int .i64 (nth xs i))

theorem Ints.cell {w : World} {A : Option Addr} {xs : List Int} (h : Ints w A xs) {k : Nat} (hk : k < xs.length) : ∃ b o, A = some ⟨b, o, none⟩ ∧ ∀ i, i < xs.length → w.cell? ⟨b, o + i, none⟩ = some (.int .i64 (nth xs i)) := by
  rcases h with h | h
  · omega
  · exact h

theorem tmod_neg {n m : Int} (hm : 1 ≤ m) (h : n.tmod m < 0) : n.tmod m + m = n % m := by
  have h1 := Int.emod_nonneg n (b := m) (by omega)
  have h2 := Int.emod_lt_of_pos n (b := m) (by omega)
  have h3 := Int.tmod_add_tdiv_mul n m
  have h4 := Int.emod_add_ediv_mul n m
  have h5 := Int.lt_tmod_of_pos n (b := m) (by omega)
  have e : (n.tmod m + m) % m = n % m := by
    rw [Int.add_emod_right]
    have : n.tmod m = n - m * n.tdiv m := by have := Int.tmod_add_tdiv_mul n m; rw [Int.mul_comm]; omega
    rw [this, Int.sub_mul_emod_self_left]
  rw [← e, Int.emod_eq_of_lt] <;> omega

theorem tmod_pos {n m : Int} (hm : 1 ≤ m) (h : 0 ≤ n.tmod m) : n.tmod m = n % m := by
  have h5 := Int.tmod_lt_of_pos n (b := m) (by omega)
  have e : n.tmod m % m = n % m := by
    have : n.tmod m = n - m * n.tdiv m := by have := Int.tmod_add_tdiv_mul n m; rw [Int.mul_comm]; omega
    rw [this, Int.sub_mul_emod_self_left]
  rw [← e, Int.emod_eq_of_lt] <;> omega

theorem below_drewN {B : Nat} {a w : World} (h : Below B a w) (n : Nat) : Below B a (w.drewN n) := ⟨h.os, h.tape, h.output, h.size, h.block⟩

theorem mod_any (n m : Int) (w : World) (hn : -9223372036854775808 ≤ n ∧ n ≤ 9223372036854775807) (hm : m ≤ 9223372036854775807) :
    Calls Try.prog 22 #[.int .i64 n, .int .i64 m] w fun e w' => e = .returned (.int .i64 (if m < 1 then 0 else n % m)) ∧ Below w.heap.size w w' := by
  go_enter Try.func22, Try.ntmps22
  go_wp2
  all_goals (try go_ret)
  · exact ⟨rfl, Below.refl _ _⟩
  · refine ⟨ret_int ?_, Below.refl _ _⟩
    have h1 := tmod_neg ‹_› ‹_›
    have h2 := Int.emod_nonneg n (b := m) (by omega)
    have h3 := Int.emod_lt_of_pos n (b := m) (by omega)
    show wrap64 (n.tmod m + m) = n % m
    rw [h1]
    exact Go.IntWalk.wrap64_in _ ⟨by omega, by omega⟩
  · refine ⟨ret_int ?_, Below.refl _ _⟩
    show n.tmod m = n % m
    exact tmod_pos ‹_› ‹_›

theorem sameInts_len (A B : Option Addr) (n m ca cb : Nat) (w : World) (h : n ≠ m) (hn : n ≤ maxLen) (hm : m ≤ maxLen) :
    Calls Try.prog 16 #[.slice A n ca, .slice B m cb] w fun e w' => e = .returned (.bool false) ∧ Below w.heap.size w w' := by
  unfold maxLen at hn hm
  have hb : ((n : Int) != (m : Int)) = true := by simp; omega
  go_enter Try.func16, Try.ntmps16
  go_wp2
  go_ret
  exact ⟨rfl, Below.refl _ _⟩

def SameRel (xs ys : List Int) (n : Nat) (w : World) (v : Value) (wr : World) : Prop :=
  ∃ k N : Nat, k ≤ n ∧ v = .int .i64 k ∧ wr = w.drewN N ∧ ∀ j, j < k → nth xs j = nth ys j

theorem sameInts_eq (A B : Option Addr) (xs ys : List Int) (n ca cb : Nat) (w : World) (hx : xs.length = n) (hy : ys.length = n) (hn : n ≤ maxLen) (hA : Ints w A xs) (hB : Ints w B ys) :
    Calls Try.prog 16 #[.slice A n ca, .slice B n cb] w fun e w' => e = .returned (.bool (decide (xs = ys))) ∧ Below w.heap.size w w' := by
  unfold maxLen at hn
  have HX := Lib.hid hx
  have HY := Lib.hid hy
  clear hx hy
  have hb : ((n : Int) != (n : Int)) = false := by simp
  go_enter Try.func16, Try.ntmps16
  go_wp2
  go_loopw [5] (SameRel xs ys n w) (fun i _ => n - (intOf i).toNat)
  case atStart => exact ⟨0, 0, Nat.zero_le _, rfl, rfl, fun j h => absurd h (by omega)⟩
  case round =>
    obtain ⟨k, N, hk, rfl, rfl, hall⟩ := hrel
    have HALL := Lib.hid hall
    clear hall
    by_cases hlt : k < n
    · obtain ⟨b1, o1, rfl, hc1⟩ := hA.cell (k := k) (by rw [HX.out]; exact hlt)
      obtain ⟨b2, o2, rfl, hc2⟩ := hB.cell (k := k) (by rw [HY.out]; exact hlt)
      have c1 := hc1 k (by rw [HX.out]; exact hlt)
      have c2 := hc2 k (by rw [HY.out]; exact hlt)
      clear hc1 hc2
      by_cases he : nth xs k = nth ys k
      · have hbb := beq_iff_eq.2 he
        have HE := Lib.hid he
        clear he
        go_wp2
        go_quiet (fail)
        go_wp2
        go_roundw
        case rel => exact ⟨k + 1, _, by omega, by go_num, rfl, fun j hj => by
          by_cases e : j = k
          · subst e; exact HE.out
          · exact HALL.out j (by omega)⟩
        case measure => simp [intOf]; omega
      · have hbb := beq_eq_false_iff_ne.2 he
        go_wp2
        go_quiet (fail)
        go_wp2
        go_ret
        refine ⟨ret_bool ?_, below_drewN (below_drewN (Below.refl _ _) _) _⟩
        simp; rintro rfl; exact he rfl
    · go_wp2
      go_ret
      refine ⟨ret_bool ?_, below_drewN (Below.refl _ _) _⟩
      simp
      exact nth_ext (by rw [HX.out, HY.out]) fun j h1 => HALL.out j (by have := HX.out; omega)
end Go.Proofs.Ytkoopcjdpcpknaa
