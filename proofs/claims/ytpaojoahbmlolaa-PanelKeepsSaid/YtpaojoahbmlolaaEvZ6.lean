/- Lists as cells: what is read of them, what is put behind them. -/
import Derived.Test.YtpaojoahbmlolaaEvZ5
namespace Go.Proofs.Ytpaojoahbmlolaa
open Go Go.RowKit
set_option linter.unusedSectionVars false
set_option linter.unusedVariables false
set_option linter.unusedSimpArgs false
theorem hid_ex (c : Array Value) : ∃ d : Array Value, d = c := ⟨c, rfl⟩
/-- cells that are not looked into -/
noncomputable def hidC (c : Array Value) : Array Value := Classical.choose (hid_ex c)
theorem hidC_eq (c : Array Value) : hidC c = c := Classical.choose_spec (hid_ex c)
/-- the cells of a list's elements, one behind the other -/
noncomputable def rowA {α : Type} (g : α → List Value) (l : List α) : Array Value := hidC ⟨l.flatMap g⟩
theorem rowA_eq {α : Type} (g : α → List Value) (l : List α) : rowA g l = ⟨l.flatMap g⟩ := hidC_eq _
/-- the element at a place -/
def el {α : Type} [Inhabited α] (l : List α) (z : Int) : α := l.getD z.toNat default
def gI (z : Int) : List Value := [.int .i64 z]
def gB (b : Bool) : List Value := [.bool b]
def gU8 (z : Int) : List Value := [.int .u8 z]
section
variable {α : Type} {g : α → List Value} {k : Nat}
theorem flat_len (hg : ∀ a, (g a).length = k) : ∀ l : List α, (l.flatMap g).length = l.length * k
  | [] => by simp
  | a :: l => by
    simp only [List.flatMap_cons, List.length_append, hg a, flat_len hg l, List.length_cons]
    rw [Nat.add_mul, Nat.one_mul, Nat.add_comm]
theorem rowA_size (hg : ∀ a, (g a).length = k) (l : List α) : (rowA g l).size = l.length * k := by
  rw [rowA_eq]; exact flat_len hg l
theorem flat_drop (hg : ∀ a, (g a).length = k) : ∀ (l : List α) (n : Nat), (l.flatMap g).drop (n * k) = (l.drop n).flatMap g
  | l, 0 => by simp
  | [], n + 1 => by simp
  | a :: l, n + 1 => by
    rw [List.flatMap_cons, List.drop_succ_cons, ← flat_drop hg l n, Nat.add_mul, Nat.one_mul, Nat.add_comm (n * k) k]
    rw [← List.drop_drop, List.drop_left' (hg a)]
theorem flat_take (hg : ∀ a, (g a).length = k) : ∀ (l : List α) (n : Nat), (l.flatMap g).take (n * k) = (l.take n).flatMap g
  | l, 0 => by simp
  | [], n + 1 => by simp
  | a :: l, n + 1 => by
    rw [List.flatMap_cons, List.take_succ_cons, List.flatMap_cons, ← flat_take hg l n, Nat.add_mul, Nat.one_mul, Nat.add_comm (n * k) k]
    rw [List.take_append, hg a, List.take_of_length_le (by rw [hg a]; omega)]
    simp
/-- some cells of an element -/
theorem seg_row [Inhabited α] (hg : ∀ a, (g a).length = k) {l : List α} {z : Int} {off n : Nat} {v : List Value} (h0 : 0 ≤ z) (h1 : z < (l.length : Int)) (ho : off + n ≤ k) (hv : ((g (el l z)).drop off).take n = v) : segC (rowA g l) (z.toNat * k + off) n = some v := by
  have hz : z.toNat < l.length := by omega
  unfold segC
  have hle : Nat.ble (Nat.add (z.toNat * k + off) n) (rowA g l).size = true := by
    rw [rowA_size hg]
    refine Nat.ble_eq_true_of_le ?_
    show z.toNat * k + off + n ≤ l.length * k
    have : (z.toNat + 1) * k ≤ l.length * k := Nat.mul_le_mul_right k hz
    rw [Nat.add_mul, Nat.one_mul] at this
    omega
  rw [hle]
  simp only
  rw [← hv, rowA_eq]
  simp only [Option.some.injEq]
  rw [← List.drop_drop, flat_drop hg]
  have hd : l.drop z.toNat = el l z :: l.drop (z.toNat + 1) := by
    rw [List.drop_eq_getElem_cons hz]
    congr 1
    unfold el
    rw [List.getD_eq_getElem?_getD, List.getElem?_eq_getElem hz]
    rfl
  rw [hd, List.flatMap_cons, List.drop_append, hg]
  rw [show off - k = 0 by omega, List.drop_zero, List.take_append]
  rw [show n - ((g (el l z)).drop off).length = 0 by rw [List.length_drop, hg]; omega]
  simp
/-- all cells -/
theorem seg_all (hg : ∀ a, (g a).length = k) {l : List α} {v : List Value} (hv : l.flatMap g = v) : segC (rowA g l) 0 (l.length * k) = some v := by
  unfold segC
  have hle : Nat.ble (Nat.add 0 (l.length * k)) (rowA g l).size = true := by
    rw [rowA_size hg]
    exact Nat.ble_eq_true_of_le (Nat.le_of_eq (Nat.zero_add _))
  rw [hle]
  simp only
  rw [rowA_eq, List.drop_zero, List.take_of_length_le (by rw [flat_len hg]; exact Nat.le_refl _), hv]
theorem row_snoc {l : List α} {a : α} {v : List Value} (hv : g a = v) : ((rowA g l.reverse).toList ++ v).toArray = rowA g (a :: l).reverse := by
  rw [rowA_eq, rowA_eq, ← hv]
  simp
theorem row_app {l m : List α} {v : List Value} (hv : m.flatMap g = v) : ((rowA g l).toList ++ v).toArray = rowA g (l ++ m) := by
  rw [rowA_eq, rowA_eq, ← hv]
  simp
theorem row_new {l : List α} {v : List Value} (hv : l.flatMap g = v) : v.toArray = rowA g l := by
  rw [rowA_eq, ← hv]
theorem fact_size (hg : ∀ a, (g a).length = k) {l : List α} {n : Nat} (hn : n = l.length) : Nat.beq (rowA g l).size (Nat.mul n k) = true := by
  rw [rowA_size hg, hn]
  exact Nat.beq_refl _
theorem row_okC (hg : ∀ a, (g a).all okC = true) (l : List α) : (rowA g l).toList.all okC = true := by
  rw [rowA_eq]
  simp only [List.all_flatMap, List.all_eq_true]
  intro a _
  exact List.all_eq_true.1 (hg a)
theorem row_inj (hg : ∀ a, (g a).length = k) (hk : 0 < k) (hi : ∀ a b, g a = g b → a = b) : ∀ {l m : List α}, rowA g l = rowA g m → l = m := by
  have key : ∀ (l m : List α), l.flatMap g = m.flatMap g → l = m := by
    intro l
    induction l with
    | nil =>
      intro m h
      cases m with
      | nil => rfl
      | cons b m =>
        exfalso
        have := congrArg List.length h
        simp only [List.flatMap_nil, List.flatMap_cons, List.length_append, hg b, List.length_nil] at this
        omega
    | cons a l ih =>
      intro m h
      cases m with
      | nil =>
        exfalso
        have := congrArg List.length h
        simp only [List.flatMap_nil, List.flatMap_cons, List.length_append, hg a, List.length_nil] at this
        omega
      | cons b m =>
        simp only [List.flatMap_cons] at h
        obtain ⟨h1, h2⟩ := List.append_inj h (by rw [hg a, hg b])
        rw [hi _ _ h1, ih _ h2]
  intro l m h
  rw [rowA_eq, rowA_eq] at h
  injection h with h
  exact key _ _ h
end
end Go.Proofs.Ytpaojoahbmlolaa
