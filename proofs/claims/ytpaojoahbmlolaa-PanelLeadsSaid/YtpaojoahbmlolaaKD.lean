/- Layer 16: the orders of which a panel is made. -/
import Derived.Test.YtpaojoahbmlolaaOgF
namespace Go.Proofs.Ytpaojoahbmlolaa
open Go Go.RowKit
set_option linter.unusedVariables false
set_option linter.unusedSimpArgs false
def mdL (ns : List Int) : List Int := (ns.take 60).map (· % 5)
theorem mdL_ord (ns : List Int) : Ords (mdL ns) := by
  intro x hx
  obtain ⟨y, _, rfl⟩ := List.mem_map.1 hx
  omega
theorem mdL_len (ns : List Int) : (mdL ns).length ≤ 60 := by
  unfold mdL; simp; omega
theorem take_el {α : Type} [Inhabited α] {l : List α} {i : Nat} (h : i < l.length) : l.take (i + 1) = l.take i ++ [el l (i : Int)] := by
  rw [List.take_add_one, List.getElem?_eq_getElem h]
  unfold el
  rw [List.getD_eq_getElem?_getD, Int.toNat_natCast, List.getElem?_eq_getElem h]
  rfl
theorem mdA_go {width : Int} {ns : List Int} : ∀ (k : Nat) {i : Nat}, i + k = min 60 ns.length → mdA_f width ns (k + 1) ((ns.take i).map (· % 5)).reverse (i : Int) = some (if 60 < ns.length then 0 else 1, ((mdL ns).reverse, ((min 60 ns.length : Nat) : Int)))
  | 0, i, h => by
    have hl : (((ns.take i).map (· % 5)).reverse.length : Int) ≤ (i : Int) := by simp; omega
    rw [mdA_fs, bif_dT ⟨by omega, by omega, hl⟩]
    by_cases c : 60 < ns.length
    · rw [bif_dT (by omega), bif_dF (by omega), if_pos c]
      have : i = 60 := by omega
      subst this
      rw [show min 60 ns.length = 60 by omega]
      rfl
    · rw [bif_dF (by omega), if_neg c]
      have : i = ns.length := by omega
      subst this
      unfold mdL
      rw [show min 60 ns.length = ns.length by omega, List.take_of_length_le (Nat.le_refl _), List.take_of_length_le (by omega)]
  | k + 1, i, h => by
    have hl : (((ns.take i).map (· % 5)).reverse.length : Int) ≤ (i : Int) := by simp; omega
    rw [mdA_fs, bif_dT ⟨by omega, by omega, hl⟩, bif_dT (by omega), bif_dT (by omega), w8 (by omega), show (i : Int) + 1 = ((i + 1 : Nat) : Int) by omega]
    have := mdA_go (width := width) (ns := ns) k (i := i + 1) (by omega)
    rw [take_el (by omega), List.map_append, List.reverse_append] at this
    exact this
end Go.Proofs.Ytpaojoahbmlolaa
