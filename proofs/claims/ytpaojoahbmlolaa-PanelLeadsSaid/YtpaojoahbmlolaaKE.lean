/- Layer 16: panels made of numbers. -/
import Derived.Test.YtpaojoahbmlolaaOgG
namespace Go.Proofs.Ytpaojoahbmlolaa
open Go Go.RowKit
set_option linter.unusedVariables false
set_option linter.unusedSimpArgs false
def mdW (width : Int) : Int := 1 + width % 20
noncomputable def mdP (width : Int) (ns : List Int) : Int := (swS (mdW width) (mdL ns) (0, 0, 0, 0)).1
noncomputable def mdY (width : Int) (ns : List Int) : Int := (swS (mdW width) (mdL ns) (0, 0, 0, 0)).2.1
theorem md_ok (width : Int) (ns : List Int) : ckV (mdP width ns) (mdW width) (mdY width ns) = 0 := by
  have hw : 1 ≤ mdW width ∧ mdW width ≤ 20 := by unfold mdW; omega
  exact swS_ok (ckV_ok.2 (by omega))
theorem made_is (width : Int) (ns : List Int) : KnownR Try.prog [] 34 [.val (.int .i64 width), .list (rowA gI ns) ns.length] (.tuple #[.agg #[.int .i64 (mdP width ns), .int .i64 (mdW width), .int .i64 (mdY width ns)], .bool true]) [] := by
  have hm : 0 ≤ width % 20 ∧ width % 20 ≤ 19 := by omega
  have ew : IntKind.i64.wrap (1 + width % 20) = mdW width := w8 (by omega)
  have hw : 1 ≤ mdW width ∧ mdW width ≤ 20 := by unfold mdW; omega
  have hr : (mdL ns).reverse.reverse = mdL ns := List.reverse_reverse _
  have hl := mdL_len ns
  have hf := mdA_go (width := width) (ns := ns) (min 60 ns.length) (i := 0) (by omega)
  have k0 : ckV 0 (mdW width) 0 = 0 := ckV_ok.2 (by omega)
  have kd : (decide ((1 : Int) ≤ IntKind.i64.wrap ((1 : Int) + width % (20 : Int)) ∧ IntKind.i64.wrap ((1 : Int) + width % (20 : Int)) ≤ (20 : Int))) = true := by rw [ew]; exact decide_eq_true hw
  by_cases c : 60 < ns.length
  · rw [if_pos c] at hf
    have r := mdK width ns _ _ hm (by rw [hr]; exact mdL_ord ns) (by rw [List.length_reverse]; exact hl) (by rw [hr, ew]; exact md_ok width ns) (by rw [ew]; exact k0) kd (mdA_ok width ns hm _ _ _ hf)
    unfold mdK_c0 mdK_c1 mdK_c2 mdK_c3 at r
    rw [hr, ew, beq_self_eq_true] at r
    exact r
  · rw [if_neg c] at hf
    have r := mdJ width ns _ _ hm (by rw [hr]; exact mdL_ord ns) (by rw [List.length_reverse]; exact hl) (by rw [hr, ew]; exact md_ok width ns) (by rw [ew]; exact k0) kd (mdA_ok width ns hm _ _ _ hf)
    unfold mdJ_c0 mdJ_c1 mdJ_c2 mdJ_c3 at r
    rw [hr, ew, beq_self_eq_true] at r
    exact r
def lfP (a w y : Int) : Int := if y = 1 then w - a else if y = -1 then a else 0
end Go.Proofs.Ytpaojoahbmlolaa
