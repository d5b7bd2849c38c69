/- Layer 16: PanelLeads, out of its contract. -/
import Derived.Test.YtpaojoahbmlolaaOgO
import Derived.Test.YtpaojoahbmlolaaOgP
import Derived.Test.YtpaojoahbmlolaaFrL
namespace Go.Proofs.Ytpaojoahbmlolaa
open Go Go.RowKit
set_option linter.unusedVariables false
def In64 (n : Int) : Prop := -9223372036854775808 ≤ n ∧ n ≤ 9223372036854775807
theorem ldA_go {width : Int} {ns : List Int} {place more : Int} {os : List Int} {T : Int} (hT : T = place % IntKind.i64.wrap (mdW width + 1)) (hd : dsI (mdP width ns) T ≤ 20) : ∀ (k : Nat) {y0 y1 y2 : Int}, dsI (mdP width ns) T - y0 = k → 1 ≤ y0 → ckV y1 (mdW width) y2 = 0 → dsI (mdP width ns) T - (y0 - 1) ≤ dsI y1 T → ∃ z, ldA_f width ns place more os (k + 1) y0 y1 y2 = some (0, z)
  | 0, y0, y1, y2, hk, h1, hc, hb => by
    subst hT
    rw [ldA_fs, bif_dT ⟨h1, by omega, hc, ob_ok hc, .inl (by omega)⟩, bif_dF (by omega)]
    exact ⟨_, rfl⟩
  | k + 1, y0, y1, y2, hk, h1, hc, hb => by
    have hf := ob_far (o := atA_c0 os y0 % 5) hc
    have ho := ob_ok (o := atA_c0 os y0 % 5) hc
    have e1 := dsI_is (a := y1) (t := T)
    have e2 := dsI_is (a := y1 + obV y1 (mdW width) y2 (atA_c0 os y0 % 5)) (t := T)
    have hne : y1 + obV y1 (mdW width) y2 (atA_c0 os y0 % 5) ≠ T := by omega
    obtain ⟨z, hz⟩ := ldA_go (more := more) (os := os) hT hd k (y0 := y0 + 1) (by omega) (by omega) (tk_ok ho) (by omega)
    refine ⟨z, ?_⟩
    subst hT
    rw [ldA_fs, bif_dT ⟨h1, by omega, hc, ho, .inr hne⟩, bif_dT (by omega), w8 (by omega)]
    exact hz
theorem leads_one (width : Int) (ns : List Int) (place more : Int) (os : List Int) : KnownR Try.prog [] 7 [.val (.int .i64 width), .list (rowA gI ns) ns.length, .val (.int .i64 place), .val (.int .i64 more), .list (rowA gI os) os.length] (.bool true) [] := by
  have hc := md_ok width ns
  have b := ckV_ok.1 hc
  have hw : 1 ≤ mdW width ∧ mdW width ≤ 20 := ⟨b.1, b.2.1⟩
  have ew : IntKind.i64.wrap (mdW width + 1) = mdW width + 1 := w8 (by omega)
  generalize hT : place % IntKind.i64.wrap (mdW width + 1) = T
  have hT2 : 0 ≤ T ∧ T ≤ mdW width := by
    rw [← hT, ew]
    have := Int.emod_nonneg place (show mdW width + 1 ≠ 0 by omega)
    have := Int.emod_lt_of_pos place (show 0 < mdW width + 1 by omega)
    omega
  have ed := dsI_is (a := mdP width ns) (t := T)
  have hd : 0 ≤ dsI (mdP width ns) T ∧ dsI (mdP width ns) T ≤ mdW width := by omega
  have hm : 0 ≤ more % 20 ∧ more % 20 ≤ 19 := by omega
  have en : IntKind.i64.wrap (dsI (mdP width ns) T + more % 20) = dsI (mdP width ns) T + more % 20 := w8 (by omega)
  have en1 : IntKind.i64.wrap (dsI (mdP width ns) T - 1) = dsI (mdP width ns) T - 1 := w8 (by omega)
  have he : olE (mdP width ns) (mdW width) (mdY width ns) T (IntKind.i64.wrap (dsI (mdP width ns) T + more % 20)) = 0 := by
    rw [en]; unfold olE
    rw [if_pos hc, if_pos hT2, if_pos (by omega), if_pos (by unfold dsI; unfold dsI at hd; omega)]
  have el : olL (mdP width ns) (mdW width) (mdY width ns) T (IntKind.i64.wrap (dsI (mdP width ns) T + more % 20)) = oL (mdP width ns) T (IntKind.i64.wrap (dsI (mdP width ns) T + more % 20)) := by unfold olL; rw [if_pos he]
  have hs : (swS (mdW width) (olL (mdP width ns) (mdW width) (mdY width ns) T (IntKind.i64.wrap (dsI (mdP width ns) T + more % 20))) (mdP width ns, mdY width ns, 0, 0)).1 = T := by rw [el]; exact sw_leads hc hT2
  have hk5 : dsI (mdP width ns) T ≤ 0 ∨ olE (mdP width ns) (mdW width) (mdY width ns) T (IntKind.i64.wrap (dsI (mdP width ns) T - 1)) = 3 := by
    rcases (by omega : dsI (mdP width ns) T ≤ 0 ∨ 1 ≤ dsI (mdP width ns) T) with h | h
    · exact .inl h
    · right
      rw [en1]; unfold olE
      rw [if_pos hc, if_pos hT2, if_pos (by omega), if_neg (by unfold dsI at h ⊢; omega)]
  have ho := olL_ord (mdP width ns) (mdW width) (mdY width ns) T (IntKind.i64.wrap (dsI (mdP width ns) T + more % 20))
  have hl := olL_len (mdP width ns) (mdW width) (mdY width ns) T (IntKind.i64.wrap (dsI (mdP width ns) T + more % 20))
  by_cases h0 : dsI (mdP width ns) T ≤ 0
  · have hz := ldB_fs width ns place more os 0
    subst hT
    have hlo := ldB_ok width ns place more os hw hc hT2 hd hm he ho hl hs h0 hk5 _ _ _ hz
    apply ldJ width ns place more os hw hc hT2 hd hm he ho hl hs h0 hk5 <;> first | exact hlo | (simp [he, hs]; done) | (simp; omega) | (rw [ew]; simp; omega)
  · obtain ⟨k, hk⟩ : ∃ k : Nat, dsI (mdP width ns) T - 1 = k := ⟨(dsI (mdP width ns) T - 1).toNat, by omega⟩
    obtain ⟨z, hz⟩ := ldA_go (more := more) (os := os) hT.symm (by omega) k (y0 := 1) (y1 := mdP width ns) (y2 := mdY width ns) hk (by omega) hc (by omega)
    subst hT
    have hlo := ldA_ok width ns place more os hw hc hT2 hd hm he ho hl hs hk5 _ _ _ hz
    have h3 : olE (mdP width ns) (mdW width) (mdY width ns) (place % IntKind.i64.wrap (mdW width + 1)) (IntKind.i64.wrap (dsI (mdP width ns) (place % IntKind.i64.wrap (mdW width + 1)) - 1)) = 3 := hk5.resolve_left h0
    apply ldK width ns place more os _ _ _ hw hc hT2 hd hm he ho hl hs hk5 <;> first | exact hlo | (simp [he, hs, h3]; done) | (simp; omega) | (rw [ew]; simp; omega)
theorem panelLeads_true (width : Int) (A1 : Option Addr) (len1 cap1 : Nat) (xs1 : List Int) (place more : Int) (A4 : Option Addr) (len4 cap4 : Nat) (xs4 : List Int) (w : World) (_ : In64 width) (hl1 : xs1.length = len1) (hi1 : ListIn w (rowA gI xs1) len1 A1 cap1) (_ : ∀ m ∈ xs1, rowW gI m) (_ : In64 place) (_ : In64 more) (hl4 : xs4.length = len4) (hi4 : ListIn w (rowA gI xs4) len4 A4 cap4) (_ : ∀ m ∈ xs4, rowW gI m) :
    Calls Try.prog 7 #[.int .i64 width, .slice A1 len1 cap1, .int .i64 place, .int .i64 more, .slice A4 len4 cap4] w fun e w' => e = .returned (.bool true) ∧ Below w.heap.size w w' := by
  subst hl1; subst hl4
  exact knownR_law (leads_one width xs1 place more xs4) (LaidL.nil w) (.cons (.val rfl) (.cons (.list hi1) (.cons (.val rfl) (.cons (.val rfl) (.cons (.list hi4) .nil)))))
end Go.Proofs.Ytpaojoahbmlolaa
