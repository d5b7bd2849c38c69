/-
  WordSeries: the Go function returns true for every input, and each argument reads behind the call as it read before (Rows.WordSeriesSaid). No condition.
  Proved out of the contract 'wordSeries_true' of YtfpabkpmcmfbhaaZY33.
-/
import Derived.Test.YtfpabkpmcmfbhaaRows
import Derived.Test.YtfpabkpmcmfbhaaZY33
import Derived.WalkKit
import Derived.ProofKit
import Derived.OpenShut
import Derived.ChangeOld
import Derived.Below
import Derived.Carry
import Derived.Lib.SmallJoins
import Derived.Test.YtfpabkpmcmfbhaaFrL
namespace Go.Proofs.Ytfpabkpmcmfbhaa.wordSeries
open Go.ChangeShapes Go.WideShapes Go.ChangeAt Go.RowKit
set_option linter.unusedVariables false

theorem own : ownKnob Try.prog.godebug = none := by kernel_rfl
theorem laidOut : laidOutB Try.prog = true := by kernel_rfl
theorem in64_wf {n : Int} (h : (Lit.int .i64 n).wf = true) : In64 n := by simpa [Lit.wf, IntKind.min, IntKind.max, IntKind.signed, IntKind.bits, In64] using h
set_option maxRecDepth 100000 in
theorem dec0 {H : Type} {enc : TypeId × Value → H} {w : World} {base : Nat} {spare : Nat → Bool} {held : Bool} (n : Nat) (cs : List Value) (y : DataW H × List MemPlace) (hlen : cs.length = 1) (h : DataW.trod enc Try.prog w base spare held n 3 cs = some y) : ∃ m, cs = gI m ∧ rowW gI m := by
  obtain ⟨a, rfl, _, w0⟩ := DataW.trod_int Try.underlying3 h
  refine ⟨a, rfl, fun k z hz => ?_⟩
  simp [gI] at hz
  obtain ⟨rfl, rfl⟩ := hz; exact w0
set_option maxRecDepth 100000 in
theorem dec1 {H : Type} {enc : TypeId × Value → H} {w : World} {base : Nat} {spare : Nat → Bool} {held : Bool} (n : Nat) (cs : List Value) (y : DataW H × List MemPlace) (hlen : cs.length = 7) (h : DataW.trod enc Try.prog w base spare held n 48 cs = some y) : ∃ m, cs = gE m ∧ rowW gE m := by
  obtain ⟨xs, n', _, rfl, _, hx, hf⟩ := DataW.trod_struct Try.underlying48 h
  match xs, hx with
  | [y0, y1, y2, y3, y4, y5, y6], _ =>
    match cs, hlen with
    | [c0, c1, c2, c3, c4, c5, c6], _ =>
      have h0 : DataW.trod enc Try.prog w base spare held n' 3 (List.take (Try.prog.cellsOf 3) (List.drop 0 [c0, c1, c2, c3, c4, c5, c6])) = some y0 := hf 0 _ rfl
      rw [show Try.prog.cellsOf 3 = 1 from by kernel_rfl] at h0
      have h0 : DataW.trod enc Try.prog w base spare held n' 3 [c0] = some y0 := h0
      have h1 : DataW.trod enc Try.prog w base spare held n' 3 (List.take (Try.prog.cellsOf 3) (List.drop 1 [c0, c1, c2, c3, c4, c5, c6])) = some y1 := hf 1 _ rfl
      rw [show Try.prog.cellsOf 3 = 1 from by kernel_rfl] at h1
      have h1 : DataW.trod enc Try.prog w base spare held n' 3 [c1] = some y1 := h1
      have h2 : DataW.trod enc Try.prog w base spare held n' 3 (List.take (Try.prog.cellsOf 3) (List.drop 2 [c0, c1, c2, c3, c4, c5, c6])) = some y2 := hf 2 _ rfl
      rw [show Try.prog.cellsOf 3 = 1 from by kernel_rfl] at h2
      have h2 : DataW.trod enc Try.prog w base spare held n' 3 [c2] = some y2 := h2
      have h3 : DataW.trod enc Try.prog w base spare held n' 9 (List.take (Try.prog.cellsOf 9) (List.drop 3 [c0, c1, c2, c3, c4, c5, c6])) = some y3 := hf 3 _ rfl
      rw [show Try.prog.cellsOf 9 = 1 from by kernel_rfl] at h3
      have h3 : DataW.trod enc Try.prog w base spare held n' 9 [c3] = some y3 := h3
      have h4 : DataW.trod enc Try.prog w base spare held n' 3 (List.take (Try.prog.cellsOf 3) (List.drop 4 [c0, c1, c2, c3, c4, c5, c6])) = some y4 := hf 4 _ rfl
      rw [show Try.prog.cellsOf 3 = 1 from by kernel_rfl] at h4
      have h4 : DataW.trod enc Try.prog w base spare held n' 3 [c4] = some y4 := h4
      have h5 : DataW.trod enc Try.prog w base spare held n' 3 (List.take (Try.prog.cellsOf 3) (List.drop 5 [c0, c1, c2, c3, c4, c5, c6])) = some y5 := hf 5 _ rfl
      rw [show Try.prog.cellsOf 3 = 1 from by kernel_rfl] at h5
      have h5 : DataW.trod enc Try.prog w base spare held n' 3 [c5] = some y5 := h5
      have h6 : DataW.trod enc Try.prog w base spare held n' 3 (List.take (Try.prog.cellsOf 3) (List.drop 6 [c0, c1, c2, c3, c4, c5, c6])) = some y6 := hf 6 _ rfl
      rw [show Try.prog.cellsOf 3 = 1 from by kernel_rfl] at h6
      have h6 : DataW.trod enc Try.prog w base spare held n' 3 [c6] = some y6 := h6
      obtain ⟨a0, e0, _, w0⟩ := DataW.trod_int Try.underlying3 h0
      injection e0 with e0 _; subst e0
      obtain ⟨a1, e1, _, w1⟩ := DataW.trod_int Try.underlying3 h1
      injection e1 with e1 _; subst e1
      obtain ⟨a2, e2, _, w2⟩ := DataW.trod_int Try.underlying3 h2
      injection e2 with e2 _; subst e2
      obtain ⟨a3, e3, _⟩ := DataW.trod_string Try.underlying9 h3
      injection e3 with e3 _; subst e3
      obtain ⟨a4, e4, _, w4⟩ := DataW.trod_int Try.underlying3 h4
      injection e4 with e4 _; subst e4
      obtain ⟨a5, e5, _, w5⟩ := DataW.trod_int Try.underlying3 h5
      injection e5 with e5 _; subst e5
      obtain ⟨a6, e6, _, w6⟩ := DataW.trod_int Try.underlying3 h6
      injection e6 with e6 _; subst e6
      refine ⟨(a0, a1, a2, a3, a4, a5, a6), rfl, fun k z hz => ?_⟩
      simp [gE] at hz
      rcases hz with ⟨rfl, rfl⟩ | ⟨rfl, rfl⟩ | ⟨rfl, rfl⟩ | ⟨rfl, rfl⟩ | ⟨rfl, rfl⟩ | ⟨rfl, rfl⟩ <;> assumption

set_option maxRecDepth 100000 in
theorem lifted (os : Os) (started : os.Started) (H : Type) (enc : TypeId × Value → H) :
    ReturnsInHanded {} Try.checked os 4 .any (Rows.wordSeriesSpec.pre6 enc Try.prog Try.f4 Rows.wordSeriesRow.domain false) (Rows.wordSeriesSpec.post enc Try.prog Try.f4 false true false false) := by
  refine returnsInHanded_of_change (C := Try.checked) own started (by kernel_rfl) Try.func4
    (ChangeSpec.witness6 (enc := enc) (C := Try.checked) false ⟨#[], #[.slice none 0 0, .slice none 0 0, .agg #[.int .i64 0, .int .i64 0, .int .i64 0]], []⟩ 8 (by kernel_rfl) (by kernel_rfl) (by kernel_rfl) (by kernel_rfl)) ?_
  intro W base args ds gs before hval0 hW hcnd _
  have hval : ∀ (j : Nat) t v, Try.f4.params[j]? = some t → args[j]? = some v → Value.okWide Try.prog W .any base t v := hval0
  have hW' := hW
  obtain ⟨p, q, hA0, hV, rfl, hfz, hnd⟩ := hW
  have hA : DataW.TrodAll enc Try.prog W 0 (fun _ => true) true Try.f4.params.toList args.toList ds p := hA0
  rw [Try.params4] at hA hval
  obtain ⟨v0, vs0, d0, ds0, p0, q0, hargs, rfl, rfl, h0, r0⟩ := trodAll_cons hA
  obtain ⟨v1, vs1, d1, ds1, p1, q1, rfl, rfl, rfl, h1, r1⟩ := trodAll_cons r0
  obtain ⟨v2, vs2, d2, ds2, p2, q2, rfl, rfl, rfl, h2, r2⟩ := trodAll_cons r1
  obtain ⟨rfl, rfl, rfl⟩ := trodAll_nil r2
  obtain rfl : args = #[v0, v1, v2] := by cases args; simp_all
  obtain ⟨rfl, rfl⟩ := trodVars_none hV
  obtain ⟨A0, len0, cap0, rfl⟩ := okWide_slice Try.underlying22 (hval 0 22 v0 rfl rfl)
  have k0 := h0
  have lt0 : ∀ x ∈ p0, x.block < W.heap.size := by obtain ⟨m, hm⟩ := k0; exact DataW.trod_lt m _ _ _ hm
  obtain ⟨xs0, hl0, hi0, hw0⟩ : ∃ xs : List _, xs.length = len0 ∧ ListIn W (rowA gI xs) len0 A0 cap0 ∧ (∀ m ∈ xs, rowW gI m) := by
    obtain ⟨fuel, hf⟩ := h0
    obtain ⟨A', l', c', xs, hcs, h1, h2, h3⟩ := open_rows (g := gI) (k := 1) Try.underlying22 (by kernel_rfl) (by decide) (fun _ => rfl) (fun _ => rfl) dec0 hf
    simp [Value.cells] at hcs
    obtain ⟨rfl, rfl, rfl⟩ := hcs
    exact ⟨xs, h1, h2, h3⟩
  obtain ⟨A1, len1, cap1, rfl⟩ := okWide_slice Try.underlying23 (hval 1 23 v1 rfl rfl)
  have k1 := h1
  have lt1 : ∀ x ∈ p1, x.block < W.heap.size := by obtain ⟨m, hm⟩ := k1; exact DataW.trod_lt m _ _ _ hm
  obtain ⟨xs1, hl1, hi1, hw1⟩ : ∃ xs : List _, xs.length = len1 ∧ ListIn W (rowA gE xs) len1 A1 cap1 ∧ (∀ m ∈ xs, rowW gE m) := by
    obtain ⟨fuel, hf⟩ := h1
    obtain ⟨A', l', c', xs, hcs, h1, h2, h3⟩ := open_rows (g := gE) (k := 7) Try.underlying23 (by kernel_rfl) (by decide) (fun _ => rfl) (fun _ => rfl) dec1 hf
    simp [Value.cells] at hcs
    obtain ⟨rfl, rfl, rfl⟩ := hcs
    exact ⟨xs, h1, h2, h3⟩
  have k2 := h2
  have lt2 : ∀ x ∈ p2, x.block < W.heap.size := by obtain ⟨m, hm⟩ := k2; exact DataW.trod_lt m _ _ _ hm
  obtain ⟨f2_0, f2_1, f2_2, y2_0, y2_1, y2_2, m2, rfl, _, _, t2_0, t2_1, t2_2⟩ := Joins.open_agg3 Try.underlying35 (by kernel_rfl) (by kernel_rfl) (hval 2 35 v2 rfl rfl) h2
  obtain ⟨a2_0, e2_0, _, w2_0⟩ := DataW.trod_int Try.underlying3 t2_0
  injection e2_0 with e2_0 _
  subst e2_0
  obtain ⟨a2_1, e2_1, _, w2_1⟩ := DataW.trod_int Try.underlying3 t2_1
  injection e2_1 with e2_1 _
  subst e2_1
  obtain ⟨a2_2, e2_2, _, w2_2⟩ := DataW.trod_int Try.underlying3 t2_2
  injection e2_2 with e2_2 _
  subst e2_2
  clear hA0 hval0
  refine (wordSeries_true A0 len0 cap0 xs0 A1 len1 cap1 xs1 a2_0 a2_1 a2_2 W hl0 hi0 hw0 hl1 hi1 hw1 (in64_wf w2_0) (in64_wf w2_1) (in64_wf w2_2)).mono fun e W' ⟨he, bel⟩ => ?_
  subst he
  exact ⟨_, rfl, _, _, _, [], _, [], hW', trodAll_mk1 (shut_bool Try.underlying4 _), (trodAll_cons_mk (Below.trod laidOut (by kernel_rfl) (of_decide_eq_true (by kernel_rfl)) k0 bel lt0) (trodAll_cons_mk (Below.trod laidOut (by kernel_rfl) (of_decide_eq_true (by kernel_rfl)) k1 bel lt1) (trodAll_cons_mk (Below.trod laidOut (by kernel_rfl) (of_decide_eq_true (by kernel_rfl)) k2 bel lt2) trodAll_mk0))), rfl, bel.frame _, fun h => by cases h⟩

theorem over : Rows.wordSeriesRow.holds Try.pinned (OpenSpec.ofChange Rows.wordSeriesSpec) :=
  OpenClaim.holds_of_wide 4 Try.f4 rfl rfl rfl rfl rfl rfl rfl ⟨rfl, rfl, rfl, rfl, rfl⟩ rfl rfl rfl rfl rfl (by kernel_rfl) Try.func4 (by kernel_rfl)
    (of_decide_eq_true (by kernel_rfl)) (by unfold Func.isWrapper; first | (rw [if_pos (by decide +kernel)]; kernel_rfl) | (rw [if_neg (by decide +kernel)]; exact ⟨rfl, rfl⟩))
    (fun os started H enc _ => lifted os started H enc)

/-- THE STATEMENT -/
theorem proved : Rows.WordSeriesSaid := over
#print axioms proved
end Go.Proofs.Ytfpabkpmcmfbhaa.wordSeries
