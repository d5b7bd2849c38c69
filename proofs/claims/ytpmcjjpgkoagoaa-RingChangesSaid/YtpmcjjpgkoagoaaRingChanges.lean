/-
  RingChanges: the Go function returns true for every input, and each argument reads behind the call as it read before (Rows.RingChangesSaid). No condition.
  Proved out of the contract 'ringChanges_true' of YtpmcjjpgkoagoaaXE.
-/
import Derived.Test.YtpmcjjpgkoagoaaRows
import Derived.Test.YtpmcjjpgkoagoaaXE
import Derived.WalkKit
import Derived.ProofKit
import Derived.OpenShut
import Derived.ChangeOld
import Derived.Below
import Derived.Carry
import Derived.Lib.SmallJoins
import Derived.Test.YtpmcjjpgkoagoaaFrL
namespace Go.Proofs.Ytpmcjjpgkoagoaa.ringChanges
open Go.ChangeShapes Go.WideShapes Go.ChangeAt Go.RowKit
set_option linter.unusedVariables false

theorem own : ownKnob Try.prog.godebug = none := by kernel_rfl
theorem laidOut : laidOutB Try.prog = true := by kernel_rfl
theorem in64_wf {n : Int} (h : (Lit.int .i64 n).wf = true) : In64 n := by simpa [Lit.wf, IntKind.min, IntKind.max, IntKind.signed, IntKind.bits, In64] using h
set_option maxRecDepth 100000 in
theorem dec0_2 {H : Type} {enc : TypeId × Value → H} {w : World} {base : Nat} {spare : Nat → Bool} {held : Bool} (n : Nat) (cs : List Value) (y : DataW H × List MemPlace) (hlen : cs.length = 2) (h : DataW.trod enc Try.prog w base spare held n 35 cs = some y) : ∃ m, cs = gH m ∧ rowW gH m := by
  obtain ⟨xs, n', _, rfl, _, hx, hf⟩ := DataW.trod_struct Try.underlying35 h
  match xs, hx with
  | [y0, y1], _ =>
    match cs, hlen with
    | [c0, c1], _ =>
      have h0 : DataW.trod enc Try.prog w base spare held n' 22 (List.take (Try.prog.cellsOf 22) (List.drop 0 [c0, c1])) = some y0 := hf 0 _ rfl
      rw [show Try.prog.cellsOf 22 = 1 from by kernel_rfl] at h0
      have h0 : DataW.trod enc Try.prog w base spare held n' 22 [c0] = some y0 := h0
      have h1 : DataW.trod enc Try.prog w base spare held n' 3 (List.take (Try.prog.cellsOf 3) (List.drop 1 [c0, c1])) = some y1 := hf 1 _ rfl
      rw [show Try.prog.cellsOf 3 = 1 from by kernel_rfl] at h1
      have h1 : DataW.trod enc Try.prog w base spare held n' 3 [c1] = some y1 := h1
      obtain ⟨a0, e0, _, w0⟩ := DataW.trod_int Try.underlying22 h0
      injection e0 with e0 _; subst e0
      obtain ⟨a1, e1, _, w1⟩ := DataW.trod_int Try.underlying3 h1
      injection e1 with e1 _; subst e1
      refine ⟨(a0, a1), rfl, fun k z hz => ?_⟩
      simp [gH] at hz
      rcases hz with ⟨rfl, rfl⟩ | ⟨rfl, rfl⟩ <;> assumption
set_option maxRecDepth 100000 in
theorem dec3 {H : Type} {enc : TypeId × Value → H} {w : World} {base : Nat} {spare : Nat → Bool} {held : Bool} (n : Nat) (cs : List Value) (y : DataW H × List MemPlace) (hlen : cs.length = 1) (h : DataW.trod enc Try.prog w base spare held n 3 cs = some y) : ∃ m, cs = gI m ∧ rowW gI m := by
  obtain ⟨a, rfl, _, w0⟩ := DataW.trod_int Try.underlying3 h
  refine ⟨a, rfl, fun k z hz => ?_⟩
  simp [gI] at hz
  obtain ⟨rfl, rfl⟩ := hz; exact w0

set_option maxRecDepth 100000 in
theorem lifted (os : Os) (started : os.Started) (H : Type) (enc : TypeId × Value → H) :
    ReturnsInHanded {} Try.checked os 4 .any (Rows.ringChangesSpec.pre6 enc Try.prog Try.f4 Rows.ringChangesRow.domain false) (Rows.ringChangesSpec.post enc Try.prog Try.f4 false true false false) := by
  refine returnsInHanded_of_change (C := Try.checked) own started (by kernel_rfl) Try.func4
    (ChangeSpec.witness6 (enc := enc) (C := Try.checked) false ⟨#[], #[.agg #[.int .i64 0, .int .u64 0, .slice none 0 0], .int .i64 0, .int .u64 0, .slice none 0 0], []⟩ 8 (by kernel_rfl) (by kernel_rfl) (by kernel_rfl) (by kernel_rfl)) ?_
  intro W base args ds gs before hval0 hW hcnd _
  have hval : ∀ (j : Nat) t v, Try.f4.params[j]? = some t → args[j]? = some v → Value.okWide Try.prog W .any base t v := hval0
  have hW' := hW
  obtain ⟨p, q, hA0, hV, rfl, hfz, hnd⟩ := hW
  have hA : DataW.TrodAll enc Try.prog W 0 (fun _ => true) true Try.f4.params.toList args.toList ds p := hA0
  rw [Try.params4] at hA hval
  obtain ⟨v0, vs0, d0, ds0, p0, q0, hargs, rfl, rfl, h0, r0⟩ := trodAll_cons hA
  obtain ⟨v1, vs1, d1, ds1, p1, q1, rfl, rfl, rfl, h1, r1⟩ := trodAll_cons r0
  obtain ⟨v2, vs2, d2, ds2, p2, q2, rfl, rfl, rfl, h2, r2⟩ := trodAll_cons r1
  obtain ⟨v3, vs3, d3, ds3, p3, q3, rfl, rfl, rfl, h3, r3⟩ := trodAll_cons r2
  obtain ⟨rfl, rfl, rfl⟩ := trodAll_nil r3
  obtain rfl : args = #[v0, v1, v2, v3] := by cases args; simp_all
  obtain ⟨rfl, rfl⟩ := trodVars_none hV
  have k0 := h0
  have lt0 : ∀ x ∈ p0, x.block < W.heap.size := by obtain ⟨m, hm⟩ := k0; exact DataW.trod_lt m _ _ _ hm
  obtain ⟨f0_0, f0_1, f0_2, y0_0, y0_1, y0_2, m0, rfl, _, _, t0_0, t0_1, t0_2⟩ := Joins.open_agg3 Try.underlying25 (by kernel_rfl) (by kernel_rfl) (hval 0 25 v0 rfl rfl) h0
  obtain ⟨a0_0, e0_0, _, w0_0⟩ := DataW.trod_int Try.underlying3 t0_0
  injection e0_0 with e0_0 _
  subst e0_0
  obtain ⟨a0_1, e0_1, _, w0_1⟩ := DataW.trod_int Try.underlying22 t0_1
  injection e0_1 with e0_1 _
  subst e0_1
  obtain ⟨A0_2, len0_2, cap0_2, xs0_2, e0_2, hl0_2, hi0_2, hw0_2⟩ := open_rows (g := gH) (k := 2) Try.underlying23 (by kernel_rfl) (by decide) (fun _ => rfl) (fun _ => rfl) dec0_2 t0_2
  injection e0_2 with e0_2 _
  subst e0_2
  obtain ⟨a1, rfl, rfl, rfl, w1⟩ := open_int Try.underlying3 (hval 1 3 v1 rfl rfl) h1
  obtain ⟨a2, rfl, rfl, rfl, w2⟩ := open_int Try.underlying22 (hval 2 22 v2 rfl rfl) h2
  obtain ⟨A3, len3, cap3, rfl⟩ := okWide_slice Try.underlying44 (hval 3 44 v3 rfl rfl)
  have k3 := h3
  have lt3 : ∀ x ∈ p3, x.block < W.heap.size := by obtain ⟨m, hm⟩ := k3; exact DataW.trod_lt m _ _ _ hm
  obtain ⟨xs3, hl3, hi3, hw3⟩ : ∃ xs : List _, xs.length = len3 ∧ ListIn W (rowA gI xs) len3 A3 cap3 ∧ (∀ m ∈ xs, rowW gI m) := by
    obtain ⟨fuel, hf⟩ := h3
    obtain ⟨A', l', c', xs, hcs, h1, h2, h3⟩ := open_rows (g := gI) (k := 1) Try.underlying44 (by kernel_rfl) (by decide) (fun _ => rfl) (fun _ => rfl) dec3 hf
    simp [Value.cells] at hcs
    obtain ⟨rfl, rfl, rfl⟩ := hcs
    exact ⟨xs, h1, h2, h3⟩
  clear hA0 hval0
  refine (ringChanges_true a0_0 a0_1 A0_2 len0_2 cap0_2 xs0_2 a1 a2 A3 len3 cap3 xs3 W (in64_wf w0_0) w0_1 hl0_2 hi0_2 hw0_2 (in64_wf w1) w2 hl3 hi3 hw3).mono fun e W' ⟨he, bel⟩ => ?_
  subst he
  exact ⟨_, rfl, _, _, _, [], _, [], hW', trodAll_mk1 (shut_bool Try.underlying4 _), (trodAll_cons_mk (Below.trod laidOut (by kernel_rfl) (of_decide_eq_true (by kernel_rfl)) k0 bel lt0) (trodAll_cons_mk (shut_int Try.underlying3 w1) (trodAll_cons_mk (shut_int Try.underlying22 w2) (trodAll_cons_mk (Below.trod laidOut (by kernel_rfl) (of_decide_eq_true (by kernel_rfl)) k3 bel lt3) trodAll_mk0)))), rfl, bel.frame _, fun h => by cases h⟩

theorem over : Rows.ringChangesRow.holds Try.pinned (OpenSpec.ofChange Rows.ringChangesSpec) :=
  OpenClaim.holds_of_wide 4 Try.f4 rfl rfl rfl rfl rfl rfl rfl ⟨rfl, rfl, rfl, rfl, rfl⟩ rfl rfl rfl rfl rfl (by kernel_rfl) Try.func4 (by kernel_rfl)
    (of_decide_eq_true (by kernel_rfl)) (by unfold Func.isWrapper; first | (rw [if_pos (by decide +kernel)]; kernel_rfl) | (rw [if_neg (by decide +kernel)]; exact ⟨rfl, rfl⟩))
    (fun os started H enc _ => lifted os started H enc)

/-- THE STATEMENT -/
theorem proved : Rows.RingChangesSaid := over
#print axioms proved
end Go.Proofs.Ytpmcjjpgkoagoaa.ringChanges
