/- Layer 9: MotionStops, out of its contract. -/
import Derived.Test.YtaohbffjfedcgaaOgJ
namespace Go.Proofs.Ytaohbffjfedcgaa
open Go Go.RowKit
set_option linter.unusedVariables false
def In64 (n : Int) : Prop := -9223372036854775808 ≤ n ∧ n ≤ 9223372036854775807
theorem stops_one (pos goal most ticks : Int) : Known Try.prog [] 8 [.int .i64 pos, .int .i64 goal, .int .i64 most, .int .i64 ticks] (.bool true) := by
  have hv := mo_v pos goal most ticks
  have hb := vM_b hv
  have hc := ckM_ok.2 hv
  have ha := near_all hv
  have hl := near_left hv
  have hl2 := lfV_bb ha.2.2.2
  have hh := it_home 30 ha.2.2.2 (by rw [hl]; split <;> omega)
  have hr : rst (moP pos goal most ticks) (moG goal) = if moG goal ≤ moP pos goal most ticks then moP pos goal most ticks - moG goal else moG goal - moP pos goal most ticks := rfl
  have h9 := hv.2.2.2.2.2.2.2.2
  have hz : moG goal = moP pos goal most ticks → moS pos goal most ticks = 0 := by intro e; omega
  have v0 : vM (moP pos goal most ticks) (moP pos goal most ticks) 0 (moM most) := by
    refine ⟨by omega, by omega, by omega, by omega, by omega, by omega, by omega, by omega, .inl rfl⟩
  have t0 := tk_eq v0
  have n1 : TurnOk (moP pos goal most ticks) (moG goal) (moS pos goal most ticks) (moM most) (nrV (moP pos goal most ticks) (moG goal) (moS pos goal most ticks)) := ⟨hc, ha.1.1, ha.1.2, by omega⟩
  have n2 : TurnOk (moP pos goal most ticks) (moG goal) (moS pos goal most ticks) (moM most) (moG goal) := by
    refine ⟨hc, by omega, by omega, ?_⟩
    unfold nrV
    rcases h9 with e | e
    · left; omega
    · by_cases c : moG goal < moP pos goal most ticks
      · rw [if_pos c]; omega
      · rw [if_neg c]; omega
  have r := lawT pos goal most ticks ⟨hb.2.1, hb.2.2.1⟩ ⟨hb.2.2.2.1, hb.2.2.2.2⟩ hc (turnB_is.2 n1) (ckM_ok.2 ha.2.2.2) hl (by rw [hh]) (by rw [hh]) (turnB_is.2 n2) hz (ckM_ok.2 v0) t0.1 t0.2.1
  rw [show lawT_c0 pos goal most ticks = true by unfold lawT_c0; simp] at r
  exact r
theorem motionStops_true (pos goal most ticks : Int) (w : World) (_ : In64 pos) (_ : In64 goal) (_ : In64 most) (_ : In64 ticks) : Calls Try.prog 8 #[.int .i64 pos, .int .i64 goal, .int .i64 most, .int .i64 ticks] w fun e w' => e = .returned (.bool true) ∧ Below w.heap.size w w' :=
  (stops_one pos goal most ticks).2.2 w (LaidL.nil w)
end Go.Proofs.Ytaohbffjfedcgaa
