/- Layer 5: RingWipes, out of its contract. -/
import Derived.Test.YtpmcjjpgkoagoaaOpQ
import Derived.Test.YtpmcjjpgkoagoaaFrL
namespace Go.Proofs.Ytpmcjjpgkoagoaa
open Go Go.RowKit
set_option linter.unusedVariables false
def In64 (n : Int) : Prop := -9223372036854775808 ≤ n ∧ n ≤ 9223372036854775807
def wF (l : List (Int × Int)) (x : Int) : List (Int × Int) := l.filter fun h => h.2 == x
def oF (l : List (Int × Int)) (x : Int) : List (Int × Int) := l.filter fun h => !(h.2 == x)
theorem hasI_one (x y : Int) : hasI [x] y = (y == x) := by
  unfold hasI
  rw [List.any_cons, List.any_nil, Bool.or_false]
  exact Bool.beq_comm
theorem gone_one (l : List (Int × Int)) (x : Int) : goneF [x] l = wF l x := by
  unfold goneF wF
  congr 1
  funext h
  exact hasI_one x h.2
theorem keep_one (l : List (Int × Int)) (x : Int) : keepF [x] l = oF l x := by
  unfold keepF oF
  congr 1
  funext h
  rw [hasI_one]
theorem ix_fil (x : Int) : ∀ (l : List (Int × Int)), (ixW l x < l.length ∧ ∃ t, wF l x = el l (ixW l x : Int) :: t) ∨ (¬ ixW l x < l.length ∧ wF l x = [])
  | [] => .inr ⟨by simp, rfl⟩
  | a :: l => by
    unfold ixW wF
    rw [List.findIdx_cons, List.filter_cons]
    cases e : (a.2 == x) with
    | true => exact .inl ⟨by simp, l.filter (fun h => h.2 == x), rfl⟩
    | false =>
      rw [cond_false]
      simp only [Bool.false_eq_true, if_false]
      rcases ix_fil x l with ⟨h1, t, h2⟩ | ⟨h1, h2⟩
      · refine .inl ⟨by unfold ixW at h1; simp only [List.length_cons]; omega, t, ?_⟩
        rw [el_succ]; exact h2
      · exact .inr ⟨by unfold ixW at h1; simp only [List.length_cons]; omega, h2⟩
theorem oF_none (l : List (Int × Int)) (x : Int) : wF (oF l x) x = [] := by
  unfold wF oF
  rw [List.filter_filter, List.filter_eq_nil_iff]
  intro a _
  cases (a.2 == x) <;> simp
theorem rzA_go {n : Int} {xs : List Int} {v : Int} (hl : (mL n xs).length ≤ 32) : ∀ (k i : Nat) (Y Z : List Hel), i + k = (mL n xs).length → Y.length ≤ i → Z.length ≤ i → ∃ z, rzA_f n xs v (k + 1) Y Z (i : Int) = some (0, ((wF ((mL n xs).drop i) (v % 5)).reverse ++ Y, (oF ((mL n xs).drop i) (v % 5)).reverse ++ Z, z)) := by
  intro k
  induction k with
  | zero =>
    intro i Y Z h hY hZ
    rw [rzA_fs, bif_dT ⟨by omega, by omega, by omega, by omega⟩, bif_dF (by omega), List.drop_of_length_le (by omega)]
    exact ⟨_, rfl⟩
  | succ k ih =>
    intro i Y Z h hY hZ
    rw [rzA_fs, bif_dT ⟨by omega, by omega, by omega, by omega⟩, bif_dT (by omega), el_drop (l := mL n xs) (i := i) (by omega), w8n (n := (i : Int) + 1) (by omega) (by omega)]
    unfold wF oF at *
    rw [List.filter_cons, List.filter_cons]
    cases e : ((el (mL n xs) (i : Int)).2 == v % 5) with
    | true =>
      simp only [Bool.not_true, cond_true]
      obtain ⟨z, hz⟩ := ih (i + 1) (el (mL n xs) (i : Int) :: Y) Z (by omega) (by simp; omega) (by omega)
      rw [show ((i + 1 : Nat) : Int) = (i : Int) + 1 by omega] at hz
      exact ⟨z, hz.trans (by simp)⟩
    | false =>
      simp only [Bool.not_false, cond_false]
      obtain ⟨z, hz⟩ := ih (i + 1) Y (el (mL n xs) (i : Int) :: Z) (by omega) (by omega) (by simp; omega)
      rw [show ((i + 1 : Nat) : Int) = (i : Int) + 1 by omega] at hz
      exact ⟨z, hz.trans (by simp)⟩
theorem wipes_is (n : Int) (xs : List Int) (v : Int) : KnownR Try.prog [] 8 [.val (.int .i64 n), .list (rowA gI xs) xs.length, .val (.int .i64 v)] (.bool true) [] := by
  have hg := made_good n xs
  have hk := goodR_ck hg
  have hL : ((mL n xs).length : Int) ≤ 32 := by have := hg.2.2.2.2.1; have := hg.2.1; omega
  obtain ⟨e1, e2, e3, e4, e5⟩ := goodR_wipe (w := [v % 5]) hg
  obtain ⟨z, hz⟩ := rzA_go (n := n) (xs := xs) (v := v) (by omega) (mL n xs).length 0 [] [] (by omega) (by simp) (by simp)
  rw [List.drop_zero, List.append_nil, List.append_nil] at hz
  have ho := rzA_ok n xs v hL _ _ _ hz
  have r := rz0 n xs v _ _ _ hL (by
    rw [e4, List.length_reverse]
    have : (goneF [v % 5] (mL n xs)).length ≤ (mL n xs).length := List.length_filter_le _ _
    omega) (by
    rw [e3, List.length_reverse]
    have : (keepF [v % 5] (mL n xs)).length ≤ (mL n xs).length := List.length_filter_le _ _
    omega) ho
  have hw : (wkR (wN n) (mM n xs) (mL n xs) [v % 5]).reverse = oF (mL n xs) (v % 5) := by rw [e3, List.reverse_reverse, keep_one]
  have hw2 : (wgR (wN n) (mM n xs) (mL n xs) [v % 5]).reverse = wF (mL n xs) (v % 5) := by rw [e4, List.reverse_reverse, gone_one]
  have f2 : faX (wN n) (mM n xs) (oF (mL n xs) (v % 5)) (v % 5) = 6 := by
    have hk2 : ckX (wN n) (mM n xs) (oF (mL n xs) (v % 5)) = 0 := by have := goodR_ck e5; rw [hw] at this; exact this
    unfold faX
    rw [if_pos hk2]
    rcases ix_fil (v % 5) (oF (mL n xs) (v % 5)) with ⟨_, t, h⟩ | ⟨h, _⟩
    · rw [oF_none] at h; cases h
    · rw [if_neg h]
  have e : rz0_c0 n xs v (wF (mL n xs) (v % 5)).reverse (oF (mL n xs) (v % 5)).reverse z = true := by
    unfold rz0_c0
    rw [e1, e2, hw, hw2, f2, hk]
    simp only [List.reverse_reverse, List.length_reverse, beq_self_eq_true, decide_true, cond_true]
    rcases ix_fil (v % 5) (mL n xs) with ⟨h1, t, h2⟩ | ⟨h1, h2⟩
    · have a1 : faX (wN n) (mM n xs) (mL n xs) (v % 5) = 0 := by unfold faX; rw [if_pos hk, if_pos h1]
      have a2 : faN (wN n) (mM n xs) (mL n xs) (v % 5) = (el (mL n xs) (ixW (mL n xs) (v % 5) : Int)).1 := by unfold faN; rw [if_pos hk, if_pos h1]
      have a3 : faW (wN n) (mM n xs) (mL n xs) (v % 5) = (el (mL n xs) (ixW (mL n xs) (v % 5) : Int)).2 := by unfold faW; rw [if_pos hk, if_pos h1]
      have a4 : el (wF (mL n xs) (v % 5)) (0 : Int) = el (mL n xs) (ixW (mL n xs) (v % 5) : Int) := by rw [h2]; rfl
      have a5 : (((wF (mL n xs) (v % 5)).length : Int) == 0) = false := by rw [h2]; simp; omega
      rw [a1, a2, a3, a4, a5]
      simp
    · have a1 : faX (wN n) (mM n xs) (mL n xs) (v % 5) = 6 := by unfold faX; rw [if_pos hk, if_neg h1]
      rw [a1, h2]
      simp
  rw [e] at r
  exact r
theorem ringWipes_true (n : Int) (A : Option Addr) (len cap : Nat) (xs : List Int) (v : Int) (w : World) (_ : In64 n) (hl : xs.length = len) (hi : ListIn w (rowA gI xs) len A cap) (hw : ∀ m ∈ xs, rowW gI m) (_ : In64 v) :
    Calls Try.prog 8 #[.int .i64 n, .slice A len cap, .int .i64 v] w fun e w' => e = .returned (.bool true) ∧ Below w.heap.size w w' := by
  subst hl
  have harg : DIns w [.val (.int .i64 n), .list (rowA gI xs) xs.length, .val (.int .i64 v)] [.int .i64 n, .slice A xs.length cap, .int .i64 v] :=
    .cons (.val rfl) (.cons (.list hi) (.cons (.val rfl) .nil))
  exact knownR_law (wipes_is n xs v) (LaidL.nil w) harg
end Go.Proofs.Ytpmcjjpgkoagoaa
