/- Layer 7: place. -/
import Derived.Test.YtkoopcjdpcpknaaSB
namespace Go.Proofs.Ytkoopcjdpcpknaa
open Go.RowKit
set_option linter.unusedVariables false

/-- an array of 64 ints in a block of its own -/
def Arr (w : World) (g : Nat) (f : Nat → Int) : Prop := ∀ j, j < 64 → w.cell? ⟨g, j, none⟩ = some (.int .i64 (f j)) ∧ w.frozen? ⟨g, j, none⟩ = false
theorem Arr.made (w : World) (T : TypeId) : Arr (w.alloc (.cells (Array.replicate 64 (.int .i64 0)) T)) w.heap.size (fun _ => 0) := fun j hj => by
  refine ⟨?_, World.frozen?_alloc_at _ _ _ _ rfl⟩
  rw [World.cell?_alloc_at _ _ _ _ rfl]
  show (Array.replicate 64 (Value.int .i64 0))[j]? = _
  simp [hj]
theorem Arr.set {w : World} {g : Nat} {f : Nat → Int} (h : Arr w g f) (i : Nat) (hi : i < 64) (x : Int) : Arr (w.setCell ⟨g, i, none⟩ (.int .i64 x)) g (fun j => if j = i then x else f j) := fun j hj => by
  refine ⟨?_, by rw [World.frozen?_setCell]; exact (h j hj).2⟩
  by_cases e : j = i
  · subst e
    rw [World.cell?_setCell_same _ _ _ (h j hj).1]; simp
  · rw [World.cell?_setCell_other _ _ _ _ (by simp <;> omega), (h j hj).1]; show _ = some (Value.int .i64 (if j = i then x else f j)); rw [if_neg e]
theorem Arr.cast {w : World} {g : Nat} {f f' : Nat → Int} (h : Arr w g f) (e : ∀ j, j < 64 → f j = f' j) : Arr w g f' := fun j hj => by rw [← e j hj]; exact h j hj
theorem Arr.lt {w : World} {g : Nat} {f : Nat → Int} (h : Arr w g f) : g < w.heap.size := World.block_lt_of_cell? w _ (h 0 (by omega)).1
theorem Arr.ints {w : World} {g : Nat} {f : Nat → Int} (h : Arr w g f) {xs : List Int} (hl : xs.length ≤ 64) (e : ∀ j, j < xs.length → nth xs j = f j) : Ints w (some ⟨g, 0, none⟩) xs :=
  .inr ⟨g, 0, rfl, fun i hi => by rw [Nat.zero_add, (h i (by omega)).1, e i hi]⟩

def PlRel (gs : List Int) (n g : Nat) (w2 : World) (v7 v20 : Value) (wr : World) : Prop :=
  ∃ k : Nat, k ≤ n ∧ v7 = .int .i64 ((k : Int) + 1) ∧ v20 = .int .i64 k ∧ Arr wr g (fun j => if j ≤ k then pos gs j else 0) ∧ Turn g w2 wr

set_option maxHeartbeats 4000000 in
theorem pPlace0 (gs : List Int) (A : Option Addr) (n cap : Nat) (w : World) (hn : gs.length = n) (hm : n ≤ 1000) (hA : Ints w A gs) (hck : ckE gs = 0) :
    Calls Try.prog 45 #[.slice A n cap] w fun e w' => ∃ B, e = .returned (.tuple #[.slice B (n + 1) (n + 1), .int .i64 0]) ∧ Ints w' B (posl gs (n + 1)) ∧ Below w.heap.size w w' := by
  have hF := fine_of hck
  have HN := Lib.hid hn
  have HCK := Lib.hid hck
  have hn63 : n ≤ 63 := by rw [← hn]; exact hF.2.1
  have HF := Lib.hid hF
  clear hck hF
  go_enter Try.func45, Try.ntmps45
  go_wp2_with fail
  refine (pCheck gs A n cap _ hn hm (hA.step (by repeat (first | exact Below.refl _ _ | apply keep_alloc | apply keep_drew | apply keep_drewN | refine keep_step (by assumption) ?_ (by rfl) | refine keep_set ?_ _ _ (by first | exact Nat.le_refl _ | (show _ ≤ _; simp; done) | (show _ ≤ _; simp; omega)))))).mono ?_
  rintro _ w1 ⟨rfl, hb1⟩
  rw [HCK.out]
  clear hn
  go_wp2
  show Code.wp _ _ _ _ (w1.alloc (.cells (Array.replicate 64 (.int .i64 0)) 80))
  obtain ⟨w2, hw2⟩ : ∃ w2, w2 = w1.alloc (.cells (Array.replicate 64 (.int .i64 0)) 80) := ⟨_, rfl⟩
  obtain ⟨g, hg⟩ : ∃ g, g = w1.heap.size := ⟨_, rfl⟩
  have ha2 : Arr w2 g (fun _ => 0) := by rw [hw2, hg]; exact Arr.made _ _
  have hb2 : Below w.heap.size w w2 := by rw [hw2]; exact (by repeat (first | exact Below.refl _ _ | apply keep_alloc | apply keep_drew | apply keep_drewN | refine keep_step (by assumption) ?_ (by rfl) | refine keep_set ?_ _ _ (by first | exact Nat.le_refl _ | (show _ ≤ _; simp; done) | (show _ ≤ _; simp; omega))))
  have hgw : w.heap.size ≤ g := by rw [hg]; exact hb1.size
  rw [← hw2, ← hg]
  clear hw2 hg
  go_loopw [7, 20] (PlRel gs n g w2) (fun _ v _ => n - (intOf v).toNat)
  case atStart => exact ⟨0, by omega, rfl, rfl, ha2.cast (fun j hj => by
    by_cases e : j ≤ 0
    · rw [if_pos e, show j = 0 by omega]; rfl
    · rw [if_neg e]), Turn.refl _ _⟩
  case round =>
    obtain ⟨k, hk, rfl, rfl, hak, htr⟩ := hrel
    have hbr : Below w.heap.size w wr := keep_turn htr hb2 hgw
    by_cases hlt : k < n
    · obtain ⟨b, o, rfl, hc⟩ := (hA.step hbr).cell (k := k) (by rw [HN.out]; exact hlt)
      have c1 := hc k (by rw [HN.out]; exact hlt)
      clear hc
      obtain ⟨a1, a2⟩ := hak k (by omega)
      obtain ⟨a3, a4⟩ := hak (k + 1) (by omega)
      simp only [Nat.le_refl, if_true] at a1
      have hp := pos_low HF.out k (by rw [HN.out]; omega)
      have hg1 := (good_and _).1 (HF.out.2.2 k (by rw [HN.out]; exact hlt))
      go_wp2
      refine ⟨⟨k + 1, by omega, by go_num, by go_num, ?_, by (repeat (first | exact Turn.refl _ _ | apply Turn.set | apply Turn.alloc | apply Turn.drew | apply Turn.drewN | refine Turn.trans ?_ (by assumption) | refine Turn.below ?_ (by assumption) (by rfl) | refine Turn.setNew ?_ _ _ (by first | exact Nat.le_refl _ | (show _ ≤ _; simp; done) | (show _ ≤ _; simp; omega))))⟩, by simp [intOf]; omega⟩
      refine (hak.set (k + 1) (by omega) (pos gs k + nth gs k)).cast fun j hj => ?_
      by_cases e : j = k + 1
      · rw [if_pos e, if_pos (by omega), e]; rfl
      · rw [if_neg e]
        by_cases e2 : j ≤ k
        · rw [if_pos e2, if_pos (by omega)]
        · rw [if_neg e2, if_neg (by omega)]
    · have hkn : k = n := by omega
      subst hkn
      have hsl : ∀ W, (Instr.sliceAt 80 (.pointer (some ⟨g, 0, none⟩)) none (some (.int .i64 ((k : Int) + 1))) (some (.int .i64 ((k : Int) + 1)))).run Try.prog W = .ok (.slice (some ⟨g, 0, none⟩) (k + 1) (k + 1)) W := fun W => by
        rw [run_sliceAt_array_hm W 80 ⟨g, 0, none⟩ (by simp [Program.arrayLen, Program.elem, Try.underlying80]) .i64 .i64 ((k : Int) + 1) ((k : Int) + 1) (by omega) (by omega) (by rw [show Try.prog.arrayLen 80 = 64 from by kernel_rfl]; omega)]
        rw [show ((k : Int) + 1).toNat = k + 1 by omega]
        go_simp
      go_wp2
      go_ret2
      refine ⟨some ⟨g, 0, none⟩, by simp, ?_, hbr⟩
      exact hak.ints (by rw [posl_len]; omega) fun j hj => by
        rw [posl_len] at hj
        rw [posl_nth _ _ _ hj, if_pos (by omega)]
end Go.Proofs.Ytkoopcjdpcpknaa
