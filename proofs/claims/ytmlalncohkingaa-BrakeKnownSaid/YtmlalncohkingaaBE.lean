/- Layer 10: the reference. -/
import Derived.Test.YtmlalncohkingaaBD
namespace Go.Proofs.Ytmlalncohkingaa
open Go.RowKit
set_option linter.unusedVariables false

/-- a brake lies in block g -/
def Brk (w : World) (g : Nat) (s l : Int) : Prop :=
  (w.cell? ⟨g, 0, none⟩ = some (.int .i64 s) ∧ w.cell? ⟨g, 1, none⟩ = some (.int .i64 l)) ∧ (w.frozen? ⟨g, 0, none⟩ = false ∧ w.frozen? ⟨g, 1, none⟩ = false)
theorem Brk.put {w : World} {g : Nat} {s l : Int} (h : Brk w g s l) (x y : Int) : Brk ((w.setCell ⟨g, 0, none⟩ (.int .i64 x)).setCell ⟨g, 1, none⟩ (.int .i64 y)) g x y := by
  obtain ⟨⟨h0, h1⟩, f0, f1⟩ := h
  refine ⟨set2 h0 h1, ?_, ?_⟩
  all_goals (rw [World.frozen?_setCell, World.frozen?_setCell]; assumption)
theorem Brk.lt {w : World} {g : Nat} {s l : Int} (h : Brk w g s l) : g < w.heap.size := World.block_lt_of_cell? w _ h.1.1
theorem Brk.below {w w' : World} {g B : Nat} {s l : Int} (h : Brk w g s l) (hb : Below B w w') (hg : g < B) : Brk w' g s l := by
  obtain ⟨⟨h0, h1⟩, f0, f1⟩ := h
  exact ⟨⟨(hb.cell (p := ⟨g, 0, none⟩) hg).trans h0, (hb.cell (p := ⟨g, 1, none⟩) hg).trans h1⟩, (hb.frozen (p := ⟨g, 0, none⟩) hg).trans f0, (hb.frozen (p := ⟨g, 1, none⟩) hg).trans f1⟩
theorem Brk.turn {w w' : World} {g g' : Nat} {s l : Int} (h : Brk w g s l) (t : Turn g' w w') (hg : g ≠ g') : Brk w' g s l := by
  have hlt := h.lt
  obtain ⟨⟨h0, h1⟩, f0, f1⟩ := h
  obtain ⟨tc, tf⟩ := turn_cell t
  exact ⟨⟨(tc g 0 hlt hg).trans h0, (tc g 1 hlt hg).trans h1⟩, (tf g 0 hlt hg).trans f0, (tf g 1 hlt hg).trans f1⟩
theorem Brk.made (w : World) (s l : Int) (T : TypeId) : Brk (w.alloc (.cells #[.int .i64 s, .int .i64 l] T)) w.heap.size s l := by
  refine ⟨⟨?_, ?_⟩, ?_, ?_⟩
  all_goals first | exact World.frozen?_alloc_at _ _ _ _ rfl | (rw [World.cell?_alloc_at _ _ _ _ rfl]; rfl)
theorem Brk.alloc {w : World} {g : Nat} {s l : Int} (h : Brk w g s l) (o : Obj) : Brk (w.alloc o) g s l := h.below ((Below.refl w.heap.size w).alloc (Nat.le_refl _) o) h.lt

theorem tS_def (s l : Int) : tS s l = if 1 < l then s else if s = 1 then 2 else if s = 3 then 0 else s := rfl
theorem tL_def (s l : Int) : tL s l = if 1 < l then l - 1 else if s = 1 then 0 else if s = 3 then 0 else l := rfl

theorem rstep (s l : Int) (w : World) (hl : l ≤ 9223372036854775807) : Calls Try.prog 41 #[(.agg #[.int .i64 s, .int .i64 l])] w fun x w' => x = .returned (.agg #[.int .i64 (tS s l), .int .i64 (tL s l)]) ∧ Below w.heap.size w w' := by
  have D := Lib.hid (And.intro (tS_def s l) (tL_def s l))
  have y0 := ((((show Below (((w.alloc (.cells #[.int .i64 s, .int .i64 l] 23)).alloc (.cells #[.int .i64 0, .int .i64 0] 23))).heap.size (((w.alloc (.cells #[.int .i64 s, .int .i64 l] 23)).alloc (.cells #[.int .i64 0, .int .i64 0] 23))) ((w.alloc (.cells #[.int .i64 s, .int .i64 l] 23)).alloc (.cells #[.int .i64 0, .int .i64 0] 23)) from (by repeat (first | exact Below.refl _ _ | apply keep_alloc | apply keep_drew | apply keep_drewN | refine keep_step (by assumption) ?_ (by rfl) | refine keep_set ?_ _ _ (by first | exact Nat.le_refl _ | (show _ ≤ _; simp; done) | (show _ ≤ _; simp; omega))))).cell (p := ⟨(w.heap.size + 1), 0, none⟩) (by simp <;> omega)).trans (by simp [go_sem])) : (((w.alloc (.cells #[.int .i64 s, .int .i64 l] 23)).alloc (.cells #[.int .i64 0, .int .i64 0] 23))).cell? ⟨(w.heap.size + 1), 0, none⟩ = some (.int .i64 0))
  have y1 := ((((show Below (((w.alloc (.cells #[.int .i64 s, .int .i64 l] 23)).alloc (.cells #[.int .i64 0, .int .i64 0] 23))).heap.size (((w.alloc (.cells #[.int .i64 s, .int .i64 l] 23)).alloc (.cells #[.int .i64 0, .int .i64 0] 23))) ((w.alloc (.cells #[.int .i64 s, .int .i64 l] 23)).alloc (.cells #[.int .i64 0, .int .i64 0] 23)) from (by repeat (first | exact Below.refl _ _ | apply keep_alloc | apply keep_drew | apply keep_drewN | refine keep_step (by assumption) ?_ (by rfl) | refine keep_set ?_ _ _ (by first | exact Nat.le_refl _ | (show _ ≤ _; simp; done) | (show _ ≤ _; simp; omega))))).cell (p := ⟨(w.heap.size + 1), 1, none⟩) (by simp <;> omega)).trans (by simp [go_sem])) : (((w.alloc (.cells #[.int .i64 s, .int .i64 l] 23)).alloc (.cells #[.int .i64 0, .int .i64 0] 23))).cell? ⟨(w.heap.size + 1), 1, none⟩ = some (.int .i64 0))
  by_cases h1 : 1 < l
  · have e1 : tS s l = s := by have d := D.out; omega
    have e2 : tL s l = l - 1 := by have d := D.out; omega
    rw [e1, e2]
    clear e1 e2
    go_enter Try.func41, Try.ntmps41
    go_wp2
    refine bodyPost_ret (v := .agg #[.int .i64 (s), .int .i64 (l - 1)]) (by simp [results, Try.results41, go_sem, set2 y0 y1]) rfl ?_
    exact ⟨rfl, (by repeat (first | exact Below.refl _ _ | apply keep_alloc | apply keep_drew | apply keep_drewN | refine keep_step (by assumption) ?_ (by rfl) | refine keep_set ?_ _ _ (by first | exact Nat.le_refl _ | (show _ ≤ _; simp; done) | (show _ ≤ _; simp; omega))))⟩
  · by_cases h2 : s = 1
    · have e1 : tS s l = 2 := by have d := D.out; omega
      have e2 : tL s l = 0 := by have d := D.out; omega
      rw [e1, e2]
      have hb : (s == 1) = true := by simp [h2]
      clear e1 e2 h2
      go_enter Try.func41, Try.ntmps41
      go_wp2
      refine bodyPost_ret (v := .agg #[.int .i64 (2), .int .i64 (0)]) (by simp [results, Try.results41, go_sem, set2 y0 y1]) rfl ?_
      exact ⟨rfl, (by repeat (first | exact Below.refl _ _ | apply keep_alloc | apply keep_drew | apply keep_drewN | refine keep_step (by assumption) ?_ (by rfl) | refine keep_set ?_ _ _ (by first | exact Nat.le_refl _ | (show _ ≤ _; simp; done) | (show _ ≤ _; simp; omega))))⟩
    · by_cases h3 : s = 3
      · have e1 : tS s l = 0 := by have d := D.out; omega
        have e2 : tL s l = 0 := by have d := D.out; omega
        rw [e1, e2]
        have hb : (s == 1) = false := by simp [h2]
        have hb3 : (s == 3) = true := by simp [h3]
        clear e1 e2 h2 h3
        go_enter Try.func41, Try.ntmps41
        go_wp2
        refine bodyPost_ret (v := .agg #[.int .i64 (0), .int .i64 (0)]) (by simp [results, Try.results41, go_sem, set2 y0 y1]) rfl ?_
        exact ⟨rfl, (by repeat (first | exact Below.refl _ _ | apply keep_alloc | apply keep_drew | apply keep_drewN | refine keep_step (by assumption) ?_ (by rfl) | refine keep_set ?_ _ _ (by first | exact Nat.le_refl _ | (show _ ≤ _; simp; done) | (show _ ≤ _; simp; omega))))⟩
      · have e1 : tS s l = s := by have d := D.out; omega
        have e2 : tL s l = l := by have d := D.out; omega
        rw [e1, e2]
        have hb : (s == 1) = false := by simp [h2]
        have hb3 : (s == 3) = false := by simp [h3]
        clear e1 e2 h2 h3
        go_enter Try.func41, Try.ntmps41
        go_wp2
        refine bodyPost_ret (v := .agg #[.int .i64 (s), .int .i64 (l)]) (by simp [results, Try.results41, go_sem, set2 y0 y1]) rfl ?_
        exact ⟨rfl, (by repeat (first | exact Below.refl _ _ | apply keep_alloc | apply keep_drew | apply keep_drewN | refine keep_step (by assumption) ?_ (by rfl) | refine keep_set ?_ _ _ (by first | exact Nat.le_refl _ | (show _ ≤ _; simp; done) | (show _ ≤ _; simp; omega))))⟩

theorem rbegun (m e n : Int) (w : World) : Calls Try.prog 40 #[.int .i64 m, .int .i64 e, .int .i64 n] w fun x w' => x = .returned (.agg #[.int .i64 (if n = 0 then e else m), .int .i64 n]) ∧ Below w.heap.size w w' := by
  have y0 := ((((show Below ((w.alloc (.cells #[.int .i64 0, .int .i64 0] 23))).heap.size ((w.alloc (.cells #[.int .i64 0, .int .i64 0] 23))) (w.alloc (.cells #[.int .i64 0, .int .i64 0] 23)) from (by repeat (first | exact Below.refl _ _ | apply keep_alloc | apply keep_drew | apply keep_drewN | refine keep_step (by assumption) ?_ (by rfl) | refine keep_set ?_ _ _ (by first | exact Nat.le_refl _ | (show _ ≤ _; simp; done) | (show _ ≤ _; simp; omega))))).cell (p := ⟨w.heap.size, 0, none⟩) (by simp <;> omega)).trans (by simp [go_sem])) : ((w.alloc (.cells #[.int .i64 0, .int .i64 0] 23))).cell? ⟨w.heap.size, 0, none⟩ = some (.int .i64 0))
  have y1 := ((((show Below ((w.alloc (.cells #[.int .i64 0, .int .i64 0] 23))).heap.size ((w.alloc (.cells #[.int .i64 0, .int .i64 0] 23))) (w.alloc (.cells #[.int .i64 0, .int .i64 0] 23)) from (by repeat (first | exact Below.refl _ _ | apply keep_alloc | apply keep_drew | apply keep_drewN | refine keep_step (by assumption) ?_ (by rfl) | refine keep_set ?_ _ _ (by first | exact Nat.le_refl _ | (show _ ≤ _; simp; done) | (show _ ≤ _; simp; omega))))).cell (p := ⟨w.heap.size, 1, none⟩) (by simp <;> omega)).trans (by simp [go_sem])) : ((w.alloc (.cells #[.int .i64 0, .int .i64 0] 23))).cell? ⟨w.heap.size, 1, none⟩ = some (.int .i64 0))
  by_cases h : n = 0
  · subst h
    rw [if_pos rfl]
    go_enter Try.func40, Try.ntmps40
    go_wp2
    refine bodyPost_ret (v := .agg #[.int .i64 (e), .int .i64 (0)]) (by simp [results, Try.results40, go_sem, set2 y0 y1]) rfl ?_
    exact ⟨rfl, (by repeat (first | exact Below.refl _ _ | apply keep_alloc | apply keep_drew | apply keep_drewN | refine keep_step (by assumption) ?_ (by rfl) | refine keep_set ?_ _ _ (by first | exact Nat.le_refl _ | (show _ ≤ _; simp; done) | (show _ ≤ _; simp; omega))))⟩
  · rw [if_neg h]
    have hb : (n == 0) = false := by simp [h]
    clear h
    go_enter Try.func40, Try.ntmps40
    go_wp2
    refine bodyPost_ret (v := .agg #[.int .i64 (m), .int .i64 (n)]) (by simp [results, Try.results40, go_sem, set2 y0 y1]) rfl ?_
    exact ⟨rfl, (by repeat (first | exact Below.refl _ _ | apply keep_alloc | apply keep_drew | apply keep_drewN | refine keep_step (by assumption) ?_ (by rfl) | refine keep_set ?_ _ _ (by first | exact Nat.le_refl _ | (show _ ≤ _; simp; done) | (show _ ≤ _; simp; omega))))⟩
end Go.Proofs.Ytmlalncohkingaa
