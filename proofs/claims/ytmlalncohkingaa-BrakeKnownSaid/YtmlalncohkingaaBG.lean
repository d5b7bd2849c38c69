/- Layer 10: the reference's Ends; States of both. -/
import Derived.Test.YtmlalncohkingaaBF
namespace Go.Proofs.Ytmlalncohkingaa
open Go.RowKit
set_option linter.unusedVariables false

theorem it_end {s l n : Int} (h : chk s l n = 0) : it s l 5 = it s l l.toNat ∧ ∀ k, k ≤ l.toNat → (it s l k).2 = l - k := by
  have hs : s = 0 ∨ s = 1 ∨ s = 2 ∨ s = 3 := by have := chk_rng h; omega
  have hl : l = 0 ∨ l = 1 ∨ l = 2 ∨ l = 3 ∨ l = 4 ∨ l = 5 := by have := chk_rng h; omega
  have h0 : (s = 0 ∨ s = 2) → l = 0 := by intro h1; unfold chk at h; omega
  have h1 : (s = 1 ∨ s = 3) → 1 ≤ l := by intro h1; unfold chk at h; omega
  clear h
  rcases hs with rfl | rfl | rfl | rfl
  · obtain rfl := h0 (.inl rfl); decide
  · have := h1 (.inl rfl)
    rcases hl with rfl | rfl | rfl | rfl | rfl | rfl
    · omega
    all_goals decide
  · obtain rfl := h0 (.inr rfl); decide
  · have := h1 (.inr rfl)
    rcases hl with rfl | rfl | rfl | rfl | rfl | rfl
    · omega
    all_goals decide

theorem rEnds (s l n : Int) (w : World) : Calls Try.prog 32 #[(.agg #[.int .i64 s, .int .i64 l]), .int .i64 n] w (OutK (enS s l n) (enL s l n) (enK s l n) (chk s l n) w) := by
  by_cases h0 : chk s l n = 0
  · obtain ⟨hend, hleft⟩ := it_end h0
    have hr := chk_rng h0
    obtain ⟨m, rfl⟩ : ∃ m : Nat, l = m := ⟨l.toNat, by omega⟩
    simp only [Int.toNat_natCast] at hend hleft
    have hS : enS s m n = (it s m m).1 := by unfold enS runS; rw [runE5, if_pos h0, show (5 : Int).toNat = 5 from rfl, hend]
    have hL : enL s m n = (it s m m).2 := by unfold enL runL; rw [runE5, if_pos h0, show (5 : Int).toNat = 5 from rfl, hend]
    have hK : enK s m n = m := by unfold enK; rw [if_pos h0]
    rw [hS, hL, hK, h0]
    have hm5 : m ≤ 5 := by omega
    have hb0 : (chk s m n != 0) = false := by simp [h0]
    have H0 := Lib.hid h0
    have LEFT := Lib.hid hleft
    clear h0 hS hL hK hleft hend hr
    go_enter Try.func32, Try.ntmps32
    go_wp2_with fail
    refine (rchk s m n _).mono ?_
    rintro _ w1 ⟨rfl, hb1'⟩
    have x0 := ((((show Below (((w.alloc (.cells #[.int .i64 s, .int .i64 m] 23)).alloc (.cells #[.int .i64 0, .int .i64 0] 23))).heap.size (((w.alloc (.cells #[.int .i64 s, .int .i64 m] 23)).alloc (.cells #[.int .i64 0, .int .i64 0] 23))) w1 from (by repeat (first | exact Below.refl _ _ | apply keep_alloc | apply keep_drew | apply keep_drewN | refine keep_step (by assumption) ?_ (by rfl) | refine keep_set ?_ _ _ (by first | exact Nat.le_refl _ | (show _ ≤ _; simp; done) | (show _ ≤ _; simp; omega))))).cell (p := ⟨w.heap.size, 0, none⟩) (by simp <;> omega)).trans (by simp [go_sem])) : (w1).cell? ⟨w.heap.size, 0, none⟩ = some (.int .i64 s))
    have x1 := ((((show Below (((w.alloc (.cells #[.int .i64 s, .int .i64 m] 23)).alloc (.cells #[.int .i64 0, .int .i64 0] 23))).heap.size (((w.alloc (.cells #[.int .i64 s, .int .i64 m] 23)).alloc (.cells #[.int .i64 0, .int .i64 0] 23))) w1 from (by repeat (first | exact Below.refl _ _ | apply keep_alloc | apply keep_drew | apply keep_drewN | refine keep_step (by assumption) ?_ (by rfl) | refine keep_set ?_ _ _ (by first | exact Nat.le_refl _ | (show _ ≤ _; simp; done) | (show _ ≤ _; simp; omega))))).cell (p := ⟨w.heap.size, 1, none⟩) (by simp <;> omega)).trans (by simp [go_sem])) : (w1).cell? ⟨w.heap.size, 1, none⟩ = some (.int .i64 m))
    have hbk : Brk w1 w.heap.size s m := ⟨⟨x0, x1⟩, ((((show Below (((w.alloc (.cells #[.int .i64 s, .int .i64 m] 23)).alloc (.cells #[.int .i64 0, .int .i64 0] 23))).heap.size (((w.alloc (.cells #[.int .i64 s, .int .i64 m] 23)).alloc (.cells #[.int .i64 0, .int .i64 0] 23))) w1 from (by repeat (first | exact Below.refl _ _ | apply keep_alloc | apply keep_drew | apply keep_drewN | refine keep_step (by assumption) ?_ (by rfl) | refine keep_set ?_ _ _ (by first | exact Nat.le_refl _ | (show _ ≤ _; simp; done) | (show _ ≤ _; simp; omega))))).frozen (p := ⟨w.heap.size, 0, none⟩) (by simp <;> omega)).trans (by simp [go_sem])) : (w1).frozen? ⟨w.heap.size, 0, none⟩ = false), ((((show Below (((w.alloc (.cells #[.int .i64 s, .int .i64 m] 23)).alloc (.cells #[.int .i64 0, .int .i64 0] 23))).heap.size (((w.alloc (.cells #[.int .i64 s, .int .i64 m] 23)).alloc (.cells #[.int .i64 0, .int .i64 0] 23))) w1 from (by repeat (first | exact Below.refl _ _ | apply keep_alloc | apply keep_drew | apply keep_drewN | refine keep_step (by assumption) ?_ (by rfl) | refine keep_set ?_ _ _ (by first | exact Nat.le_refl _ | (show _ ≤ _; simp; done) | (show _ ≤ _; simp; omega))))).frozen (p := ⟨w.heap.size, 1, none⟩) (by simp <;> omega)).trans (by simp [go_sem])) : (w1).frozen? ⟨w.heap.size, 1, none⟩ = false)⟩
    have hrs : Brk w1 (w.heap.size + 1) 0 0 := by
      have h := ((Brk.made (w.alloc (.cells #[.int .i64 s, .int .i64 m] 23)) 0 0 23)).below hb1' (by simp)
      simpa using h
    clear x0 x1
    go_wp2
    go_loopw [8] (RRel s m m w w1) (fun v _ => m - (intOf v).toNat)
    case atStart => exact ⟨0, by omega, rfl, hbk, Turn.refl _ _⟩
    case round =>
      obtain ⟨k, hk, rfl, hbr, htr⟩ := hrel
      have hlt0 := hbr.lt
      obtain ⟨⟨x0, x1⟩, u0, u1⟩ := id hbr
      have hleft := LEFT.out k hk
      by_cases hlt : k < m
      · have hl1 : 0 < (it s m k).2 := by omega
        have hl2 : (it s m k).2 ≤ 5 := by omega
        clear hleft
        go_wp2_with fail
        refine (rstep _ _ _ (by omega)).mono ?_
        rintro _ w2 ⟨rfl, hb2⟩
        have hbr2 := hbr.below hb2 hlt0
        obtain ⟨⟨x0, x1⟩, u0, u1⟩ := id hbr2
        go_wp2
        exact ⟨⟨k + 1, by omega, by go_num, hbr2.put _ _, by (repeat (first | exact Turn.refl _ _ | apply Turn.set | apply Turn.alloc | apply Turn.drew | apply Turn.drewN | refine Turn.trans ?_ (by assumption) | refine Turn.below ?_ (by assumption) (by rfl) | refine Turn.setNew ?_ _ _ (by first | exact Nat.le_refl _ | (show _ ≤ _; simp; done) | (show _ ≤ _; simp; omega))))⟩, by simp [intOf]; omega⟩
      · have hkm : k = m := by omega
        subst hkm
        have hl1 : (it s k k).2 ≤ 0 := by omega
        clear hleft
        have hrs2 := hrs.turn htr (by omega)
        obtain ⟨⟨y0, y1⟩, z0, z1⟩ := id hrs2
        have hlt1 := hrs2.lt
        go_wp2
        refine bodyPost_ret (v := .tuple #[(.agg #[.int .i64 (it s k k).1, .int .i64 (it s k k).2]), .int .i64 k, .int .i64 0]) (by simp [results, Try.results32, go_sem, set2 y0 y1]) rfl ?_
        have hbw : Below w.heap.size w w1 := (by repeat (first | exact Below.refl _ _ | apply keep_alloc | apply keep_drew | apply keep_drewN | refine keep_step (by assumption) ?_ (by rfl) | refine keep_set ?_ _ _ (by first | exact Nat.le_refl _ | (show _ ≤ _; simp; done) | (show _ ≤ _; simp; omega))))
        have hbw2 : Below w.heap.size w wr := keep_turn htr hbw (Nat.le_refl _)
        exact ⟨rfl, (by repeat (first | exact Below.refl _ _ | apply keep_alloc | apply keep_drew | apply keep_drewN | refine keep_step (by assumption) ?_ (by rfl) | refine keep_set ?_ _ _ (by first | exact Nat.le_refl _ | (show _ ≤ _; simp; done) | (show _ ≤ _; simp; omega))))⟩
  · have hb0 : (chk s l n != 0) = true := by simp [h0]
    have hK : enK s l n = 0 := by unfold enK; rw [if_neg h0]
    have hE := runE5 s l n
    have hS : enS s l n = 0 := by unfold enS runS; rw [hE, if_neg h0]
    have hL : enL s l n = 0 := by unfold enL runL; rw [hE, if_neg h0]
    rw [hK, hS, hL]
    clear h0 hK hE hS hL
    go_enter Try.func32, Try.ntmps32
    go_wp2_with fail
    refine (rchk s l n _).mono ?_
    rintro _ w1 ⟨rfl, hb1'⟩
    have x0 := ((((show Below (((w.alloc (.cells #[.int .i64 s, .int .i64 l] 23)).alloc (.cells #[.int .i64 0, .int .i64 0] 23))).heap.size (((w.alloc (.cells #[.int .i64 s, .int .i64 l] 23)).alloc (.cells #[.int .i64 0, .int .i64 0] 23))) w1 from (by repeat (first | exact Below.refl _ _ | apply keep_alloc | apply keep_drew | apply keep_drewN | refine keep_step (by assumption) ?_ (by rfl) | refine keep_set ?_ _ _ (by first | exact Nat.le_refl _ | (show _ ≤ _; simp; done) | (show _ ≤ _; simp; omega))))).cell (p := ⟨w.heap.size, 0, none⟩) (by simp <;> omega)).trans (by simp [go_sem])) : (w1).cell? ⟨w.heap.size, 0, none⟩ = some (.int .i64 s))
    have x1 := ((((show Below (((w.alloc (.cells #[.int .i64 s, .int .i64 l] 23)).alloc (.cells #[.int .i64 0, .int .i64 0] 23))).heap.size (((w.alloc (.cells #[.int .i64 s, .int .i64 l] 23)).alloc (.cells #[.int .i64 0, .int .i64 0] 23))) w1 from (by repeat (first | exact Below.refl _ _ | apply keep_alloc | apply keep_drew | apply keep_drewN | refine keep_step (by assumption) ?_ (by rfl) | refine keep_set ?_ _ _ (by first | exact Nat.le_refl _ | (show _ ≤ _; simp; done) | (show _ ≤ _; simp; omega))))).cell (p := ⟨w.heap.size, 1, none⟩) (by simp <;> omega)).trans (by simp [go_sem])) : (w1).cell? ⟨w.heap.size, 1, none⟩ = some (.int .i64 l))
    have y0 := ((((show Below (((w.alloc (.cells #[.int .i64 s, .int .i64 l] 23)).alloc (.cells #[.int .i64 0, .int .i64 0] 23))).heap.size (((w.alloc (.cells #[.int .i64 s, .int .i64 l] 23)).alloc (.cells #[.int .i64 0, .int .i64 0] 23))) w1 from (by repeat (first | exact Below.refl _ _ | apply keep_alloc | apply keep_drew | apply keep_drewN | refine keep_step (by assumption) ?_ (by rfl) | refine keep_set ?_ _ _ (by first | exact Nat.le_refl _ | (show _ ≤ _; simp; done) | (show _ ≤ _; simp; omega))))).cell (p := ⟨(w.heap.size + 1), 0, none⟩) (by simp <;> omega)).trans (by simp [go_sem])) : (w1).cell? ⟨(w.heap.size + 1), 0, none⟩ = some (.int .i64 0))
    have y1 := ((((show Below (((w.alloc (.cells #[.int .i64 s, .int .i64 l] 23)).alloc (.cells #[.int .i64 0, .int .i64 0] 23))).heap.size (((w.alloc (.cells #[.int .i64 s, .int .i64 l] 23)).alloc (.cells #[.int .i64 0, .int .i64 0] 23))) w1 from (by repeat (first | exact Below.refl _ _ | apply keep_alloc | apply keep_drew | apply keep_drewN | refine keep_step (by assumption) ?_ (by rfl) | refine keep_set ?_ _ _ (by first | exact Nat.le_refl _ | (show _ ≤ _; simp; done) | (show _ ≤ _; simp; omega))))).cell (p := ⟨(w.heap.size + 1), 1, none⟩) (by simp <;> omega)).trans (by simp [go_sem])) : (w1).cell? ⟨(w.heap.size + 1), 1, none⟩ = some (.int .i64 0))
    have z0 := ((((show Below (((w.alloc (.cells #[.int .i64 s, .int .i64 l] 23)).alloc (.cells #[.int .i64 0, .int .i64 0] 23))).heap.size (((w.alloc (.cells #[.int .i64 s, .int .i64 l] 23)).alloc (.cells #[.int .i64 0, .int .i64 0] 23))) w1 from (by repeat (first | exact Below.refl _ _ | apply keep_alloc | apply keep_drew | apply keep_drewN | refine keep_step (by assumption) ?_ (by rfl) | refine keep_set ?_ _ _ (by first | exact Nat.le_refl _ | (show _ ≤ _; simp; done) | (show _ ≤ _; simp; omega))))).frozen (p := ⟨(w.heap.size + 1), 0, none⟩) (by simp <;> omega)).trans (by simp [go_sem])) : (w1).frozen? ⟨(w.heap.size + 1), 0, none⟩ = false)
    have z1 := ((((show Below (((w.alloc (.cells #[.int .i64 s, .int .i64 l] 23)).alloc (.cells #[.int .i64 0, .int .i64 0] 23))).heap.size (((w.alloc (.cells #[.int .i64 s, .int .i64 l] 23)).alloc (.cells #[.int .i64 0, .int .i64 0] 23))) w1 from (by repeat (first | exact Below.refl _ _ | apply keep_alloc | apply keep_drew | apply keep_drewN | refine keep_step (by assumption) ?_ (by rfl) | refine keep_set ?_ _ _ (by first | exact Nat.le_refl _ | (show _ ≤ _; simp; done) | (show _ ≤ _; simp; omega))))).frozen (p := ⟨(w.heap.size + 1), 1, none⟩) (by simp <;> omega)).trans (by simp [go_sem])) : (w1).frozen? ⟨(w.heap.size + 1), 1, none⟩ = false)
    go_wp2
    refine bodyPost_ret (v := .tuple #[(.agg #[.int .i64 0, .int .i64 0]), .int .i64 0, .int .i64 (chk s l n)]) (by simp [results, Try.results32, go_sem, set2 y0 y1]) rfl ?_
    exact ⟨rfl, (by repeat (first | exact Below.refl _ _ | apply keep_alloc | apply keep_drew | apply keep_drewN | refine keep_step (by assumption) ?_ (by rfl) | refine keep_set ?_ _ _ (by first | exact Nat.le_refl _ | (show _ ≤ _; simp; done) | (show _ ≤ _; simp; omega))))⟩
end Go.Proofs.Ytmlalncohkingaa
