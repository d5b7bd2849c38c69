/- Layer 11: LoadGrows. -/
import Derived.Test.YtfpeojpligkbjaaP4
namespace Go.Proofs.Ytfpeojpligkbjaa
open Go.RowKit
set_option linter.unusedVariables false

def mK (n : Int) : Int := n % 1048576
def mE (n : Int) : Int := mK n % 40
def mS (n : Int) : Int := mK n / 40 % 12
def mF (n : Int) : Int := mE n + 2 * mS n + 1 + mK n / 480 % 100
theorem m_rng (n : Int) : 0 ≤ mE n ∧ mE n ≤ 39 ∧ 0 ≤ mS n ∧ mS n ≤ 11 ∧ mE n + 2 * mS n + 1 ≤ mF n ∧ mF n ≤ mE n + 2 * mS n + 100 := by
  unfold mF mE mS mK; omega
theorem m_nice (n : Int) : Nice (mE n) (mF n) (mS n) := by have := m_rng n; unfold Nice; omega
theorem m_chk (n : Int) : chk (mE n) (mF n) (mS n) = 0 := by have := m_rng n; unfold chk; omega

theorem boxedf {w w' : World} {C : Array Value} {T : TypeId} (h : Below (w.alloc (.cells C T)).heap.size (w.alloc (.cells C T)) w') (i : Nat) : w'.frozen? ⟨w.heap.size, i, none⟩ = false := by
  rw [h.frozen (p := ⟨w.heap.size, i, none⟩) (by simp), World.frozen?_alloc_at _ _ _ _ rfl]
theorem keep_set {a w : World} (h : Below a.heap.size a w) (p : Addr) (u : Value) (hp : a.heap.size ≤ p.block) : Below a.heap.size a (w.setCell p u) := h.setCell hp u

theorem set3 {w : World} {g : Nat} {a b c x y z : Value} {o : Obj} (h0 : w.cell? ⟨g, 0, none⟩ = some a) (h1 : w.cell? ⟨g, 1, none⟩ = some b) (h2 : w.cell? ⟨g, 2, none⟩ = some c) :
    ((((w.setCell ⟨g, 0, none⟩ x).setCell ⟨g, 1, none⟩ y).setCell ⟨g, 2, none⟩ z).alloc o).cell? ⟨g, 0, none⟩ = some x ∧
    ((((w.setCell ⟨g, 0, none⟩ x).setCell ⟨g, 1, none⟩ y).setCell ⟨g, 2, none⟩ z).alloc o).cell? ⟨g, 1, none⟩ = some y ∧
    ((((w.setCell ⟨g, 0, none⟩ x).setCell ⟨g, 1, none⟩ y).setCell ⟨g, 2, none⟩ z).alloc o).cell? ⟨g, 2, none⟩ = some z := by
  have hg := World.block_lt_of_cell? w _ h0
  refine ⟨?_, ?_, ?_⟩
  all_goals rw [World.cell?_alloc_past _ _ _ (by simpa using hg)]
  · rw [World.cell?_setCell_other _ _ _ _ (by simp), World.cell?_setCell_other _ _ _ _ (by simp), World.cell?_setCell_same _ _ _ h0]
  · rw [World.cell?_setCell_other _ _ _ _ (by simp)]
    exact World.cell?_setCell_same _ _ _ ((World.cell?_setCell_other _ _ _ _ (by simp)).trans h1)
  · exact World.cell?_setCell_same _ _ _ ((World.cell?_setCell_other _ _ _ _ (by simp)).trans ((World.cell?_setCell_other _ _ _ _ (by simp)).trans h2))

theorem made_any (n : Int) (w : World) (hn : In64 n) : Calls Try.prog 33 #[.int .i64 n] w fun x w' => x = .returned (.agg #[.int .i64 (mE n), .int .i64 (mF n), .int .i64 (mS n)]) ∧ Below w.heap.size w w' := by
  have hr : 0 ≤ n % 1048576 ∧ n % 1048576 ≤ 1048575 := by omega
  obtain ⟨hr1, hr2⟩ := hr
  go_enter Try.func33, Try.ntmps33
  go_wp2_with fail
  apply Calls.mono
  focus
    exact mod_any n 1048576 _ hn (by decide)
  rintro _ w1 ⟨rfl, hb1⟩
  rw [if_neg (by decide)]
  obtain ⟨hx0, hx1, hx2⟩ := box3 hb1
  have hz0 := boxedf hb1 0
  have hz1 := boxedf hb1 1
  have hz2 := boxedf hb1 2
  have hlt : w.heap.size < w1.heap.size := World.block_lt_of_cell? w1 _ hx0
  go_wp2
  refine bodyPost_ret (v := .agg #[.int .i64 (mE n), .int .i64 (mF n), .int .i64 (mS n)]) (by simp [results, Try.results33, go_sem, set3 hx0 hx1 hx2]; exact ⟨rfl, rfl, rfl⟩) rfl ⟨rfl, ?_⟩
  (repeat (first | exact Below.refl _ _ | apply keep_alloc | apply keep_drew | apply keep_drewN | refine keep_step (by assumption) ?_ (by rfl) | refine keep_set ?_ _ _ (by first | exact Nat.le_refl _ | (show _ ≤ _; simp; done) | (show _ ≤ _; simp; omega))))

theorem chl_zero {e f s n : Int} (h : chk e f s = 0) (hn : 0 ≤ n ∧ n ≤ 10000) : chl e f s n = 0 := by unfold chl; rw [if_pos h]; omega
theorem heldE_zero {e f s b n : Int} (h : chl e f s n = 0) (hb : 1 ≤ b ∧ b ≤ 3) : heldE e f s b n = 0 := by unfold heldE; rw [if_pos h, if_pos hb]

theorem i64_m1 {n : Int} : In64 (mE n) := by have := m_rng n; unfold In64; omega
theorem i64_m2 {n : Int} : In64 (mF n) := by have := m_rng n; unfold In64; omega
theorem i64_m3 {n : Int} : In64 (mS n) := by have := m_rng n; unfold In64; omega
def GrowRel (w1 : World) (v12 : Value) (wr : World) : Prop := ∃ k : Nat, k ≤ 3 ∧ v12 = .int .i64 ((k : Int) + 1) ∧ Below w1.heap.size w1 wr

theorem growFacts (n lo hi b : Int) (h : 0 ≤ lo ∧ lo ≤ 199 ∧ 0 ≤ hi ∧ hi ≤ 199 ∧ lo ≤ hi) (hb : 1 ≤ b ∧ b ≤ 3) :
    chl (mE n) (mF n) (mS n) lo = 0 ∧ chl (mE n) (mF n) (mS n) hi = 0 ∧ heldE (mE n) (mF n) (mS n) b lo = 0 ∧ heldE (mE n) (mF n) (mS n) b hi = 0 ∧
    bandV (mE n) (mF n) (mS n) lo ≤ bandV (mE n) (mF n) (mS n) hi ∧ heldV (mE n) (mF n) (mS n) b lo ≤ heldV (mE n) (mF n) (mS n) b hi ∧
    (((heldV (mE n) (mF n) (mS n) b lo != bandV (mE n) (mF n) (mS n) lo) = false ∧ (mS n == 0) = true) ∨ ((heldV (mE n) (mF n) (mS n) b lo != bandV (mE n) (mF n) (mS n) lo) = false ∧ (mS n == 0) = false) ∨
     ((heldV (mE n) (mF n) (mS n) b lo != bandV (mE n) (mF n) (mS n) lo) = true ∧ (heldV (mE n) (mF n) (mS n) b lo != b) = false ∧ (mS n == 0) = false)) := by
  obtain ⟨m1, m2, m3, m4, m5, m6⟩ := m_rng n
  have c1 := chl_zero (n := lo) (m_chk n) (by omega)
  have c2 := chl_zero (n := hi) (m_chk n) (by omega)
  have c3 := heldE_zero c1 hb
  have c4 := heldE_zero c2 hb
  have d1 := bandV_def (mE n) (mF n) (mS n) lo
  have d2 := bandV_def (mE n) (mF n) (mS n) hi
  have d3 := heldV_def (mE n) (mF n) (mS n) b lo
  have d4 := heldV_def (mE n) (mF n) (mS n) b hi
  rw [if_pos c1] at d1
  rw [if_pos c2] at d2
  rw [if_pos c3] at d3
  rw [if_pos c4] at d4
  have e1 := bnd_def (mE n) (mF n) (mS n) lo
  have e2 := bnd_def (mE n) (mF n) (mS n) hi
  have e3 := hld_def (mE n) (mF n) (mS n) b lo
  have e4 := hld_def (mE n) (mF n) (mS n) b hi
  refine ⟨c1, c2, c3, c4, ?_, ?_, ?_⟩
  · omega
  · omega
  · by_cases h1 : heldV (mE n) (mF n) (mS n) b lo = bandV (mE n) (mF n) (mS n) lo
    · by_cases h2 : mS n = 0
      · left; exact ⟨by simp [h1], by simp [h2]⟩
      · right; left; exact ⟨by simp [h1], by simp [h2]⟩
    · right; right
      refine ⟨by simp [h1], ?_, ?_⟩
      · have : heldV (mE n) (mF n) (mS n) b lo = b := by omega
        simp [this]
      · have : mS n ≠ 0 := by omega
        simp [this]

set_option maxRecDepth 100000 in
set_option maxHeartbeats 16000000 in
theorem loadGrows_true (n x y : Int) (w : World) (hn : In64 n) (hx : In64 x) (hy : In64 y) :
    Calls Try.prog 8 #[.int .i64 n, .int .i64 x, .int .i64 y] w fun e w' => e = .returned (.bool true) ∧ Below w.heap.size w w' := by
  have hx2 : 0 ≤ x % 200 ∧ x % 200 ≤ 199 := by omega
  have hy2 : 0 ≤ y % 200 ∧ y % 200 ≤ 199 := by omega
  go_enter Try.func8, Try.ntmps8
  go_wp2_with fail
  refine (made_any n _ hn).mono ?_
  rintro _ w1 ⟨rfl, hb1⟩
  go_wp2_with fail
  refine (mod_any x 200 _ hx (by decide)).mono ?_
  rintro _ w2 ⟨rfl, hb2⟩
  rw [if_neg (by decide)]
  go_wp2_with fail
  refine (mod_any y 200 _ hy (by decide)).mono ?_
  rintro _ w3 ⟨rfl, hb3⟩
  rw [if_neg (by decide)]
  by_cases h1 : x % 200 < y % 200
  · go_wp2
    have hlo : 0 ≤ (x % 200) ∧ (x % 200) ≤ 199 ∧ 0 ≤ (y % 200) ∧ (y % 200) ≤ 199 ∧ (x % 200) ≤ (y % 200) := by omega
    go_loopw [12] (GrowRel (w3.alloc (.cells #[.int .i64 (mE n), .int .i64 (mF n), .int .i64 (mS n)] 23))) (fun v _ => 4 - (intOf v).toNat)
    case atStart => exact ⟨0, by omega, rfl, Below.refl _ _⟩
    case round =>
      obtain ⟨k, hk, rfl, hbl⟩ := hrel
      obtain ⟨hr0, hr1, hr2⟩ := box3 hbl
      by_cases hk3 : k < 3
      · have hgf := growFacts n (x % 200) (y % 200) ((k : Int) + 1) (by omega) (by omega)
        obtain ⟨g1, g2, g3, g4, g5, g6, g7⟩ := hgf
        rcases g7 with ⟨g8, g9⟩ | ⟨g8, g9⟩ | ⟨g8, g9, g10⟩
        all_goals
          go_wp2_with (first | (go_at_call 11; (apply Calls.mono; (focus ((first | (with_reducible exact pBand _ _ _ _ _ i64_m1 i64_m2 i64_m3) | (apply pBand _ _ _ _ _ i64_m1 i64_m2 i64_m3 <;> first | (with_reducible assumption) | (first | omega | (simp only [Bool.not_eq_true', Bool.not_eq_false', beq_iff_eq, beq_eq_false_iff_ne, ne_eq, bne_iff_ne, bne_eq_false_iff_eq, Bool.not_eq_true, Bool.not_eq_false, decide_eq_true_eq, decide_eq_false_iff_not, Bool.and_eq_true, Bool.or_eq_true] at *; omega) | (simp only [Bool.not_eq_true', Bool.not_eq_false', beq_iff_eq, beq_eq_false_iff_ne, ne_eq, bne_iff_ne, bne_eq_false_iff_eq, Bool.not_eq_true, Bool.not_eq_false, decide_eq_true_eq, decide_eq_false_iff_not, Bool.and_eq_true, Bool.or_eq_true, wrap64] at *; omega)))); done))); rintro e w' ⟨rfl, hb⟩; obtain ⟨hr0, hr1, hr2⟩ := box3 (w := w3) (w' := w') (show Below (w3.alloc (.cells #[.int .i64 (mE n), .int .i64 (mF n), .int .i64 (mS n)] 23)).heap.size (w3.alloc (.cells #[.int .i64 (mE n), .int .i64 (mF n), .int .i64 (mS n)] 23)) w' from (by repeat (first | exact Below.refl _ _ | apply keep_alloc | apply keep_drew | apply keep_drewN | refine keep_step (by assumption) ?_ (by rfl) | refine keep_set ?_ _ _ (by first | exact Nat.le_refl _ | (show _ ≤ _; simp; done) | (show _ ≤ _; simp; omega)))))) | (go_at_call 13; (apply Calls.mono; (focus ((first | (with_reducible exact pHeld _ _ _ _ _ _ i64_m1 i64_m2 i64_m3) | (apply pHeld _ _ _ _ _ _ i64_m1 i64_m2 i64_m3 <;> first | (with_reducible assumption) | (first | omega | (simp only [Bool.not_eq_true', Bool.not_eq_false', beq_iff_eq, beq_eq_false_iff_ne, ne_eq, bne_iff_ne, bne_eq_false_iff_eq, Bool.not_eq_true, Bool.not_eq_false, decide_eq_true_eq, decide_eq_false_iff_not, Bool.and_eq_true, Bool.or_eq_true] at *; omega) | (simp only [Bool.not_eq_true', Bool.not_eq_false', beq_iff_eq, beq_eq_false_iff_ne, ne_eq, bne_iff_ne, bne_eq_false_iff_eq, Bool.not_eq_true, Bool.not_eq_false, decide_eq_true_eq, decide_eq_false_iff_not, Bool.and_eq_true, Bool.or_eq_true, wrap64] at *; omega)))); done))); rintro e w' ⟨rfl, hb⟩; obtain ⟨hr0, hr1, hr2⟩ := box3 (w := w3) (w' := w') (show Below (w3.alloc (.cells #[.int .i64 (mE n), .int .i64 (mF n), .int .i64 (mS n)] 23)).heap.size (w3.alloc (.cells #[.int .i64 (mE n), .int .i64 (mF n), .int .i64 (mS n)] 23)) w' from (by repeat (first | exact Below.refl _ _ | apply keep_alloc | apply keep_drew | apply keep_drewN | refine keep_step (by assumption) ?_ (by rfl) | refine keep_set ?_ _ _ (by first | exact Nat.le_refl _ | (show _ ≤ _; simp; done) | (show _ ≤ _; simp; omega)))))))
          go_roundw
          case rel => exact ⟨k + 1, by omega, by go_num, (by repeat (first | exact Below.refl _ _ | apply keep_alloc | apply keep_drew | apply keep_drewN | refine keep_step (by assumption) ?_ (by rfl) | refine keep_set ?_ _ _ (by first | exact Nat.le_refl _ | (show _ ≤ _; simp; done) | (show _ ≤ _; simp; omega))))⟩
          case measure => simp [intOf]; omega
      · go_wp2_with (first | (go_at_call 17; (apply Calls.mono; (focus ((first | (with_reducible exact awake_true) | (apply awake_true <;> first | (with_reducible assumption) | (first | omega | (simp only [Bool.not_eq_true', Bool.not_eq_false', beq_iff_eq, beq_eq_false_iff_ne, ne_eq, bne_iff_ne, bne_eq_false_iff_eq, Bool.not_eq_true, Bool.not_eq_false, decide_eq_true_eq, decide_eq_false_iff_not, Bool.and_eq_true, Bool.or_eq_true] at *; omega) | (simp only [Bool.not_eq_true', Bool.not_eq_false', beq_iff_eq, beq_eq_false_iff_ne, ne_eq, bne_iff_ne, bne_eq_false_iff_eq, Bool.not_eq_true, Bool.not_eq_false, decide_eq_true_eq, decide_eq_false_iff_not, Bool.and_eq_true, Bool.or_eq_true, wrap64] at *; omega)))); done))); rintro e w' ⟨rfl, hb⟩; obtain ⟨hc, hf⟩ := bcell (show Below w.heap.size w w' from (by repeat (first | exact Below.refl _ _ | apply keep_alloc | apply keep_drew | apply keep_drewN | refine keep_step (by assumption) ?_ (by rfl) | refine keep_set ?_ _ _ (by first | exact Nat.le_refl _ | (show _ ≤ _; simp; done) | (show _ ≤ _; simp; omega)))))))
        go_ret
        exact ⟨rfl, (by repeat (first | exact Below.refl _ _ | apply keep_alloc | apply keep_drew | apply keep_drewN | refine keep_step (by assumption) ?_ (by rfl) | refine keep_set ?_ _ _ (by first | exact Nat.le_refl _ | (show _ ≤ _; simp; done) | (show _ ≤ _; simp; omega))))⟩
  · by_cases h2 : y % 200 < x % 200
    · go_wp2
      have hlo : 0 ≤ (y % 200) ∧ (y % 200) ≤ 199 ∧ 0 ≤ (x % 200) ∧ (x % 200) ≤ 199 ∧ (y % 200) ≤ (x % 200) := by omega
      go_loopw [12] (GrowRel (w3.alloc (.cells #[.int .i64 (mE n), .int .i64 (mF n), .int .i64 (mS n)] 23))) (fun v _ => 4 - (intOf v).toNat)
      case atStart => exact ⟨0, by omega, rfl, Below.refl _ _⟩
      case round =>
        obtain ⟨k, hk, rfl, hbl⟩ := hrel
        obtain ⟨hr0, hr1, hr2⟩ := box3 hbl
        by_cases hk3 : k < 3
        · have hgf := growFacts n (y % 200) (x % 200) ((k : Int) + 1) (by omega) (by omega)
          obtain ⟨g1, g2, g3, g4, g5, g6, g7⟩ := hgf
          rcases g7 with ⟨g8, g9⟩ | ⟨g8, g9⟩ | ⟨g8, g9, g10⟩
          all_goals
            go_wp2_with (first | (go_at_call 11; (apply Calls.mono; (focus ((first | (with_reducible exact pBand _ _ _ _ _ i64_m1 i64_m2 i64_m3) | (apply pBand _ _ _ _ _ i64_m1 i64_m2 i64_m3 <;> first | (with_reducible assumption) | (first | omega | (simp only [Bool.not_eq_true', Bool.not_eq_false', beq_iff_eq, beq_eq_false_iff_ne, ne_eq, bne_iff_ne, bne_eq_false_iff_eq, Bool.not_eq_true, Bool.not_eq_false, decide_eq_true_eq, decide_eq_false_iff_not, Bool.and_eq_true, Bool.or_eq_true] at *; omega) | (simp only [Bool.not_eq_true', Bool.not_eq_false', beq_iff_eq, beq_eq_false_iff_ne, ne_eq, bne_iff_ne, bne_eq_false_iff_eq, Bool.not_eq_true, Bool.not_eq_false, decide_eq_true_eq, decide_eq_false_iff_not, Bool.and_eq_true, Bool.or_eq_true, wrap64] at *; omega)))); done))); rintro e w' ⟨rfl, hb⟩; obtain ⟨hr0, hr1, hr2⟩ := box3 (w := w3) (w' := w') (show Below (w3.alloc (.cells #[.int .i64 (mE n), .int .i64 (mF n), .int .i64 (mS n)] 23)).heap.size (w3.alloc (.cells #[.int .i64 (mE n), .int .i64 (mF n), .int .i64 (mS n)] 23)) w' from (by repeat (first | exact Below.refl _ _ | apply keep_alloc | apply keep_drew | apply keep_drewN | refine keep_step (by assumption) ?_ (by rfl) | refine keep_set ?_ _ _ (by first | exact Nat.le_refl _ | (show _ ≤ _; simp; done) | (show _ ≤ _; simp; omega)))))) | (go_at_call 13; (apply Calls.mono; (focus ((first | (with_reducible exact pHeld _ _ _ _ _ _ i64_m1 i64_m2 i64_m3) | (apply pHeld _ _ _ _ _ _ i64_m1 i64_m2 i64_m3 <;> first | (with_reducible assumption) | (first | omega | (simp only [Bool.not_eq_true', Bool.not_eq_false', beq_iff_eq, beq_eq_false_iff_ne, ne_eq, bne_iff_ne, bne_eq_false_iff_eq, Bool.not_eq_true, Bool.not_eq_false, decide_eq_true_eq, decide_eq_false_iff_not, Bool.and_eq_true, Bool.or_eq_true] at *; omega) | (simp only [Bool.not_eq_true', Bool.not_eq_false', beq_iff_eq, beq_eq_false_iff_ne, ne_eq, bne_iff_ne, bne_eq_false_iff_eq, Bool.not_eq_true, Bool.not_eq_false, decide_eq_true_eq, decide_eq_false_iff_not, Bool.and_eq_true, Bool.or_eq_true, wrap64] at *; omega)))); done))); rintro e w' ⟨rfl, hb⟩; obtain ⟨hr0, hr1, hr2⟩ := box3 (w := w3) (w' := w') (show Below (w3.alloc (.cells #[.int .i64 (mE n), .int .i64 (mF n), .int .i64 (mS n)] 23)).heap.size (w3.alloc (.cells #[.int .i64 (mE n), .int .i64 (mF n), .int .i64 (mS n)] 23)) w' from (by repeat (first | exact Below.refl _ _ | apply keep_alloc | apply keep_drew | apply keep_drewN | refine keep_step (by assumption) ?_ (by rfl) | refine keep_set ?_ _ _ (by first | exact Nat.le_refl _ | (show _ ≤ _; simp; done) | (show _ ≤ _; simp; omega)))))))
            go_roundw
            case rel => exact ⟨k + 1, by omega, by go_num, (by repeat (first | exact Below.refl _ _ | apply keep_alloc | apply keep_drew | apply keep_drewN | refine keep_step (by assumption) ?_ (by rfl) | refine keep_set ?_ _ _ (by first | exact Nat.le_refl _ | (show _ ≤ _; simp; done) | (show _ ≤ _; simp; omega))))⟩
            case measure => simp [intOf]; omega
        · go_wp2_with (first | (go_at_call 17; (apply Calls.mono; (focus ((first | (with_reducible exact awake_true) | (apply awake_true <;> first | (with_reducible assumption) | (first | omega | (simp only [Bool.not_eq_true', Bool.not_eq_false', beq_iff_eq, beq_eq_false_iff_ne, ne_eq, bne_iff_ne, bne_eq_false_iff_eq, Bool.not_eq_true, Bool.not_eq_false, decide_eq_true_eq, decide_eq_false_iff_not, Bool.and_eq_true, Bool.or_eq_true] at *; omega) | (simp only [Bool.not_eq_true', Bool.not_eq_false', beq_iff_eq, beq_eq_false_iff_ne, ne_eq, bne_iff_ne, bne_eq_false_iff_eq, Bool.not_eq_true, Bool.not_eq_false, decide_eq_true_eq, decide_eq_false_iff_not, Bool.and_eq_true, Bool.or_eq_true, wrap64] at *; omega)))); done))); rintro e w' ⟨rfl, hb⟩; obtain ⟨hc, hf⟩ := bcell (show Below w.heap.size w w' from (by repeat (first | exact Below.refl _ _ | apply keep_alloc | apply keep_drew | apply keep_drewN | refine keep_step (by assumption) ?_ (by rfl) | refine keep_set ?_ _ _ (by first | exact Nat.le_refl _ | (show _ ≤ _; simp; done) | (show _ ≤ _; simp; omega)))))))
          go_ret
          exact ⟨rfl, (by repeat (first | exact Below.refl _ _ | apply keep_alloc | apply keep_drew | apply keep_drewN | refine keep_step (by assumption) ?_ (by rfl) | refine keep_set ?_ _ _ (by first | exact Nat.le_refl _ | (show _ ≤ _; simp; done) | (show _ ≤ _; simp; omega))))⟩
    · go_wp2
      have hlo : 0 ≤ (x % 200) ∧ (x % 200) ≤ 199 ∧ 0 ≤ (x % 200) ∧ (x % 200) ≤ 199 ∧ (x % 200) ≤ (x % 200) := by omega
      go_loopw [12] (GrowRel (w3.alloc (.cells #[.int .i64 (mE n), .int .i64 (mF n), .int .i64 (mS n)] 23))) (fun v _ => 4 - (intOf v).toNat)
      case atStart => exact ⟨0, by omega, rfl, Below.refl _ _⟩
      case round =>
        obtain ⟨k, hk, rfl, hbl⟩ := hrel
        obtain ⟨hr0, hr1, hr2⟩ := box3 hbl
        by_cases hk3 : k < 3
        · have hgf := growFacts n (x % 200) (x % 200) ((k : Int) + 1) (by omega) (by omega)
          obtain ⟨g1, g2, g3, g4, g5, g6, g7⟩ := hgf
          rcases g7 with ⟨g8, g9⟩ | ⟨g8, g9⟩ | ⟨g8, g9, g10⟩
          all_goals
            go_wp2_with (first | (go_at_call 11; (apply Calls.mono; (focus ((first | (with_reducible exact pBand _ _ _ _ _ i64_m1 i64_m2 i64_m3) | (apply pBand _ _ _ _ _ i64_m1 i64_m2 i64_m3 <;> first | (with_reducible assumption) | (first | omega | (simp only [Bool.not_eq_true', Bool.not_eq_false', beq_iff_eq, beq_eq_false_iff_ne, ne_eq, bne_iff_ne, bne_eq_false_iff_eq, Bool.not_eq_true, Bool.not_eq_false, decide_eq_true_eq, decide_eq_false_iff_not, Bool.and_eq_true, Bool.or_eq_true] at *; omega) | (simp only [Bool.not_eq_true', Bool.not_eq_false', beq_iff_eq, beq_eq_false_iff_ne, ne_eq, bne_iff_ne, bne_eq_false_iff_eq, Bool.not_eq_true, Bool.not_eq_false, decide_eq_true_eq, decide_eq_false_iff_not, Bool.and_eq_true, Bool.or_eq_true, wrap64] at *; omega)))); done))); rintro e w' ⟨rfl, hb⟩; obtain ⟨hr0, hr1, hr2⟩ := box3 (w := w3) (w' := w') (show Below (w3.alloc (.cells #[.int .i64 (mE n), .int .i64 (mF n), .int .i64 (mS n)] 23)).heap.size (w3.alloc (.cells #[.int .i64 (mE n), .int .i64 (mF n), .int .i64 (mS n)] 23)) w' from (by repeat (first | exact Below.refl _ _ | apply keep_alloc | apply keep_drew | apply keep_drewN | refine keep_step (by assumption) ?_ (by rfl) | refine keep_set ?_ _ _ (by first | exact Nat.le_refl _ | (show _ ≤ _; simp; done) | (show _ ≤ _; simp; omega)))))) | (go_at_call 13; (apply Calls.mono; (focus ((first | (with_reducible exact pHeld _ _ _ _ _ _ i64_m1 i64_m2 i64_m3) | (apply pHeld _ _ _ _ _ _ i64_m1 i64_m2 i64_m3 <;> first | (with_reducible assumption) | (first | omega | (simp only [Bool.not_eq_true', Bool.not_eq_false', beq_iff_eq, beq_eq_false_iff_ne, ne_eq, bne_iff_ne, bne_eq_false_iff_eq, Bool.not_eq_true, Bool.not_eq_false, decide_eq_true_eq, decide_eq_false_iff_not, Bool.and_eq_true, Bool.or_eq_true] at *; omega) | (simp only [Bool.not_eq_true', Bool.not_eq_false', beq_iff_eq, beq_eq_false_iff_ne, ne_eq, bne_iff_ne, bne_eq_false_iff_eq, Bool.not_eq_true, Bool.not_eq_false, decide_eq_true_eq, decide_eq_false_iff_not, Bool.and_eq_true, Bool.or_eq_true, wrap64] at *; omega)))); done))); rintro e w' ⟨rfl, hb⟩; obtain ⟨hr0, hr1, hr2⟩ := box3 (w := w3) (w' := w') (show Below (w3.alloc (.cells #[.int .i64 (mE n), .int .i64 (mF n), .int .i64 (mS n)] 23)).heap.size (w3.alloc (.cells #[.int .i64 (mE n), .int .i64 (mF n), .int .i64 (mS n)] 23)) w' from (by repeat (first | exact Below.refl _ _ | apply keep_alloc | apply keep_drew | apply keep_drewN | refine keep_step (by assumption) ?_ (by rfl) | refine keep_set ?_ _ _ (by first | exact Nat.le_refl _ | (show _ ≤ _; simp; done) | (show _ ≤ _; simp; omega)))))))
            go_roundw
            case rel => exact ⟨k + 1, by omega, by go_num, (by repeat (first | exact Below.refl _ _ | apply keep_alloc | apply keep_drew | apply keep_drewN | refine keep_step (by assumption) ?_ (by rfl) | refine keep_set ?_ _ _ (by first | exact Nat.le_refl _ | (show _ ≤ _; simp; done) | (show _ ≤ _; simp; omega))))⟩
            case measure => simp [intOf]; omega
        · go_wp2_with (first | (go_at_call 17; (apply Calls.mono; (focus ((first | (with_reducible exact awake_true) | (apply awake_true <;> first | (with_reducible assumption) | (first | omega | (simp only [Bool.not_eq_true', Bool.not_eq_false', beq_iff_eq, beq_eq_false_iff_ne, ne_eq, bne_iff_ne, bne_eq_false_iff_eq, Bool.not_eq_true, Bool.not_eq_false, decide_eq_true_eq, decide_eq_false_iff_not, Bool.and_eq_true, Bool.or_eq_true] at *; omega) | (simp only [Bool.not_eq_true', Bool.not_eq_false', beq_iff_eq, beq_eq_false_iff_ne, ne_eq, bne_iff_ne, bne_eq_false_iff_eq, Bool.not_eq_true, Bool.not_eq_false, decide_eq_true_eq, decide_eq_false_iff_not, Bool.and_eq_true, Bool.or_eq_true, wrap64] at *; omega)))); done))); rintro e w' ⟨rfl, hb⟩; obtain ⟨hc, hf⟩ := bcell (show Below w.heap.size w w' from (by repeat (first | exact Below.refl _ _ | apply keep_alloc | apply keep_drew | apply keep_drewN | refine keep_step (by assumption) ?_ (by rfl) | refine keep_set ?_ _ _ (by first | exact Nat.le_refl _ | (show _ ≤ _; simp; done) | (show _ ≤ _; simp; omega)))))))
          go_ret
          exact ⟨rfl, (by repeat (first | exact Below.refl _ _ | apply keep_alloc | apply keep_drew | apply keep_drewN | refine keep_step (by assumption) ?_ (by rfl) | refine keep_set ?_ _ _ (by first | exact Nat.le_refl _ | (show _ ≤ _; simp; done) | (show _ ≤ _; simp; omega))))⟩
end Go.Proofs.Ytfpeojpligkbjaa
