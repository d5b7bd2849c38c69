/- Layer 11: LoadSlow's walk. -/
import Derived.Test.YtfpeojpligkbjaaP7
namespace Go.Proofs.Ytfpeojpligkbjaa
open Go.RowKit
set_option linter.unusedVariables false

def SlowRel (xs : List Int) (len : Nat) (w1 : World) (v6 v7 : Value) (wr : World) : Prop :=
  ∃ k : Nat, k ≤ len ∧ k ≤ 40 ∧ v7 = .int .i64 k ∧ Mine w1.heap.size wr v6 ((mods xs).take k) ∧ Below w1.heap.size w1 wr
def SlowRel2 (m : Nat) (w1 : World) (v12 : Value) (wr : World) : Prop :=
  ∃ k : Nat, k ≤ m ∧ v12 = .int .i64 k ∧ Below w1.heap.size w1 wr

set_option maxRecDepth 100000 in
set_option maxHeartbeats 16000000 in
theorem loadSlow_true (n : Int) (A : Option Addr) (len cap : Nat) (xs : List Int) (w : World) (hn : In64 n) (hl : xs.length = len) (hm : len ≤ maxLen) (hA : Ints w A xs) (hb : ∀ x ∈ xs, In64 x) :
    Calls Try.prog 10 #[.int .i64 n, .slice A len cap] w fun e w' => e = .returned (.bool true) ∧ Below w.heap.size w w' := by
  unfold maxLen at hm
  have HL := Lib.hid hl
  have hml : (mods xs).length = min 40 len := by rw [mods_len, hl]
  have HML := Lib.hid hml
  have HB := Lib.hid hb
  clear hl hml hb
  go_enter Try.func10, Try.ntmps10
  go_wp2_with fail
  refine (made_any n _ hn).mono ?_
  rintro _ w1 ⟨rfl, hb1⟩
  go_wp2
  obtain ⟨w2, hw2⟩ : ∃ w2, w2 = (w1.alloc (.cells #[.int .i64 (mE n), .int .i64 (mF n), .int .i64 (mS n)] 23)) := ⟨_, rfl⟩
  have hb2 : Below w1.heap.size w1 w2 := by rw [hw2]; exact (by repeat (first | exact Below.refl _ _ | apply keep_alloc | apply keep_drew | apply keep_drewN | refine keep_step (by assumption) ?_ (by rfl) | refine keep_set ?_ _ _ (by first | exact Nat.le_refl _ | (show _ ≤ _; simp; done) | (show _ ≤ _; simp; omega))))
  have hbox : Below (w1.alloc (.cells #[.int .i64 (mE n), .int .i64 (mF n), .int .i64 (mS n)] 23)).heap.size (w1.alloc (.cells #[.int .i64 (mE n), .int .i64 (mF n), .int .i64 (mS n)] 23)) w2 := by rw [hw2]; exact Below.refl _ _
  rw [← hw2]
  have hlt2 : w1.heap.size < w2.heap.size := by rw [hw2]; simp
  clear hw2
  go_loopw [6, 7] (SlowRel xs len w2) (fun _ v _ => 40 - (intOf v).toNat)
  case atStart => exact ⟨0, by omega, by omega, rfl, Mine.nil _ _, Below.refl _ _⟩
  case round =>
    obtain ⟨k, hk, hk40, rfl, hown, hbl⟩ := hrel
    by_cases hlt : k < len ∧ k < 40
    · obtain ⟨hlt, hlt40⟩ := hlt
      have hkl : k < xs.length := by rw [HL.out]; exact hlt
      obtain ⟨b, o, rfl, hcs⟩ := (hA.step (w' := wr) (by repeat (first | exact Below.refl _ _ | apply keep_alloc | apply keep_drew | apply keep_drewN | refine keep_step (by assumption) ?_ (by rfl) | refine keep_set ?_ _ _ (by first | exact Nat.le_refl _ | (show _ ≤ _; simp; done) | (show _ ≤ _; simp; omega))))).cell hkl
      have hck := hcs k hkl
      have h64 : In64 (nth xs k) := by rw [nth_eq hkl]; exact HB.out _ (List.getElem_mem hkl)
      clear hcs
      go_wp2_with fail
      refine (mod_any (nth xs k) 200 _ h64 (by decide)).mono ?_
      rintro _ w3 ⟨rfl, hb3⟩
      rw [if_neg (by decide)]
      have hlen : ((mods xs).take k).length ≤ 17592186044414 := by rw [List.length_take]; omega
      go_wp2_with (first | (at_builtin; refine push_int rfl _ _ rfl w2 _ _ _ rfl rfl (hown.step (by repeat (first | exact Below.refl _ _ | apply keep_alloc | apply keep_drew | apply keep_drewN | refine keep_step (by assumption) ?_ (by rfl) | refine keep_set ?_ _ _ (by first | exact Nat.le_refl _ | (show _ ≤ _; simp; done) | (show _ ≤ _; simp; omega))))) (by repeat (first | exact Below.refl _ _ | apply keep_alloc | apply keep_drew | apply keep_drewN | refine keep_step (by assumption) ?_ (by rfl) | refine keep_set ?_ _ _ (by first | exact Nat.le_refl _ | (show _ ≤ _; simp; done) | (show _ ≤ _; simp; omega)))) (by first | omega | (simp only [List.length_take]; omega)) ?_; intro v4 w4 hown0 hbl4; have hown4 := Lib.hid hown0; clear hown0))
      exact ⟨⟨k + 1, by omega, by omega, by go_num, by rw [mods_step _ _ hkl hlt40]; exact hown4.out, hbl4⟩, by simp [intOf]; omega⟩
    · have hfull : (mods xs).take k = mods xs := List.take_of_length_le (by rw [HML.out]; omega)
      rw [hfull] at hown
      clear hfull
      obtain ⟨A6, c6, rfl, hi6, hl6⟩ := hown.slice
      have hl40 : (mods xs).length ≤ 40 := by rw [HML.out]; omega
      obtain ⟨hr0, hr1, hr2⟩ := box3 (show Below (w1.alloc (.cells #[.int .i64 (mE n), .int .i64 (mF n), .int .i64 (mS n)] 23)).heap.size (w1.alloc (.cells #[.int .i64 (mE n), .int .i64 (mF n), .int .i64 (mS n)] 23)) wr from (by repeat (first | exact Below.refl _ _ | apply keep_alloc | apply keep_drew | apply keep_drewN | refine keep_step (by assumption) ?_ (by rfl) | refine keep_set ?_ _ _ (by first | exact Nat.le_refl _ | (show _ ≤ _; simp; done) | (show _ ≤ _; simp; omega)))))
      have hE : Hid (runErr (mE n) (mF n) (mS n) (mods xs) = 0) := Lib.hid (by
        unfold runErr
        rw [if_neg (by rw [m_chk]; simp), if_neg (by omega), mods_isl]; rfl)
      have hO : Hid (runOut (mE n) (mF n) (mS n) (mods xs) = runL (mE n) (mF n) (mS n) (mods xs)) := Lib.hid (by unfold runOut; rw [if_pos hE.out])
      have hC : Hid (chgOut (mE n) (mF n) (mS n) (mods xs) = chg (runL (mE n) (mF n) (mS n) (mods xs)) (mods xs).length) := Lib.hid (by unfold chgOut; rw [hO.out, runL_len])
      have hlt' : decide (k < len) = false ∨ (k < len ∧ decide ((k : Int) < 40) = false) := by simp; omega
      clear hlt
      rcases hlt' with hlt1 | ⟨hlt1, hlt2⟩
      all_goals
        go_wp2_with fail
        refine (pchanges (mE n) (mF n) (mS n) A6 (mods xs).length c6 (mods xs) _ i64_m1 i64_m2 i64_m3 rfl hl6 hi6).mono ?_
        rintro _ w5 ⟨A5, c5, rfl, hi5, hl5, hb5⟩
        rw [hC.out] at hi5 hl5
        rw [hC.out, hE.out]
        obtain ⟨hr0, hr1, hr2⟩ := box3 (show Below (w1.alloc (.cells #[.int .i64 (mE n), .int .i64 (mF n), .int .i64 (mS n)] 23)).heap.size (w1.alloc (.cells #[.int .i64 (mE n), .int .i64 (mF n), .int .i64 (mS n)] 23)) w5 from (by repeat (first | exact Below.refl _ _ | apply keep_alloc | apply keep_drew | apply keep_drewN | refine keep_step (by assumption) ?_ (by rfl) | refine keep_set ?_ _ _ (by first | exact Nat.le_refl _ | (show _ ≤ _; simp; done) | (show _ ≤ _; simp; omega)))))
        go_wp2_with fail
        refine (prun (mE n) (mF n) (mS n) A6 (mods xs).length c6 (mods xs) _ i64_m1 i64_m2 i64_m3 rfl hl6 (hi6.step (by repeat (first | exact Below.refl _ _ | apply keep_alloc | apply keep_drew | apply keep_drewN | refine keep_step (by assumption) ?_ (by rfl) | refine keep_set ?_ _ _ (by first | exact Nat.le_refl _ | (show _ ≤ _; simp; done) | (show _ ≤ _; simp; omega)))))).mono ?_
        rintro _ w6 ⟨A7, c7, rfl, hi7, hl7, hb7⟩
        rw [hO.out] at hi7 hl7
        rw [hO.out, hE.out, runL_len]
        go_wp2
        go_loopw [12] (SlowRel2 (chg (runL (mE n) (mF n) (mS n) (mods xs)) (mods xs).length).length w6) (fun v _ => (chg (runL (mE n) (mF n) (mS n) (mods xs)) (mods xs).length).length - (intOf v).toNat)
        case atStart => exact ⟨0, by omega, rfl, Below.refl _ _⟩
        case round =>
          obtain ⟨j, hj, rfl, hbj⟩ := hrel
          have hmle := chg_len (runL (mE n) (mF n) (mS n) (mods xs)) (mods xs).length
          obtain ⟨hr0, hr1, hr2⟩ := box3 (show Below (w1.alloc (.cells #[.int .i64 (mE n), .int .i64 (mF n), .int .i64 (mS n)] 23)).heap.size (w1.alloc (.cells #[.int .i64 (mE n), .int .i64 (mF n), .int .i64 (mS n)] 23)) wr from (by repeat (first | exact Below.refl _ _ | apply keep_alloc | apply keep_drew | apply keep_drewN | refine keep_step (by assumption) ?_ (by rfl) | refine keep_set ?_ _ _ (by first | exact Nat.le_refl _ | (show _ ≤ _; simp; done) | (show _ ≤ _; simp; omega)))))
          by_cases hjl : j < (chg (runL (mE n) (mF n) (mS n) (mods xs)) (mods xs).length).length
          · obtain ⟨b, eb, hb1', hb2', hpair⟩ := slowFacts (mE n) (mF n) (mS n) (m_nice n) (mods xs) j hjl
            obtain ⟨bA, oA, rfl, hcA⟩ := (hi5.step (w' := wr) (by repeat (first | exact Below.refl _ _ | apply keep_alloc | apply keep_drew | apply keep_drewN | refine keep_step (by assumption) ?_ (by rfl) | refine keep_set ?_ _ _ (by first | exact Nat.le_refl _ | (show _ ≤ _; simp; done) | (show _ ≤ _; simp; omega))))).cell hjl
            have hck := hcA j hjl
            rw [eb] at hck
            have hB1 : (1 : Int) ≤ (b : Int) := by omega
            have hB2 : (b : Int) < ((mods xs).length : Int) := by omega
            by_cases hj0 : 0 < j
            · obtain ⟨a, ea, ha1, hab, hslow⟩ := hpair hj0
              have hck1 := hcA (j - 1) (by omega)
              rw [ea] at hck1
              obtain ⟨bL, oL, rfl, hcL⟩ := (hi6.step (w' := wr) (by repeat (first | exact Below.refl _ _ | apply keep_alloc | apply keep_drew | apply keep_drewN | refine keep_step (by assumption) ?_ (by rfl) | refine keep_set ?_ _ _ (by first | exact Nat.le_refl _ | (show _ ≤ _; simp; done) | (show _ ≤ _; simp; omega))))).cell hb2'
              have hcL1 := hcL b hb2'
              have hcL2 := hcL a (by omega)
              obtain ⟨bR, oR, rfl, hcR⟩ := (hi7.step (w' := wr) (by repeat (first | exact Below.refl _ _ | apply keep_alloc | apply keep_drew | apply keep_drewN | refine keep_step (by assumption) ?_ (by rfl) | refine keep_set ?_ _ _ (by first | exact Nat.le_refl _ | (show _ ≤ _; simp; done) | (show _ ≤ _; simp; omega))))).cell (k := b) (by rw [runL_len]; exact hb2')
              have hcR1 := hcR b (by rw [runL_len]; exact hb2')
              have hcR2 := hcR (a - 1) (by rw [runL_len]; omega)
              have hmb := mods_rng xs b
              have hma := mods_rng xs a
              have hms := m_rng n
              clear hcA hcL hcR hpair eb ea
              have hj1 : ((j : Int) - 1).toNat = j - 1 := by omega
              have hj2 : (0 : Int) ≤ (j : Int) - 1 := by omega
              have hj3 : (j : Int) - 1 < ((chg (runL (mE n) (mF n) (mS n) (mods xs)) (mods xs).length).length : Int) := by omega
              have hjb : ((j : Int) == 0) = false := by simp; omega
              have hA1 : (0 : Int) ≤ (a : Int) := by omega
              have hA2 : (a : Int) < ((mods xs).length : Int) := by omega
              have hA3 : (a : Int) < (b : Int) := by omega
              have hA4 : (0 : Int) ≤ (a : Int) - 1 := by omega
              have hA5 : (a : Int) - 1 < ((mods xs).length : Int) := by omega
              have hA6 : ((a : Int) - 1).toNat = a - 1 := by omega
              have hs1 := (show IntKind.i64.wrap ((a : Int) - 1) = (a : Int) - 1 from Go.IntWalk.i64_in _ ⟨by omega, by omega⟩)
              have hs2 := (show IntKind.i64.wrap (nth (mods xs) b - nth (mods xs) a) = nth (mods xs) b - nth (mods xs) a from Go.IntWalk.i64_in _ ⟨by omega, by omega⟩)
              have hs3 := (show IntKind.i64.wrap (-(nth (mods xs) b - nth (mods xs) a)) = -(nth (mods xs) b - nth (mods xs) a) from Go.IntWalk.i64_in _ ⟨by omega, by omega⟩)
              have hcase : ((nth (runL (mE n) (mF n) (mS n) (mods xs)) b == nth (runL (mE n) (mF n) (mS n) (mods xs)) (a - 1)) = false) ∨
                  ((nth (runL (mE n) (mF n) (mS n) (mods xs)) b == nth (runL (mE n) (mF n) (mS n) (mods xs)) (a - 1)) = true ∧ decide (nth (mods xs) b - nth (mods xs) a ≤ mS n) = false) ∨
                  ((nth (runL (mE n) (mF n) (mS n) (mods xs)) b == nth (runL (mE n) (mF n) (mS n) (mods xs)) (a - 1)) = true ∧ nth (mods xs) b - nth (mods xs) a ≤ mS n ∧ decide (-(nth (mods xs) b - nth (mods xs) a) ≤ mS n) = false) := by
                by_cases h : nth (runL (mE n) (mF n) (mS n) (mods xs)) b = nth (runL (mE n) (mF n) (mS n) (mods xs)) (a - 1)
                · right
                  have := hslow h
                  by_cases h2 : nth (mods xs) b - nth (mods xs) a ≤ mS n
                  · right; exact ⟨by simp [h], h2, by simp; omega⟩
                  · left; exact ⟨by simp [h], by simp; omega⟩
                · left; simp [h]
              clear hslow
              rcases hcase with g1 | ⟨g1, g2⟩ | ⟨g1, g2, g3⟩
              all_goals
                go_wp2
                go_quiet (fail)
                go_wp2
                go_quiet (fail)
                go_wp2
                exact ⟨⟨j + 1, by omega, by go_num, (by repeat (first | exact Below.refl _ _ | apply keep_alloc | apply keep_drew | apply keep_drewN | refine keep_step (by assumption) ?_ (by rfl) | refine keep_set ?_ _ _ (by first | exact Nat.le_refl _ | (show _ ≤ _; simp; done) | (show _ ≤ _; simp; omega))))⟩, by simp [intOf]; omega⟩
            · have hjb : ((j : Int) == 0) = true := by simp; omega
              have hjd : decide (0 < j) = false := by simpa using hj0
              clear hcA hpair eb
              go_wp2
              exact ⟨⟨j + 1, by omega, by go_num, (by repeat (first | exact Below.refl _ _ | apply keep_alloc | apply keep_drew | apply keep_drewN | refine keep_step (by assumption) ?_ (by rfl) | refine keep_set ?_ _ _ (by first | exact Nat.le_refl _ | (show _ ≤ _; simp; done) | (show _ ≤ _; simp; omega))))⟩, by simp [intOf]; omega⟩
          · go_wp2_with (first | (go_at_call 17; (apply Calls.mono; (focus ((first | (with_reducible exact awake_true) | (apply awake_true <;> first | (with_reducible assumption) | (first | omega | (simp only [Bool.not_eq_true', Bool.not_eq_false', beq_iff_eq, beq_eq_false_iff_ne, ne_eq, bne_iff_ne, bne_eq_false_iff_eq, Bool.not_eq_true, Bool.not_eq_false, decide_eq_true_eq, decide_eq_false_iff_not, Bool.and_eq_true, Bool.or_eq_true] at *; omega) | (simp only [Bool.not_eq_true', Bool.not_eq_false', beq_iff_eq, beq_eq_false_iff_ne, ne_eq, bne_iff_ne, bne_eq_false_iff_eq, Bool.not_eq_true, Bool.not_eq_false, decide_eq_true_eq, decide_eq_false_iff_not, Bool.and_eq_true, Bool.or_eq_true, wrap64] at *; omega)))); done))); rintro e w' ⟨rfl, hb⟩; obtain ⟨hc, hf⟩ := bcell (show Below w.heap.size w w' from (by repeat (first | exact Below.refl _ _ | apply keep_alloc | apply keep_drew | apply keep_drewN | refine keep_step (by assumption) ?_ (by rfl) | refine keep_set ?_ _ _ (by first | exact Nat.le_refl _ | (show _ ≤ _; simp; done) | (show _ ≤ _; simp; omega)))))))
            go_ret
            exact ⟨rfl, (by repeat (first | exact Below.refl _ _ | apply keep_alloc | apply keep_drew | apply keep_drewN | refine keep_step (by assumption) ?_ (by rfl) | refine keep_set ?_ _ _ (by first | exact Nat.le_refl _ | (show _ ≤ _; simp; done) | (show _ ≤ _; simp; omega))))⟩
end Go.Proofs.Ytfpeojpligkbjaa
