/- Layer 2: the reference's searches find what the program finds. -/
import Derived.Test.YtboobndcgilmlaaDoorOgI
namespace Go.Proofs.YtboobndcgilmlaaDoor
open Go Go.RowKit
set_option linter.unusedVariables false
theorem IsAbove.uniq {m f v e v' e' : Int} (a : IsAbove m f v e) (b : IsAbove m f v' e') : v = v' ∧ e = e' := by
  rcases a.err with e0 | e0 <;> rcases b.err with e1 | e1
  · obtain ⟨a1, a2, a3, a4⟩ := a.some e0
    obtain ⟨b1, b2, b3, b4⟩ := b.some e1
    refine ⟨?_, by omega⟩
    rcases (by omega : v < v' ∨ v = v' ∨ v' < v) with c | c | c
    · rw [b4 v a2 c] at a3; cases a3
    · exact c
    · rw [a4 v' b2 c] at b3; cases b3
  · obtain ⟨a1, a2, a3, a4⟩ := a.some e0
    rw [(b.none e1).2 v a2] at a3; cases a3
  · obtain ⟨b1, b2, b3, b4⟩ := b.some e1
    rw [(a.none e0).2 v' b2] at b3; cases b3
  · exact ⟨by rw [(a.none e0).1, (b.none e1).1], by omega⟩
theorem IsBelow.uniq {m f v e v' e' : Int} (a : IsBelow m f v e) (b : IsBelow m f v' e') : v = v' ∧ e = e' := by
  rcases a.err with e0 | e0 <;> rcases b.err with e1 | e1
  · obtain ⟨a1, a2, a3, a4⟩ := a.some e0
    obtain ⟨b1, b2, b3, b4⟩ := b.some e1
    refine ⟨?_, by omega⟩
    rcases (by omega : v < v' ∨ v = v' ∨ v' < v) with c | c | c
    · rw [a4 v' c b2] at b3; cases b3
    · exact c
    · rw [b4 v c a2] at a3; cases a3
  · obtain ⟨a1, a2, a3, a4⟩ := a.some e0
    rw [(b.none e1).2 v a2] at a3; cases a3
  · obtain ⟨b1, b2, b3, b4⟩ := b.some e1
    rw [(a.none e0).2 v' b2] at b3; cases b3
  · exact ⟨by rw [(a.none e0).1, (b.none e1).1], by omega⟩
theorem IsNear.uniq {m f v e v' e' : Int} (a : IsNear m f v e) (b : IsNear m f v' e') : v = v' ∧ e = e' := by
  rcases a.err with e0 | e0 <;> rcases b.err with e1 | e1
  · have x := (a.some e0).2 v' (b.some e1).1
    have y := (b.some e1).2 v (a.some e0).1
    exact ⟨by omega, by omega⟩
  · have x := (a.some e0).1
    rw [(b.none e1).2 v] at x; cases x
  · have x := (b.some e1).1
    rw [(a.none e0).2 v'] at x; cases x
  · exact ⟨by rw [(a.none e0).1, (b.none e1).1], by omega⟩
theorem hs_out {m j : Int} (h : ¬ (0 ≤ j ∧ j < 64)) : hs m j = false := by unfold hs; rw [decide_eq_false h, Bool.false_and]
theorem abA_go {m f : Int} (hf : 0 ≤ f ∧ f < 64) : ∀ (k : Nat) (i : Int), i + k = 64 → f < i → (∀ j : Int, f < j → j < i → hs m j = false) → (∃ z, abA_f m f (k + 1) i = some (0, z) ∧ IsAbove m f z 0) ∨ (∃ z, abA_f m f (k + 1) i = some (1, z) ∧ IsAbove m f 0 6) := by
  intro k
  induction k with
  | zero =>
    intro i h hi hn
    refine .inr ⟨i, ?_, ⟨fun _ => ⟨rfl, fun j hj => ?_⟩, fun e => by simp at e, .inr rfl⟩⟩
    · rw [abA_f, decide_eq_true (by omega), cond_true, decide_eq_false (by omega), cond_false]
    · rcases (by omega : j < i ∨ 64 ≤ j) with c | c
      · exact hn j hj c
      · exact hs_out (by omega)
  | succ k ih =>
    intro i h hi hn
    have w1 : IntKind.i64.wrap (i + 1) = i + 1 := i64s (by omega)
    rw [abA_f, decide_eq_true (by omega), cond_true, decide_eq_true (by omega), cond_true, w1]
    cases e : hs m i with
    | true => exact .inl ⟨i, by rw [cond_true], ⟨fun e => by simp at e, fun _ => ⟨by omega, hi, e, hn⟩, .inl rfl⟩⟩
    | false =>
      rw [cond_false]
      refine ih (i + 1) (by omega) (by omega) fun j h1 h2 => ?_
      rcases (by omega : j < i ∨ j = i) with c | c
      · exact hn j h1 c
      · rw [c]; exact e
theorem blA_go {m f : Int} (hf : 0 ≤ f ∧ f < 64) : ∀ (k : Nat) (i : Int), i = (k : Int) - 1 → i < f → (∀ j : Int, i < j → j < f → hs m j = false) → (∃ z, blA_f m f (k + 1) i = some (0, z) ∧ IsBelow m f z 0) ∨ (∃ z, blA_f m f (k + 1) i = some (1, z) ∧ IsBelow m f 0 6) := by
  intro k
  induction k with
  | zero =>
    intro i h hi hn
    refine .inr ⟨i, ?_, ⟨fun _ => ⟨rfl, fun j hj => ?_⟩, fun e => by simp at e, .inr rfl⟩⟩
    · rw [blA_f, decide_eq_true (by omega), cond_true, decide_eq_false (by omega), cond_false]
    · rcases (by omega : i < j ∨ j < 0) with c | c
      · exact hn j c hj
      · exact hs_out (by omega)
  | succ k ih =>
    intro i h hi hn
    have w1 : IntKind.i64.wrap (i - 1) = i - 1 := i64s (by omega)
    rw [blA_f, decide_eq_true (by omega), cond_true, decide_eq_true (by omega), cond_true, w1]
    cases e : hs m i with
    | true => exact .inl ⟨i, by rw [cond_true], ⟨fun e => by simp at e, fun _ => ⟨by omega, hi, e, fun j h1 h2 => hn j h1 h2⟩, .inl rfl⟩⟩
    | false =>
      rw [cond_false]
      refine ih (i - 1) (by omega) (by omega) fun j h1 h2 => ?_
      rcases (by omega : i < j ∨ j = i) with c | c
      · exact hn j c h2
      · rw [c]; exact e
theorem nrA_go {m f : Int} (hf : 0 ≤ f ∧ f < 64) : ∀ (k : Nat) (d : Int), d + k = 64 → 0 ≤ d → (∀ j : Int, ds j f < d → hs m j = false) → (∃ z, 0 ≤ z ∧ z < 64 ∧ nrA_f m f (k + 1) d = some (0, z) ∧ IsNear m f (f - z) 0) ∨ (∃ z, 0 ≤ z ∧ z < 64 ∧ nrA_f m f (k + 1) d = some (1, z) ∧ IsNear m f (f + z) 0) ∨ (∃ z, nrA_f m f (k + 1) d = some (2, z) ∧ IsNear m f 0 6) := by
  intro k
  induction k with
  | zero =>
    intro d h h0 hn
    have hall : ∀ j : Int, hs m j = false := fun j => by
      by_cases c : 0 ≤ j ∧ j < 64
      · exact hn j (by unfold ds; omega)
      · exact hs_out c
    refine .inr (.inr ⟨d, ?_, ⟨fun _ => ⟨rfl, hall⟩, fun e => by simp at e, fun e => absurd ((hall f).symm.trans e) (by decide), .inr rfl⟩⟩)
    rw [nrA_f, decide_eq_true (by omega), cond_true, decide_eq_false (by omega), cond_false]
  | succ k ih =>
    intro d h h0 hn
    have w1 : IntKind.i64.wrap (d + 1) = d + 1 := i64s (by omega)
    have w2 : IntKind.i64.wrap (f - d) = f - d := i64s (by omega)
    have w3 : IntKind.i64.wrap (f + d) = f + d := i64s (by omega)
    rw [nrA_f, decide_eq_true (by omega), cond_true, decide_eq_true (by omega), cond_true, w1, w2, w3]
    have far : ∀ j : Int, hs m j = true → d ≤ ds j f := fun j hj => by
      rcases (by omega : ds j f < d ∨ d ≤ ds j f) with c | c
      · rw [hn j c] at hj; cases hj
      · exact c
    cases e : hs m (f - d) with
    | true =>
      refine .inl ⟨d, h0, by omega, by rw [cond_true], ⟨fun e => by simp at e, fun _ => ⟨e, fun j hj => ?_⟩, fun e2 => ?_, .inl rfl⟩⟩
      · have := far j hj
        unfold ds at *; omega
      · have := far f e2
        unfold ds at this
        exact ⟨by omega, rfl⟩
    | false =>
      rw [cond_false]
      cases e2 : hs m (f + d) with
      | true =>
        refine .inr (.inl ⟨d, h0, by omega, by rw [cond_true], ⟨fun e => by simp at e, fun _ => ⟨e2, fun j hj => ?_⟩, fun e3 => ?_, .inl rfl⟩⟩)
        · have := far j hj
          have hne : j ≠ f - d := fun c => by rw [c, e] at hj; cases hj
          unfold ds at *; omega
        · have := far f e3
          unfold ds at this
          exact ⟨by omega, rfl⟩
      | false =>
        rw [cond_false]
        refine ih (d + 1) (by omega) (by omega) fun j hj => ?_
        rcases (by omega : ds j f < d ∨ ds j f = d) with c | c
        · exact hn j c
        · unfold ds at c
          rcases (by omega : j = f - d ∨ j = f + d) with c | c
          · rw [c]; exact e
          · rw [c]; exact e2
theorem abO {m f : Int} (h : ¬ (0 ≤ f ∧ f < 64)) : abV m f = 0 ∧ abE m f = 2 := by
  unfold abV abE abP_c0 abP_c1
  by_cases c : f ≥ 0
  · rw [decide_eq_true c, cond_true, cond_true, decide_eq_false (by omega : ¬ f < 64)]; exact ⟨rfl, rfl⟩
  · rw [decide_eq_false c]; exact ⟨rfl, rfl⟩
theorem beO {m f : Int} (h : ¬ (0 ≤ f ∧ f < 64)) : beV m f = 0 ∧ beE m f = 2 := by
  unfold beV beE beP_c0 beP_c1
  by_cases c : f ≥ 0
  · rw [decide_eq_true c, cond_true, cond_true, decide_eq_false (by omega : ¬ f < 64)]; exact ⟨rfl, rfl⟩
  · rw [decide_eq_false c]; exact ⟨rfl, rfl⟩
theorem neO {m f : Int} (h : ¬ (0 ≤ f ∧ f < 64)) : neV m f = 0 ∧ neE m f = 2 := by
  unfold neV neE neP_c0 neP_c1
  rw [hs_out h, (beO h).2]
  exact ⟨rfl, rfl⟩
theorem rabove_k {m : Int} (hw : isW m = true) (f : Int) : Known Tryd.prog knMaskKnownL 12 [.int .u64 m, .int .i64 f] (.tuple #[.int .i64 (abV m f), .int .i64 (abE m f)]) := by
  by_cases hf : 0 ≤ f ∧ f < 64
  · have A := abV_is hw hf
    have w1 : IntKind.i64.wrap (f + 1) = f + 1 := i64s (by omega)
    rcases abA_go (m := m) hf (64 - (f + 1)).toNat (f + 1) (by omega) (by omega) (fun j h1 h2 => by omega) with ⟨z, hz, B⟩ | ⟨z, hz, B⟩
    · have k := ab0 m f z hw hf (decide_eq_false (by omega)) (decide_eq_false (by omega)) (abA_ok m f hw hf _ _ _ (by rw [w1]; exact hz))
      obtain ⟨e1, e2⟩ := A.uniq B
      unfold ab0_c0 at k
      rw [e1, e2]; exact k
    · have k := ab1 m f z hw hf (decide_eq_false (by omega)) (decide_eq_false (by omega)) (abA_ok m f hw hf _ _ _ (by rw [w1]; exact hz))
      obtain ⟨e1, e2⟩ := A.uniq B
      rw [e1, e2]; exact k
  · rw [(abO hf).1, (abO hf).2]
    exact ab2 m f hf
theorem rbelow_k {m : Int} (hw : isW m = true) (f : Int) : Known Tryd.prog knMaskKnownL 14 [.int .u64 m, .int .i64 f] (.tuple #[.int .i64 (beV m f), .int .i64 (beE m f)]) := by
  by_cases hf : 0 ≤ f ∧ f < 64
  · have A := beV_is hw hf
    have w1 : IntKind.i64.wrap (f - 1) = f - 1 := i64s (by omega)
    rcases blA_go (m := m) hf f.toNat (f - 1) (by omega) (by omega) (fun j h1 h2 => by omega) with ⟨z, hz, B⟩ | ⟨z, hz, B⟩
    · have k := bl0 m f z hw hf (decide_eq_false (by omega)) (decide_eq_false (by omega)) (blA_ok m f hw hf _ _ _ (by rw [w1]; exact hz))
      obtain ⟨e1, e2⟩ := A.uniq B
      unfold bl0_c0 at k
      rw [e1, e2]; exact k
    · have k := bl1 m f z hw hf (decide_eq_false (by omega)) (decide_eq_false (by omega)) (blA_ok m f hw hf _ _ _ (by rw [w1]; exact hz))
      obtain ⟨e1, e2⟩ := A.uniq B
      rw [e1, e2]; exact k
  · rw [(beO hf).1, (beO hf).2]
    exact bl2 m f hf
theorem rnear_k {m : Int} (hw : isW m = true) (f : Int) : Known Tryd.prog knMaskKnownL 16 [.int .u64 m, .int .i64 f] (.tuple #[.int .i64 (neV m f), .int .i64 (neE m f)]) := by
  by_cases hf : 0 ≤ f ∧ f < 64
  · have A := near_is hw hf
    rcases nrA_go (m := m) hf 64 0 (by omega) (by omega) (fun j h => by unfold ds at h; omega) with ⟨z, z0, z1, hz, B⟩ | ⟨z, z0, z1, hz, B⟩ | ⟨z, hz, B⟩
    · have k := nr0 m f z hw hf (decide_eq_false (by omega)) (decide_eq_false (by omega)) (nrA_ok m f hw hf _ _ _ hz)
      obtain ⟨e1, e2⟩ := A.uniq B
      unfold nr0_c0 at k
      rw [i64s (by omega)] at k
      rw [e1, e2]; exact k
    · have k := nr1 m f z hw hf (decide_eq_false (by omega)) (decide_eq_false (by omega)) (nrA_ok m f hw hf _ _ _ hz)
      obtain ⟨e1, e2⟩ := A.uniq B
      unfold nr1_c0 at k
      rw [i64s (by omega)] at k
      rw [e1, e2]; exact k
    · have k := nr2 m f z hw hf (decide_eq_false (by omega)) (decide_eq_false (by omega)) (nrA_ok m f hw hf _ _ _ hz)
      obtain ⟨e1, e2⟩ := A.uniq B
      rw [e1, e2]; exact k
  · rw [(neO hf).1, (neO hf).2]
    exact nr3 m f hf
theorem rcount_k {m : Int} (hw : isW m = true) : KnownR Tryd.prog knMaskKnownL 20 [.val (.int .u64 m)] (.int .i64 (bctI m)) [] := by
  have k := rco m hw
  unfold rco_c0 at k
  rw [lsL_len] at k
  exact k
end Go.Proofs.YtboobndcgilmlaaDoor
