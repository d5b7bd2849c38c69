/- Layer 2: MaskWalks, out of its contract. -/
import Derived.Test.YtboobndcgilmlaaDoorOgL
import Derived.Test.YtboobndcgilmlaaDoorMK
import Derived.Test.YtboobndcgilmlaaDoorFrL
namespace Go.Proofs.YtboobndcgilmlaaDoor
open Go Go.RowKit
set_option linter.unusedVariables false
theorem lsF_no {m : Int} : ∀ (k i : Nat), (lsF m k i).length = 0 → ∀ q : Nat, i ≤ q → q < i + k → tb m q = false
  | 0, i, h, q, h1, h2 => by omega
  | k + 1, i, h, q, h1, h2 => by
    cases e : tb m i with
    | true => simp only [lsF, e, cond_true] at h; simp at h
    | false =>
      simp only [lsF, e, cond_false] at h
      rcases (by omega : q = i ∨ i + 1 ≤ q) with c | c
      · rw [c]; exact e
      · exact lsF_no k (i + 1) h q c (by omega)
theorem hs_nat {m : Int} {q : Int} (h : ∀ j : Nat, (j : Int) = q → j < 64 → tb m j = false) : hs m q = false := by
  by_cases c : 0 ≤ q ∧ q < 64
  · unfold hs
    rw [h q.toNat (by omega) (by omega), Bool.and_false]
  · exact hs_out c
theorem hs_of {m : Int} {j : Nat} (h : tb m j = true) (hj : j < 64) : hs m (j : Int) = true := by
  unfold hs; rw [decide_eq_true (by omega), Int.toNat_natCast, h]; rfl
theorem ls_at {m : Int} {n : Nat} (h : n < (lsL m).length) : ∃ j : Int, el (lsL m) (n : Int) = j ∧ 0 ≤ j ∧ j < 64 ∧ hs m j = true ∧ (n + 1 < (lsL m).length → IsAbove m j (el (lsL m) ((n + 1 : Nat) : Int)) 0) ∧ (n + 1 = (lsL m).length → IsAbove m j 0 6) ∧ (n = 0 → IsBelow m j 0 6) := by
  unfold lsL at h ⊢
  obtain ⟨j, h1, h2, h3, h4, h5, h6, h7, h8⟩ := lsF_at 64 0 n h
  refine ⟨(j : Int), h1, by omega, by omega, hs_of h4 (by omega), fun hn => ?_, fun hn => ?_, fun hn => ?_⟩
  · obtain ⟨i, g1, g2, g3, g4, _⟩ := lsF_at 64 0 (n + 1) hn
    have l := h6 hn
    rw [g1] at l ⊢
    refine ⟨fun e => by simp at e, fun _ => ⟨by omega, l, hs_of g4 (by omega), fun q a b => hs_nat fun x hx _ => h5 x hn (by omega) (by rw [g1]; omega)⟩, .inl rfl⟩
  · exact ⟨fun _ => ⟨rfl, fun q a => hs_nat fun x hx h64 => h7 hn x (by omega) (by omega)⟩, fun e => by simp at e, .inr rfl⟩
  · exact ⟨fun _ => ⟨rfl, fun q a => hs_nat fun x hx h64 => h8 hn x (by omega) (by omega)⟩, fun e => by simp at e, .inr rfl⟩
theorem ls_below {m : Int} {n : Nat} (h : n + 1 < (lsL m).length) : IsBelow m (el (lsL m) ((n + 1 : Nat) : Int)) (el (lsL m) (n : Int)) 0 := by
  obtain ⟨j, h1, h2, h3, h4, h5, _⟩ := ls_at (m := m) (n := n) (by omega)
  obtain ⟨a, b, c, d⟩ := (h5 h).some rfl
  rw [h1]
  exact ⟨fun e => by simp at e, fun _ => ⟨h2, b, h4, d⟩, .inl rfl⟩
theorem mwA_go {m : Int} (hw : isW m = true) : ∀ (k i : Nat), i + k = (lsL m).length → mwA_f m (k + 1) (i : Int) = some (1, ((lsL m).length : Int)) := by
  have hl := lsL_le m
  intro k
  induction k with
  | zero =>
    intro i h
    rw [mwA_f, decide_eq_true (by omega), cond_true, decide_eq_false (by omega), cond_false, show (i : Int) = ((lsL m).length : Int) by omega]
  | succ k ih =>
    intro i h
    have hi := ih (i + 1) (by omega)
    obtain ⟨j, h1, h2, h3, h4, h5, h6, h7⟩ := ls_at (m := m) (n := i) (by omega)
    have A := abV_is hw (f := j) ⟨h2, h3⟩
    have B := beV_is hw (f := j) ⟨h2, h3⟩
    have w1 : IntKind.i64.wrap ((i : Int) + 1) = ((i + 1 : Nat) : Int) := by rw [i64s (by omega)]; rfl
    rw [mwA_f, decide_eq_true (by omega), cond_true, decide_eq_true (by omega), cond_true, w1, hi]
    have bel : (bif decide ((i : Int) > 0) then (bif (beE m j == (0 : Int)) then (bif (!beV m j == el (lsL m) (IntKind.i64.wrap ((i : Int) - (1 : Int)))) then some (0, (i : Int)) else some (1, ((lsL m).length : Int))) else some (0, (i : Int))) else (bif (beE m j != (6 : Int)) then some (0, (i : Int)) else some (1, ((lsL m).length : Int)))) = some (1, ((lsL m).length : Int)) := by
      cases i with
      | zero =>
        rw [decide_eq_false (by omega), cond_false]
        obtain ⟨_, e⟩ := B.uniq (h7 rfl)
        rw [e]; rfl
      | succ n =>
        have q := ls_below (m := m) (n := n) (by omega)
        rw [h1] at q
        obtain ⟨e1, e2⟩ := B.uniq q
        rw [decide_eq_true (by omega), cond_true, e2, e1, i64s (by omega), show ((n + 1 : Nat) : Int) - 1 = (n : Int) by omega]
        simp
    rw [h1, h4, Bool.not_true, cond_false]
    by_cases c : i + 1 < (lsL m).length
    · obtain ⟨e1, e2⟩ := A.uniq (h5 c)
      rw [decide_eq_true (by omega), cond_true, e1, e2, show ((0 : Int) == 0) = true from rfl, cond_true]
      rw [show (!el (lsL m) ((i + 1 : Nat) : Int) == el (lsL m) ((i + 1 : Nat) : Int)) = false by simp, cond_false]
      exact bel
    · obtain ⟨e1, e2⟩ := A.uniq (h6 (by omega))
      rw [decide_eq_false (by omega), cond_false, e2, show ((6 : Int) != 6) = false from rfl, cond_false]
      exact bel
def In64 (n : Int) : Prop := -9223372036854775808 ≤ n ∧ n ≤ 9223372036854775807
theorem walks_law {m : Int} (hw : isW m = true) : KnownR Tryd.prog knMaskKnownL 8 [.val (.int .u64 m)] (.bool true) [] := by
  have hl := lsL_le m
  have hc := lsL_len m
  have g := mwA_go hw (lsL m).length 0 (by omega)
  have ho := mwA_ok m hw (by omega) hc _ _ _ g
  have k := mw1 m _ hw (by omega) hc hw (by rw [hc]; simp) ho
  have e : mw1_c0 m ((lsL m).length : Int) = true := by
    unfold mw1_c0
    by_cases c : 0 < (lsL m).length
    · rw [decide_eq_true (by omega), cond_true]
      obtain ⟨j, h1, h2, h3, h4, _, _, h7⟩ := ls_at (m := m) (n := 0) c
      rw [show el (lsL m) (0 : Int) = j from h1]
      by_cases z : j = 0
      · subst z; rw [h4]; rfl
      · rw [((h7 rfl).none rfl).2 0 (by omega), show (j == 0) = false by simpa using z]; rfl
    · rw [decide_eq_false (by omega), cond_false]
      have z : hs m 0 = false := hs_nat fun x hx h64 => lsF_no 64 0 (by unfold lsL at c; omega) x (by omega) (by omega)
      rw [z]; rfl
  rw [e] at k
  exact k
theorem maskWalks_true (m : Int) (w : World) (hm : (Lit.int .u64 m).wf = true) (hl : LaidL knMaskKnownL w) :
    Calls Tryd.prog 8 #[.int .u64 m] w fun e w' => e = .returned (.bool true) ∧ Below w.heap.size w w' := by
  have hw : isW m = true := by
    simp [Lit.wf, IntKind.min, IntKind.max, IntKind.signed, IntKind.bits] at hm
    exact decide_eq_true (by omega)
  exact knownR_law (walks_law hw) hl (.cons (.val rfl) .nil)
end Go.Proofs.YtboobndcgilmlaaDoor
