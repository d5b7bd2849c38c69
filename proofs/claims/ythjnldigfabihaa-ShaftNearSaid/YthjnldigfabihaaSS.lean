/- Layer 7: gaps made of numbers; ShaftParts. -/
import Derived.Test.YthjnldigfabihaaSR
namespace Go.Proofs.Ythjnldigfabihaa
open Go.RowKit
set_option linter.unusedVariables false

theorem ownInts_mine (A : Option Addr) (n cap : Nat) (xs : List Int) (w : World) (hn : xs.length = n) (hm : n ≤ 17592186044415) (hA : Ints w A xs) :
    Calls Try.prog 10 #[.slice A n cap] w fun e w' => ∃ v, e = .returned v ∧ Mine w.heap.size w' v xs ∧ Below w.heap.size w w' := by
  have HN := Lib.hid hn
  have hlen : ([] : List Int).length + n ≤ 17592186044415 := by simpa using hm
  clear hn
  go_enter Try.func10, Try.ntmps10
  go_wp2_with (first | (at_builtin; refine join_int rfl _ _ rfl w _ [] xs A n cap rfl rfl HN.out (hA.step (by repeat (first | exact Below.refl _ _ | apply keep_alloc | apply keep_drew | apply keep_drewN | refine keep_step (by assumption) ?_ (by rfl) | refine keep_set ?_ _ _ (by first | exact Nat.le_refl _ | (show _ ≤ _; simp; done) | (show _ ≤ _; simp; omega))))) (Mine.made w) (by repeat (first | exact Below.refl _ _ | apply keep_alloc | apply keep_drew | apply keep_drewN | refine keep_step (by assumption) ?_ (by rfl) | refine keep_set ?_ _ _ (by first | exact Nat.le_refl _ | (show _ ≤ _; simp; done) | (show _ ≤ _; simp; omega)))) hlen ?_; intro v1 w1 hown hb; have H1 := Lib.hid hown; clear hown) | go_in)
  go_ret
  exact ⟨v1, rfl, by simpa using H1.out, hb⟩

def MdRel (len : Nat) (w : World) (v3 v4 : Value) (wr : World) : Prop :=
  ∃ (k : Nat) (gs : List Int), k ≤ len ∧ k ≤ 40 ∧ v4 = .int .i64 k ∧ gs.length = k + 1 ∧ (∀ i, i < gs.length → good (nth gs i)) ∧ Mine w.heap.size wr v3 gs ∧ Below w.heap.size w wr

theorem good_push {gs : List Int} {y : Int} (h : ∀ i, i < gs.length → good (nth gs i)) (hy : good y) : ∀ i, i < (gs ++ [y]).length → good (nth (gs ++ [y]) i) := fun i hi => by
  by_cases e : i < gs.length
  · rw [nth_append_left e]; exact h i e
  · have : i = gs.length := by simp at hi; omega
    subst this
    rw [nth_eq hi]; simpa using hy

set_option maxHeartbeats 4000000 in
theorem made_any (A : Option Addr) (len cap : Nat) (xs : List Int) (w : World) (hl : xs.length = len) (hm : len ≤ maxLen) (hA : Ints w A xs) (hb : ∀ x ∈ xs, In64 x) :
    Calls Try.prog 30 #[.slice A len cap] w fun e w' => ∃ (gs : List Int) (B : Option Addr) (n c : Nat), Fine gs ∧ gs.length = n ∧ n ≤ 41 ∧ e = .returned (.slice B n c) ∧ Ints w' B gs ∧ Below w.heap.size w w' := by
  unfold maxLen at hm
  have HL := Lib.hid hl
  have HB := Lib.hid hb
  have r0 : 0 ≤ (len : Int) % 7 ∧ (len : Int) % 7 ≤ 6 := by omega
  clear hb hl
  go_enter Try.func30, Try.ntmps30
  go_wp2_with fail
  refine (mod_any len 7 _ ⟨by omega, by omega⟩ (by decide)).mono ?_
  rintro _ w0 ⟨rfl, hb0⟩
  rw [if_neg (by decide)]
  obtain ⟨d, hd⟩ : ∃ d, d = (len : Int) % 7 := ⟨_, rfl⟩
  rw [← hd] at r0 ⊢
  obtain ⟨r1, r2⟩ := r0
  clear hd
  go_wp2
  go_loopw [3, 4] (MdRel len w) (fun _ v _ => len - (intOf v).toNat)
  case atStart => exact ⟨0, [1 + d], by omega, by omega, rfl, rfl, fun i hi => by
    have : i = 0 := by simp at hi; omega
    subst this
    show good (1 + d)
    unfold good; omega, (by
      obtain ⟨h1, h2⟩ := Mine.one w0 (1 + d)
      rcases h2 with ⟨h3, h4⟩ | ⟨g, c, cur, h3, h4, h5⟩
      · exact ⟨h1, .inl ⟨h3, h4⟩⟩
      · exact ⟨h1, .inr ⟨g, c, cur, h3, Nat.le_trans hb0.size h4, h5⟩⟩), (by repeat (first | exact Below.refl _ _ | apply keep_alloc | apply keep_drew | apply keep_drewN | refine keep_step (by assumption) ?_ (by rfl) | refine keep_set ?_ _ _ (by first | exact Nat.le_refl _ | (show _ ≤ _; simp; done) | (show _ ≤ _; simp; omega))))⟩
  case round =>
    obtain ⟨k, gs, hk, hk40, rfl, hgl, hgd, hown, hbl⟩ := hrel
    have HGL := Lib.hid hgl
    have HGD := Lib.hid hgd
    clear hgl hgd
    by_cases hlt : k < len ∧ k < 40
    · obtain ⟨hlt1, hlt2⟩ := hlt
      obtain ⟨b, o, rfl, hc⟩ := (hA.step hbl).cell (k := k) (by rw [HL.out]; exact hlt1)
      have c1 := hc k (by rw [HL.out]; exact hlt1)
      have h64 : In64 (nth xs k) := by rw [nth_eq (by rw [HL.out]; exact hlt1)]; exact HB.out _ (List.getElem_mem _)
      have hlen2 : gs.length ≤ 17592186044414 := by rw [HGL.out]; omega
      clear hc
      go_wp2_with fail
      refine (mod_any (nth xs k) 30 _ h64 (by decide)).mono ?_
      rintro _ w1 ⟨rfl, hb1⟩
      rw [if_neg (by decide)]
      have hr1 : 0 ≤ nth xs k % 30 ∧ nth xs k % 30 ≤ 29 := by omega
      obtain ⟨d, hd⟩ : ∃ d, d = nth xs k % 30 := ⟨_, rfl⟩
      rw [← hd] at hr1 ⊢
      obtain ⟨d1, d2⟩ := hr1
      clear hd
      have hown1 : Mine w.heap.size w1 _ gs := hown.step hb1
      have hbl1 : Below w.heap.size w w1 := (by repeat (first | exact Below.refl _ _ | apply keep_alloc | apply keep_drew | apply keep_drewN | refine keep_step (by assumption) ?_ (by rfl) | refine keep_set ?_ _ _ (by first | exact Nat.le_refl _ | (show _ ≤ _; simp; done) | (show _ ≤ _; simp; omega))))
      go_wp2_with (first | (at_builtin; refine push_int rfl _ _ (by rfl) w _ _ _ (by rfl) (by rfl) (by first | rfl | simp) (hown1.step (by repeat (first | exact Below.refl _ _ | apply keep_alloc | apply keep_drew | apply keep_drewN | refine keep_step (by assumption) ?_ (by rfl) | refine keep_set ?_ _ _ (by first | exact Nat.le_refl _ | (show _ ≤ _; simp; done) | (show _ ≤ _; simp; omega))))) (by repeat (first | exact Below.refl _ _ | apply keep_alloc | apply keep_drew | apply keep_drewN | refine keep_step (by assumption) ?_ (by rfl) | refine keep_set ?_ _ _ (by first | exact Nat.le_refl _ | (show _ ≤ _; simp; done) | (show _ ≤ _; simp; omega)))) (by first | omega | (simp only [List.length_take]; omega)) ?_; intro v2 w2 hown0 hbl2; have hown2 := Lib.hid hown0; clear hown0))
      exact ⟨⟨k + 1, gs ++ [1 + d], by omega, by omega, by go_num, by simp [HGL.out], good_push HGD.out (by unfold good; omega), hown2.out, hbl2⟩, by simp [intOf]; omega⟩
    · have hlt' : decide (k < len) = false ∨ (k < len ∧ decide ((k : Int) < 40) = false) := by simp; omega
      clear hlt
      rcases hlt' with h1 | ⟨h1, h2⟩
      all_goals
        go_wp2
        go_ret
        obtain ⟨A8, c8, rfl, hi8, hl8⟩ := hown.slice
        exact ⟨gs, A8, gs.length, c8, ⟨by rw [HGL.out]; omega, by rw [HGL.out]; omega, HGD.out⟩, rfl, by rw [HGL.out]; omega, rfl, hi8, hbl⟩
end Go.Proofs.Ythjnldigfabihaa
