/- Layer 7: the methods of the positions. -/
import Derived.Test.YtkoopcjdpcpknaaSI
namespace Go.Proofs.Ytkoopcjdpcpknaa
open Go.RowKit
set_option linter.unusedVariables false

theorem pPlaceN (gs : List Int) (A : Option Addr) (n N cap : Nat) (w : World) (hn : gs.length = n) (hN : N = n + 1) (hm : n ≤ 1000) (hA : Ints w A gs) (hck : ckE gs = 0) :
    Calls Try.prog 45 #[.slice A n cap] w fun e w' => ∃ B, e = .returned (.tuple #[.slice B N N, .int .i64 0]) ∧ Ints w' B (posl gs N) ∧ Below w.heap.size w w' := by
  subst hN; exact pPlace0 gs A n cap w hn hm hA hck

/-- the slice's cells are the positions of N floors -/
def Spots (w : World) (gs : List Int) (N : Nat) (B : Option Addr) : Prop := Ints w B (posl gs N)
theorem Spots.cells {w : World} {gs : List Int} {N : Nat} {B : Option Addr} (h : Spots w gs N B) (hN : 0 < N) : ∃ b o, B = some ⟨b, o, none⟩ ∧ b < w.heap.size ∧ ∀ t, t < N → w.cell? ⟨b, o + t, none⟩ = some (.int .i64 (pos gs t)) := by
  obtain ⟨b, o, rfl, hc⟩ := h.cell (k := 0) (by rw [posl_len]; exact hN)
  have h1 : ∀ t, t < N → w.cell? ⟨b, o + t, none⟩ = some (.int .i64 (pos gs t)) := fun t ht => by
    rw [hc t (by rw [posl_len]; exact ht), posl_nth _ _ _ ht]
  exact ⟨b, o, rfl, World.block_lt_of_cell? w _ (h1 0 hN), h1⟩

theorem pfrom (gs : List Int) (B : Option Addr) (N cap : Nat) (x : Int) (w : World) (hF : Fine gs) (hN : N = gs.length + 1) (hB : Spots w gs N B) :
    Calls Try.prog 53 #[.slice B N cap, .int .i64 x] w fun e w' => ∃ r : Nat, e = .returned (.int .i64 r) ∧ r ≤ N ∧ (∀ t, t < r → pos gs t < x) ∧ (∀ t, r ≤ t → t < N → x ≤ pos gs t) ∧ Below w.heap.size w w' := by
  obtain ⟨b, o, rfl, hbw, hc⟩ := hB.cells (by omega)
  have hN64 : N ≤ 1000 := by have := hF.2.1; omega
  obtain ⟨W0, hW0⟩ : ∃ W0, W0 = (w.alloc (.cells #[.slice (some ⟨b, o, none⟩) N cap] 68)).alloc (.cells #[.int .i64 x] 3) := ⟨_, rfl⟩
  have hb0 : Below w.heap.size w W0 := by rw [hW0]; exact (by repeat (first | exact Below.refl _ _ | apply keep_alloc | apply keep_drew | apply keep_drewN | refine keep_step (by assumption) ?_ (by rfl) | refine keep_set ?_ _ _ (by first | exact Nat.le_refl _ | (show _ ≤ _; simp; done) | (show _ ≤ _; simp; omega))))
  have hsz : W0.heap.size = w.heap.size + 1 + 1 := by rw [hW0]; simp
  have x0' := ((((show Below (((w.alloc (.cells #[.slice (some ⟨b, o, none⟩) N cap] 68)).alloc (.cells #[.int .i64 x] 3))).heap.size (((w.alloc (.cells #[.slice (some ⟨b, o, none⟩) N cap] 68)).alloc (.cells #[.int .i64 x] 3))) ((w.alloc (.cells #[.slice (some ⟨b, o, none⟩) N cap] 68)).alloc (.cells #[.int .i64 x] 3)) from (by repeat (first | exact Below.refl _ _ | apply keep_alloc | apply keep_drew | apply keep_drewN | refine keep_step (by assumption) ?_ (by rfl) | refine keep_set ?_ _ _ (by first | exact Nat.le_refl _ | (show _ ≤ _; simp; done) | (show _ ≤ _; simp; omega))))).cell (p := ⟨w.heap.size, 0, none⟩) (by simp <;> omega)).trans (by simp [go_sem])) : (((w.alloc (.cells #[.slice (some ⟨b, o, none⟩) N cap] 68)).alloc (.cells #[.int .i64 x] 3))).cell? ⟨w.heap.size, 0, none⟩ = some (.slice (some ⟨b, o, none⟩) N cap))
  have x1' := ((((show Below (((w.alloc (.cells #[.slice (some ⟨b, o, none⟩) N cap] 68)).alloc (.cells #[.int .i64 x] 3))).heap.size (((w.alloc (.cells #[.slice (some ⟨b, o, none⟩) N cap] 68)).alloc (.cells #[.int .i64 x] 3))) ((w.alloc (.cells #[.slice (some ⟨b, o, none⟩) N cap] 68)).alloc (.cells #[.int .i64 x] 3)) from (by repeat (first | exact Below.refl _ _ | apply keep_alloc | apply keep_drew | apply keep_drewN | refine keep_step (by assumption) ?_ (by rfl) | refine keep_set ?_ _ _ (by first | exact Nat.le_refl _ | (show _ ≤ _; simp; done) | (show _ ≤ _; simp; omega))))).cell (p := ⟨(w.heap.size + 1), 0, none⟩) (by simp <;> omega)).trans (by simp [go_sem])) : (((w.alloc (.cells #[.slice (some ⟨b, o, none⟩) N cap] 68)).alloc (.cells #[.int .i64 x] 3))).cell? ⟨(w.heap.size + 1), 0, none⟩ = some (.int .i64 x))
  have x0 : W0.cell? ⟨w.heap.size, 0, none⟩ = some (.slice (some ⟨b, o, none⟩) N cap) := by rw [hW0]; exact x0'
  have x1 : W0.cell? ⟨w.heap.size + 1, 0, none⟩ = some (.int .i64 x) := by rw [hW0]; exact x1'
  have hS := psearch #[.pointer (some ⟨w.heap.size, 0, none⟩), .pointer (some ⟨w.heap.size + 1, 0, none⟩)] N (fun t => decide (x ≤ pos gs t)) W0 hN64
    (fun W hW i hi => by
      have c0 := (hW.cell (p := ⟨w.heap.size, 0, none⟩) (by simp [hsz] <;> omega)).trans x0
      have c1 := (hW.cell (p := ⟨w.heap.size + 1, 0, none⟩) (by simp [hsz] <;> omega)).trans x1
      have c2 := (hW.cell (p := ⟨b, o + i, none⟩) (by simp [hsz] <;> omega)).trans ((hb0.cell (p := ⟨b, o + i, none⟩) hbw).trans (hc i hi))
      exact pclosure _ _ _ _ _ _ _ _ _ _ hi c0 c1 c2)
    (fun a c hac hcN ha => by
      simp only [decide_eq_true_eq] at ha ⊢
      by_cases e : a = c
      · rw [← e]; exact ha
      · have := pos_mono hF a c (by omega) (by omega); omega)
  clear hc hF x0 x1 x0' x1' hN
  go_enter Try.func53, Try.ntmps53
  go_wp2_with fail
  rw [← hW0]
  refine hS.mono ?_
  rintro e w1 ⟨r, rfl, hr, h1, h2, hb⟩
  go_wp2
  go_ret
  refine ⟨r, rfl, hr, fun t ht => ?_, fun t h3 h4 => ?_, ?_⟩
  · have := h1 t ht; simpa using this
  · have := h2 t h3 h4; simpa using this
  · exact keep_step hb hb0 rfl

def inS (gs : List Int) (p : Int) : Bool := decide (0 ≤ p ∧ p ≤ pos gs gs.length)
theorem inS_t {gs : List Int} {p : Int} (h1 : 0 ≤ p) (h2 : p ≤ pos gs gs.length) : inS gs p = true := by simp [inS, h1, h2]
theorem inS_f {gs : List Int} {p : Int} (h : ¬ (0 ≤ p ∧ p ≤ pos gs gs.length)) : inS gs p = false := by simp only [inS, h, decide_false]
theorem pisPos (gs : List Int) (B : Option Addr) (n N cap : Nat) (p : Int) (w : World) (hF : Fine gs) (hn : gs.length = n) (hN : N = n + 1) (hB : Spots w gs N B) :
    Calls Try.prog 46 #[.slice B N cap, .int .i64 p] w fun e w' => e = .returned (.bool (inS gs p)) ∧ Below w.heap.size w w' := by
  obtain ⟨b, o, rfl, hbw, hc⟩ := hB.cells (by omega)
  have c1 := hc n (by omega)
  have hn63 := hF.2.1
  clear hc hF
  by_cases h0 : 0 ≤ p
  · have HD : Hid (inS gs p = decide (p ≤ pos gs n)) := Lib.hid (by unfold inS; rw [hn]; simp [h0])
    have hs1 : IntKind.i64.wrap ((N : Int) - 1) = (N : Int) - 1 := Go.IntWalk.i64_in _ ⟨by omega, by omega⟩
    have h2 : (0 : Int) ≤ (N : Int) - 1 := by omega
    have h3 : (N : Int) - 1 < (N : Int) := by omega
    have h4 : ((N : Int) - 1).toNat = n := by omega
    go_enter Try.func46, Try.ntmps46
    go_wp2
    go_ret
    exact ⟨by rw [HD.out]; rfl, (by repeat (first | exact Below.refl _ _ | apply keep_alloc | apply keep_drew | apply keep_drewN | refine keep_step (by assumption) ?_ (by rfl) | refine keep_set ?_ _ _ (by first | exact Nat.le_refl _ | (show _ ≤ _; simp; done) | (show _ ≤ _; simp; omega))))⟩
  · have HD : Hid (inS gs p = false) := Lib.hid (inS_f (by omega))
    have h1 : p < 0 := by omega
    go_enter Try.func46, Try.ntmps46
    go_wp2
    go_ret
    exact ⟨by rw [HD.out]; rfl, (by repeat (first | exact Below.refl _ _ | apply keep_alloc | apply keep_drew | apply keep_drewN | refine keep_step (by assumption) ?_ (by rfl) | refine keep_set ?_ _ _ (by first | exact Nat.le_refl _ | (show _ ≤ _; simp; done) | (show _ ≤ _; simp; omega))))⟩
def inF (gs : List Int) (f : Int) : Bool := decide (0 ≤ f ∧ f ≤ gs.length)
theorem inF_t {gs : List Int} {f : Int} (h1 : 0 ≤ f) (h2 : f ≤ gs.length) : inF gs f = true := by simp [inF, h1, h2]
theorem inF_f {gs : List Int} {f : Int} (h : ¬ (0 ≤ f ∧ f ≤ gs.length)) : inF gs f = false := by simp only [inF, h, decide_false]
end Go.Proofs.Ytkoopcjdpcpknaa
