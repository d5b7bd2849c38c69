/- Layer 33: Merge of the reference. -/
import Derived.Test.YtfpabkpmcmfbhaaDoorWZ
import Derived.Test.YtfpabkpmcmfbhaaDoorOgX2
namespace Go.Proofs.YtfpabkpmcmfbhaaDoor
open Go Go.RowKit
set_option linter.unusedVariables false
set_option linter.unusedSimpArgs false
/-- a word with a bit more -/
theorem mk_all : ∀ (w : Fin 256) (x : Fin 8), (bif !btB (w.val : Int) ((x.val : Int) + 1) then IntKind.i64.wrap ((w.val : Int) + pwI (IntKind.i64.wrap ((x.val : Int) + 1 - 1))) else (w.val : Int)) = ((w.val ||| 2 ^ x.val : Nat) : Int) := by
  decide +kernel
theorem mk_is {w : Nat} {x : Int} (hw : w < 256) (hx : 1 ≤ x ∧ x ≤ 8) : (bif !btB (w : Int) x then IntKind.i64.wrap ((w : Int) + pwI (IntKind.i64.wrap (x - 1))) else (w : Int)) = ((w ||| 2 ^ (x - 1).toNat : Nat) : Int) ∧ w ||| 2 ^ (x - 1).toNat < 256 := by
  have h := mk_all ⟨w, hw⟩ ⟨(x - 1).toNat, by omega⟩
  have e2 : (((x - 1).toNat : Nat) : Int) + 1 = x := by omega
  simp only [e2] at h
  refine ⟨h, ?_⟩
  refine Nat.or_lt_two_pow (n := 8) (by omega) ?_
  exact Nat.pow_lt_pow_right (by omega) (by omega)
/-- the word of some cars -/
def orL : List Int → Nat → Nat
  | [], w => w
  | x :: r, w => orL r (w ||| 2 ^ (x - 1).toNat)
theorem orL_or : ∀ (l : List Int) (w v : Nat), orL l (w ||| v) = w ||| orL l v
  | [], w, v => rfl
  | x :: r, w, v => by
    unfold orL
    rw [Nat.or_assoc, orL_or r]
theorem orL_app : ∀ (l m : List Int) (w : Nat), orL (l ++ m) w = orL m (orL l w)
  | [], m, w => rfl
  | x :: r, m, w => by
    show orL (r ++ m) _ = orL m (orL r _)
    exact orL_app r m _
theorem rmA_go {xs : List Int} {c : Int} (hc : 1 ≤ c ∧ c ≤ 8) (hx : xs.length ≤ 20) (hr : ∀ x ∈ xs, 1 ≤ x ∧ x ≤ c) : ∀ (n i : Nat) (w : Nat), i + n = xs.length → w < 256 → ∃ y, rmA_f xs c (n + 1) (w : Int) (i : Int) = some (1, (((orL (xs.drop i) w : Nat) : Int), y)) ∧ orL (xs.drop i) w < 256 := by
  intro n
  induction n with
  | zero =>
    intro i w h h0
    rw [rmA_fs, bif_dT (by omega), bif_dF (by omega), List.drop_of_length_le (by omega)]
    exact ⟨_, rfl, h0⟩
  | succ n ih =>
    intro i w h h0
    rw [rmA_fs, bif_dT (by omega), bif_dT (by omega), el_drop (l := xs) (i := i) (by omega), w8n (n := (i : Int) + 1) (by omega) (by omega), show (i : Int) + 1 = ((i + 1 : Nat) : Int) by omega]
    have hm : el xs (i : Int) ∈ xs := by
      have : el xs (i : Int) ∈ xs.drop i := by rw [el_drop (l := xs) (i := i) (by omega)]; exact List.mem_cons_self
      exact List.mem_of_mem_drop this
    have hb := hr _ hm
    generalize el xs (i : Int) = x at *
    rw [bif_dF (by omega), bif_dF (by omega)]
    obtain ⟨s1, s2⟩ := mk_is (w := w) (x := x) h0 ⟨hb.1, by omega⟩
    obtain ⟨y, q1, q2⟩ := ih (i + 1) _ (by omega) s2
    refine ⟨y, ?_, q2⟩
    unfold orL
    rw [← q1, ← s1]
    cases !btB (w : Int) x <;> rfl
theorem cr_all : ∀ (c : Fin 8) (a : Fin 256), (match Nat.blt a.val (2 ^ (c.val + 1)) with | false => true | true => (crR (a.val : Int)).all (fun x => decide (1 ≤ x ∧ x ≤ (c.val : Int) + 1)) && Nat.ble (crR (a.val : Int)).length 8 && Nat.beq (orL (crR (a.val : Int)) 0) a.val) = true := by decide +kernel
theorem cr_at {a c : Int} (hv : vlX a c = 0) : (∀ x ∈ crR a, 1 ≤ x ∧ x ≤ c) ∧ (crR a).length ≤ 8 ∧ orL (crR a) 0 = a.toNat := by
  obtain ⟨hc, ha, hp⟩ := vl_ok hv
  have h := cr_all ⟨(c - 1).toNat, by omega⟩ ⟨a.toNat, by omega⟩
  have e : ((a.toNat : Nat) : Int) = a := by omega
  have e2 : (((c - 1).toNat : Nat) : Int) + 1 = c := by omega
  have e3 : Nat.blt a.toNat (2 ^ ((c - 1).toNat + 1)) = true := by
    rw [show (c - 1).toNat + 1 = c.toNat by omega]
    unfold pwI at hp
    exact Nat.ble_eq_true_of_le (n := a.toNat + 1) (by omega)
  simp only [e, e2, e3, Bool.and_eq_true] at h
  refine ⟨?_, Nat.le_of_ble_eq_true h.1.2, Nat.eq_of_beq_eq_true h.2⟩
  intro x hx
  exact of_decide_eq_true (List.all_eq_true.1 h.1.1 x hx)
theorem vl0 {c : Int} (hc : 1 ≤ c ∧ c ≤ 8) : vlX 0 c = 0 := by
  rcases vl_is (a := 0) (c := c) with ⟨e, _⟩ | ⟨_, n⟩
  · exact e
  · have : 0 < (2 : Nat) ^ c.toNat := Nat.pos_of_ne_zero (by simp)
    unfold pwI at n
    exact absurd ⟨hc.1, hc.2, by omega, by omega⟩ n
/-- Make -/
theorem rmake (xs : List Int) (c : Int) (hx : xs.length ≤ 20) (hc : 1 ≤ c ∧ c ≤ 8) (hr : ∀ x ∈ xs, 1 ≤ x ∧ x ≤ c) : KnownR Tryd.prog knWordKnownL 29 [.list (rowA gI xs) xs.length, .val (.int .i64 c)] (.tuple #[.int .i64 ((orL xs 0 : Nat) : Int), .int .i64 0]) [] := by
  obtain ⟨y, h1, h2⟩ := rmA_go hc hx hr xs.length 0 0 (by omega) (by omega)
  rw [List.drop_zero] at h1
  have hl := rmA_ok xs c (vl0 hc) hc hx _ _ _ h1
  dsimp only at hl
  exact rm1 xs c _ y (vl0 hc) hc hx (neq0 (vl0 hc)) hl
theorem or_two {a b c : Int} (hv : vlX a c = 0) (hw : vlX b c = 0) : orL (crR a ++ crR b) 0 = a.toNat ||| b.toNat := by
  rw [orL_app, (cr_at hv).2.2]
  have := orL_or (crR b) a.toNat 0
  rw [Nat.or_zero, (cr_at hw).2.2] at this
  exact this
end Go.Proofs.YtfpabkpmcmfbhaaDoor
