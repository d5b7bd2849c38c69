/- Layer 33: WordBack: Make and Parse of the program, as contracts. -/
import Derived.Test.YtfpabkpmcmfbhaaDoorOgX5
import Derived.Test.YtfpabkpmcmfbhaaDoorWN
import Derived.Test.YtfpabkpmcmfbhaaDoorKMod33
namespace Go.Proofs.YtfpabkpmcmfbhaaDoor
open Go Go.RowKit
set_option linter.unusedVariables false
set_option linter.unusedSimpArgs false
theorem cw_ok {c : Int} (h : 1 ≤ c ∧ c ≤ 8) : cwX c = 0 := by
  unfold cwX cw0_c0
  rw [bif_dT (by omega), bnF (by omega)]
theorem po_all : ∀ (w : Fin 256) (x : Fin 8), IntKind.i64.wrap (↑(BitVec.ofInt (64 : Nat) (w.val : Int) ||| BitVec.ofInt (64 : Nat) (pbV ((x.val : Int) + 1))).toNat : Int) = ((w.val ||| 2 ^ x.val : Nat) : Int) := by decide +kernel
theorem po_is {w : Nat} {x : Int} (hw : w < 256) (hx : 1 ≤ x ∧ x ≤ 8) : IntKind.i64.wrap (↑(BitVec.ofInt (64 : Nat) (w : Int) ||| BitVec.ofInt (64 : Nat) (pbV x)).toNat : Int) = ((w ||| 2 ^ (x - 1).toNat : Nat) : Int) := by
  have h := po_all ⟨w, hw⟩ ⟨(x - 1).toNat, by omega⟩
  have e2 : (((x - 1).toNat : Nat) : Int) + 1 = x := by omega
  simp only [e2] at h
  exact h
theorem pmA_go {xs : List Int} {c : Int} (hc : 1 ≤ c ∧ c ≤ 8) (hx : xs.length ≤ 20) (hr : ∀ x ∈ xs, 1 ≤ x ∧ x ≤ c) : ∀ (n i : Nat) (w : Nat), i + n = xs.length → w < 256 → ∃ y, pmA_f xs c (n + 1) (w : Int) (i : Int) = some (1, (((orL (xs.drop i) w : Nat) : Int), y)) := by
  intro n
  induction n with
  | zero =>
    intro i w h h0
    rw [pmA_fs, bif_dT (by omega), bif_dF (by omega), List.drop_of_length_le (by omega)]
    exact ⟨_, rfl⟩
  | succ n ih =>
    intro i w h h0
    rw [pmA_fs, bif_dT (by omega), bif_dT (by omega), el_drop (l := xs) (i := i) (by omega), w8n (n := (i : Int) + 1) (by omega) (by omega), show (i : Int) + 1 = ((i + 1 : Nat) : Int) by omega]
    have hm : el xs (i : Int) ∈ xs := by
      have : el xs (i : Int) ∈ xs.drop i := by rw [el_drop (l := xs) (i := i) (by omega)]; exact List.mem_cons_self
      exact List.mem_of_mem_drop this
    have hb := hr _ hm
    generalize el xs (i : Int) = x at *
    rw [bif_dT (by omega), bnF (by omega), po_is h0 ⟨hb.1, by omega⟩]
    obtain ⟨y, q1⟩ := ih (i + 1) _ (by omega) (mk_is (w := w) (x := x) h0 ⟨hb.1, by omega⟩).2
    refine ⟨y, ?_⟩
    unfold orL
    rw [← q1]
/-- the word of some cars -/
noncomputable def orI (l : List Int) : Int := ((orL l 0 : Nat) : Int)
theorem pmake (xs : List Int) (c : Int) (hx : xs.length ≤ 20) (hc : 1 ≤ c ∧ c ≤ 8) (hr : ∀ x ∈ xs, 1 ≤ x ∧ x ≤ c) : KnownR Tryd.prog knWordKnownL 19 [.list (rowA gI xs) xs.length, .val (.int .i64 c)] (.tuple #[.int .i64 (orI xs), .int .i64 0]) [] := by
  obtain ⟨y, h1⟩ := pmA_go hc hx hr xs.length 0 0 (by omega) (by omega)
  rw [List.drop_zero] at h1
  have hl := pmA_ok xs c (cw_ok hc) hc hx _ _ _ h1
  dsimp only at hl
  exact pm1 xs c _ y (cw_ok hc) hc hx (neq0 (cw_ok hc)) hl
theorem ppA_all : ∀ (c : Fin 8) (a : Fin 256), (match Nat.blt a.val (2 ^ (c.val + 1)) with | false => true | true => Nat.beq (txW a.val (c.val + 1)).size (c.val + 1) && (match ppA_f (txW a.val (c.val + 1)) 20 0 0 with | some (1, z, _) => decide (z = (a.val : Int)) | _ => false)) = true := by decide +kernel
theorem parse_is (a c : Int) (hv : vlX a c = 0) : KnownR Tryd.prog knWordKnownL 20 [.val (.string (tsX a c))] (.tuple #[.int .i64 a, .int .i64 c, .int .i64 0]) [] := by
  obtain ⟨hc, ha, hp⟩ := vl_ok hv
  have h := ppA_all ⟨(c - 1).toNat, by omega⟩ ⟨a.toNat, by omega⟩
  have e : ((a.toNat : Nat) : Int) = a := by omega
  have e3 : Nat.blt a.toNat (2 ^ ((c - 1).toNat + 1)) = true := by
    rw [show (c - 1).toNat + 1 = c.toNat by omega]
    unfold pwI at hp
    exact Nat.ble_eq_true_of_le (n := a.toNat + 1) (by omega)
  simp only [e, e3, Bool.and_eq_true] at h
  rw [show (c - 1).toNat + 1 = c.toNat by omega] at h
  have ht : tsX a c = txW a.toNat c.toNat := if_pos hv
  rw [← ht] at h
  have hz := Nat.eq_of_beq_eq_true h.1
  have hs : 1 ≤ (tsX a c).size ∧ (tsX a c).size ≤ 8 := by omega
  have h2 := h.2
  cases ho : ppA_f (tsX a c) 20 0 0 with
  | none => rw [ho] at h2; cases h2
  | some v =>
    obtain ⟨k, z, y⟩ := v
    rw [ho] at h2
    have hk : k = 1 := by
      cases k with
      | zero => cases h2
      | succ k => cases k with | zero => rfl | succ k => cases h2
    subst hk
    have hza : z = a := of_decide_eq_true h2
    subst hza
    have hl := ppA_ok (tsX z c) hs _ _ _ ho
    dsimp only at hl
    have r := pp1 (tsX z c) z y hs (decide_eq_true (by omega)) (by rw [decide_eq_true (by omega)]; rfl) hl
    unfold pp1_c0 pp1_c1 at r
    rw [show ((tsX z c).size : Int) = c by omega] at r
    exact r
theorem parse_f {a c : Int} (hv : vlX a c = 0) : ((tsX a c).size : Int) = c ∧ ∃ y, ppA_f (tsX a c) 20 0 0 = some (1, (a, y)) := by
  obtain ⟨hc, ha, hp⟩ := vl_ok hv
  have h := ppA_all ⟨(c - 1).toNat, by omega⟩ ⟨a.toNat, by omega⟩
  have e : ((a.toNat : Nat) : Int) = a := by omega
  have e3 : Nat.blt a.toNat (2 ^ ((c - 1).toNat + 1)) = true := by
    rw [show (c - 1).toNat + 1 = c.toNat by omega]
    unfold pwI at hp
    exact Nat.ble_eq_true_of_le (n := a.toNat + 1) (by omega)
  simp only [e, e3, Bool.and_eq_true] at h
  rw [show (c - 1).toNat + 1 = c.toNat by omega] at h
  have ht : tsX a c = txW a.toNat c.toNat := if_pos hv
  rw [← ht] at h
  have hz := Nat.eq_of_beq_eq_true h.1
  refine ⟨by omega, ?_⟩
  have h2 := h.2
  cases ho : ppA_f (tsX a c) 20 0 0 with
  | none => rw [ho] at h2; cases h2
  | some v =>
    obtain ⟨k, z, y⟩ := v
    rw [ho] at h2
    have hk : k = 1 := by
      cases k with
      | zero => cases h2
      | succ k => cases k with | zero => rfl | succ k => cases h2
    subst hk
    have hza : z = a := of_decide_eq_true h2
    subst hza
    exact ⟨y, rfl⟩
theorem tsX_inj {a c b d : Int} (hv : vlX a c = 0) (hw : vlX b d = 0) (e : tsX a c = tsX b d) : a = b ∧ c = d := by
  obtain ⟨s1, y1, p1⟩ := parse_f hv
  obtain ⟨s2, y2, p2⟩ := parse_f hw
  rw [e] at s1 p1
  rw [p1] at p2
  injection p2 with p2
  injection p2 with _ p2
  injection p2 with p2 _
  exact ⟨p2, by omega⟩
/-- the rest of a division -/
def mdV (n m : Int) : Int := n % m
theorem lim2_all : ∀ k : Fin 8, IntKind.i64.wrap ((1 : Int) * (2 : Int) ^ min (IntKind.u64.wrap ((k.val : Int) + 1)).toNat (64 : Nat)) = pwI ((k.val : Int) + 1) := by decide +kernel
theorem lim2 {c : Int} (h : 1 ≤ c ∧ c ≤ 8) : IntKind.i64.wrap ((1 : Int) * (2 : Int) ^ min (IntKind.u64.wrap c).toNat (64 : Nat)) = pwI c := by
  have k := lim2_all ⟨(c - 1).toNat, by omega⟩
  have e : (((c - 1).toNat : Nat) : Int) + 1 = c := by omega
  simp only [e] at k
  exact k
end Go.Proofs.YtfpabkpmcmfbhaaDoor
