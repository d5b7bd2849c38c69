/- Layer 17: a chain stays valid. -/
import Derived.Test.YtbcbldpppjbkhaaOgK
namespace Go.Proofs.Ytbcbldpppjbkhaa
open Go Go.RowKit
set_option linter.unusedVariables false
theorem cnF_set : ∀ (l : List Bool) (i : Nat) (b : Bool), i < l.length → cnF (l.set i b) = cnF l + (bif b then 0 else 1) - (bif el l (i : Int) then 0 else 1)
  | [], i, b, h => by simp at h
  | a :: l, 0, b, h => by
    rw [List.set_cons_zero]
    simp only [cnF]
    have : el (a :: l) ((0 : Nat) : Int) = a := rfl
    rw [this]; omega
  | a :: l, i + 1, b, h => by
    rw [List.set_cons_succ]
    simp only [cnF]
    rw [cnF_set l i b (by simpa using h)]
    have : el (a :: l) ((i + 1 : Nat) : Int) = el l (i : Int) := by unfold el; simp
    rw [this]; omega
theorem cnF_zero : ∀ (l : List Bool) (i : Nat), cnF l = 0 → i < l.length → el l (i : Int) = true
  | [], i, h, k => by simp at k
  | a :: l, 0, h, k => by
    simp only [cnF] at h
    have := (cnF_b l).1
    cases a with
    | true => rfl
    | false => simp only [cond_false] at h; omega
  | a :: l, i + 1, h, k => by
    simp only [cnF] at h
    have h1 := (cnF_b l).1
    have : el (a :: l) ((i + 1 : Nat) : Int) = el l (i : Int) := by unfold el; simp
    rw [this]
    refine cnF_zero l i ?_ (by simpa using k)
    cases a <;> simp only [cond_true, cond_false] at h <;> omega
theorem opn_el : ∀ (l : List Bool) (k z : Int), z ∈ opn l k → el l (z - k) = false
  | [], k, z, h => by cases h
  | b :: l, k, z, h => by
    have hr := opn_rng (b :: l) k z h
    cases b with
    | true =>
      simp only [opn, cond_true] at h
      have h1 := opn_el l (k + 1) z h
      have h2 := opn_rng l (k + 1) z h
      have : el (true :: l) (z - k) = el l (z - (k + 1)) := by
        unfold el
        rw [show (z - k).toNat = (z - (k + 1)).toNat + 1 by omega]; rfl
      rw [this]; exact h1
    | false =>
      simp only [opn, cond_false, List.mem_cons] at h
      rcases h with h | h
      · subst h; rw [Int.sub_self]; rfl
      · have h1 := opn_el l (k + 1) z h
        have h2 := opn_rng l (k + 1) z h
        have : el (false :: l) (z - k) = el l (z - (k + 1)) := by
          unfold el
          rw [show (z - k).toNat = (z - (k + 1)).toNat + 1 by omega]; rfl
        rw [this]; exact h1
theorem ck_of {c : Bool} {l : List Bool} (h : 2 ≤ (l.length : Int) ∧ (l.length : Int) ≤ 64) (h1 : cnF l = 0 ∨ (cnF l = 1 ∧ c = false)) : ckC c l = 0 := by
  unfold ckC
  rw [if_pos h]
  rcases h1 with h1 | ⟨h1, h2⟩
  · rw [h1]; simp
  · rw [h1, h2]; simp
theorem lock_ul {c : Bool} {l : List Bool} {f : Int} (hc : ckC c l = 0) (he : ulA_c2 c l f = 0) : ckC false (ulA_c1 c l f) = 0 ∧ (ulA_c1 c l f).length = l.length := by
  have hl := ck_len hc
  unfold ulA_c2 at he
  unfold ulA_c1
  rw [show (ckC c l != 0) = false by simp [hc]] at he ⊢
  rw [cond_false] at he ⊢
  by_cases h1 : f < 0
  · rw [bif_dT h1] at he; cases he
  · rw [bif_dF h1] at he ⊢
    by_cases h2 : f ≥ (l.length : Int)
    · rw [bif_dT h2] at he; cases he
    · rw [bif_dF h2] at he ⊢
      by_cases h3 : ((mis c l).length : Int) > 0
      · rw [bif_dT h3] at he; cases he
      · rw [bif_dF h3]
        rw [mis_len] at h3
        have h0 : cnF l = 0 := by rw [cnF_len]; omega
        refine ⟨ck_of (by rw [List.length_set]; exact hl) (.inr ⟨?_, rfl⟩), List.length_set ..⟩
        rw [cnF_set l f.toNat false (by omega), h0, cnF_zero l f.toNat h0 (by omega)]
        rfl
theorem lock_lk {c : Bool} {l : List Bool} (hc : ckC c l = 0) : lkA_c2 c l = 0 ∧ ckC (lkA_c0 c l) (lkA_c1 c l) = 0 ∧ (lkA_c1 c l).length = l.length := by
  have hl := ck_len hc
  unfold lkA_c2 lkA_c0 lkA_c1
  rw [show (ckC c l != 0) = false by simp [hc]]
  simp only [cond_false]
  unfold nwX nwC nwL
  rw [if_pos hl, if_pos hl, decide_eq_true hl]
  refine ⟨rfl, ?_, by simp⟩
  rw [Int.toNat_natCast]
  exact ck_rep (by omega)
theorem lock_sm {c : Bool} {l : List Bool} (hc : ckC c l = 0) (he : smX c l = 0) : ckC (smC c l) (smL c l) = 0 ∧ (smL c l).length = l.length := by
  have hl := ck_len hc
  have hop := ck_opn hc
  have ho : (opn l 0).length = 1 := by
    unfold smX at he
    rw [if_pos hc] at he
    split at he
    · cases he
    · omega
  obtain ⟨e1, e2, e3, e4⟩ := sm_yes hc ho
  rw [e2, e3]
  have hm : el (opn l 0) 0 ∈ opn l 0 := by
    unfold el
    cases h : opn l 0 with
    | nil => rw [h] at ho; cases ho
    | cons a t => simp
  have hr := opn_rng l 0 _ hm
  have hz := opn_el l 0 _ hm
  rw [Int.sub_zero] at hz
  refine ⟨ck_of (by rw [List.length_set]; exact hl) (.inl ?_), List.length_set ..⟩
  have hc1 : cnF l = 1 := by rw [cnF_len]; omega
  rw [cnF_set l _ true (by omega), hc1]
  rw [show (((el (opn l 0) 0).toNat : Nat) : Int) = el (opn l 0) 0 by omega, hz]
  rfl
/-- of valid chains -/
theorem check_v {c : Bool} {l : List Bool} (hc : ckC c l = 0) : KnownR Try.prog [] 25 [.agg [.val (.bool c), .list (rowA gB l) l.length]] (.int .i64 0) [] := by
  have k := check_is c l; rw [hc] at k; exact k
theorem may_v {c : Bool} {l : List Bool} (hc : ckC c l = 0) : KnownR Try.prog [] 30 [.agg [.val (.bool c), .list (rowA gB l) l.length]] (.tuple #[.bool (((mis c l).length : Int) == 0), .int .i64 0]) [] := by
  have hl := ck_len hc
  have k := maA c l (by omega)
  have e : maA_c0 c l = (((mis c l).length : Int) == 0) ∧ maA_c1 c l = 0 := by
    unfold maA_c0 maA_c1
    rw [show (ckC c l != 0) = false by simp [hc]]
    exact ⟨rfl, rfl⟩
  rw [e.1, e.2] at k; exact k
theorem missing_v {c : Bool} {l : List Bool} (hc : ckC c l = 0) : KnownR Try.prog [] 11 [.agg [.val (.bool c), .list (rowA gB l) l.length]] (.tuple #[.complex .f64 0 (mis c l).length, .int .i64 0]) [(rowA gI (mis c l), 3)] := by
  have hl := ck_len hc
  have k := miA c l (by omega)
  have e : miA_c0 c l = mis c l ∧ miA_c1 c l = 0 := by
    unfold miA_c0 miA_c1
    rw [show (ckC c l != 0) = false by simp [hc]]
    exact ⟨rfl, rfl⟩
  rw [e.1, e.2] at k; exact k
theorem open_v {c : Bool} {l : List Bool} (hc : ckC c l = 0) : KnownR Try.prog [] 12 [.agg [.val (.bool c), .list (rowA gB l) l.length]] (.tuple #[.int .i64 (opA_c0 c l), .int .i64 (bif (((mis c l).length : Int) == 0) then 6 else 0)]) [] := by
  have hl := ck_len hc
  have k := opA c l (by omega)
  have e : opA_c1 c l = (bif (((mis c l).length : Int) == 0) then 6 else 0) := by
    unfold opA_c1
    rw [show (ckC c l != 0) = false by simp [hc]]
    rfl
  rw [e] at k; exact k
end Go.Proofs.Ytbcbldpppjbkhaa
