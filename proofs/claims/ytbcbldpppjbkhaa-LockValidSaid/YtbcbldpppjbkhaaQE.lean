/- Layer 17: Slam in all cases; Unlock and the reference's agree. -/
import Derived.Test.YtbcbldpppjbkhaaOgI
namespace Go.Proofs.Ytbcbldpppjbkhaa
open Go Go.RowKit
set_option linter.unusedVariables false
theorem slB_go {l : List Bool} (hl : l.length ≤ 64) : ∀ (k i : Nat), i + k = l.length → opn (l.drop i) i = [] → slB_f l (k + 1) (i : Int) = some (1, (l.length : Int)) := by
  intro k
  induction k with
  | zero =>
    intro i h h0
    rw [slB_fs, bif_dT (by omega), bif_dF (by omega), show (i : Int) = (l.length : Int) by omega]
  | succ k ih =>
    intro i h h0
    rw [slB_fs, bif_dT (by omega), bif_dT (by omega), w8n (n := (i : Int) + 1) (by omega) (by omega), show (i : Int) + 1 = ((i + 1 : Nat) : Int) by omega]
    rw [el_drop (l := l) (i := i) (by omega)] at h0
    cases he : el l (i : Int) with
    | true =>
      rw [Bool.not_true, cond_false]
      rw [he] at h0
      simp only [opn, cond_true] at h0
      exact ih (i + 1) (by omega) h0
    | false =>
      rw [he] at h0
      simp only [opn, cond_false] at h0
      cases h0
theorem sbA_go {l : List Bool} (hl : l.length ≤ 70) : ∀ (k i : Nat), i + k = l.length → sbA_f l (k + 1) (i : Int) = some (0, (l.length : Int)) := by
  intro k
  induction k with
  | zero =>
    intro i h
    rw [sbA_fs, bif_dT (by omega), bif_dF (by omega), show (i : Int) = (l.length : Int) by omega]
  | succ k ih =>
    intro i h
    rw [sbA_fs, bif_dT (by omega), bif_dT (by omega), w8n (n := (i : Int) + 1) (by omega) (by omega), show (i : Int) + 1 = ((i + 1 : Nat) : Int) by omega]
    exact ih (i + 1) (by omega)
theorem sb_is (l : List Bool) (hl : (l.length : Int) ≤ 70) : KnownR Try.prog [] 45 [.list (rowA gB l) l.length, .list (rowA gB l) l.length] (.bool true) [] := by
  have ho := sbA_ok l hl _ _ _ (sbA_go (l := l) (by omega) l.length 0 (by omega))
  exact sbK l _ hl (by simp) ho
theorem opn_rng : ∀ (l : List Bool) (k z : Int), z ∈ opn l k → k ≤ z ∧ z < k + l.length
  | [], k, z, h => by cases h
  | b :: l, k, z, h => by
    cases b with
    | true =>
      simp only [opn, cond_true] at h
      have := opn_rng l (k + 1) z h
      simp only [List.length_cons]; omega
    | false =>
      simp only [opn, cond_false, List.mem_cons] at h
      rcases h with h | h
      · simp only [List.length_cons]; omega
      · have := opn_rng l (k + 1) z h
        simp only [List.length_cons]; omega
theorem ck_opn {c : Bool} {l : List Bool} (h : ckC c l = 0) : (opn l 0).length ≤ 1 ∧ ((opn l 0).length = 1 → c = false) := by
  have h0 := ck_len h
  unfold ckC at h
  rw [if_pos h0, cnF_len] at h
  split at h
  · cases h
  · split at h
    · cases h
    · rename_i h1 h2
      refine ⟨by omega, fun e => ?_⟩
      cases c with
      | false => rfl
      | true => exact absurd ⟨by omega, rfl⟩ h2
/-- Slam -/
def smX (c : Bool) (l : List Bool) : Int := if ckC c l = 0 then (if (opn l 0).length = 0 then 6 else 0) else ckC c l
def smL (c : Bool) (l : List Bool) : List Bool := if smX c l = 0 then l.set (el (opn l 0) 0).toNat true else []
def smC (c : Bool) (l : List Bool) : Bool := if smX c l = 0 then c else false
def smN (c : Bool) (l : List Bool) : Int := if smX c l = 0 then el (opn l 0) 0 else 0
theorem sm_err {c : Bool} {l : List Bool} (h : ¬ ckC c l = 0) : smX c l = ckC c l ∧ smL c l = [] ∧ smC c l = false ∧ smN c l = 0 := by
  have e : smX c l = ckC c l := by unfold smX; rw [if_neg h]
  unfold smL smC smN
  rw [e, if_neg h, if_neg h, if_neg h]
  exact ⟨rfl, rfl, rfl, rfl⟩
theorem sm_no {c : Bool} {l : List Bool} (h : ckC c l = 0) (ho : (opn l 0).length = 0) : smX c l = 6 ∧ smL c l = [] ∧ smC c l = false ∧ smN c l = 0 := by
  have e : smX c l = 6 := by unfold smX; rw [if_pos h, if_pos ho]
  unfold smL smC smN
  rw [e, if_neg (by decide), if_neg (by decide), if_neg (by decide)]
  exact ⟨rfl, rfl, rfl, rfl⟩
theorem sm_yes {c : Bool} {l : List Bool} (h : ckC c l = 0) (ho : (opn l 0).length = 1) : smX c l = 0 ∧ smL c l = l.set (el (opn l 0) 0).toNat true ∧ smC c l = c ∧ smN c l = el (opn l 0) 0 := by
  have e : smX c l = 0 := by unfold smX; rw [if_pos h, if_neg (by omega)]
  unfold smL smC smN
  rw [e, if_pos rfl, if_pos rfl, if_pos rfl]
  exact ⟨rfl, rfl, rfl, rfl⟩
theorem slam_all (c : Bool) (l : List Bool) : KnownR Try.prog [] 13 [.agg [.val (.bool c), .list (rowA gB l) l.length]] (.tuple #[.agg #[.bool (smC c l), .complex .f64 0 (smL c l).length], .int .i64 (smN c l), .int .i64 (smX c l)]) [(rowA gB (smL c l), 4)] := by
  by_cases hc : ckC c l = 0
  · have hl := ck_len hc
    have hop := ck_opn hc
    rcases (by omega : (opn l 0).length = 0 ∨ (opn l 0).length = 1) with ho | ho
    · obtain ⟨e1, e2, e3, e4⟩ := sm_no hc ho
      rw [e1, e2, e3, e4]
      have h0 : opn l 0 = [] := List.eq_nil_of_length_eq_zero ho
      cases c with
      | true => exact slBL l _ hl hc (by rw [hc]; rfl) (slB_ok l hl hc _ _ _ (slB_go (l := l) (by omega) l.length 0 (by omega) (by rw [List.drop_zero]; exact h0)))
      | false =>
        rcases slA_go (c := false) (l := l) (by omega) l.length 0 (by omega) with ⟨h1, h2⟩ | ⟨z, t, h1, h2⟩
        · exact slL false l _ hl hc (by rw [hc]; rfl) rfl (slA_ok false l hl hc _ _ _ h2)
        · rw [List.drop_zero, show ((0 : Nat) : Int) = 0 from rfl, h0] at h1; cases h1
    · obtain ⟨e1, e2, e3, e4⟩ := sm_yes hc ho
      rw [e1, e2, e3, e4]
      have hcf := hop.2 ho
      subst hcf
      have hfo : fo l = el (opn l 0) 0 := by
        unfold fo el
        cases h : opn l 0 with
        | nil => rw [h] at ho; cases ho
        | cons a t => rfl
      have k := slam_is l hl hc ho
      rw [hfo] at k
      exact k
  · obtain ⟨e1, e2, e3, e4⟩ := sm_err hc
    rw [e1, e2, e3, e4]
    exact slE c l hc
theorem rslam_all (c : Bool) (l : List Bool) (hl : (l.length : Int) ≤ 70) : KnownR Try.prog [] 29 [.agg [.val (.bool c), .list (rowA gB l) l.length]] (.tuple #[.agg #[.bool (smC c l), .complex .f64 0 (smL c l).length], .int .i64 (smN c l), .int .i64 (smX c l)]) [(rowA gB (smL c l), 4)] := by
  by_cases hc : ckC c l = 0
  · have hop := ck_opn hc
    rcases (by omega : (opn l 0).length = 0 ∨ (opn l 0).length = 1) with ho | ho
    · obtain ⟨e1, e2, e3, e4⟩ := sm_no hc ho
      rw [e1, e2, e3, e4]
      exact rSl0 c l hl hc ho
    · obtain ⟨e1, e2, e3, e4⟩ := sm_yes hc ho
      rw [e1, e2, e3, e4]
      have hm : el (opn l 0) 0 ∈ opn l 0 := by
        unfold el
        cases h : opn l 0 with
        | nil => rw [h] at ho; cases ho
        | cons a t => simp
      have := opn_rng l 0 _ hm
      exact rSl1 c l hl hc ho ⟨this.1, by omega⟩
  · obtain ⟨e1, e2, e3, e4⟩ := sm_err hc
    rw [e1, e2, e3, e4]
    exact rSlE c l hl hc
theorem mis_len (c : Bool) (l : List Bool) : (mis c l).length = (bif c then 0 else 1) + (opn l 0).length := by
  unfold mis; cases c <;> simp <;> omega
theorem ul_r (c : Bool) (l : List Bool) (f : Int) : rUl_c1 c l f = ulA_c1 c l f ∧ rUl_c2 c l f = ulA_c2 c l f := by
  unfold rUl_c1 ulA_c1 rUl_c2 ulA_c2
  rw [mis_len]
  cases hc : (ckC c l != 0) with
  | true => exact ⟨rfl, rfl⟩
  | false =>
    by_cases h1 : f < 0
    · cases c <;> simp [h1]
    · by_cases h2 : f ≥ (l.length : Int)
      · cases c <;> simp [h1, h2]
      · cases c with
        | true =>
          by_cases h3 : (opn l 0).length = 0
          · simp [h1, h2, h3]
          · have hb : (((opn l 0).length : Int) == 0) = false := by simp; exact fun h => h3 (by rw [h]; rfl)
            simp only [decide_eq_false h1, decide_eq_false h2, hb, cond_true, cond_false, Bool.not_false]
            rw [decide_eq_true (by omega)]
            exact ⟨rfl, rfl⟩
        | false =>
          simp only [decide_eq_false h1, decide_eq_false h2, cond_false]
          rw [decide_eq_true (by omega)]
          exact ⟨rfl, rfl⟩
theorem unlock_r (c : Bool) (l : List Bool) (f : Int) (hl : (l.length : Int) ≤ 70) : KnownR Try.prog [] 27 [.agg [.val (.bool c), .list (rowA gB l) l.length], .val (.int .i64 f)] (.tuple #[.agg #[.bool false, .complex .f64 0 (ulA_c1 c l f).length], .int .i64 (ulA_c2 c l f)]) [(rowA gB (ulA_c1 c l f), 4)] := by
  have k := rUl c l f hl
  rw [(ul_r c l f).1, (ul_r c l f).2] at k
  exact k
end Go.Proofs.Ytbcbldpppjbkhaa
