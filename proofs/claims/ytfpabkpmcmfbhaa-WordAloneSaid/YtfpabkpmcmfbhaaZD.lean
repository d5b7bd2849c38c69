/- Layer 33: Of, of both. -/
import Derived.Test.YtfpabkpmcmfbhaaZC
namespace Go.Proofs.Ytfpabkpmcmfbhaa
open Go Go.RowKit
set_option linter.unusedVariables false
/-- who is out: by a fault, or by its load -/
def tgF (m : Int) : List Bool → List Int → List Bool
  | f :: F, x :: L => (f || decide (x > m)) :: tgF m F L
  | _, _ => []
theorem tg_len (m : Int) : ∀ (F : List Bool) (L : List Int), F.length = L.length → (tgF m F L).length = F.length
  | [], [], _ => rfl
  | f :: F, x :: L, h => by
    unfold tgF
    rw [List.length_cons, List.length_cons, tg_len m F L (by simpa using h)]
  | [], x :: L, h => by simp at h
  | f :: F, [], h => by simp at h
theorem elw_zero {α : Type} [Inhabited α] (a : α) (l : List α) : el (a :: l) ((0 : Nat) : Int) = a := rfl
theorem elw_succ {α : Type} [Inhabited α] (a : α) (l : List α) (i : Nat) : el (a :: l) ((i + 1 : Nat) : Int) = el l (i : Int) := by unfold el; simp
theorem tg_el (m : Int) : ∀ (F : List Bool) (L : List Int) (i : Nat), F.length = L.length → i < F.length → el (tgF m F L) (i : Int) = (el F (i : Int) || decide (el L (i : Int) > m))
  | [], L, i, _, h => by simp at h
  | f :: F, [], i, h, _ => by simp at h
  | f :: F, x :: L, 0, _, _ => by unfold tgF; rw [elw_zero, elw_zero, elw_zero]
  | f :: F, x :: L, i + 1, h, h2 => by
    unfold tgF
    rw [elw_succ, elw_succ, elw_succ]
    exact tg_el m F L i (by simpa using h) (by simpa using h2)
theorem take_one {α : Type} [Inhabited α] {l : List α} {i : Nat} (h : i < l.length) : l.take (i + 1) = l.take i ++ [el l (i : Int)] := by
  rw [List.take_add_one]
  unfold el
  rw [List.getD_eq_getElem?_getD, Int.toNat_natCast, List.getElem?_eq_getElem h]
  rfl
theorem set_mid : ∀ (A : List Bool) (b : Bool) (R : List Bool), (A ++ b :: R).set A.length true = A ++ true :: R
  | [], b, R => rfl
  | a :: A, b, R => by
    rw [List.cons_append, List.length_cons, List.set_cons_succ, set_mid A b R, List.cons_append]
theorem poB_go {m : Int} {ld : List Int} {es : List En} {z1 z2 : Int} {L : List Int} {F : List Bool} (hl : ld.length ≤ 8) (hL : L.length = ld.length) (hF : F.length = ld.length) : ∀ (k i : Nat), i + k = ld.length →
    ∃ z, poB_f m ld es L.reverse z1 z2 (k + 1) (wdN ((tgF m F L).take i ++ F.drop i) : Int) (i : Int) = some (0, ((wdN (tgF m F L) : Int), z)) := by
  have ht := tg_len m F L (by omega)
  intro k
  induction k with
  | zero =>
    intro i h
    rw [poB_fs, bif_dT (by omega), bif_dF (by omega), List.take_of_length_le (by omega), List.drop_of_length_le (by omega), List.append_nil]
    exact ⟨_, rfl⟩
  | succ k ih =>
    intro i h
    obtain ⟨z, hz⟩ := ih (i + 1) (by omega)
    have e1 := take_one (l := tgF m F L) (i := i) (by omega)
    have e2 := el_drop (l := F) (i := i) (by omega)
    have et := tg_el m F L i (by omega) (by omega)
    refine ⟨z, ?_⟩
    rw [poB_fs, bif_dT (by omega), bif_dT (by omega), List.reverse_reverse, w8n (n := (i : Int) + 1) (by omega) (by omega), show (i : Int) + 1 = ((i + 1 : Nat) : Int) by omega]
    by_cases h1 : el L (i : Int) > m
    · rw [bif_dT h1]
      have hT : ((tgF m F L).take i ++ F.drop i).length = ld.length := by rw [List.length_append, List.length_take, List.length_drop]; omega
      have hset : ((tgF m F L).take i ++ F.drop i).set i true = (tgF m F L).take (i + 1) ++ F.drop (i + 1) := by
        rw [e1, et, decide_eq_true h1, Bool.or_true, e2]
        have hi : ((tgF m F L).take i).length = i := by rw [List.length_take]; omega
        have hm := set_mid ((tgF m F L).take i) (el F (i : Int)) (F.drop (i + 1))
        rw [hi] at hm
        rw [hm, List.append_assoc]
        rfl
      have hs : IntKind.u64.wrap ((1 : Int) * 2 ^ min ((IntKind.u64.wrap (i : Int))).toNat 64) = ((2 ^ i : Nat) : Int) := by
        have p1 := pow8 (j := i) (by omega)
        rw [w8u (n := (i : Int)) (by omega) (by omega), shl_one (by omega)]
        generalize (2 : Nat) ^ i = q at p1 ⊢
        exact w8u (by omega) (by omega)
      have ho := or_bits (F := (tgF m F L).take i ++ F.drop i) (j := i) (by omega) (by omega) rfl rfl
      have hb := wd_lt (((tgF m F L).take i ++ F.drop i).set i true)
      have hb2 := pow8 (j := (((tgF m F L).take i ++ F.drop i).set i true).length) (by rw [List.length_set]; omega)
      rw [hs, ho, w8u (by omega) (by omega), hset]
      exact hz
    · rw [bif_dF h1]
      have hT : (tgF m F L).take i ++ F.drop i = (tgF m F L).take (i + 1) ++ F.drop (i + 1) := by
        rw [e1, et, decide_eq_false h1, Bool.or_false, e2, List.append_assoc]
        rfl
      rw [hT]
      exact hz
/-- right entries of asks -/
theorem enX_ok {x : En} {n : Int} (h : enX x n = 0) : x.2.1 ≠ 2 ∨ (1 ≤ x.2.2.2.2.1 ∧ x.2.2.2.2.1 ≤ n ∧ 1 ≤ x.2.2.2.2.2.1 ∧ x.2.2.2.2.2.1 ≤ 6) := by
  by_cases h2 : x.2.1 = 2
  · right
    unfold enX pe_c0 at h
    have b1 : (x.2.1 != 1) = true := by simp [h2]
    have b2 : (x.2.1 != 2) = false := by simp [h2]
    rw [b1, b2, cond_true, cond_false] at h
    by_cases c1 : x.2.2.2.2.1 ≥ 1
    · by_cases c2 : x.2.2.2.2.1 ≤ n
      · by_cases c3 : x.2.2.2.2.2.1 = 1
        · omega
        · have b3 : (x.2.2.2.2.2.1 == 1) = false := by simp [c3]
          simp only [b3, decide_eq_true c1, decide_eq_true c2, cond_true, cond_false, Bool.not_true] at h
          by_cases c4 : x.2.2.2.2.2.1 ≥ 1
          · by_cases c5 : x.2.2.2.2.2.1 ≤ 6
            · exact ⟨c1, c2, c4, c5⟩
            · simp only [decide_eq_true c4, decide_eq_false c5, cond_true, Bool.not_false] at h
              cases h
          · simp only [decide_eq_false c4, cond_false] at h
            cases h
      · simp only [decide_eq_true c1, decide_eq_false c2, cond_true, Bool.not_false] at h
        cases hb : (x.2.2.2.2.2.1 == 1) <;> rw [hb] at h <;> cases h
    · simp only [decide_eq_false c1, cond_false] at h
      cases hb : (x.2.2.2.2.2.1 == 1) <;> rw [hb] at h <;> cases h
  · exact .inl h2
theorem enS_ok {n : Int} : ∀ {es : List En} {p : Int}, enS n es p = 0 → ∀ i : Nat, i < es.length → okE n (el es (i : Int))
  | [], p, _, i, hi => by simp at hi
  | x :: r, p, h, i, hi => by
    unfold enS at h
    split at h
    · cases h
    · rename_i h1
      split at h
      · cases h
      · split at h
        · rename_i h3
          cases i with
          | zero => rw [elw_zero]; exact ⟨by omega, by omega, enX_ok h3⟩
          | succ i => rw [elw_succ]; exact enS_ok h i (by simpa using hi)
        · rename_i h3; exact absurd h h3
theorem ch_ok {m : Int} {ld : List Int} {es : List En} (h : chX m ld es = 0) : 1 ≤ (ld.length : Int) ∧ (ld.length : Int) ≤ 8 ∧ (es.length : Int) ≤ 2000 ∧ ∀ i : Nat, i < es.length → okE (ld.length : Int) (el es (i : Int)) := by
  unfold chX at h
  split at h
  · rename_i hE
    split at h
    · split at h
      · rename_i he
        exact ⟨hE.2.2.1, hE.2.2.2, he, enS_ok h⟩
      · cases h
    · cases h
  · cases h
/-- loads and faults at the end -/
def endE (ld : List Int) (es : List En) : List Int × List Bool := es.foldl (fun s x => stepE x s) (ld, List.replicate ld.length false)
noncomputable def woN (m : Int) (ld : List Int) (es : List En) : Int := if chX m ld es = 0 then (wdN (tgF m (endE ld es).2 (endE ld es).1) : Int) else 0
noncomputable def woL (m : Int) (ld : List Int) (es : List En) : List Int := if chX m ld es = 0 then (endE ld es).1 else []
theorem wd_none : ∀ n : Nat, wdN (List.replicate n false) = 0
  | 0 => rfl
  | n + 1 => by rw [List.replicate_succ]; unfold wdN; rw [wd_none n]; rfl
theorem pof_is (m : Int) (ld : List Int) (es : List En) : KnownR Try.prog [] 12 [.val (.int .i64 m), .list (rowA gI ld) ld.length, .list (rowA gE es) es.length] (.tuple #[.int .i64 (woN m ld es), .complex .f64 0 (woL m ld es).length, .int .i64 (chX m ld es)]) [(rowA gI (woL m ld es), 3)] := by
  by_cases hc : chX m ld es = 0
  · obtain ⟨l1, l2, l3, ho⟩ := ch_ok hc
    obtain ⟨z, hz⟩ := poA_go (m := m) (ld := ld) (es := es) (by omega) (by omega) ho es.length 0 ld (List.replicate ld.length false) (by omega) rfl (by simp)
    obtain ⟨_, _, hLn, hFn⟩ := rfA_go (ld := ld) (es := es) (m := m) (by omega) (by omega) ho es.length 0 ld (List.replicate ld.length false) (by omega) rfl (by simp)
    rw [List.drop_zero] at hz hLn hFn
    have hLn : (endE ld es).1.length = ld.length := hLn
    have hFn : (endE ld es).2.length = ld.length := hFn
    rw [wd_none] at hz
    have oa := poA_ok m ld es hc ⟨l1, l2⟩ _ _ _ hz
    dsimp only at oa
    obtain ⟨z', hz'⟩ := poB_go (m := m) (ld := ld) (es := es) (z1 := z) (z2 := (wdN (endE ld es).2 : Int)) (L := (endE ld es).1) (F := (endE ld es).2) (by omega) hLn hFn ld.length 0 (by omega)
    rw [List.take_zero, List.nil_append, List.drop_zero] at hz'
    have hw := wd_lt (endE ld es).2
    have hw2 := pow8 (j := (endE ld es).2.length) (by have : (endE ld es).2.length = ld.length := hFn; omega)
    have hu : IntKind.u64.wrap (wdN (endE ld es).2 : Int) = (wdN (endE ld es).2 : Int) := w8u (by omega) (by omega)
    have ob := poB_ok m ld es (endE ld es).1.reverse z (wdN (endE ld es).2 : Int) hc ⟨l1, l2⟩ (by rw [List.length_reverse]; exact hLn.symm) (by simp [hc]) (decide_eq_true (by omega)) oa _ _ _ (by rw [hu]; exact hz')
    have r := po0 m ld es _ _ _ _ _ hc ⟨l1, l2⟩ (by rw [List.length_reverse]; exact hLn.symm) (by simp [hc]) (decide_eq_true (by omega)) oa ob
    have e0 : woN m ld es = (wdN (tgF m (endE ld es).2 (endE ld es).1) : Int) := by unfold woN; rw [if_pos hc]
    have e1 : woL m ld es = (endE ld es).1 := by unfold woL; rw [if_pos hc]
    have ht := wd_lt (tgF m (endE ld es).2 (endE ld es).1)
    have ht2 := pow8 (j := (tgF m (endE ld es).2 (endE ld es).1).length) (by rw [tg_len m _ _ (hFn.trans hLn.symm)]; have : (endE ld es).2.length = ld.length := hFn; omega)
    unfold po0_c0 po0_c1 at r
    rw [w8n (by omega) (by omega), List.reverse_reverse] at r
    rw [e0, e1, hc]
    exact r
  · have r := poE m ld es hc
    have e0 : woN m ld es = 0 := by unfold woN; rw [if_neg hc]
    have e1 : woL m ld es = [] := by unfold woL; rw [if_neg hc]
    rw [e0, e1]
    exact r
end Go.Proofs.Ytfpabkpmcmfbhaa
