/- Layer 14: how the loops over pairs end. -/
import Derived.Test.YtbhmgchkgbenmaaOgJ
namespace Go.Proofs.Ytbhmgchkgbenmaa
open Go Go.RowKit
set_option linter.unusedVariables false
def OkM (m : Mv) : Prop := (-9223372036854775808 ≤ m.1 ∧ m.1 ≤ 9223372036854775807) ∧ 0 ≤ m.2.1 ∧ m.2.1 ≤ 1000
def Pos64 (xs : List Mv) : Prop := ∀ m ∈ xs, -9223372036854775808 ≤ m.1 ∧ m.1 ≤ 9223372036854775807
theorem jmp_eq {a b : Mv} (ha : OkM a) (hb : OkM b) : pJmp_c0 a.fst a.snd.fst a.snd.snd.fst a.snd.snd.snd.fst a.snd.snd.snd.snd b.fst b.snd.fst b.snd.snd.fst b.snd.snd.snd.fst b.snd.snd.snd.snd = rJmp_c0 a.fst a.snd.fst a.snd.snd.fst a.snd.snd.snd.fst a.snd.snd.snd.snd b.fst b.snd.fst b.snd.snd.fst b.snd.snd.snd.fst b.snd.snd.snd.snd := by
  obtain ⟨p, s, m, x, d⟩ := a
  obtain ⟨p', s', m', x', d'⟩ := b
  obtain ⟨⟨h1, h2⟩, h3, h4⟩ := ha
  obtain ⟨⟨k1, k2⟩, k3, k4⟩ := hb
  dsimp only at *
  unfold pJmp_c0 rJmp_c0
  have ws : IntKind.i64.wrap (s + 1) = s + 1 := w8n (by omega) (by omega)
  have ws' : IntKind.i64.wrap (s - 1) = s - 1 := w8n (by omega) (by omega)
  rw [ws, ws']
  simp only [show ∀ x, IntKind.u64.wrap x = x % 18446744073709551616 from fun _ => rfl]
  have key : ∀ q : Bool, (bif q then true else bif s' != 0 then bif decide (s < s') then decide ((s' % 18446744073709551616 - s % 18446744073709551616) % 18446744073709551616 > 1) else decide ((s % 18446744073709551616 - s' % 18446744073709551616) % 18446744073709551616 > 1) else false) =
      bif decide (s' > s + 1) then true else bif decide (s' < s - 1) then bif q then true else s' != 0 else bif q then true else false := by
    have m1 : s % 18446744073709551616 = s := Int.emod_eq_of_lt h3 (by omega)
    have m2 : s' % 18446744073709551616 = s' := Int.emod_eq_of_lt k3 (by omega)
    rw [m1, m2]
    intro q
    cases q with
    | true => cases decide (s' > s + 1) <;> cases decide (s' < s - 1) <;> rfl
    | false =>
      rw [cond_false]
      by_cases c2 : s' = 0
      · have : (s' != 0) = false := by simp [c2]
        rw [this, cond_false, decide_eq_false (show ¬ s' > s + 1 by omega), cond_false]
        cases decide (s' < s - 1) <;> rfl
      · have : (s' != 0) = true := by simp [c2]
        rw [this, cond_true]
        by_cases c1 : s < s'
        · rw [decide_eq_true c1, cond_true, decide_eq_false (show ¬ s' < s - 1 by omega), cond_false]
          have e : (s' - s) % 18446744073709551616 = s' - s := Int.emod_eq_of_lt (by omega) (by omega)
          rw [e]
          by_cases c3 : s' > s + 1
          · rw [decide_eq_true c3, decide_eq_true (show s' - s > 1 by omega)]; rfl
          · rw [decide_eq_false c3, decide_eq_false (show ¬ s' - s > 1 by omega)]; rfl
        · rw [decide_eq_false c1, cond_false, decide_eq_false (show ¬ s' > s + 1 by omega), cond_false]
          have e : (s - s') % 18446744073709551616 = s - s' := Int.emod_eq_of_lt (by omega) (by omega)
          rw [e]
          by_cases c3 : s' < s - 1
          · rw [decide_eq_true c3, decide_eq_true (show s - s' > 1 by omega)]; rfl
          · rw [decide_eq_false c3, decide_eq_false (show ¬ s - s' > 1 by omega)]; rfl
  by_cases hp : p < p'
  · rw [bif_dT hp, if_pos (show p' > p from hp), if_neg (show ¬ p' < p by omega)]
    exact key _
  · rw [bif_dF hp]
    by_cases hp2 : p' < p
    · rw [if_neg (show ¬ p' > p by omega), if_pos hp2]
      exact key _
    · have : p' = p := by omega
      subst this
      rw [if_neg (show ¬ p' > p' by omega)]
      exact key _
theorem chk0 {m : Mv} (h : chk m = 0) : 0 ≤ m.2.1 ∧ m.2.1 ≤ 1000 := by
  unfold chk pChk_c0 at h
  by_cases c1 : m.2.1 < 0
  · rw [bif_dT c1] at h; cases h
  · rw [bif_dF c1] at h
    by_cases c2 : m.2.1 > 1000
    · rw [bif_dT c2] at h; cases h
    · omega
theorem cE0 : ∀ {xs : List Mv}, cE xs = 0 → ∀ m ∈ xs, chk m = 0
  | [], _, m, hm => by cases hm
  | x :: t, h, m, hm => by
    simp only [cE] at h
    cases hc : (chk x != 0) with
    | true =>
      rw [hc, cond_true] at h
      rw [h] at hc; cases hc
    | false =>
      rw [hc, cond_false] at h
      have hx : chk x = 0 := by simpa using hc
      rcases List.mem_cons.1 hm with rfl | hm
      · exact hx
      · exact cE0 h m hm
theorem cAll0 {xs : List Mv} (h : cAll xs = 0) : xs.length ≤ 10000 ∧ cE xs = 0 := by
  unfold cAll at h
  split at h
  · cases h
  · exact ⟨by omega, h⟩
theorem el_ok {xs : List Mv} (h : cAll xs = 0) (hp : Pos64 xs) (z : Int) : OkM (el xs z) := by
  by_cases hz : z.toNat < xs.length
  · have hm : el xs z ∈ xs := by
      unfold el
      rw [List.getD_eq_getElem?_getD, List.getElem?_eq_getElem hz]
      exact List.getElem_mem hz
    exact ⟨hp _ hm, chk0 (cE0 (cAll0 h).2 _ hm)⟩
  · have : el xs z = default := by
      unfold el
      rw [List.getD_eq_getElem?_getD, List.getElem?_eq_none (by omega)]
      rfl
    rw [this]
    exact ⟨⟨by decide, by decide⟩, by decide, by decide⟩
theorem jr_eq {xs : List Mv} (h : cAll xs = 0) (hp : Pos64 xs) : ∀ (fu : Nat) (y0 : List Int) (y1 : Int), rjA_f xs fu y0 y1 = jpA_f xs fu y0 y1 := by
  intro fu
  induction fu with
  | zero => intro y0 y1; rw [jpA_f0, rjA_f0]
  | succ fu ih =>
    intro y0 y1
    rw [jpA_fs, rjA_fs, jmp_eq (el_ok h hp _) (el_ok h hp _), ih, ih]
theorem sr_eq {xs : List Mv} : ∀ (fu : Nat) (y0 : List Int) (y1 : Int), rsA_f xs fu y0 y1 = spA_f xs fu y0 y1 := by
  intro fu
  induction fu with
  | zero => intro y0 y1; rw [spA_f0, rsA_f0]
  | succ fu ih =>
    intro y0 y1
    rw [spA_fs, rsA_fs, ih, ih]
theorem jpA_end (xs : List Mv) (hx : xs.length ≤ 10000) : ∀ (n i : Nat) (l : List Int), 1 ≤ i → xs.length ≤ i + n → i ≤ 10001 → l.length < i → ∃ z, jpA_f xs (n + 1) l (i : Int) = some (0, z) ∧ z.1.length ≤ 10000 := by
  intro n
  induction n with
  | zero =>
    intro i l h1 h2 h3 h4
    rw [jpA_fs, bif_dT ⟨by omega, by omega, by omega⟩, bif_dF (by omega)]
    exact ⟨_, rfl, by show l.length ≤ 10000; omega⟩
  | succ n ih =>
    intro i l h1 h2 h3 h4
    rw [jpA_fs, bif_dT ⟨by omega, by omega, by omega⟩]
    by_cases hi : (i : Int) < (xs.length : Int)
    · rw [bif_dT hi]
      have hw : IntKind.i64.wrap ((i : Int) + 1) = ((i + 1 : Nat) : Int) := w8n (n := (i : Int) + 1) (by omega) (by omega)
      rw [hw]
      generalize pJmp_c0 _ _ _ _ _ _ _ _ _ _ = b
      cases b with
      | true => rw [cond_true]; exact ih (i + 1) _ (by omega) (by omega) (by omega) (by simp only [List.length_cons]; omega)
      | false => rw [cond_false]; exact ih (i + 1) _ (by omega) (by omega) (by omega) (by omega)
    · rw [bif_dF hi]
      exact ⟨_, rfl, by show l.length ≤ 10000; omega⟩
theorem spA_end (xs : List Mv) (hx : xs.length ≤ 10000) : ∀ (n i : Nat) (l : List Int), 1 ≤ i → xs.length ≤ i + n → i ≤ 10001 → l.length < i → ∃ z, spA_f xs (n + 1) l (i : Int) = some (0, z) ∧ z.1.length ≤ 10000 := by
  intro n
  induction n with
  | zero =>
    intro i l h1 h2 h3 h4
    rw [spA_fs, bif_dT ⟨by omega, by omega, by omega⟩, bif_dF (by omega)]
    exact ⟨_, rfl, by show l.length ≤ 10000; omega⟩
  | succ n ih =>
    intro i l h1 h2 h3 h4
    rw [spA_fs, bif_dT ⟨by omega, by omega, by omega⟩]
    by_cases hi : (i : Int) < (xs.length : Int)
    · rw [bif_dT hi]
      have hw : IntKind.i64.wrap ((i : Int) + 1) = ((i + 1 : Nat) : Int) := w8n (n := (i : Int) + 1) (by omega) (by omega)
      rw [hw]
      generalize decide ((el xs (IntKind.i64.wrap ((i : Int) - 1))).snd.fst > 0) = b
      generalize ((el xs (i : Int)).snd.fst == 0) = c
      cases b with
      | true =>
        rw [cond_true]
        cases c with
        | true => rw [cond_true]; exact ih (i + 1) _ (by omega) (by omega) (by omega) (by simp only [List.length_cons]; omega)
        | false => rw [cond_false]; exact ih (i + 1) _ (by omega) (by omega) (by omega) (by omega)
      | false => rw [cond_false]; exact ih (i + 1) _ (by omega) (by omega) (by omega) (by omega)
    · rw [bif_dF hi]
      exact ⟨_, rfl, by show l.length ≤ 10000; omega⟩
noncomputable def jL (xs : List Mv) : List Int := if cAll xs = 0 then (((jpA_f xs (xs.length + 1) [] 1).getD (0, ([], 0))).2.1).reverse else []
noncomputable def sL (xs : List Mv) : List Int := if cAll xs = 0 then (((spA_f xs (xs.length + 1) [] 1).getD (0, ([], 0))).2.1).reverse else []
theorem jL_len (xs : List Mv) : (jL xs).length ≤ 10000 := by
  unfold jL
  split
  · rename_i h
    obtain ⟨z, e, hz⟩ := jpA_end xs (cAll0 h).1 xs.length 1 [] (by omega) (by omega) (by omega) (by simp)
    have e : jpA_f xs (xs.length + 1) [] 1 = some (0, z) := e
    rw [e, List.length_reverse]
    exact hz
  · simp
theorem sL_len (xs : List Mv) : (sL xs).length ≤ 10000 := by
  unfold sL
  split
  · rename_i h
    obtain ⟨z, e, hz⟩ := spA_end xs (cAll0 h).1 xs.length 1 [] (by omega) (by omega) (by omega) (by simp)
    have e : spA_f xs (xs.length + 1) [] 1 = some (0, z) := e
    rw [e, List.length_reverse]
    exact hz
  · simp
theorem jumps_p (xs : List Mv) : KnownR Try.prog [] 23 [.list (rowA gM xs) xs.length] (.tuple #[.complex .f64 0 (jL xs).length, .int .i64 (cAll xs)]) [(rowA gI (jL xs), 3)] := by
  unfold jL
  split
  · rename_i h
    obtain ⟨z, e, hz⟩ := jpA_end xs (cAll0 h).1 xs.length 1 [] (by omega) (by omega) (by omega) (by simp)
    have e : jpA_f xs (xs.length + 1) [] 1 = some (0, z) := e
    have := jpC xs z.1 z.2 (cAll0 h).1 h (by simp [h]) (jpA_ok xs (cAll0 h).1 h (xs.length + 1) 0 z e)
    rw [e, h]
    exact this
  · rename_i h; exact jpB xs h
theorem stops_p (xs : List Mv) : KnownR Try.prog [] 25 [.list (rowA gM xs) xs.length] (.tuple #[.complex .f64 0 (sL xs).length, .int .i64 (cAll xs)]) [(rowA gI (sL xs), 3)] := by
  unfold sL
  split
  · rename_i h
    obtain ⟨z, e, hz⟩ := spA_end xs (cAll0 h).1 xs.length 1 [] (by omega) (by omega) (by omega) (by simp)
    have e : spA_f xs (xs.length + 1) [] 1 = some (0, z) := e
    have := spC xs z.1 z.2 (cAll0 h).1 h (by simp [h]) (spA_ok xs (cAll0 h).1 h (xs.length + 1) 0 z e)
    rw [e, h]
    exact this
  · rename_i h; exact spB xs h
theorem jumps_r (xs : List Mv) (hp : Pos64 xs) : KnownR Try.prog [] 24 [.list (rowA gM xs) xs.length] (.tuple #[.complex .f64 0 (jL xs).length, .int .i64 (cAll xs)]) [(rowA gI (jL xs), 3)] := by
  unfold jL
  split
  · rename_i h
    obtain ⟨z, e, hz⟩ := jpA_end xs (cAll0 h).1 xs.length 1 [] (by omega) (by omega) (by omega) (by simp)
    have e : jpA_f xs (xs.length + 1) [] 1 = some (0, z) := e
    have := rjC xs z.1 z.2 (cAll0 h).1 h (by simp [h]) (rjA_ok xs (cAll0 h).1 h (xs.length + 1) 0 z ((jr_eq h hp _ _ _).trans e))
    rw [e, h]
    exact this
  · rename_i h; exact rjB xs h
theorem stops_r (xs : List Mv) : KnownR Try.prog [] 26 [.list (rowA gM xs) xs.length] (.tuple #[.complex .f64 0 (sL xs).length, .int .i64 (cAll xs)]) [(rowA gI (sL xs), 3)] := by
  unfold sL
  split
  · rename_i h
    obtain ⟨z, e, hz⟩ := spA_end xs (cAll0 h).1 xs.length 1 [] (by omega) (by omega) (by omega) (by simp)
    have e : spA_f xs (xs.length + 1) [] 1 = some (0, z) := e
    have := rsC xs z.1 z.2 (cAll0 h).1 h (by simp [h]) (rsA_ok xs (cAll0 h).1 h (xs.length + 1) 0 z ((sr_eq _ _ _).trans e))
    rw [e, h]
    exact this
  · rename_i h; exact rsB xs h
theorem smA_go (xs : List Mv) (hx : xs.length ≤ 20000) : ∀ (n i : Nat), i + n = xs.length → ∃ z, smA_f xs xs (n + 1) (i : Int) = some (1, z) := by
  intro n
  induction n with
  | zero =>
    intro i h
    exact ⟨(i : Int), by rw [smA_fs, bif_dT (by omega), bif_dF (by omega)]⟩
  | succ n ih =>
    intro i h
    rw [smA_fs, bif_dT (by omega), bif_dT (by omega)]
    have hw : IntKind.i64.wrap ((i : Int) + 1) = ((i + 1 : Nat) : Int) := w8n (n := (i : Int) + 1) (by omega) (by omega)
    rw [hw]
    have he : (!((el xs (i : Int)).fst == (el xs (i : Int)).fst && ((el xs (i : Int)).snd.fst == (el xs (i : Int)).snd.fst && ((el xs (i : Int)).snd.snd.fst == (el xs (i : Int)).snd.snd.fst && ((el xs (i : Int)).snd.snd.snd.fst == (el xs (i : Int)).snd.snd.snd.fst && (el xs (i : Int)).snd.snd.snd.snd == (el xs (i : Int)).snd.snd.snd.snd))))) = false := by simp
    rw [he, cond_false]
    exact ih (i + 1) (by omega)
theorem same_m (xs : List Mv) (hx : xs.length ≤ 20000) : KnownR Try.prog [] 18 [.list (rowA gM xs) xs.length, .list (rowA gM xs) xs.length] (.bool true) [] := by
  obtain ⟨z, h⟩ := smA_go xs hx xs.length 0 (by omega)
  exact smF xs xs z hx rfl (by simp) (smA_ok xs xs hx rfl (xs.length + 1) 1 z h)
theorem same_i (xs : List Int) (hx : xs.length ≤ 20000) : KnownR Try.prog [] 17 [.list (rowA gI xs) xs.length, .list (rowA gI xs) xs.length] (.bool true) [] := by
  have := same_ints xs xs hx
  rw [decide_eq_true rfl] at this
  exact this
end Go.Proofs.Ytbhmgchkgbenmaa
