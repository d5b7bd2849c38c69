import Derived.Test.YtbhmgchkgbenmaaOgZd
set_option linter.unusedVariables false
namespace Go.Proofs.Ytbhmgchkgbenmaa
open Go Go.RowKit
def totL : List Mv → Int
 | [] => 0
 | m :: r => ((csS 20 3 m).length : Int) + totL r
theorem tot_0 : ∀ (l : List Mv), 0 ≤ totL l ∧ totL l ≤ 5 * l.length
 | [] => ⟨by decide, by decide⟩
 | m :: r => by
  have := tot_0 r
  have := cs_len (u := 20) (v := 3) (m := m)
  simp only [totL, List.length_cons]
  omega
theorem cs_sum (m : Mv) : (csS 20 3 m).count 1 + (csS 20 3 m).count 2 + (csS 20 3 m).count 3 + (csS 20 3 m).count 4 + (csS 20 3 m).count 5 = (csS 20 3 m).length := by
 unfold csS
 generalize decide (m.2.1 > 3) = b1
 generalize (decide (m.1 < 0) || decide (m.1 > 20)) = b2
 generalize (decide (m.2.1 > 0) && m.2.2.2.1) = b3
 generalize (decide (m.2.1 > 0) && !m.2.2.1) = b4
 generalize (m.2.2.1 && decide (m.2.2.2.2 > 0)) = b5
 cases b1 <;> cases b2 <;> cases b3 <;> cases b4 <;> cases b5 <;> decide
theorem cnt_sum : ∀ (l : List Mv), cntL 20 3 l 1 + cntL 20 3 l 2 + cntL 20 3 l 3 + cntL 20 3 l 4 + cntL 20 3 l 5 = totL l
 | [] => by simp [cntL, totL]
 | m :: r => by
  have := cnt_sum r
  have := cs_sum m
  simp only [cntL, totL]
  omega
theorem cnt_0 (u v j : Int) : ∀ (l : List Mv), 0 ≤ cntL u v l j
 | [] => by simp [cntL]
 | m :: r => by
  have := cnt_0 u v j r
  simp only [cntL]
  omega
theorem first_tot : ∀ (l : List Mv) (i : Int), ((firstC 20 3 l i).1 > 0 ↔ totL l > 0)
 | [], i => by simp [firstC, totL]
 | m :: r, i => by
  have ih := first_tot r (i + 1)
  have t := tot_0 r
  unfold firstC
  simp only [totL]
  cases h : csS 20 3 m with
  | nil => simpa using ih
  | cons c q =>
   have := cs_pos (u := 20) (v := 3) (m := m) c (by rw [h]; simp)
   simp only [List.length_cons]
   omega
theorem fiA_go {xs : List Int} : ∀ (k : Nat) (y0 y1 y2 : Int), k ≤ (mdL xs).length → firstC 20 3 ((mdL xs).drop k) k = (y1, y0) → totL ((mdL xs).drop k) = y2 →
  ∃ z, fiA_f xs (k + 1) y0 y1 y2 ((k : Int) - 1) = some (0, ((firstC 20 3 (mdL xs) 0).2, (firstC 20 3 (mdL xs) 0).1, totL (mdL xs), z)) := by
 have hlen := md_len (xs := xs)
 intro k
 induction k with
 | zero =>
  intro y0 y1 y2 h h1 h2
  rw [List.drop_zero] at h1 h2
  have h1 : firstC 20 3 (mdL xs) 0 = (y1, y0) := h1
  refine ⟨-1, ?_⟩
  rw [fiA_fs, show ((0 : Nat) : Int) - 1 = -1 from rfl, bif_dT (by omega), bif_dF (by omega), h1, h2]
 | succ k ih =>
  intro y0 y1 y2 h h1 h2
  have hd := el_drop (l := mdL xs) (i := k) (by omega)
  have hok := md_ok (xs := xs) (el (mdL xs) (k : Int)) (List.mem_of_mem_drop (i := k) (by rw [hd]; simp))
  obtain ⟨_, ⟨o1, o2⟩, o3, o4⟩ := hok
  have ex : ((el (mdL xs) (k : Int)).fst, (el (mdL xs) (k : Int)).snd.fst, (el (mdL xs) (k : Int)).snd.snd.fst, (el (mdL xs) (k : Int)).snd.snd.snd.fst, (el (mdL xs) (k : Int)).snd.snd.snd.snd) = el (mdL xs) (k : Int) := rfl
  have t := tot_0 ((mdL xs).drop (k + 1))
  have tl : ((mdL xs).drop (k + 1)).length ≤ 30 := by simp; omega
  have cl := cs_len (u := 20) (v := 3) (m := el (mdL xs) (k : Int))
  have e2 : totL ((mdL xs).drop k) = y2 + ((csS 20 3 (el (mdL xs) (k : Int))).length : Int) := by rw [hd, ← h2]; simp only [totL]; omega
  have e1 : firstC 20 3 ((mdL xs).drop k) (k : Int) = match csS 20 3 (el (mdL xs) (k : Int)) with
    | [] => (y1, y0)
    | c :: _ => (c, (k : Int)) := by
   rw [hd, ← h1]
   rfl
  rw [fiA_fs, show ((k + 1 : Nat) : Int) - 1 = (k : Int) by omega, ex, bif_dT ⟨by omega, by omega, fun _ => ⟨o1, by omega, o3, by omega⟩⟩, bif_dT (by omega), w8n (n := (k : Int) - 1) (by omega) (by omega), w8n (n := y2 + ((csS 20 3 (el (mdL xs) (k : Int))).length : Int)) (by omega) (by omega)]
  cases hc : csS 20 3 (el (mdL xs) (k : Int)) with
  | nil =>
   rw [bif_dF (by simp)]
   rw [hc] at e1 e2
   exact ih y0 y1 _ (by omega) e1 e2
  | cons c q =>
   rw [bif_dT (by simp only [List.length_cons]; omega)]
   rw [hc] at e1 e2
   exact ih (k : Int) c _ (by omega) e1 e2
theorem lawF_is (xs : List Int) : KnownR Try.prog [] 7 [.list (rowA gI xs) xs.length] (.bool true) [] := by
 have hlen := md_len (xs := xs)
 have hx : wX (mdL xs) 20 3 = 0 := wX0.2 ⟨md_all xs, by decide, by decide, by decide, by decide⟩
 have hl : (cL (mdL xs) 20 3).length = 5 := by rw [cL_is hx]; rfl
 obtain ⟨z, hz⟩ := fiA_go (xs := xs) (mdL xs).length 0 0 0 (Nat.le_refl _) (by rw [List.drop_length]; rfl) (by rw [List.drop_length]; rfl)
 have r := fi0 xs _ _ _ z hx hl hlen (by simp [hx]) (by simp [hx]) (by simp [hl]) (fiA_ok xs hx hl hlen _ _ _ (by rw [w8n (n := ((mdL xs).length : Int) - 1) (by omega) (by omega)]; exact hz))
 have e : ∀ z, fi0_c0 xs (firstC 20 3 (mdL xs) 0).2 (firstC 20 3 (mdL xs) 0).1 (totL (mdL xs)) z = true := by
  intro z
  unfold fi0_c0
  have et : tW (mdL xs) 20 3 = firstC 20 3 (mdL xs) 0 := by unfold tW; rw [if_pos hx]
  rw [et, cL_is hx]
  have t0 : ∀ a b c d e : Int, el [a, b, c, d, e] 0 = a := fun _ _ _ _ _ => rfl
  have t1 : ∀ a b c d e : Int, el [a, b, c, d, e] 1 = b := fun _ _ _ _ _ => rfl
  have t2 : ∀ a b c d e : Int, el [a, b, c, d, e] 2 = c := fun _ _ _ _ _ => rfl
  have t3 : ∀ a b c d e : Int, el [a, b, c, d, e] 3 = d := fun _ _ _ _ _ => rfl
  have t4 : ∀ a b c d e : Int, el [a, b, c, d, e] 4 = e := fun _ _ _ _ _ => rfl
  simp only [t0, t1, t2, t3, t4]
  have s := cnt_sum (mdL xs)
  have b := tot_0 (mdL xs)
  have f := first_tot (mdL xs) 0
  have c1 := cnt_0 20 3 1 (mdL xs)
  have c2 := cnt_0 20 3 2 (mdL xs)
  have c3 := cnt_0 20 3 3 (mdL xs)
  have c4 := cnt_0 20 3 4 (mdL xs)
  have c5 := cnt_0 20 3 5 (mdL xs)
  rw [w8n (n := 0 + cntL 20 3 (mdL xs) 1) (by omega) (by omega), w8n (n := 0 + cntL 20 3 (mdL xs) 1 + cntL 20 3 (mdL xs) 2) (by omega) (by omega), w8n (n := 0 + cntL 20 3 (mdL xs) 1 + cntL 20 3 (mdL xs) 2 + cntL 20 3 (mdL xs) 3) (by omega) (by omega), w8n (n := 0 + cntL 20 3 (mdL xs) 1 + cntL 20 3 (mdL xs) 2 + cntL 20 3 (mdL xs) 3 + cntL 20 3 (mdL xs) 4) (by omega) (by omega), w8n (n := 0 + cntL 20 3 (mdL xs) 1 + cntL 20 3 (mdL xs) 2 + cntL 20 3 (mdL xs) 3 + cntL 20 3 (mdL xs) 4 + cntL 20 3 (mdL xs) 5) (by omega) (by omega)]
  rw [show 0 + cntL 20 3 (mdL xs) 1 + cntL 20 3 (mdL xs) 2 + cntL 20 3 (mdL xs) 3 + cntL 20 3 (mdL xs) 4 + cntL 20 3 (mdL xs) 5 = totL (mdL xs) by omega]
  simp only [beq_self_eq_true, Bool.and_self, cond_true]
  simp only [f]
  exact beq_self_eq_true _
 rw [e] at r
 exact r
theorem limitFirst_true (A0 : Option Addr) (len0 cap0 : Nat) (xs0 : List Int) (w : World) (hl0 : xs0.length = len0) (hi0 : ListIn w (rowA gI xs0) len0 A0 cap0) (_ : ∀ m ∈ xs0, rowW gI m) :
  Calls Try.prog 7 #[.slice A0 len0 cap0] w fun e w' => e = .returned (.bool true) ∧ Below w.heap.size w w' := by
 subst hl0
 exact knownR_law (lawF_is xs0) (LaidL.nil w) (.cons (.list hi0) .nil)
end Go.Proofs.Ytbhmgchkgbenmaa
