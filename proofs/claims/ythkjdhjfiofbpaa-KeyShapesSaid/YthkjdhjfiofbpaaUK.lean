import Derived.Test.YthkjdhjfiofbpaaOgQ
import Derived.Test.YthkjdhjfiofbpaaUJ
import Derived.Test.YthkjdhjfiofbpaaFrL
set_option linter.unusedVariables false
namespace Go.Proofs.Ythkjdhjfiofbpaa
open Go Go.RowKit
def In64 (n : Int) : Prop := -9223372036854775808 ≤ n ∧ n ≤ 9223372036854775807
theorem ke_rev : keL.reverse = [7, 42] := rfl
theorem fN {n : Int} : 1 ≤ IntKind.i64.wrap (1 + n % 25) ∧ IntKind.i64.wrap (1 + n % 25) ≤ 25 ∧ IntKind.i64.wrap (IntKind.i64.wrap (1 + n % 25) + 3) = IntKind.i64.wrap (1 + n % 25) + 3 := by
 have b0 := Int.emod_nonneg n (by decide : (25 : Int) ≠ 0)
 have b1 := Int.emod_lt_of_pos n (by decide : (0 : Int) < 25)
 have e : IntKind.i64.wrap (1 + n % 25) = 1 + n % 25 := w8n (by omega) (by omega)
 rw [e]
 exact ⟨by omega, by omega, w8n (by omega) (by omega)⟩
theorem hi_len {st : List (Int × Int)} (hl : st.length ≤ 30) (h : hiS st 0 = 2) : hiX st = 0 := by
 unfold hiX
 rw [if_pos (by omega), h]
 rfl
theorem ak_k {st : List (Int × Int)} {f : Int} (hf : 1 ≤ f ∧ f ≤ 100000) (hl : st.length ≤ 30) (h : hiS st 0 = 2) : akX keL.reverse f (-1) st = 0 := by
 unfold akX
 rw [ke_rev, if_pos (ck_k hf (by omega))]
 exact hi_len hl h
theorem sr_k {st : List (Int × Int)} {f : Int} (hf : 1 ≤ f ∧ f ≤ 100000) (hl : st.length ≤ 30) (h : hiS st 0 = 2) : srR keL.reverse f (-1) st = (strS [7, 42] f st).reverse := by
 unfold srR
 rw [if_pos (ak_k hf hl h), ke_rev]
theorem ksA_go {xs : List Int} {n : Int} : ∀ (r : List (Int × Int)) (i : Nat) (y0 : List (Int × Int)), (stL xs).drop i = r → i + r.length = (stL xs).length → y0.length ≤ i →
  ksA_f xs n (r.length + 1) y0 (i : Int) = some (0, ((fewS r).reverse ++ y0, ((stL xs).length : Int))) := by
 have hl := st_len xs
 intro r
 induction r with
 | nil =>
  intro i y0 h1 h2 h3
  simp only [List.length_nil] at h2
  rw [ksA_fs, bif_dT (by omega), bif_dF (by omega), show (i : Int) = ((stL xs).length : Int) by omega]
  rfl
 | cons x r ih =>
  intro i y0 h1 h2 h3
  simp only [List.length_cons] at h2
  have hi : i < (stL xs).length := by omega
  have hx : el (stL xs) (i : Int) = x ∧ (stL xs).drop (i + 1) = r := by
   have := el_drop (l := stL xs) (i := i) hi
   rw [h1] at this
   injection this with q1 q2
   exact ⟨q1.symm, q2.symm⟩
  rw [List.length_cons, ksA_fs, bif_dT (by omega), bif_dT (by omega), hx.1, w8n (n := (i : Int) + 1) (by omega) (by omega), show (i : Int) + 1 = ((i + 1 : Nat) : Int) by omega]
  unfold fewS
  rw [List.filter_cons]
  cases h : (x.2 != (9 : Int)) with
  | true =>
   have h' : (x.snd != (9 : Int)) = true := h
   rw [cond_true, if_pos rfl, ih (i + 1) _ hx.2 (by omega) (by simp only [List.length_cons]; omega)]
   unfold fewS
   simp
  | false =>
   rw [cond_false, if_neg (by decide), ih (i + 1) _ hx.2 (by omega) (by omega)]
   rfl
theorem get_el {l : List (Int × Int)} {i : Nat} (h : i < l.length) : el l (i : Int) = l[i] := by
 unfold el
 rw [List.getD_eq_getElem?_getD, Int.toNat_natCast, List.getElem?_eq_getElem h]
 rfl
theorem hi_mem : ∀ {r : List (Int × Int)} {p : Int}, hiS r p = 2 → ∀ x ∈ r, 0 ≤ x.1
 | [], p, h, x, hx => by cases hx
 | y :: r, p, h, x, hx => by
  obtain ⟨k1, k2, k3, k4⟩ := hi_parts h
  rcases List.mem_cons.1 hx with e | e
  ·subst e; exact k2.1
  ·exact hi_mem k4 x e
theorem ksI_go {xs : List Int} {n z1 t : Int} {z0 : List (Int × Int)} (hz : z0.length ≤ 30) : ∀ (k i : Nat) (b : Bool), i + k = z0.length →
  ∃ z, ksI_f xs n z0 z1 t (k + 1) b (i : Int) = some (0, (b || (z0.reverse.drop i).any (fun x => x.1 == (el (srR keL.reverse (IntKind.i64.wrap (1 + n % 25)) (-1) (stL xs)) t).1), z)) := by
 intro k
 induction k with
 | zero =>
  intro i b h
  rw [ksI_fs, bif_dT (by omega), bif_dF (by omega), List.drop_of_length_le (by simp; omega)]
  exact ⟨_, by rw [List.any_nil, Bool.or_false]⟩
 | succ k ih =>
  intro i b h
  rw [ksI_fs, bif_dT (by omega), bif_dT (by omega), el_drop (l := z0.reverse) (i := i) (by simp; omega), w8n (n := (i : Int) + 1) (by omega) (by omega), show (i : Int) + 1 = ((i + 1 : Nat) : Int) by omega]
  cases b with
  | true =>
   rw [cond_true]
   obtain ⟨z, hz⟩ := ih (i + 1) true (by omega)
   exact ⟨z, by rw [hz, Bool.true_or, Bool.true_or]⟩
  | false =>
   rw [cond_false, Bool.false_or, List.any_cons]
   exact ih (i + 1) _ (by omega)
theorem ksB_go {xs : List Int} {n z1 : Int} {z0 : List (Int × Int)} {al : List (Int × Int)} {f : Int} (hal : srR keL.reverse (IntKind.i64.wrap (1 + n % 25)) (-1) (stL xs) = al) (hf : IntKind.i64.wrap (1 + n % 25) = f) (hf3 : IntKind.i64.wrap (f + 3) = f + 3) (hfb : 1 ≤ f ∧ f ≤ 25) (hz : z0.length ≤ 30) (hl : al.length ≤ 30)
  (h1 : ∀ i : Nat, i < al.length → z0.reverse.any (fun x => x.1 == (el al (i : Int)).1) = true) (h2 : ∀ i : Nat, i < al.length → 0 ≤ (el al (i : Int)).1 ∧ (el al (i : Int)).1 ≤ 100000 ∧ (el al (i : Int)).1 + f ≤ (el al (i : Int)).2)
  (h3 : ∀ i : Nat, 0 < i → i < al.length → (el al ((i - 1 : Nat) : Int)).2 < (el al (i : Int)).1) (h4 : ∀ i : Nat, i < al.length → cvB keL.reverse (f + 3) (-1) (stL xs) (el al (i : Int)).1 (el al (i : Int)).2 = true ∧ cvX keL.reverse (f + 3) (-1) (stL xs) (el al (i : Int)).1 (el al (i : Int)).2 = 0) :
  ∀ (k i : Nat), i + k = al.length → ∃ z, ksB_f xs n z0 z1 (k + 1) (i : Int) = some (1, z) := by
 intro k
 induction k with
 | zero =>
  intro i h
  rw [ksB_fs, hal, bif_dT (by omega), bif_dF (by omega)]
  exact ⟨_, rfl⟩
 | succ k ih =>
  intro i h
  obtain ⟨z, hzz⟩ := ksI_go (xs := xs) (n := n) (z1 := z1) (t := (i : Int)) hz z0.length 0 false (by omega)
  rw [hal, Bool.false_or, List.drop_zero, h1 i (by omega)] at hzz
  have hzz : ksI_f xs n z0 z1 (i : Int) (z0.length + 1) false 0 = some (0, (true, z)) := hzz
  rw [ksB_fs, hal, hf, hf3, bif_dT (by omega), bif_dT (by omega), hzz]
  simp only [ksI_m]
  obtain ⟨q1, q2, q3⟩ := h2 i (by omega)
  obtain ⟨q4, q5⟩ := h4 i (by omega)
  rw [show Nat.beq 0 0 = true from rfl, cond_true, show (!true) = false from rfl, cond_false, w8n (n := (el al (i : Int)).1 + f) (by omega) (by omega), bif_dF (by omega), q4, q5, show (!true) = false from rfl, cond_false, show ((0 : Int) != 0) = false from rfl, cond_false, w8n (n := (i : Int) + 1) (by omega) (by omega), show (i : Int) + 1 = ((i + 1 : Nat) : Int) by omega]
  by_cases hi : (i : Int) > 0
  ·have q6 := h3 i (by omega) (by omega)
   rw [bif_dT hi, w8n (n := (i : Int) - 1) (by omega) (by omega), show (i : Int) - 1 = ((i - 1 : Nat) : Int) by omega, bif_dF (by omega)]
   exact ih (i + 1) (by omega)
  ·rw [bif_dF hi]
   exact ih (i + 1) (by omega)
theorem shapes_is (xs : List Int) (n : Int) : KnownR Try.prog [] 6 [.list (rowA gI xs) xs.length, .val (.int .i64 n)] (.bool true) [] := by
 obtain ⟨hn1, hn2, hn3⟩ := fN (n := n)
 have hl := st_len xs
 have hb : ((xs.take 30).length : Int) ≤ 30 := by simp; omega
 have hS : hiS (stL xs) 0 = 2 := sm_hi _ 0 0 (by omega) (by omega) (by omega)
 have hF : hiS (fewS (stL xs)) 0 = 2 := few_hi hS
 have hFl : (fewS (stL xs)).length ≤ 30 := Nat.le_trans (List.length_filter_le _ _) hl
 have hkeys : ∀ x ∈ fewS (stL xs), x ∈ fewS (stL xs) ∧ hasK [7, 42] x.2 = true := fun x hx => ⟨hx, few_keys x hx⟩
 have hA := ksA_go (xs := xs) (n := n) (stL xs) 0 [] (List.drop_zero) (by omega) (by simp)
 rw [List.append_nil] at hA
 have hlt2 := sm_lt (xs.take 30) 0 0 (by omega) (by omega)
 have hlt2 : (stL xs).foldl ltF 0 ≤ 0 + 16 * ((xs.take 30).length : Int) := hlt2
 obtain ⟨f, hf⟩ : ∃ f, IntKind.i64.wrap (1 + n % 25) = f := ⟨_, rfl⟩
 rw [hf] at hn1 hn2 hn3
 have hx := ak_k (f := f) (by omega) hl hS
 have hy := ak_k (f := f) (by omega) hFl hF
 have hsr := sr_k (f := f) (by omega) hl hS
 have hsf := sr_k (f := f) (by omega) hFl hF
 have hfew : strS [7, 42] f (stL xs) = strS [7, 42] f (fewS (stL xs)) := few_str _ _
 have hE : srR keL.reverse f (-1) (stL xs) = srR keL.reverse f (-1) (fewS (stL xs)) := by rw [hsr, hsf, hfew]
 obtain ⟨hi, hal⟩ := inv_fold hn1 (stL xs) [] (-1) 0 hS (by omega) (.inl ⟨rfl, rfl⟩)
 have hi : InvS f (strS [7, 42] f (stL xs)) ((stL xs).foldl lcF (-1)) := hi
 rw [hfew] at hi
 have hsh : Shp f (fewS (stL xs)) (strS [7, 42] f (fewS (stL xs))) := shp_fold hn1 _ [] (-1) 0 hF (by omega) (.inl ⟨rfl, rfl⟩) ⟨by simp, fun s hs => by cases hs⟩ hkeys
 obtain ⟨al, hal2⟩ : ∃ al, srR keL.reverse f (-1) (stL xs) = al := ⟨_, rfl⟩
 have hal3 : al = (strS [7, 42] f (fewS (stL xs))).reverse := by rw [← hal2, hsr, hfew]
 have hlen : al.length ≤ (fewS (stL xs)).length := by
  rw [hal3, List.length_reverse]
  have := fold_len [7, 42] f (fewS (stL xs)) []
  have e : (strS [7, 42] f (fewS (stL xs))).length ≤ ([] : List (Int × Int)).length + (fewS (stL xs)).length := this
  simpa using e
 have hmem : ∀ i : Nat, i < al.length → el al (i : Int) ∈ strS [7, 42] f (fewS (stL xs)) := fun i h => by
  rw [get_el h]
  have key : ∀ s ∈ al, s ∈ strS [7, 42] f (fewS (stL xs)) := fun s hs => by rw [hal3] at hs; simpa using hs
  exact key _ (List.getElem_mem h)
 have hpw : al.Pairwise (fun q s => q.2 < s.1) := by rw [hal3, List.pairwise_reverse]; exact hsh.1
 have hbound : ∀ s ∈ strS [7, 42] f (fewS (stL xs)), s.2 ≤ 600 ∧ 0 ≤ s.1 ∧ s.1 + f ≤ s.2 := fun s hs => by
  obtain ⟨p1, x, p2, p3⟩ := hsh.2 s hs
  have p4 := hi_mem hF x p2
  refine ⟨?_, by omega, p1⟩
  rcases hi with ⟨_, e⟩ | ⟨h0, A, r, e, h4, h5⟩
  ·rw [e] at hs; cases hs
  ·rw [e] at hs
   rcases List.mem_cons.1 hs with e2 | e2
   ·subst e2; show (stL xs).foldl lcF (-1) + f ≤ 600; omega
   ·have := h5 s e2; omega
 obtain ⟨b, hcon⟩ := con_fold (f := f) (g := f + 3) (by omega) (fewS (stL xs)) [] [] (-1) 0 hF (fun x hx => (hkeys x hx).2) (.inl ⟨rfl, rfl⟩) (by omega)
 have hcon : Con f (f + 3) b (strS [7, 42] f (fewS (stL xs))) (strS [7, 42] (f + 3) (fewS (stL xs))) := hcon
 have hZ : al.length = 0 ↔ (fewS (stL xs)).length = 0 := by
  rw [hal3, List.length_reverse, List.length_eq_zero_iff, List.length_eq_zero_iff]
  constructor
  ·intro e
   rcases (fold_len2 (f := f) (fewS (stL xs)) [] (fun x hx => (hkeys x hx).2)).1 rfl with h | h
   ·exact h
   ·exact absurd e h
  ·intro e; rw [e]; rfl
 obtain ⟨z, hB⟩ := ksB_go (xs := xs) (n := n) (z1 := ((stL xs).length : Int)) (z0 := (fewS (stL xs)).reverse) (al := al) (f := f) (by rw [hf]; exact hal2) hf hn3 ⟨hn1, hn2⟩ (by simpa using hFl) (by omega)
  (fun i h => by
   obtain ⟨_, x, p2, p3⟩ := hsh.2 _ (hmem i h)
   rw [List.reverse_reverse]
   exact List.any_eq_true.2 ⟨x, p2, by simpa using p3⟩)
  (fun i h => by
   obtain ⟨p1, p2, p3⟩ := hbound _ (hmem i h)
   omega)
  (fun i h0 h => by
   have := List.pairwise_iff_getElem.1 hpw (i - 1) i (by omega) h (by omega)
   rw [get_el (by omega), get_el h]
   exact this)
  (fun i h => by
   obtain ⟨p1, p2, p3⟩ := hbound _ (hmem i h)
   have hak := ak_k (st := stL xs) (f := f + 3) (by omega) hl hS
   have e1 : cvX keL.reverse (f + 3) (-1) (stL xs) (el al (i : Int)).1 (el al (i : Int)).2 = 0 := by
    unfold cvX
    rw [if_pos hak, if_pos (by omega)]
   refine ⟨?_, e1⟩
   unfold cvB
   rw [if_pos e1, if_neg (by omega), ke_rev]
   have e2 : strS [7, 42] (f + 3) (stL xs) = strS [7, 42] (f + 3) (fewS (stL xs)) := few_str _ _
   rw [e2]
   exact con_cov (by omega) hcon _ (hmem i h))
  al.length 0 (by omega)
 have hAo := ksA_ok xs n (by rw [hf]; omega) (by rw [hf]; omega) hl _ _ _ hA
 have c1 : akX keL.reverse (IntKind.i64.wrap (1 + n % 25)) (-1) (stL xs) = 0 := by rw [hf]; exact hx
 have c2 : akX keL.reverse (IntKind.i64.wrap (1 + n % 25)) (-1) (fewS (stL xs)).reverse.reverse = 0 := by rw [hf, List.reverse_reverse]; exact hy
 have c3 : srR keL.reverse (IntKind.i64.wrap (1 + n % 25)) (-1) (stL xs) = srR keL.reverse (IntKind.i64.wrap (1 + n % 25)) (-1) (fewS (stL xs)).reverse.reverse := by rw [hf, List.reverse_reverse]; exact hE
 have c4 : (srR keL.reverse (IntKind.i64.wrap (1 + n % 25)) (-1) (stL xs)).length ≤ (fewS (stL xs)).reverse.length := by rw [hf, hal2, List.length_reverse]; exact hlen
 have c5 : (srR keL.reverse (IntKind.i64.wrap (1 + n % 25)) (-1) (stL xs)).length = 0 ↔ (fewS (stL xs)).reverse.length = 0 := by rw [hf, hal2, List.length_reverse]; exact hZ
 have k1 : (akX keL.reverse (IntKind.i64.wrap (1 + n % 25)) (-1) (stL xs) != 0) = false := by simp [c1]
 have k2 : (akX keL.reverse (IntKind.i64.wrap (1 + n % 25)) (-1) (fewS (stL xs)).reverse.reverse != 0) = false := by rw [c2]; rfl
 have k3 : decide (((srR keL.reverse (IntKind.i64.wrap (1 + n % 25)) (-1) (stL xs)).length : Int) > ((fewS (stL xs)).reverse.length : Int)) = false := decide_eq_false (by omega)
 have k4 : (!(((srR keL.reverse (IntKind.i64.wrap (1 + n % 25)) (-1) (stL xs)).length : Int) == 0) == (((fewS (stL xs)).reverse.length : Int) == 0)) = false := by
  have : ((((srR keL.reverse (IntKind.i64.wrap (1 + n % 25)) (-1) (stL xs)).length : Int) == 0) == (((fewS (stL xs)).reverse.length : Int) == 0)) = true := by
   rw [beq_iff_eq, Bool.eq_iff_iff, beq_iff_eq, beq_iff_eq]
   omega
  rw [this]; rfl
 have hz30 : (fewS (stL xs)).reverse.length ≤ 30 := by simpa using hFl
 have hBo := ksB_ok xs n _ _ (by rw [hf]; omega) (by rw [hf]; omega) hl hz30 c1 c2 c3 c4 c5 hAo _ _ _ hB
 exact ks0 xs n _ _ _ _ _ (by rw [hf]; omega) (by rw [hf]; omega) hl hz30 c1 c2 c3 c4 c5 hAo k1 k2 k3 k4 hBo
theorem keyShapes_true (A : Option Addr) (len cap : Nat) (xs : List Int) (n : Int) (w : World) (hl : xs.length = len) (hi : ListIn w (rowA gI xs) len A cap) (hw : ∀ m ∈ xs, rowW gI m) (_ : In64 n) :
  Calls Try.prog 6 #[.slice A len cap, .int .i64 n] w fun e w' => e = .returned (.bool true) ∧ Below w.heap.size w w' := by
 subst hl
 exact knownR_law (shapes_is xs n) (LaidL.nil w) (.cons (.list hi) (.cons (.val rfl) .nil))
end Go.Proofs.Ythkjdhjfiofbpaa
