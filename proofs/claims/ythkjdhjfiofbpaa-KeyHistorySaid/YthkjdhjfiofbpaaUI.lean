/- Layer 22: KeyHistory's loops come to their ends. -/
import Derived.Test.YthkjdhjfiofbpaaOgO
import Derived.Test.YthkjdhjfiofbpaaUH
import Derived.Test.YthkjdhjfiofbpaaFrL
namespace Go.Proofs.Ythkjdhjfiofbpaa
open Go Go.RowKit
set_option linter.unusedVariables false
def In64 (n : Int) : Prop := -9223372036854775808 ≤ n ∧ n ≤ 9223372036854775807
theorem ke_rev : keL.reverse = [7, 42] := rfl
theorem fN {n : Int} : IntKind.i64.wrap (1 + n % 25) = 1 + n % 25 ∧ 1 ≤ IntKind.i64.wrap (1 + n % 25) ∧ IntKind.i64.wrap (1 + n % 25) ≤ 25 := by
  have b0 := Int.emod_nonneg n (by decide : (25 : Int) ≠ 0)
  have b1 := Int.emod_lt_of_pos n (by decide : (0 : Int) < 25)
  have e : IntKind.i64.wrap (1 + n % 25) = 1 + n % 25 := w8n (by omega) (by omega)
  rw [e]; exact ⟨rfl, by omega, by omega⟩
theorem ak0 {xs : List Int} {f : Int} (hf : 1 ≤ f ∧ f ≤ 100000) : akX keL.reverse f (-1) (stL xs) = 0 := by
  unfold akX
  rw [ke_rev, if_pos (ck_k hf (by omega))]
  exact st_hi xs
theorem sr_is {xs : List Int} {f : Int} (hf : 1 ≤ f ∧ f ≤ 100000) : srR keL.reverse f (-1) (stL xs) = (strS [7, 42] f (stL xs)).reverse := by
  unfold srR
  rw [if_pos (ak0 hf), ke_rev]
theorem hkA_go {xs : List Int} {n f : Int} (hf : 1 ≤ f ∧ f ≤ 100000) : ∀ (r : List (Int × Int)) (i : Nat) (a lt e : Int), (stL xs).drop i = r → i + r.length = (stL xs).length → hiS r lt = 2 → a ≤ lt → -1 ≤ a → 0 ≤ lt → lt ≤ 1099511627776 →
    ∃ e', hkA_f xs n (r.length + 1) keL e lt (i : Int) f a = some (1, (keL, e', r.foldl ltF lt, ((stL xs).length : Int), f, r.foldl lcF a)) := by
  have hl := st_len xs
  intro r
  induction r with
  | nil =>
    intro i a lt e h1 h2 h3 h4 h5 h6 h7
    refine ⟨e, ?_⟩
    simp only [List.length_nil] at h2
    rw [hkA_fs, bif_dT (by omega), bif_dF (by omega), show (i : Int) = ((stL xs).length : Int) by omega]
    rfl
  | cons x r ih =>
    intro i a lt e h1 h2 h3 h4 h5 h6 h7
    simp only [List.length_cons] at h2
    have hi : i < (stL xs).length := by omega
    have hx : el (stL xs) (i : Int) = x ∧ (stL xs).drop (i + 1) = r := by
      have := el_drop (l := stL xs) (i := i) hi
      rw [h1] at this
      injection this with q1 q2
      exact ⟨q1.symm, q2.symm⟩
    obtain ⟨k1, k2, k3, k4⟩ := hi_parts h3
    obtain ⟨t, q⟩ := x
    dsimp only at k1 k2 k3 k4
    have hok : okP keL.reverse f a q t := ⟨by rw [ke_rev]; exact ck_k hf (by omega), k1.1, k1.2, k2.1, k2.2, by omega⟩
    have e1 : prX keL.reverse f a q t = 0 := by unfold prX; rw [if_pos hok]
    have e2 : prR keL.reverse f a q t = keL := by unfold prR; rw [if_pos hok]; rfl
    have e3 : prF keL.reverse f a q t = f := by unfold prF; rw [if_pos hok]
    have e4 : prT keL.reverse f a q t = lcF a (t, q) := by unfold prT; rw [if_pos hok]; rfl
    rw [hkA_fs, bif_dT (by omega), bif_dT (by omega), hx.1]
    dsimp only
    rw [e1, e2, e3, e4, show ((0 : Int) != 0) = false from rfl, cond_false, w8n (n := (i : Int) + 1) (by omega) (by omega), show (i : Int) + 1 = ((i + 1 : Nat) : Int) by omega]
    exact ih (i + 1) _ t 0 hx.2 (by omega) k4 (lc_le (by omega)) (lc_ge h5 k2.1) k2.1 k2.2
theorem hkI_go {xs : List Int} {n z1 z2 z3 z4 z5 t : Int} {z0 : List Int} (hL : (srR keL.reverse (IntKind.i64.wrap (1 + n % 25)) (-1) (stL xs)).length ≤ 2000) : ∀ (k i : Nat) (b : Bool), i + k = (srR keL.reverse (IntKind.i64.wrap (1 + n % 25)) (-1) (stL xs)).length →
    ∃ z, hkI_f xs n z0 z1 z2 z3 z4 z5 t (k + 1) b (i : Int) = some (0, (b || ((srR keL.reverse (IntKind.i64.wrap (1 + n % 25)) (-1) (stL xs)).drop i).any (fun s => decide (s.1 ≤ t) && decide (t < s.2)), z)) := by
  intro k
  induction k with
  | zero =>
    intro i b h
    rw [hkI_fs, bif_dT (by omega), bif_dF (by omega), List.drop_of_length_le (by omega)]
    exact ⟨_, by rw [List.any_nil, Bool.or_false]⟩
  | succ k ih =>
    intro i b h
    rw [hkI_fs, bif_dT (by omega), bif_dT (by omega), el_drop (l := srR keL.reverse (IntKind.i64.wrap (1 + n % 25)) (-1) (stL xs)) (i := i) (by omega), w8n (n := (i : Int) + 1) (by omega) (by omega), show (i : Int) + 1 = ((i + 1 : Nat) : Int) by omega]
    cases b with
    | true =>
      rw [cond_true]
      obtain ⟨z, hz⟩ := ih (i + 1) true (by omega)
      exact ⟨z, by rw [hz, Bool.true_or, Bool.true_or]⟩
    | false =>
      rw [cond_false, Bool.false_or, List.any_cons]
      by_cases h1 : (el (srR keL.reverse (IntKind.i64.wrap (1 + n % 25)) (-1) (stL xs)) (i : Int)).fst ≤ t
      · rw [bif_dT h1, decide_eq_true h1, Bool.true_and]
        exact ih (i + 1) _ (by omega)
      · rw [bif_dF h1, decide_eq_false h1, Bool.false_and, Bool.false_or]
        obtain ⟨z, hz⟩ := ih (i + 1) false (by omega)
        exact ⟨z, by rw [hz, Bool.false_or]⟩
theorem hkB_go {xs : List Int} {n z1 z3 f a lt : Int} (hfn : f = IntKind.i64.wrap (1 + n % 25)) (hf : 1 ≤ f ∧ f ≤ 25) (hL : (srR keL.reverse (IntKind.i64.wrap (1 + n % 25)) (-1) (stL xs)).length ≤ 2000) (hi : InvS f (strS [7, 42] f (stL xs)) a) (ha : -1 ≤ a) (hal : a ≤ lt) (h0 : 0 ≤ lt) (h1 : lt ≤ 100000) : ∀ (k : Nat) (t : Int), t + k = lt + 60 → lt ≤ t →
    ∃ z, hkB_f xs n keL z1 lt z3 f a (k + 1) t = some (1, z) := by
  intro k
  induction k with
  | zero =>
    intro t h2 h3
    rw [hkB_fs, w8n (n := lt + 60) (by omega) (by omega), bif_dF (by omega)]
    exact ⟨_, rfl⟩
  | succ k ih =>
    intro t h2 h3
    obtain ⟨z, hz⟩ := hkI_go (xs := xs) (n := n) (z0 := keL) (z1 := z1) (z2 := lt) (z3 := z3) (z4 := f) (z5 := a) (t := t) hL (srR keL.reverse (IntKind.i64.wrap (1 + n % 25)) (-1) (stL xs)).length 0 false (by omega)
    have hc : ckX keL.reverse f a = 0 := by rw [ke_rev]; exact ck_k (by omega) (by omega)
    have nt : ∀ u : Int, lt ≤ u → u ≤ 200000 → lfX keL.reverse f a u = 0 ∧ lfN keL.reverse f a u = if a = -1 ∨ u < a then 0 else max (a + f - u) 0 := fun u hu hu2 => by
      have ho : okF keL.reverse f a u := ⟨hc, by omega, by omega⟩
      unfold lfX lfN
      rw [if_pos ho, if_pos ho]; exact ⟨rfl, rfl⟩
    obtain ⟨x1, n1⟩ := nt t h3 (by omega)
    obtain ⟨x2, n2⟩ := nt (t + 1) (by omega) (by omega)
    have hb : (false || ((srR keL.reverse (IntKind.i64.wrap (1 + n % 25)) (-1) (stL xs)).drop 0).any (fun s => decide (s.1 ≤ t) && decide (t < s.2))) = decide (lfN keL.reverse f a t > 0) := by
      rw [Bool.false_or, List.drop_zero, ← hfn, sr_is (by omega), List.any_reverse, inv_any hf.1 hi (by omega), n1]
      by_cases q : ¬ a = -1 ∧ t < a + f
      · rw [decide_eq_true q, if_neg (by omega), decide_eq_true (by omega)]
      · rw [decide_eq_false q]
        split
        · rfl
        · rw [decide_eq_false (by omega)]
    rw [hb] at hz
    have hz : hkI_f xs n keL z1 lt z3 f a t ((srR keL.reverse (IntKind.i64.wrap (1 + n % 25)) (-1) (stL xs)).length + 1) false 0 = _ := hz
    rw [hkB_fs, w8n (n := lt + 60) (by omega) (by omega), bif_dT (by omega), hz]
    simp only [hkI_m]
    rw [w8n (n := t + 1) (by omega) (by omega), x1, x2, show Nat.beq 0 0 = true from rfl, cond_true, show ((0 : Int) != 0) = false from rfl, cond_false]
    have hN : 0 ≤ lfN keL.reverse f a t ∧ lfN keL.reverse f a t ≤ 25 ∧ lfN keL.reverse f a t ≤ f ∧ lfN keL.reverse f a (t + 1) = if lfN keL.reverse f a t - 1 > 0 then lfN keL.reverse f a t - 1 else 0 := by
      rw [n1, n2]
      by_cases q : a = -1
      · simp [q]; omega
      · rw [if_neg (by omega), if_neg (by omega)]
        refine ⟨by omega, by omega, by omega, ?_⟩
        split <;> omega
    obtain ⟨m1, m2, m3, m4⟩ := hN
    rw [m4, w8n (n := lfN keL.reverse f a t - 1) (by omega) (by omega), decide_eq_false (show ¬ lfN keL.reverse f a t > f by omega)]
    have hself : ∀ b : Bool, (!(b == b)) = false := fun b => by cases b <;> rfl
    simp only [hself, cond_false, bne_self_eq_false]
    exact ih (t + 1) (by omega) (by omega)
theorem hist_is (xs : List Int) (n : Int) : KnownR Try.prog [] 5 [.list (rowA gI xs) xs.length, .val (.int .i64 n)] (.bool true) [] := by
  obtain ⟨hn0, hn1, hn2⟩ := fN (n := n)
  have hl := st_len xs
  have hx := ak0 (xs := xs) (f := IntKind.i64.wrap (1 + n % 25)) (by omega)
  have hr : (srR keL.reverse (IntKind.i64.wrap (1 + n % 25)) (-1) (stL xs)).length ≤ 2000 := sr_len
  have hb : ((xs.take 30).length : Int) ≤ 30 := by simp; omega
  have hS : hiS (stL xs) 0 = 2 := sm_hi _ 0 0 (by omega) (by omega) (by omega)
  obtain ⟨e', hA⟩ := hkA_go (xs := xs) (n := n) (f := IntKind.i64.wrap (1 + n % 25)) (by omega) (stL xs) 0 (-1) 0 (akX keL.reverse (IntKind.i64.wrap (1 + n % 25)) (-1) (stL xs)) (List.drop_zero) (by omega) hS (by omega) (by omega) (by omega) (by omega)
  obtain ⟨hi, hal⟩ := inv_fold hn1 (stL xs) [] (-1) 0 hS (by omega) (.inl ⟨rfl, rfl⟩)
  have hlt := lt_range (stL xs) 0 hS (by omega) (by omega)
  have hlt2 := sm_lt (xs.take 30) 0 0 (by omega) (by omega)
  have hlt2 : (stL xs).foldl ltF 0 ≤ 0 + 16 * ((xs.take 30).length : Int) := hlt2
  have ha : -1 ≤ (stL xs).foldl lcF (-1) := by
    rcases hi with ⟨h, _⟩ | ⟨h, _⟩
    · omega
    · omega
  obtain ⟨z, hB⟩ := hkB_go (xs := xs) (n := n) (z1 := e') (z3 := ((stL xs).length : Int)) rfl ⟨hn1, hn2⟩ hr hi ha hal hlt.1 (by omega) 60 ((stL xs).foldl ltF 0) (by omega) (by omega)
  have hAo := hkA_ok xs n ⟨hn1, by omega⟩ hl hx _ _ _ hA
  have hBo := hkB_ok xs n _ _ _ _ _ _ ⟨hn1, by omega⟩ hl hx hr (by simp [hx]) hAo _ _ _ hB
  exact hk0 xs n _ _ _ _ _ _ _ _ _ ⟨hn1, by omega⟩ hl hx hr (by simp [hx]) hAo hBo
theorem keyHistory_true (A : Option Addr) (len cap : Nat) (xs : List Int) (n : Int) (w : World) (hl : xs.length = len) (hi : ListIn w (rowA gI xs) len A cap) (hw : ∀ m ∈ xs, rowW gI m) (_ : In64 n) :
    Calls Try.prog 5 #[.slice A len cap, .int .i64 n] w fun e w' => e = .returned (.bool true) ∧ Below w.heap.size w w' := by
  subst hl
  exact knownR_law (hist_is xs n) (LaidL.nil w) (.cons (.list hi) (.cons (.val rfl) .nil))
end Go.Proofs.Ythkjdhjfiofbpaa
