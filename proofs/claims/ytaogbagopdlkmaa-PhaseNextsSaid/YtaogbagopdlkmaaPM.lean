import Derived.Test.YtaogbagopdlkmaaOgL
import Derived.Test.YtaogbagopdlkmaaPK
set_option linter.unusedVariables false
namespace Go.Proofs.Ytaogbagopdlkmaa
open Go Go.RowKit
theorem nxD_eq (m d t s c x k z : Int) : ∀ (fu : Nat) (y0 : List Prt) (y1 y2 : Int), nxD_f m d t s c x k fu y0 y1 y2 = ofD_f m d t s c z fu y0 y1 y2 := by
 intro fu
 induction fu with
 | zero => intros; rfl
 | succ n ih => intro y0 y1 y2; rw [nxD_f.eq_2, ofD_f.eq_2, ih]
def hitN (m d : Int) (N : Nat) (w0 x k : Int) (j : Nat) : Prop := (prt m d N j).1 = k ∧ x < w0 + fst m d j
theorem nxI_go {m d t s c x k : Int} {N : Nat} (z1 w0 : Int) (hm : 1 ≤ m ∧ m ≤ 200000) (hd : 1 ≤ d ∧ d ≤ 200000) (hN2 : N ≤ 16) (hw : 0 ≤ w0 ∧ w0 ≤ 1000000000) : ∀ (n i : Nat), 2 * N + 3 ≤ i + n → i ≤ 2 * N + 3 →
  ∃ kk z, nxI_f m d t s c x k (pts m d N (2 * N + 1)).reverse z1 (m + N * (m + d)) w0 (n + 1) (i : Int) = some (kk, z) ∧
   ((kk = 0 ∧ ∃ j : Nat, z = (j : Int) ∧ i ≤ j ∧ j < 2 * N + 3 ∧ hitN m d N w0 x k j ∧ ∀ j', i ≤ j' → j' < j → ¬ hitN m d N w0 x k j') ∨ (kk = 1 ∧ ∀ j', i ≤ j' → j' < 2 * N + 3 → ¬ hitN m d N w0 x k j')) := by
 have hb := nmul (n := N) (t := m + d) (by omega) (by omega) (by omega)
 have w1 := w8n (n := m + N * (m + d) + m) (by omega) (by omega)
 intro n
 induction n with
 | zero =>
  intro i h h0
  refine ⟨1, (i : Int), ?_, .inr ⟨rfl, fun j' a b => absurd b (by omega)⟩⟩
  rw [nxI_fs]
  simp only [List.length_reverse, pts_len]
  rw [bif_dT (by omega), bif_dF (by omega)]
 | succ n ih =>
  intro i h h0
  rcases Nat.lt_or_ge i (2 * N + 3) with hi | hi
  ·obtain ⟨kk, z, g1, g2⟩ := ih (i + 1) (by omega) (by omega)
   have hnext : nxI_f m d t s c x k (pts m d N (2 * N + 1)).reverse z1 (m + N * (m + d)) w0 (n + 1) (IntKind.i64.wrap ((i : Int) + 1)) = some (kk, z) := by
    rw [w8n (n := (i : Int) + 1) (by omega) (by omega)]; exact g1
   have hx3 : 0 ≤ fst m d i ∧ fst m d i ≤ 8000000 := by
    have := fst_mono hm.1 hd.1 (a := 0) (b := i) (by omega)
    have g := fst_mono hm.1 hd.1 (a := i) (b := 2 * (N + 1) + 1) (by omega)
    rw [fst_odd, nsucc] at g
    have f0 : fst m d 0 = 0 := by unfold fst; rw [if_pos rfl]
    rw [f0] at this
    omega
   have skip : ¬ hitN m d N w0 x k i → ((kk = 0 ∧ ∃ j : Nat, z = (j : Int) ∧ i ≤ j ∧ j < 2 * N + 3 ∧ hitN m d N w0 x k j ∧ ∀ j', i ≤ j' → j' < j → ¬ hitN m d N w0 x k j') ∨ (kk = 1 ∧ ∀ j', i ≤ j' → j' < 2 * N + 3 → ¬ hitN m d N w0 x k j')) := fun hno => by
    rcases g2 with ⟨a, j, b, c1, c2, c3, c4⟩ | ⟨a, b⟩
    ·refine .inl ⟨a, j, b, by omega, c2, c3, fun j' e1 e2 => ?_⟩
     rcases (by omega : j' = i ∨ i + 1 ≤ j') with rfl | e
     ·exact hno
     ·exact c4 j' e e2
    ·refine .inr ⟨a, fun j' e1 e2 => ?_⟩
     rcases (by omega : j' = i ∨ i + 1 ≤ j') with rfl | e
     ·exact hno
     ·exact b j' e e2
   have hfst : (prt m d N i).2.2.1 = fst m d i := prt_fst m d N i
   rw [nxI_fs, w1, ptL_eq, ptL_el m d N i hi, hnext, hfst, w8n (n := w0 + fst m d i) (by omega) (by omega)]
   simp only [List.length_reverse, pts_len]
   rw [bif_dT (by omega), bif_dT (by omega)]
   by_cases c1 : (prt m d N i).1 = k
   ·rw [show ((prt m d N i).1 == k) = true by simpa using c1, cond_true]
    by_cases c2 : w0 + fst m d i > x
    ·rw [bif_dT c2, bif_dT (by omega)]
     exact ⟨0, (i : Int), rfl, .inl ⟨rfl, i, rfl, Nat.le_refl _, hi, ⟨c1, c2⟩, fun j' a b => absurd b (by omega)⟩⟩
    ·rw [bif_dF c2]
     exact ⟨kk, z, rfl, skip (fun g => c2 g.2)⟩
   ·rw [show ((prt m d N i).1 == k) = false from beq_eq_false_iff_ne.2 c1, cond_false]
    exact ⟨kk, z, rfl, skip (fun g => c1 g.1)⟩
  ·refine ⟨1, (i : Int), ?_, .inr ⟨rfl, fun j' a b => absurd b (by omega)⟩⟩
   rw [nxI_fs]
   simp only [List.length_reverse, pts_len]
   rw [bif_dT (by omega), bif_dF (by omega)]
structure Nx (m d t s c x k a : Int) : Prop where
 lo : x < a
 hi : a ≤ x + s
 at_ : phB m d t s c a = k ∧ phF m d t s c a = 0
 none : ∀ i, x < i → i < a → ¬ (phB m d t s c i = k ∧ phF m d t s c i = 0)
theorem kind_ex (m d : Int) (N : Nat) (hN : 1 ≤ N) (k : Int) (hk : 1 ≤ k ∧ k ≤ 5) : ∃ j, j < 2 * N + 3 ∧ (prt m d N j).1 = k := by
 rcases (by omega : k = 1 ∨ k = 2 ∨ k = 3 ∨ k = 4 ∨ k = 5) with rfl | rfl | rfl | rfl | rfl
 ·exact ⟨0, by omega, by rw [prt_zero]⟩
 ·exact ⟨2 * 0 + 1, by omega, by rw [prt_move m d N 0 (by omega)]⟩
 ·exact ⟨2 * 0 + 2, by omega, by rw [prt_door m d N 0 (by omega)]⟩
 ·exact ⟨2 * N + 1, by omega, by rw [prt_pmove]⟩
 ·exact ⟨2 * N + 2, by omega, by rw [prt_pdoor]⟩
theorem ph_begin {m d t s c : Int} {N : Nat} (h : ckX m d t s c = 0) (hN : trN m t s = N) {b : Int} {j : Nat} (hj : j < 2 * N + 3) (hb : ∃ q : Int, b = q * s ∧ 0 ≤ q) (hx : b + fst m d j ≤ 1099511627776) : phB m d t s c (b + fst m d j) = (prt m d N j).1 ∧ phF m d t s c (b + fst m d j) = 0 ∧ 0 ≤ b + fst m d j := by
 obtain ⟨h1, h2, h3, h4, h5, h6, h7⟩ := ck_all h
 obtain ⟨q, rfl, hq⟩ := hb
 have f0 : fst m d 0 = 0 := by unfold fst; rw [if_pos rfl]
 have hm0 := fst_mono h1.1 h2.1 (a := 0) (b := j) (by omega)
 have hqs : 0 ≤ q * s := Int.mul_nonneg hq (by omega)
 obtain ⟨N', k, hN', _, hk, g1, g2, e, eA, eB, eC, eF, hf⟩ := ph_is h (x := q * s + fst m d j) ⟨by omega, hx⟩
 have : N' = N := by omega
 subst this
 have hlt : fst m d j < s := by rw [← hf]; exact fst_lt h1.1 h2.1 hj
 have em : (q * s + fst m d j) % s = fst m d j := by
  rw [Int.add_comm, Int.add_mul_emod_self_right]; exact Int.emod_eq_of_lt (by omega) hlt
 rw [em] at g1 g2 eF
 have e1 := kOf_one h1.1 h2.1 (u := fst m d j) (by omega) g1 g2
 have e2 := kOf_one h1.1 h2.1 (u := fst m d j) (k := j) (by omega) (by omega) (fst_step h1.1 h2.1 j)
 have : k = j := by omega
 subst this
 exact ⟨eB, by rw [eF]; omega, by omega⟩
theorem next_ex {m d t s c x k : Int} (h : ckX m d t s c = 0) (hx : 0 ≤ x ∧ x ≤ 1000000) (hk : 1 ≤ k ∧ k ≤ 5) : ∃ a, KnownR Try.prog [] 27 [.val (.agg #[.int .i64 m, .int .i64 d, .int .i64 t, .int .i64 s, .int .i64 c]), .val (.int .i64 x), .val (.int .i64 k)] (.tuple #[.int .i64 a, .int .i64 0]) [] ∧ Nx m d t s c x k a := by
 obtain ⟨h1, h2, h3, h4, h5, h6, h7⟩ := ck_all h
 obtain ⟨N, hN⟩ : ∃ N : Nat, trN m t s = N := ⟨(trN m t s).toNat, by omega⟩
 have hN2 : N ≤ 16 := by omega
 have hsl := slot_len (d := d) hN (by omega) h3
 have hb0 := nmul (n := N) (t := m + d) (by omega) (by omega) (by omega)
 have w1 := w8n (n := m + N * (m + d) + m) (by omega) (by omega)
 have w2 := w8n (n := m + N * (m + d) + m + d) (by omega) (by omega)
 have hW : IntKind.i64.wrap (IntKind.i64.wrap (m + N * (m + d) + m) + d) = s := by rw [w1, w2, hsl]
 have hD := nxD_ok m d t s c x k h h1 h2 h6 h4 (N + 1) 0 _ (by rw [nxD_eq m d t s c x k 0]; exact ofD_all h1 h2 hN hN2)
 dsimp only at hD
 have hz : (pts m d N (2 * N + 1)).reverse.length ≤ 33 := by rw [List.length_reverse, pts_len]; omega
 have hk1 : (ckX m d t s c != (0 : Int)) = false := by rw [h]; rfl
 have hs1 : 1 ≤ IntKind.i64.wrap (IntKind.i64.wrap (m + N * (m + d) + m) + d) := by rw [hW]; exact h5.1
 have hxx : 0 ≤ x ∧ x ≤ 1099511627776 := by omega
 have u0 := Int.emod_nonneg x (b := s) (by omega)
 have u1 := Int.emod_lt_of_pos x (b := s) (by omega)
 have q2 := Int.emod_add_mul_ediv x s
 have q0 : 0 ≤ x / s := Int.ediv_nonneg hx.1 (by omega)
 have qc : s * (x / s) = x / s * s := Int.mul_comm _ _
 have qn : 0 ≤ x / s * s := Int.mul_nonneg q0 (by omega)
 have f0 : fst m d 0 = 0 := by unfold fst; rw [if_pos rfl]
 have hf : fst m d (2 * N + 3) = s := by rw [show 2 * N + 3 = 2 * (N + 1) + 1 by omega, fst_odd, nsucc]; omega
 have hbase : IntKind.i64.wrap (x - x.tmod (IntKind.i64.wrap (IntKind.i64.wrap (m + N * (m + d) + m) + d))) = x / s * s := by
  rw [hW, Int.tmod_eq_emod_of_nonneg hx.1, w8n (by omega) (by omega)]; omega
 have hlow : ∀ j : Nat, j < 2 * N + 3 → 0 ≤ fst m d j ∧ fst m d j < s := fun j hj => by
  have a1 := fst_mono h1.1 h2.1 (a := 0) (b := j) (by omega)
  have a2 := fst_lt h1.1 h2.1 hj
  omega
 have found : ∀ i, x < i → i ≤ 1099511627776 → phB m d t s c i = k → phF m d t s c i = 0 → ∃ j, j < 2 * N + 3 ∧ (prt m d N j).1 = k ∧ i = i / s * s + fst m d j := fun i hi him hB hF => by
  obtain ⟨N', j, hN', _, hj, g1, g2, e, eA, eB, eC, eF, hf⟩ := ph_is h (x := i) ⟨by omega, him⟩
  have : N' = N := by omega
  subst this
  have r2 := Int.emod_add_mul_ediv i s
  have rc : s * (i / s) = i / s * s := Int.mul_comm _ _
  exact ⟨j, hj, by rw [← eB]; exact hB, by rw [eF] at hF; omega⟩
 have fin : ∀ (b : Int) (j : Nat), 0 ≤ b → b ≤ 100000000 → j < 2 * N + 3 → (∃ fu, nxA_f m d t s c x k (pts m d N (2 * N + 1)).reverse (N : Int) (m + N * (m + d)) fu (x / s * s) = some (0, (b, (j : Int)))) → KnownR Try.prog [] 27 [.val (.agg #[.int .i64 m, .int .i64 d, .int .i64 t, .int .i64 s, .int .i64 c]), .val (.int .i64 x), .val (.int .i64 k)] (.tuple #[.int .i64 (b + fst m d j), .int .i64 0]) [] := by
  intro b j hb1 hb2 hj hfu
  obtain ⟨fu, hfu⟩ := hfu
  have hA := nxA_ok m d t s c x k (pts m d N (2 * N + 1)).reverse (N : Int) (m + N * (m + d)) h h1 h2 h6 h4 hz hs1 hxx hk hk1 hD fu 0 (b, (j : Int)) (by rw [hbase]; exact hfu)
  dsimp only at hA
  have kk := nx0 m d t s c x k (pts m d N (2 * N + 1)).reverse (N : Int) (m + N * (m + d)) b (j : Int) h h1 h2 h6 h4 hz hs1 hxx hk hk1 hD
   (decide_eq_true (by omega)) (decide_eq_true (by omega)) (decide_eq_true (by omega)) (by rw [decide_eq_true hxx.2]; rfl) (decide_eq_true (by omega)) (by rw [decide_eq_true hk.2]; rfl) (by rw [hW]; exact beq_eq_false_iff_ne.2 (by omega)) hA
  have hl := hlow j hj
  have e0 : nx0_c0 m d t s c x k (pts m d N (2 * N + 1)).reverse (N : Int) (m + N * (m + d)) b (j : Int) = b + fst m d j := by
   unfold nx0_c0
   rw [w1, ptL_eq, ptL_el m d N j hj, prt_fst, w8n (by omega) (by omega)]
  rw [e0] at kk
  exact kk
 have dv : ∀ i q r : Int, 0 ≤ r → r < s → i = r + s * q → i / s = q := fun i q r a b e => by
  rw [e, Int.add_mul_ediv_left _ _ (by omega), Int.ediv_eq_zero_of_lt a b, Int.zero_add]
 have step : ∀ (fu : Nat) (y : Int), 0 ≤ y → y ≤ 100000000 → nxA_f m d t s c x k (pts m d N (2 * N + 1)).reverse (N : Int) (m + N * (m + d)) (fu + 1) y = nxI_m (nxI_f m d t s c x k (pts m d N (2 * N + 1)).reverse (N : Int) (m + N * (m + d)) y 40 0) fun (nxI_j : Nat) (nxI_z0 : Int) => (bif (Nat.beq nxI_j 0) then some (0, ((y), nxI_z0)) else (bif (Nat.beq nxI_j 1) then nxA_f m d t s c x k (pts m d N (2 * N + 1)).reverse (N : Int) (m + N * (m + d)) fu (y + s) else none)) := fun fu y a b => by
  rw [nxA_fs, bif_dT a, bif_dT (by omega), hW, w8n (n := y + s) (by omega) (by omega)]
 obtain ⟨k1, z1, g1, g2⟩ := nxI_go (m := m) (d := d) (t := t) (s := s) (c := c) (x := x) (k := k) (N := N) (N : Int) (x / s * s) h1 h2 hN2 ⟨by omega, by omega⟩ 39 0 (by omega) (by omega)
 have g1 : nxI_f m d t s c x k (pts m d N (2 * N + 1)).reverse (N : Int) (m + N * (m + d)) (x / s * s) 40 0 = some (k1, z1) := g1
 rcases g2 with ⟨rfl, j, rfl, _, hj, hh, hno⟩ | ⟨rfl, hno⟩
 ·
  have hl := hlow j hj
  refine ⟨x / s * s + fst m d j, fin (x / s * s) j (by omega) (by omega) hj ⟨1, ?_⟩, ?_⟩
  ·rw [step 0 _ (by omega) (by omega), g1]
   simp only [nxI_m]
   rfl
  ·obtain ⟨p1, p2, p3⟩ := ph_begin h hN (b := x / s * s) hj ⟨_, rfl, q0⟩ (by omega)
   refine ⟨hh.2, by omega, ⟨by rw [p1]; exact hh.1, p2⟩, ?_⟩
   rintro i i1 i2 ⟨i3, i4⟩
   obtain ⟨j', j1, j2, j3⟩ := found i i1 (by omega) i3 i4
   have e := dv i (x / s) (i - x / s * s) (by omega) (by omega) (by omega)
   rw [e] at j3
   rcases Nat.lt_or_ge j' j with g | g
   ·exact hno j' (by omega) g ⟨j2, by omega⟩
   ·have := fst_mono h1.1 h2.1 g; omega
 ·
  obtain ⟨k2, z2, g3, g4⟩ := nxI_go (m := m) (d := d) (t := t) (s := s) (c := c) (x := x) (k := k) (N := N) (N : Int) (x / s * s + s) h1 h2 hN2 ⟨by omega, by omega⟩ 39 0 (by omega) (by omega)
  have g3 : nxI_f m d t s c x k (pts m d N (2 * N + 1)).reverse (N : Int) (m + N * (m + d)) (x / s * s + s) 40 0 = some (k2, z2) := g3
  obtain ⟨j0, j01, j02⟩ := kind_ex m d N (by omega) k hk
  rcases g4 with ⟨rfl, j, rfl, _, hj, hh, hno2⟩ | ⟨rfl, hno2⟩
  ·have hl := hlow j hj
   refine ⟨x / s * s + s + fst m d j, fin (x / s * s + s) j (by omega) (by omega) hj ⟨2, ?_⟩, ?_⟩
   ·rw [step 1 _ (by omega) (by omega), g1]
    simp only [nxI_m]
    rw [show Nat.beq 1 0 = false from rfl, cond_false, show Nat.beq 1 1 = true from rfl, cond_true, step 0 _ (by omega) (by omega), g3]
    simp only [nxI_m]
    rfl
   ·have eb : x / s * s + s = (x / s + 1) * s := by rw [Int.add_mul]; simp
    obtain ⟨p1, p2, p3⟩ := ph_begin h hN (b := x / s * s + s) hj ⟨_, eb, by omega⟩ (by omega)
    have hx1 : ¬ x < x / s * s + fst m d j := fun g => hno j (by omega) hj ⟨hh.1, g⟩
    refine ⟨hh.2, by omega, ⟨by rw [p1]; exact hh.1, p2⟩, ?_⟩
    rintro i i1 i2 ⟨i3, i4⟩
    obtain ⟨j', j1, j2, j3⟩ := found i i1 (by omega) i3 i4
    rcases (by omega : i < x / s * s + s ∨ x / s * s + s ≤ i) with c | c
    ·have e := dv i (x / s) (i - x / s * s) (by omega) (by omega) (by omega)
     rw [e] at j3
     exact hno j' (by omega) j1 ⟨j2, by omega⟩
    ·have e := dv i (x / s + 1) (i - (x / s * s + s)) (by omega) (by omega) (by rw [Int.mul_add]; omega)
     rw [e] at j3
     have ec : (x / s + 1) * s = x / s * s + s := eb.symm
     rcases Nat.lt_or_ge j' j with g | g
     ·exact hno2 j' (by omega) g ⟨j2, by omega⟩
     ·have := fst_mono h1.1 h2.1 g; omega
  ·exact absurd ⟨j02, by have := hlow j0 j01; omega⟩ (hno2 j0 (by omega) j01)
open Classical in
noncomputable def nxV (m d t s c x k : Int) : Int := if h : ∃ a, KnownR Try.prog [] 27 [.val (.agg #[.int .i64 m, .int .i64 d, .int .i64 t, .int .i64 s, .int .i64 c]), .val (.int .i64 x), .val (.int .i64 k)] (.tuple #[.int .i64 a, .int .i64 0]) [] ∧ Nx m d t s c x k a then h.choose else 0
theorem nxV_is {m d t s c x k : Int} (h : ckX m d t s c = 0) (hx : 0 ≤ x ∧ x ≤ 1000000) (hk : 1 ≤ k ∧ k ≤ 5) : KnownR Try.prog [] 27 [.val (.agg #[.int .i64 m, .int .i64 d, .int .i64 t, .int .i64 s, .int .i64 c]), .val (.int .i64 x), .val (.int .i64 k)] (.tuple #[.int .i64 (nxV m d t s c x k), .int .i64 0]) [] ∧ Nx m d t s c x k (nxV m d t s c x k) := by
 have hex := next_ex h hx hk
 unfold nxV
 rw [dif_pos hex]
 exact hex.choose_spec
theorem pNext (m d t s c x k : Int) (h : ckX m d t s c = 0) (hx : 0 ≤ x ∧ x ≤ 1000000) (hk : 1 ≤ k ∧ k ≤ 5) : KnownR Try.prog [] 27 [.val (.agg #[.int .i64 m, .int .i64 d, .int .i64 t, .int .i64 s, .int .i64 c]), .val (.int .i64 x), .val (.int .i64 k)] (.tuple #[.int .i64 (nxV m d t s c x k), .int .i64 0]) [] := (nxV_is h hx hk).1
end Go.Proofs.Ytaogbagopdlkmaa
