import Derived.Test.YtaogbagopdlkmaaOgN
import Derived.Test.YtaogbagopdlkmaaPD
import Derived.Test.YtaogbagopdlkmaaPF
set_option linter.unusedVariables false
namespace Go.Proofs.Ytaogbagopdlkmaa
open Go Go.RowKit
theorem mid0 (j : Nat) (h : j ≤ 1000) : IntKind.i64.wrap ((IntKind.u64.wrap (IntKind.i64.wrap ((0 : Int) + (j : Int)))).fdiv 2) = ((j / 2 : Nat) : Int) := by
 have := mid_eq 0 j (by omega)
 simpa using this
theorem pOf (m d t s c x : Int) : KnownR Try.prog [] 16 [.val (.agg #[.int .i64 m, .int .i64 d, .int .i64 t, .int .i64 s, .int .i64 c]), .val (.int .i64 x)] (.tuple #[.agg #[.int .i64 (phA m d t s c x), .int .i64 (phB m d t s c x), .int .i64 (phC m d t s c x), .int .i64 (phF m d t s c x)], .int .i64 (phE m d t s c x)]) [] := by
 by_cases h : ckX m d t s c = 0
 ·obtain ⟨h1, h2, h3, h4, h5, h6, h7⟩ := ck_all h
  obtain ⟨N, hN⟩ : ∃ N : Nat, trN m t s = N := ⟨(trN m t s).toNat, by omega⟩
  have hN2 : N ≤ 16 := by omega
  have hsl := slot_len (d := d) hN (by omega) h3
  have hb := nmul (n := N) (t := m + d) (by omega) (by omega) (by omega)
  have w1 := w8n (n := m + N * (m + d) + m) (by omega) (by omega)
  have w2 := w8n (n := m + N * (m + d) + m + d) (by omega) (by omega)
  have hW : IntKind.i64.wrap (IntKind.i64.wrap (m + N * (m + d) + m) + d) = s := by rw [w1, w2, hsl]
  have hD := ofD_ok m d t s c x h h1 h2 h6 h4 (N + 1) 0 _ (ofD_all h1 h2 hN hN2)
  dsimp only at hD
  have hz : (pts m d N (2 * N + 1)).reverse.length ≤ 33 := by rw [List.length_reverse, pts_len]; omega
  have hk1 : (ckX m d t s c != (0 : Int)) = false := by rw [h]; rfl
  have hs1 : 1 ≤ IntKind.i64.wrap (IntKind.i64.wrap (m + N * (m + d) + m) + d) := by rw [hW]; exact h5.1
  by_cases hx : 0 ≤ x ∧ x ≤ 1099511627776
  ·have e : phE m d t s c x = 0 := by unfold phE; rw [if_pos h, if_pos hx]
   unfold phA phB phC phF
   rw [e, if_pos rfl, if_pos rfl, if_pos rfl, if_pos rfl]
   have hu1 : decide (0 ≤ IntKind.i64.wrap ((IntKind.u64.wrap (IntKind.i64.wrap ((0 : Int) + (((pts m d N (2 * N + 1)).reverse.length + 1 + 1 : Nat) : Int)))).fdiv 2)) = true := by
    rw [mid0 _ (by omega)]; exact decide_eq_true (by omega)
   have hu2 : decide (IntKind.i64.wrap ((IntKind.u64.wrap (IntKind.i64.wrap ((0 : Int) + (((pts m d N (2 * N + 1)).reverse.length + 1 + 1 : Nat) : Int)))).fdiv 2) < (((pts m d N (2 * N + 1)).reverse.length + 1 + 1 : Nat) : Int)) = true := by
    rw [mid0 _ (by omega)]; exact decide_eq_true (by omega)
   have u0 := Int.emod_nonneg x (b := s) (by omega)
   have u1 := Int.emod_lt_of_pos x (b := s) (by omega)
   have hf : fst m d (2 * N + 3) = s := by
    rw [show 2 * N + 3 = 2 * (N + 1) + 1 by omega, fst_odd, nsucc]; omega
   have hgo := ofS_go (m := m) (d := d) (t := t) (s := s) (c := c) (x := x) (N := N) (N : Int) h1 h2 hN2 (u := x % s) u0 (by rw [hf]; exact u1) (by rw [hsl]; exact Int.tmod_eq_emod_of_nonneg hx.1) (2 * N + 3) 0 (2 * N + 3) (by omega) (by omega) (Nat.le_refl _) (fun q hq => absurd hq (by omega)) (fun q h1 h2 => absurd h1 (by omega))
   have hlen : (((pts m d N (2 * N + 1)).reverse.length + (1 : Nat) + (1 : Nat) : Nat) : Int) = ((2 * N + 3 : Nat) : Int) := by rw [List.length_reverse, pts_len]
   have hS := ofS_ok m d t s c x (pts m d N (2 * N + 1)).reverse (N : Int) (m + N * (m + d)) h h1 h2 h6 h4 hz hx hs1 hu1 hu2 hk1 hD (2 * N + 3 + 1) 0 _ (by rw [hlen]; exact hgo)
   dsimp only at hS
   have hk : kOf m d (x % s) < 2 * N + 3 := by
    have ⟨g1, g2⟩ := kOf_is h1.1 h2.1 u0
    rcases Nat.lt_or_ge (kOf m d (x % s)) (2 * N + 3) with g | g
    ·exact g
    ·have := fst_mono h1.1 h2.1 g; omega
   have k := ofT m d t s c x (pts m d N (2 * N + 1)).reverse (N : Int) (m + N * (m + d)) ((kOf m d (x % s) + 1 : Nat) : Int) ((kOf m d (x % s) + 1 : Nat) : Int) h h1 h2 h6 h4 hz hx hs1 hu1 hu2 (by omega) (by rw [hlen]; omega) hk1 hD
    (decide_eq_true (by omega)) (decide_eq_true (by omega)) (decide_eq_true (by omega)) (by rw [decide_eq_true hx.2]; rfl) (by rw [hW]; exact beq_eq_false_iff_ne.2 (by omega)) hS
   have q0 : 0 ≤ x / s := Int.ediv_nonneg hx.1 (by omega)
   have q1 : x / s ≤ x := Int.ediv_le_self _ hx.1
   have hwk : IntKind.i64.wrap (((kOf m d (x % s) + 1 : Nat) : Int) - 1) = (kOf m d (x % s) : Int) := by rw [w8n (by omega) (by omega)]; omega
   have e0 : ofT_c0 m d t s c x (pts m d N (2 * N + 1)).reverse (N : Int) (m + N * (m + d)) ((kOf m d (x % s) + 1 : Nat) : Int) ((kOf m d (x % s) + 1 : Nat) : Int) = x / s := by
    unfold ofT_c0
    rw [hW, Int.tdiv_eq_ediv_of_nonneg hx.1, w8n (by omega) (by omega)]
   have hel : el (((5 : Int), (0 : Int), IntKind.i64.wrap (m + N * (m + d) + m), d) :: ((4 : Int), (0 : Int), m + N * (m + d), m) :: (pts m d N (2 * N + 1)).reverse).reverse (IntKind.i64.wrap (((kOf m d (x % s) + 1 : Nat) : Int) - 1)) = phP m d t s x := by
    rw [w1, ptL_eq, hwk, ptL_el m d N _ hk]
    unfold phP
    rw [hN, Int.toNat_natCast]
   have e1 : ofT_c1 m d t s c x (pts m d N (2 * N + 1)).reverse (N : Int) (m + N * (m + d)) ((kOf m d (x % s) + 1 : Nat) : Int) ((kOf m d (x % s) + 1 : Nat) : Int) = (phP m d t s x).1 := by
    unfold ofT_c1; rw [hel]
   have e2 : ofT_c2 m d t s c x (pts m d N (2 * N + 1)).reverse (N : Int) (m + N * (m + d)) ((kOf m d (x % s) + 1 : Nat) : Int) ((kOf m d (x % s) + 1 : Nat) : Int) = (phP m d t s x).2.1 := by
    unfold ofT_c2; rw [hel]
   have hfst : (phP m d t s x).2.2.1 = fst m d (kOf m d (x % s)) := prt_fst m d _ _
   have hf0 : 0 ≤ fst m d (kOf m d (x % s)) := by
    have := fst_mono h1.1 h2.1 (a := 0) (b := kOf m d (x % s)) (by omega)
    have f0 : fst m d 0 = 0 := by unfold fst; rw [if_pos rfl]
    omega
   have hf1 := (kOf_is h1.1 h2.1 u0).1
   have e3 : ofT_c3 m d t s c x (pts m d N (2 * N + 1)).reverse (N : Int) (m + N * (m + d)) ((kOf m d (x % s) + 1 : Nat) : Int) ((kOf m d (x % s) + 1 : Nat) : Int) = x % s - (phP m d t s x).2.2.1 := by
    unfold ofT_c3; rw [hel, hW, Int.tmod_eq_emod_of_nonneg hx.1, hfst, w8n (by omega) (by omega)]
   rw [e0, e1, e2, e3] at k
   exact k
  ·have e : phE m d t s c x = 2 := by unfold phE; rw [if_pos h, if_neg hx]
   unfold phA phB phC phF
   rw [e, if_neg (by decide), if_neg (by decide), if_neg (by decide), if_neg (by decide)]
   exact ofR m d t s c x _ _ _ h h1 h2 h6 h4 hz hx hk1 hD
 ·have e : phE m d t s c x = ckX m d t s c := by unfold phE; rw [if_neg h]
  unfold phA phB phC phF
  rw [e, if_neg h, if_neg h, if_neg h, if_neg h]
  exact ofE m d t s c x h
end Go.Proofs.Ytaogbagopdlkmaa
