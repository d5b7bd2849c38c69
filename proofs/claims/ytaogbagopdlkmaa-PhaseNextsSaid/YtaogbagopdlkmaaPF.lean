import Derived.Test.YtaogbagopdlkmaaOgI
import Derived.Test.YtaogbagopdlkmaaPC
set_option linter.unusedVariables false
namespace Go.Proofs.Ytaogbagopdlkmaa
open Go Go.RowKit
def phE (m d t s c x : Int) : Int := if ckX m d t s c = 0 then (if 0 ≤ x ∧ x ≤ 1099511627776 then 0 else 2) else ckX m d t s c
def phP (m d t s x : Int) : Prt := prt m d (trN m t s).toNat (kOf m d (x % s))
def phA (m d t s c x : Int) : Int := if phE m d t s c x = 0 then x / s else 0
def phB (m d t s c x : Int) : Int := if phE m d t s c x = 0 then (phP m d t s x).1 else 0
def phC (m d t s c x : Int) : Int := if phE m d t s c x = 0 then (phP m d t s x).2.1 else 0
def phF (m d t s c x : Int) : Int := if phE m d t s c x = 0 then x % s - (phP m d t s x).2.2.1 else 0
theorem ck_all {m d t s c : Int} (h : ckX m d t s c = 0) : (1 ≤ m ∧ m ≤ 200000) ∧ (1 ≤ d ∧ d ≤ 200000) ∧ t = m + d ∧ (1 ≤ trN m t s ∧ trN m t s ≤ 16) ∧ (1 ≤ s ∧ s ≤ 10000000) ∧ (2 ≤ t ∧ t ≤ 400000) ∧ m + (trN m t s + 1) * t = s := by
 obtain ⟨h1, h2, h3, h4, _⟩ := ck_ok h
 have ht : 2 ≤ t ∧ t ≤ 400000 := by omega
 have h5 := trN_eq h4
 exact ⟨h1, h2, h3, ⟨h5.2.1, h5.2.2⟩, tr_bound h1 ht h4, ht, h5.1⟩
theorem rtr_eq {m d t s c : Int} (h : ckX m d t s c = 0) : IntKind.i64.wrap (IntKind.i64.wrap ((IntKind.i64.wrap (s - m)).tdiv t) - (1 : Int)) = trN m t s := by
 obtain ⟨h1, h2, h3, h4, h5, h6, h7⟩ := ck_all h
 have e : (s - m).tdiv t = trN m t s + 1 := by
  rw [Int.tdiv_eq_ediv_of_nonneg (by
   have := mul_in (n := trN m t s + 1) (t := t) (a := 17) (b := 400000) (by omega) (by omega) (by omega) (by omega)
   omega), show s - m = (trN m t s + 1) * t by omega]
  exact Int.mul_ediv_cancel _ (by omega)
 rw [w8n (n := s - m) (by omega) (by omega), e, w8n (n := trN m t s + 1) (by omega) (by omega), w8n (by omega) (by omega)]
 omega
theorem of_first {m d t s x : Int} (h : x % s < m) : phP m d t s x = (1, 0, 0, m) := by
 unfold phP kOf
 rw [if_pos h, prt_zero]
theorem kOf_rest {m d u : Int} {i : Nat} (h : ¬ u < m) (hi : (u - m) / (m + d) = i) : kOf m d u = if m ≤ (u - m) % (m + d) then 2 * i + 2 else 2 * i + 1 := by
 unfold kOf
 rw [if_neg h, hi]
 split <;> omega
theorem roT_eq {m d t s c x : Int} (h : ckX m d t s c = 0) (hx : 0 ≤ x ∧ x ≤ 1099511627776) : roT_c0 m d t s c x = x / s ∧ roT_c1 m d t s c x = (phP m d t s x).1 ∧ roT_c2 m d t s c x = (phP m d t s x).2.1 ∧ roT_c3 m d t s c x = x % s - (phP m d t s x).2.2.1 := by
 obtain ⟨h1, h2, h3, h4, h5, h6, h7⟩ := ck_all h
 have u0 := Int.emod_nonneg x (b := s) (by omega)
 have u1 := Int.emod_lt_of_pos x (b := s) (by omega)
 have q0 : 0 ≤ x / s := Int.ediv_nonneg hx.1 (by omega)
 have q1 : x / s ≤ x := Int.ediv_le_self _ hx.1
 refine ⟨by unfold roT_c0; rw [Int.tdiv_eq_ediv_of_nonneg hx.1, w8n (by omega) (by omega)], ?_⟩
 unfold roT_c1 roT_c2 roT_c3
 rw [Int.tmod_eq_emod_of_nonneg hx.1, rtr_eq h]
 by_cases hu : x % s < m
 ·rw [bif_dT hu, bif_dT hu, bif_dT hu, of_first hu]
  exact ⟨rfl, rfl, by show _ = x % s - 0; omega⟩
 ·rw [bif_dF hu, bif_dF hu, bif_dF hu, w8n (n := x % s - m) (by omega) (by omega), Int.tmod_eq_emod_of_nonneg (by omega), Int.tdiv_eq_ediv_of_nonneg (by omega)]
  have v0 := Int.emod_nonneg (x % s - m) (b := t) (by omega)
  have v1 := Int.emod_lt_of_pos (x % s - m) (b := t) (by omega)
  have r0 : 0 ≤ (x % s - m) / t := Int.ediv_nonneg (by omega) (by omega)
  have r1 : (x % s - m) / t ≤ x % s - m := Int.ediv_le_self _ (by omega)
  have e0 := Int.emod_add_mul_ediv (x % s - m) t
  rw [w8n (n := (x % s - m) / t) (by omega) (by omega)]
  obtain ⟨i, hi⟩ : ∃ i : Nat, (x % s - m) / t = i := ⟨((x % s - m) / t).toNat, by omega⟩
  have hi2 : (x % s - m) / (m + d) = i := by rw [← h3]; exact hi
  have hk := kOf_rest (d := d) hu hi2
  rw [hi] at e0 ⊢
  obtain ⟨N, hN⟩ : ∃ N : Nat, trN m t s = N := ⟨(trN m t s).toNat, by omega⟩
  have hc : (t : Int) * i = i * (m + d) := by rw [Int.mul_comm, h3]
  unfold phP
  rw [hk, hN, Int.toNat_natCast, ← h3]
  by_cases hv : m ≤ (x % s - m) % t
  ·rw [bif_dT (show (x % s - m) % t ≥ m from hv), bif_dT (show (x % s - m) % t ≥ m from hv), if_pos hv, w8n (n := (x % s - m) % t - m) (by omega) (by omega)]
   by_cases he : i = N
   ·subst he
    rw [show ((i : Int) == (i : Int)) = true by simp, prt_pdoor]
    refine ⟨rfl, rfl, ?_⟩
    dsimp only; omega
   ·rw [show ((i : Int) == (N : Int)) = false from beq_eq_false_iff_ne.2 (by omega), prt_door m d N i he]
    refine ⟨rfl, rfl, ?_⟩
    dsimp only; omega
  ·rw [bif_dF (show ¬ (x % s - m) % t ≥ m from hv), bif_dF (show ¬ (x % s - m) % t ≥ m from hv), if_neg hv]
   by_cases he : i = N
   ·subst he
    rw [show ((i : Int) == (i : Int)) = true by simp, prt_pmove]
    refine ⟨rfl, rfl, ?_⟩
    dsimp only; omega
   ·rw [show ((i : Int) == (N : Int)) = false from beq_eq_false_iff_ne.2 (by omega), prt_move m d N i he]
    refine ⟨rfl, rfl, ?_⟩
    dsimp only; omega
theorem rOf (m d t s c x : Int) (hs : s ≤ 9223372036854775807) (hcc : c ≤ 9223372036854775807) : KnownR Try.prog [] 17 [.val (.agg #[.int .i64 m, .int .i64 d, .int .i64 t, .int .i64 s, .int .i64 c]), .val (.int .i64 x)] (.tuple #[.agg #[.int .i64 (phA m d t s c x), .int .i64 (phB m d t s c x), .int .i64 (phC m d t s c x), .int .i64 (phF m d t s c x)], .int .i64 (phE m d t s c x)]) [] := by
 by_cases h : ckX m d t s c = 0
 ·by_cases hx : 0 ≤ x ∧ x ≤ 1099511627776
  ·have e : phE m d t s c x = 0 := by unfold phE; rw [if_pos h, if_pos hx]
   unfold phA phB phC phF
   rw [e, if_pos rfl, if_pos rfl, if_pos rfl, if_pos rfl]
   obtain ⟨h1, h2, h3, h4, h5, h6, h7⟩ := ck_all h
   have k := roT m d t s c x h h1 h2 h6 h5 hs hcc hx
   obtain ⟨g1, g2, g3, g4⟩ := roT_eq h hx
   rw [g1, g2, g3, g4] at k
   exact k
  ·have e : phE m d t s c x = 2 := by unfold phE; rw [if_pos h, if_neg hx]
   unfold phA phB phC phF
   rw [e, if_neg (by decide), if_neg (by decide), if_neg (by decide), if_neg (by decide)]
   exact roR m d t s c x hs hcc h hx
 ·have e : phE m d t s c x = ckX m d t s c := by unfold phE; rw [if_neg h]
  unfold phA phB phC phF
  rw [e, if_neg h, if_neg h, if_neg h, if_neg h]
  exact roE m d t s c x hs hcc h
end Go.Proofs.Ytaogbagopdlkmaa
