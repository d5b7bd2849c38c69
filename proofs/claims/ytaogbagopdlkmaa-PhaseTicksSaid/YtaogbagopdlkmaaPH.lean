import Derived.Test.YtaogbagopdlkmaaOgO
set_option linter.unusedVariables false
namespace Go.Proofs.Ytaogbagopdlkmaa
open Go Go.RowKit
def fiB (m d t s c x : Int) : Bool := decide (phE m d t s c x = 0 ∧ x % s = 0)
def deB (m d t s c x : Int) : Bool := decide (phE m d t s c x = 0 ∧ phB m d t s c x = 2 ∧ phF m d t s c x = 0)
def trX (m d t s c : Int) : Int := if ckX m d t s c = 0 then trN m t s else 0
def slX (m d t s c : Int) : Int := if ckX m d t s c = 0 then slN s c else 0
theorem phE_ok {m d t s c x : Int} (h : phE m d t s c x = 0) : ckX m d t s c = 0 ∧ 0 ≤ x ∧ x ≤ 1099511627776 := by
 unfold phE at h
 split at h
 ·rename_i g
  split at h
  ·rename_i g2; exact ⟨g, g2⟩
  ·cases h
 ·rename_i g; exact absurd h g
theorem phE_in {m d t s c x : Int} (h : ckX m d t s c = 0) (hx : 0 ≤ x ∧ x ≤ 1099511627776) : phE m d t s c x = 0 := by unfold phE; rw [if_pos h, if_pos hx]
theorem prt_kind1 {m d : Int} {n k : Nat} (h : (prt m d n k).1 = 1) : k = 0 := by
 unfold prt at h
 split at h
 ·assumption
 ·split at h <;> split at h <;> simp at h
theorem first_iff {m d t s c x : Int} (h : phE m d t s c x = 0) : (phB m d t s c x == (1 : Int) && (phC m d t s c x == (0 : Int) && phF m d t s c x == (0 : Int))) = decide (x % s = 0) := by
 obtain ⟨hc, hx⟩ := phE_ok h
 obtain ⟨h1, h2, h3, h4, h5, h6, h7⟩ := ck_all hc
 unfold phB phC phF
 rw [if_pos h, if_pos h, if_pos h]
 by_cases hu : x % s = 0
 ·rw [of_first (x := x) (s := s) (by omega), hu]; rfl
 ·rw [decide_eq_false hu]
  by_cases hb : (phP m d t s x).1 = 1
  ·have hk := prt_kind1 hb
   have e : phP m d t s x = (1, 0, 0, m) := by unfold phP; rw [hk, prt_zero]
   rw [e]
   have : (x % s - 0 == 0) = false := beq_eq_false_iff_ne.2 (by omega)
   simp only [this, Bool.and_false]
  ·rw [show ((phP m d t s x).1 == 1) = false from beq_eq_false_iff_ne.2 hb, Bool.false_and]
theorem pFirst (m d t s c x : Int) : KnownR Try.prog [] 18 [.val (.agg #[.int .i64 m, .int .i64 d, .int .i64 t, .int .i64 s, .int .i64 c]), .val (.int .i64 x)] (.tuple #[.bool (fiB m d t s c x), .int .i64 (phE m d t s c x)]) [] := by
 have k := fiP m d t s c x
 have e1 : fiP_c1 m d t s c x = phE m d t s c x := by
  unfold fiP_c1
  by_cases h : phE m d t s c x = 0
  ·rw [h]; rfl
  ·rw [show (phE m d t s c x != 0) = true by simpa using h]; rfl
 have e0 : fiP_c0 m d t s c x = fiB m d t s c x := by
  unfold fiP_c0 fiB
  by_cases h : phE m d t s c x = 0
  ·rw [show (phE m d t s c x != 0) = false by simpa using h, cond_false, first_iff h]
   simp [h]
  ·rw [show (phE m d t s c x != 0) = true by simpa using h, cond_true, decide_eq_false (fun g => h g.1)]
 rw [e0, e1] at k
 exact k
theorem rFirst (m d t s c x : Int) (hs : s ≤ 9223372036854775807) (hcc : c ≤ 9223372036854775807) : KnownR Try.prog [] 19 [.val (.agg #[.int .i64 m, .int .i64 d, .int .i64 t, .int .i64 s, .int .i64 c]), .val (.int .i64 x)] (.tuple #[.bool (fiB m d t s c x), .int .i64 (phE m d t s c x)]) [] := by
 by_cases h : ckX m d t s c = 0
 ·by_cases hx : 0 ≤ x ∧ x ≤ 1099511627776
  ·have e := phE_in h hx
   obtain ⟨h1, h2, h3, h4, h5, h6, h7⟩ := ck_all h
   have k := rfT m d t s c x h h1 h2 h6 h5 hs hcc hx
   have e0 : rfT_c0 m d t s c x = fiB m d t s c x := by
    unfold rfT_c0 fiB
    rw [Int.tmod_eq_emod_of_nonneg hx.1]
    by_cases g : x % s = 0
    ·rw [g, decide_eq_true ⟨e, rfl⟩]; rfl
    ·rw [show (x % s == 0) = false from beq_eq_false_iff_ne.2 g, decide_eq_false (fun q => g q.2)]
   rw [e0] at k
   rw [e]; exact k
  ·have e : phE m d t s c x = 2 := by unfold phE; rw [if_pos h, if_neg hx]
   have k := rfR m d t s c x hs hcc h hx
   have e0 : fiB m d t s c x = false := by unfold fiB; exact decide_eq_false (fun q => by rw [e] at q; exact absurd q.1 (by decide))
   rw [e0, e]; exact k
 ·have e : phE m d t s c x = ckX m d t s c := by unfold phE; rw [if_neg h]
  have k := rfE m d t s c x hs hcc h
  have e0 : fiB m d t s c x = false := by unfold fiB; exact decide_eq_false (fun q => by rw [e] at q; exact h q.1)
  rw [e0, e]; exact k
theorem pDecision (m d t s c x : Int) : KnownR Try.prog [] 20 [.val (.agg #[.int .i64 m, .int .i64 d, .int .i64 t, .int .i64 s, .int .i64 c]), .val (.int .i64 x)] (.tuple #[.bool (deB m d t s c x), .int .i64 (phE m d t s c x)]) [] := by
 have k := deP m d t s c x
 have e1 : deP_c1 m d t s c x = phE m d t s c x := by
  unfold deP_c1
  by_cases h : phE m d t s c x = 0
  ·rw [h]; rfl
  ·rw [show (phE m d t s c x != 0) = true by simpa using h]; rfl
 have e0 : deP_c0 m d t s c x = deB m d t s c x := by
  unfold deP_c0 deB
  by_cases h : phE m d t s c x = 0
  ·rw [show (phE m d t s c x != 0) = false by simpa using h, cond_false]
   simp only [beq_self_eq_true, Bool.true_and, h, true_and, Bool.decide_and]
   rfl
  ·rw [show (phE m d t s c x != 0) = true by simpa using h, cond_true, decide_eq_false (fun g => h g.1)]
 rw [e0, e1] at k
 exact k
theorem rDecision (m d t s c x : Int) (hs : s ≤ 9223372036854775807) (hcc : c ≤ 9223372036854775807) : KnownR Try.prog [] 21 [.val (.agg #[.int .i64 m, .int .i64 d, .int .i64 t, .int .i64 s, .int .i64 c]), .val (.int .i64 x)] (.tuple #[.bool (deB m d t s c x), .int .i64 (phE m d t s c x)]) [] := by
 have k := deR m d t s c x hs hcc
 have e0 : deR_c0 m d t s c x = deB m d t s c x := by
  unfold deR_c0 deB
  by_cases h : phE m d t s c x = 0
  ·by_cases hb : phB m d t s c x = 2
   ·rw [show (phB m d t s c x == 2) = true by simpa using hb, cond_true]
    simp only [h, hb, true_and]
    rfl
   ·rw [show (phB m d t s c x == 2) = false from beq_eq_false_iff_ne.2 hb, cond_false, decide_eq_false (fun g => hb g.2.1)]
  ·have hb : phB m d t s c x = 0 := by unfold phB; rw [if_neg h]
   rw [hb, decide_eq_false (fun g => h g.1)]
   rfl
 rw [e0] at k
 exact k
theorem pTrips (m d t s c : Int) : KnownR Try.prog [] 10 [.val (.agg #[.int .i64 m, .int .i64 d, .int .i64 t, .int .i64 s, .int .i64 c])] (.tuple #[.int .i64 (trX m d t s c), .int .i64 (ckX m d t s c)]) [] := by
 unfold trX
 by_cases h : ckX m d t s c = 0
 ·obtain ⟨h1, h2, h3, h4, h5, h6, h7⟩ := ck_all h
  rw [if_pos h, h]; exact pnT m d t s c h h1 h6
 ·rw [if_neg h]; exact pnE m d t s c h
theorem rTrips (m d t s c : Int) (hs : s ≤ 9223372036854775807) (hcc : c ≤ 9223372036854775807) : KnownR Try.prog [] 11 [.val (.agg #[.int .i64 m, .int .i64 d, .int .i64 t, .int .i64 s, .int .i64 c])] (.tuple #[.int .i64 (trX m d t s c), .int .i64 (ckX m d t s c)]) [] := by
 unfold trX
 by_cases h : ckX m d t s c = 0
 ·obtain ⟨h1, h2, h3, h4, h5, h6, h7⟩ := ck_all h
  have k := rnT m d t s c hs hcc h h6
  rw [show rnT_c0 m d t s c = trN m t s from rtr_eq h] at k
  rw [if_pos h, h]; exact k
 ·rw [if_neg h]; exact rnE m d t s c hs hcc h
theorem pSlots (m d t s c : Int) : KnownR Try.prog [] 12 [.val (.agg #[.int .i64 m, .int .i64 d, .int .i64 t, .int .i64 s, .int .i64 c])] (.tuple #[.int .i64 (slX m d t s c), .int .i64 (ckX m d t s c)]) [] := by
 unfold slX
 by_cases h : ckX m d t s c = 0
 ·obtain ⟨h1, h2, h3, h4, h5, h6, h7⟩ := ck_all h
  rw [if_pos h, h]; exact plS m d t s c h h5
 ·rw [if_neg h]; exact plE m d t s c h
theorem rSlots (m d t s c : Int) (hs : s ≤ 9223372036854775807) (hcc : c ≤ 9223372036854775807) : KnownR Try.prog [] 13 [.val (.agg #[.int .i64 m, .int .i64 d, .int .i64 t, .int .i64 s, .int .i64 c])] (.tuple #[.int .i64 (slX m d t s c), .int .i64 (ckX m d t s c)]) [] := by
 unfold slX
 by_cases h : ckX m d t s c = 0
 ·obtain ⟨h1, h2, h3, h4, h5, h6, h7⟩ := ck_all h
  have k := rsT m d t s c hs hcc h h5
  have hsl := slN_eq (ck_ok h).2.2.2.2
  have e : rsT_c0 m d t s c = slN s c := by
   unfold rsT_c0
   have hc0 : 0 ≤ c := by rw [← hsl.1]; exact Int.mul_nonneg (by omega) (by omega)
   rw [Int.tdiv_eq_ediv_of_nonneg hc0]
   have : c / s = slN s c := by
    conv => lhs; rw [← hsl.1]
    exact Int.mul_ediv_cancel _ (by omega)
   rw [this, w8n (by omega) (by omega)]
  rw [e] at k
  rw [if_pos h, h]; exact k
 ·rw [if_neg h]; exact rsE m d t s c hs hcc h
end Go.Proofs.Ytaogbagopdlkmaa
