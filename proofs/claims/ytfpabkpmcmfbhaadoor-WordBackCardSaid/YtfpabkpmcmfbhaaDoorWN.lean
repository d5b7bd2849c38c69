/- Layer 33: the functions of WordBits, for all numbers. -/
import Derived.Test.YtfpabkpmcmfbhaaDoorOgX3
namespace Go.Proofs.YtfpabkpmcmfbhaaDoor
open Go Go.RowKit
set_option linter.unusedVariables false
set_option linter.unusedSimpArgs false
theorem pcars_all (a c : Int) : KnownR Tryd.prog knWordKnownL 6 [.val (.int .i64 a), .val (.int .i64 c)] (.tuple #[.complex .f64 0 (csL a c).length, .int .i64 (vlX a c)]) [(rowA gI (csL a c), 3)] := by
  unfold csL
  by_cases hv : vlX a c = 0
  · rw [if_pos hv, hv]; exact pcT a c hv (vl_ok hv).2.1
  · rw [if_neg hv]; exact pcE a c hv
/-- the text of a word, or none -/
noncomputable def tsX (a c : Int) : ByteArray := if vlX a c = 0 then txW a.toNat c.toNat else { data := #[] }
theorem rtext_all (a c : Int) : Known Tryd.prog knWordKnownL 9 [.int .i64 a, .int .i64 c] (.tuple #[.string (tsX a c), .int .i64 (vlX a c)]) := by
  unfold tsX
  by_cases hv : vlX a c = 0
  · rw [if_pos hv, hv]; exact rtext a c hv
  · rw [if_neg hv]; exact rtE a c hv
theorem ptext_all (a c : Int) : Known Tryd.prog knWordKnownL 8 [.int .i64 a, .int .i64 c] (.tuple #[.string (tsX a c), .int .i64 (vlX a c)]) := by
  unfold tsX
  by_cases hv : vlX a c = 0
  · rw [if_pos hv, hv]
    obtain ⟨hc, ha, hp⟩ := vl_ok hv
    exact text_k hc ⟨ha.1, by unfold pwI at hp; exact hp⟩
  · rw [if_neg hv]; exact ptE a c hv
/-- the error of two words -/
noncomputable def ewX (a b c : Int) : Int := if vlX a c = 0 ∧ vlX b c = 0 then 0 else 2
/-- where they differ -/
noncomputable def dfL (a b c : Int) : List Int := if vlX a c = 0 ∧ vlX b c = 0 then crR ((a.toNat ^^^ b.toNat : Nat) : Int) else []
/-- both together -/
noncomputable def mgX (a b c : Int) : Int := if vlX a c = 0 ∧ vlX b c = 0 then ((a.toNat ||| b.toNat : Nat) : Int) else 0
theorem cwY_is (a b c : Int) : cwY a b c = ewX a b c := cw2_is c a b
theorem pdiffer (a b c : Int) : KnownR Tryd.prog knWordKnownL 13 [.val (.int .i64 a), .val (.int .i64 b), .val (.int .i64 c)] (.tuple #[.complex .f64 0 (dfL a b c).length, .int .i64 (ewX a b c)]) [(rowA gI (dfL a b c), 3)] := by
  unfold dfL
  by_cases h : vlX a c = 0 ∧ vlX b c = 0
  · have he : ewX a b c = 0 := if_pos h
    have hx := xo_is (vl_ok h.1).2.1 (vl_ok h.2).2.1
    have r := pdT a b c (by rw [cwY_is, he]) (by unfold xoR; rw [hx.1]; omega)
    unfold pdT_c0 at r
    rw [hx.1] at r
    rw [if_pos h, he]
    exact r
  · have he : ewX a b c = 2 := if_neg h
    have r := pdE a b c (by rw [cwY_is, he]; decide)
    unfold pdE_c1 at r
    rw [cwY_is] at r
    rw [if_neg h]
    exact r
theorem rdiffer_all (a b c : Int) : KnownR Tryd.prog knWordKnownL 14 [.val (.int .i64 a), .val (.int .i64 b), .val (.int .i64 c)] (.tuple #[.complex .f64 0 (dfL a b c).length, .int .i64 (ewX a b c)]) [(rowA gI (dfL a b c), 3)] := by
  unfold dfL ewX
  by_cases h : vlX a c = 0 ∧ vlX b c = 0
  · rw [if_pos h, if_pos h]; exact rdiffer a b c h.1 h.2
  · rw [if_neg h, if_neg h]; exact rdE a b c h
theorem pmerge (a b c : Int) : KnownR Tryd.prog knWordKnownL 11 [.val (.int .i64 a), .val (.int .i64 b), .val (.int .i64 c)] (.tuple #[.int .i64 (mgX a b c), .int .i64 (ewX a b c)]) [] := by
  unfold mgX
  by_cases h : vlX a c = 0 ∧ vlX b c = 0
  · have he : ewX a b c = 0 := if_pos h
    have hx := or_is (vl_ok h.1).2.1 (vl_ok h.2).2.1
    have r := pmT a b c (by rw [cwY_is, he])
    unfold pmT_c0 at r
    rw [hx.1] at r
    rw [if_pos h, he]
    exact r
  · have he : ewX a b c = 2 := if_neg h
    have r := pmE a b c (by rw [cwY_is, he]; decide)
    unfold pmE_c1 at r
    rw [cwY_is] at r
    rw [if_neg h]
    exact r
theorem rmerge (a b c : Int) : KnownR Tryd.prog knWordKnownL 12 [.val (.int .i64 a), .val (.int .i64 b), .val (.int .i64 c)] (.tuple #[.int .i64 (mgX a b c), .int .i64 (ewX a b c)]) [] := by
  unfold mgX ewX
  by_cases h : vlX a c = 0 ∧ vlX b c = 0
  · have ea : csL a c = crR a := if_pos h.1
    have eb : csL b c = crR b := if_pos h.2
    obtain ⟨a1, a2, a3⟩ := cr_at h.1
    obtain ⟨b1, b2, b3⟩ := cr_at h.2
    have r := rgT a b c h.1 h.2 (by rw [ea, eb, List.length_append]; omega) (vl_ok h.1).1 (by
      rw [ea, eb]
      intro x hm
      rcases List.mem_append.1 hm with k | k
      · exact a1 x k
      · exact b1 x k) (by rw [ea]; omega) (by rw [eb]; omega)
    unfold rgT_c0 at r
    rw [ea, eb, or_two h.1 h.2] at r
    rw [if_pos h, if_pos h]
    exact r
  · rw [if_neg h, if_neg h]; exact rgE a b c h
theorem csL_len (a c : Int) : (csL a c).length ≤ 20000 := by
  unfold csL
  by_cases hv : vlX a c = 0
  · rw [if_pos hv]; have := (cr_at hv).2.1; omega
  · rw [if_neg hv]; simp
theorem dfL_len (a b c : Int) : (dfL a b c).length ≤ 20000 := by
  unfold dfL
  by_cases h : vlX a c = 0 ∧ vlX b c = 0
  · rw [if_pos h]
    have hx := (xo_is (vl_ok h.1).2.1 (vl_ok h.2).2.1).2
    obtain ⟨hc, ha, hp⟩ := vl_ok h.1
    obtain ⟨_, hb, hq⟩ := vl_ok h.2
    have hv : vlX ((a.toNat ^^^ b.toNat : Nat) : Int) c = 0 := by
      rcases vl_is (a := ((a.toNat ^^^ b.toNat : Nat) : Int)) (c := c) with ⟨e, _⟩ | ⟨_, n⟩
      · exact e
      · exact absurd ⟨hc.1, hc.2, by omega, xor_pw ⟨ha.1, hp⟩ ⟨hb.1, hq⟩⟩ n
    have := (cr_at hv).2.1
    omega
  · rw [if_neg h]; simp
end Go.Proofs.YtfpabkpmcmfbhaaDoor
