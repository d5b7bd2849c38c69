/- Layer 12: votes, as contracts. -/
import Derived.Test.YthjdoeeefighkaaNB0
import Derived.Test.YthjdoeeefighkaaNB1
import Derived.Test.YthjdoeeefighkaaNB2
import Derived.Test.YthjdoeeefighkaaNB3
import Derived.Test.YthjdoeeefighkaaLU
namespace Go.Proofs.Ythjdoeeefighkaa
open Go Go.RowKit
set_option linter.unusedVariables false
theorem all_vt {P : Nat → Bool} (h : (List.range 9).all P = true) {c : Nat} (hc : c < 9) : P c = true := List.all_eq_true.1 h c (List.mem_range.2 hc)
theorem vt_all {f c p : Nat} (hf : f < 4) (hc : c < 9) : vt0 f c = true ∧ vt1 f c = true ∧ vt2 f c = true ∧ od0 f c = true ∧ od1 f c = true ∧ od2 f c = true := by
  rcases (by omega : f = 0 ∨ f = 1 ∨ f = 2 ∨ f = 3) with rfl | rfl | rfl | rfl
  · exact ⟨all_vt vt00 hc, all_vt vt10 hc, all_vt vt20 hc, all_vt od00 hc, all_vt od10 hc, all_vt od20 hc⟩
  · exact ⟨all_vt vt01 hc, all_vt vt11 hc, all_vt vt21 hc, all_vt od01 hc, all_vt od11 hc, all_vt od21 hc⟩
  · exact ⟨all_vt vt02 hc, all_vt vt12 hc, all_vt vt22 hc, all_vt od02 hc, all_vt od12 hc, all_vt od22 hc⟩
  · exact ⟨all_vt vt03 hc, all_vt vt13 hc, all_vt vt23 hc, all_vt od03 hc, all_vt od13 hc, all_vt od23 hc⟩
/-- a reading -/
abbrev Rd := Bool × Int × Int
def rdT (c : Nat) : Rd := (rdO c, rdF c, rdZ c)
def frT (f : Nat) : Rd := (true, Int.ofNat f, frZ f)
/-- two of three readings are that of a floor, the third one is one of nine -/
def VtP (x y z : Rd) (f c p : Nat) : Prop := f < 4 ∧ c < 9 ∧ ((p = 0 ∧ x = rdT c ∧ y = frT f ∧ z = frT f) ∨ (p = 1 ∧ x = frT f ∧ y = rdT c ∧ z = frT f) ∨ (p = 2 ∧ x = frT f ∧ y = frT f ∧ z = rdT c))
noncomputable def vG (a1 : Bool) (b1 c1 : Int) (a2 : Bool) (b2 c2 : Int) (a3 : Bool) (b3 c3 : Int) : Bool := (Classical.propDecidable (∃ f c p, VtP (a1, b1, c1) (a2, b2, c2) (a3, b3, c3) f c p)).decide
theorem vG_iff {a1 : Bool} {b1 c1 : Int} {a2 : Bool} {b2 c2 : Int} {a3 : Bool} {b3 c3 : Int} : vG a1 b1 c1 a2 b2 c2 a3 b3 c3 = true ↔ ∃ f c p, VtP (a1, b1, c1) (a2, b2, c2) (a3, b3, c3) f c p := by
  unfold vG
  exact @decide_eq_true_iff _ (Classical.propDecidable _)
/-- what two of three agree on -/
def vO (a1 : Bool) (b1 c1 : Int) (a2 : Bool) (b2 c2 : Int) (a3 : Bool) (b3 c3 : Int) : Bool := if a1 = a2 ∧ b1 = b2 ∧ c1 = c2 then a1 else a3
def vF (a1 : Bool) (b1 c1 : Int) (a2 : Bool) (b2 c2 : Int) (a3 : Bool) (b3 c3 : Int) : Int := if a1 = a2 ∧ b1 = b2 ∧ c1 = c2 then b1 else b3
def vZ (a1 : Bool) (b1 c1 : Int) (a2 : Bool) (b2 c2 : Int) (a3 : Bool) (b3 c3 : Int) : Int := if a1 = a2 ∧ b1 = b2 ∧ c1 = c2 then c1 else c3
/-- the one that differs -/
def oN (a1 : Bool) (b1 c1 : Int) (a2 : Bool) (b2 c2 : Int) (a3 : Bool) (b3 c3 : Int) : Int := if a1 = a2 ∧ b1 = b2 ∧ c1 = c2 then (if a2 = a3 ∧ b2 = b3 ∧ c2 = c3 then 0 else 3) else if a2 = a3 ∧ b2 = b3 ∧ c2 = c3 then 1 else 2
theorem same_iff {f c : Nat} (hf : f < 4) (hc : c < 9) : sameR f c = decide (rdT c = frT f) := by
  have all : ∀ f : Fin 4, ∀ c : Fin 9, sameR f.val c.val = decide (rdT c.val = frT f.val) := by decide +kernel
  exact all ⟨f, hf⟩ ⟨c, hc⟩
theorem vote_k {a1 : Bool} {b1 c1 : Int} {a2 : Bool} {b2 c2 : Int} {a3 : Bool} {b3 c3 : Int} (h : vG a1 b1 c1 a2 b2 c2 a3 b3 c3 = true) : Known Try.prog [] 17 [.agg #[.bool a1, .int .i64 b1, .int .i64 c1], .agg #[.bool a2, .int .i64 b2, .int .i64 c2], .agg #[.bool a3, .int .i64 b3, .int .i64 c3]] (.tuple #[.agg #[.bool (vO a1 b1 c1 a2 b2 c2 a3 b3 c3), .int .i64 (vF a1 b1 c1 a2 b2 c2 a3 b3 c3), .int .i64 (vZ a1 b1 c1 a2 b2 c2 a3 b3 c3)], .int .i64 0]) := by
  obtain ⟨f, c, p, hf, hc, h⟩ := vG_iff.1 h
  obtain ⟨v0, v1, v2, _⟩ := vt_all (p := p) hf hc
  rcases h with ⟨_, h1, h2, h3⟩ | ⟨_, h1, h2, h3⟩ | ⟨_, h1, h2, h3⟩ <;> injection h1 with x1 h1 <;> injection h1 with x2 x3 <;> injection h2 with y1 h2 <;> injection h2 with y2 y3 <;> injection h3 with z1 h3 <;> injection h3 with z2 z3 <;> subst x1 <;> subst x2 <;> subst x3 <;> subst y1 <;> subst y2 <;> subst y3 <;> subst z1 <;> subst z2 <;> subst z3
  · have k := run_res knSensorKnown_mix TabOk.none v0
    have e : vO (rdO c) (rdF c) (rdZ c) true (Int.ofNat f) (frZ f) true (Int.ofNat f) (frZ f) = true ∧ vF (rdO c) (rdF c) (rdZ c) true (Int.ofNat f) (frZ f) true (Int.ofNat f) (frZ f) = Int.ofNat f ∧ vZ (rdO c) (rdF c) (rdZ c) true (Int.ofNat f) (frZ f) true (Int.ofNat f) (frZ f) = frZ f := by
      unfold vO vF vZ
      split
      · rename_i h; exact ⟨h.1, h.2.1, h.2.2⟩
      · exact ⟨rfl, rfl, rfl⟩
    rw [e.1, e.2.1, e.2.2]
    exact k
  · have k := run_res knSensorKnown_mix TabOk.none v1
    have e : vO true (Int.ofNat f) (frZ f) (rdO c) (rdF c) (rdZ c) true (Int.ofNat f) (frZ f) = true ∧ vF true (Int.ofNat f) (frZ f) (rdO c) (rdF c) (rdZ c) true (Int.ofNat f) (frZ f) = Int.ofNat f ∧ vZ true (Int.ofNat f) (frZ f) (rdO c) (rdF c) (rdZ c) true (Int.ofNat f) (frZ f) = frZ f := by
      unfold vO vF vZ
      exact ⟨by split <;> rfl, by split <;> rfl, by split <;> rfl⟩
    rw [e.1, e.2.1, e.2.2]
    exact k
  · have k := run_res knSensorKnown_mix TabOk.none v2
    have e : vO true (Int.ofNat f) (frZ f) true (Int.ofNat f) (frZ f) (rdO c) (rdF c) (rdZ c) = true ∧ vF true (Int.ofNat f) (frZ f) true (Int.ofNat f) (frZ f) (rdO c) (rdF c) (rdZ c) = Int.ofNat f ∧ vZ true (Int.ofNat f) (frZ f) true (Int.ofNat f) (frZ f) (rdO c) (rdF c) (rdZ c) = frZ f := by
      unfold vO vF vZ
      simp
    rw [e.1, e.2.1, e.2.2]
    exact k
theorem odd_k {a1 : Bool} {b1 c1 : Int} {a2 : Bool} {b2 c2 : Int} {a3 : Bool} {b3 c3 : Int} (h : vG a1 b1 c1 a2 b2 c2 a3 b3 c3 = true) : Known Try.prog [] 19 [.agg #[.bool a1, .int .i64 b1, .int .i64 c1], .agg #[.bool a2, .int .i64 b2, .int .i64 c2], .agg #[.bool a3, .int .i64 b3, .int .i64 c3]] (.tuple #[.int .i64 (oN a1 b1 c1 a2 b2 c2 a3 b3 c3), .int .i64 0]) := by
  obtain ⟨f, c, p, hf, hc, h⟩ := vG_iff.1 h
  obtain ⟨_, _, _, v0, v1, v2⟩ := vt_all (p := p) hf hc
  have hs := same_iff hf hc
  have hiff : (rdT c = frT f) = (rdO c = true ∧ rdF c = Int.ofNat f ∧ rdZ c = frZ f) := by unfold rdT frT; simp
  rcases h with ⟨_, h1, h2, h3⟩ | ⟨_, h1, h2, h3⟩ | ⟨_, h1, h2, h3⟩ <;> injection h1 with x1 h1 <;> injection h1 with x2 x3 <;> injection h2 with y1 h2 <;> injection h2 with y2 y3 <;> injection h3 with z1 h3 <;> injection h3 with z2 z3 <;> subst x1 <;> subst x2 <;> subst x3 <;> subst y1 <;> subst y2 <;> subst y3 <;> subst z1 <;> subst z2 <;> subst z3
  · have k := run_res knSensorKnown_mix TabOk.none v0
    have e : oN (rdO c) (rdF c) (rdZ c) true (Int.ofNat f) (frZ f) true (Int.ofNat f) (frZ f) = odN f c 0 := by
      unfold oN odN
      by_cases g : rdT c = frT f
      · rw [hs, decide_eq_true g]
        rw [hiff] at g
        rw [if_pos g, if_pos ⟨rfl, rfl, rfl⟩]
      · rw [hs, decide_eq_false g]
        rw [hiff] at g
        rw [if_neg g, if_pos ⟨rfl, rfl, rfl⟩]; rfl
    rw [e]
    exact k
  · have k := run_res knSensorKnown_mix TabOk.none v1
    have e : oN true (Int.ofNat f) (frZ f) (rdO c) (rdF c) (rdZ c) true (Int.ofNat f) (frZ f) = odN f c 1 := by
      unfold oN odN
      by_cases g : rdT c = frT f
      · rw [hs, decide_eq_true g]
        rw [hiff] at g
        rw [if_pos ⟨g.1.symm, g.2.1.symm, g.2.2.symm⟩, if_pos g]
      · rw [hs, decide_eq_false g]
        rw [hiff] at g
        rw [if_neg (fun q => g ⟨q.1.symm, q.2.1.symm, q.2.2.symm⟩), if_neg g]; rfl
    rw [e]
    exact k
  · have k := run_res knSensorKnown_mix TabOk.none v2
    have e : oN true (Int.ofNat f) (frZ f) true (Int.ofNat f) (frZ f) (rdO c) (rdF c) (rdZ c) = odN f c 2 := by
      unfold oN odN
      by_cases g : rdT c = frT f
      · rw [hs, decide_eq_true g]
        rw [hiff] at g
        rw [if_pos ⟨rfl, rfl, rfl⟩, if_pos ⟨g.1.symm, g.2.1.symm, g.2.2.symm⟩]
      · rw [hs, decide_eq_false g]
        rw [hiff] at g
        rw [if_pos ⟨rfl, rfl, rfl⟩, if_neg (fun q => g ⟨q.1.symm, q.2.1.symm, q.2.2.symm⟩)]; rfl
    rw [e]
    exact k
end Go.Proofs.Ythjdoeeefighkaa
