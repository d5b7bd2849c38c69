/- Slices cut and appended to, run and real. -/
import Derived.Test.YtpaojoahbmlolaaEvK
import Derived.Deep.AppendSrc
import Derived.Deep.Upon
namespace Go.Proofs.Ytpaojoahbmlolaa
open Go Go.RowKit
set_option linter.unusedSectionVars false
set_option linter.unusedVariables false
set_option linter.unusedSimpArgs false
set_option linter.unnecessarySimpa false
section
variable {P : Program} [NoCx P] {σ : Ren} {B : Bd}

/-- an operation of the run, and the real one -/
def Sound (P : Program) (B : Bd) (σ : Ren) (H : Nat → Option VO) (w : World) (s' : HS) (v : Value) (m : Sem Value) : Prop :=
  ∃ σ' v' w', m.run P w = .ok v' w' ∧ Ren.le σ σ' ∧ VRel σ' v v' ∧ Match P B σ' (upd H s') w' ∧ Below B.b w w'

theorem blt_iff {a b : Nat} : Nat.blt a b = true ↔ a < b := by
  show Nat.ble (a + 1) b = true ↔ _
  rw [Nat.ble_eq]; exact Iff.rfl
theorem natV_int {v v' : Value} {n : Nat} (h : natV v = some n) (k : VRel σ v v') : ∃ ik, v' = .int ik n := by
  unfold natV at h
  split at h
  · injection h with h; subst h; cases k; exact ⟨_, rfl⟩
  · cases h

theorem run_bound {ik : IntKind} {n y : Nat} {c : BoundsCode} (w : World) (h : n ≤ y) : (Instr.sliceBound (.int ik n) y c).run P w = .ok n w := by
  unfold Instr.sliceBound
  simp only [asIntOf, Sem.run_bind, Sem.run_pure, Result.andThen_ok]
  rw [if_pos ⟨by omega, by omega⟩]
  simp [Sem.run_pure]

theorem run_bounds {lo hi mx lo' hi' mx' : Option Value} {len cap l h m : Nat} (w : World) (h1 : OV σ lo lo') (h2 : OV σ hi hi') (h3 : OV σ mx mx')
    (hl : optV 0 lo = some l) (hh : optV len hi = some h) (hm : optV cap mx = some m)
    (cap' : Nat) (hlh : l ≤ h) (hhm : h ≤ (if mx = none then cap' else m)) (hmc : mx ≠ none → m ≤ cap') (hmx : mx ≠ none → hi ≠ none) :
    (Instr.sliceBounds true len cap' lo' hi' mx').run P w = .ok (l, h, if mx = none then cap' else m) w := by
  unfold Instr.sliceBounds
  cases mx with
  | none => cases mx' with
    | some _ => exact h3.elim
    | none =>
      simp only [if_true] at hhm ⊢
      cases hi with
      | none => cases hi' with
        | some _ => exact h2.elim
        | none =>
          simp only [optV, Option.some.injEq] at hh
          subst hh
          cases lo with
          | none => cases lo' with
            | some _ => exact h1.elim
            | none =>
              simp only [optV, Option.some.injEq] at hl
              subst hl
              simp
          | some lo => cases lo' with
            | none => exact h1.elim
            | some lo' =>
              obtain ⟨k, rfl⟩ := natV_int hl h1
              simp [run_bound w hlh]
      | some hi => cases hi' with
        | none => exact h2.elim
        | some hi' =>
          obtain ⟨k2, rfl⟩ := natV_int hh h2
          cases lo with
          | none => cases lo' with
            | some _ => exact h1.elim
            | none =>
              simp only [optV, Option.some.injEq] at hl
              subst hl
              simp [run_bound w hhm]
          | some lo => cases lo' with
            | none => exact h1.elim
            | some lo' =>
              obtain ⟨k, rfl⟩ := natV_int hl h1
              simp [run_bound w hlh, run_bound w hhm]
  | some mx => cases mx' with
    | none => exact h3.elim
    | some mx' =>
      obtain ⟨k3, rfl⟩ := natV_int hm h3
      simp only [reduceCtorEq, if_false] at hhm ⊢
      have hmc := hmc (by simp)
      cases hi with
      | none => exact absurd rfl (hmx (by simp))
      | some hi => cases hi' with
        | none => exact h2.elim
        | some hi' =>
          obtain ⟨k2, rfl⟩ := natV_int hh h2
          cases lo with
          | none => cases lo' with
            | some _ => exact h1.elim
            | none =>
              simp only [optV, Option.some.injEq] at hl
              subst hl
              simp [run_bound w hhm, run_bound w hmc]
          | some lo => cases lo' with
            | none => exact h1.elim
            | some lo' =>
              obtain ⟨k, rfl⟩ := natV_int hl h1
              simp [run_bound w hlh, run_bound w hhm, run_bound w hmc]

theorem slice_sound {t : TypeId} {x x' r : Value} {lo lo' hi hi' mx mx' : Option Value} (w : World) (hr : sliceV P t x lo hi mx = some r) (hx : VRel σ x x') (h1 : OV σ lo lo') (h2 : OV σ hi hi') (h3 : OV σ mx mx') :
    ∃ r', (Instr.sliceAt t x' lo' hi' mx').run P w = .ok r' w ∧ VRel σ r r' := by
  unfold sliceV at hr
  split at hr
  · rename_i e a len cap ht
    split at hr
    · rename_i i hi0
      split at hr
      · rename_i l h m hl hh hm
        split at hr
        · rename_i hc
          injection hr with hr
          subst hr
          simp only [Bool.and_eq_true, Bool.or_eq_true, Nat.ble_eq, Option.isNone_iff_eq_none] at hc
          obtain ⟨⟨⟨⟨⟨c1, c2⟩, c3⟩, c3'⟩, c4⟩, c5⟩ := hc
          simp only [blt_iff] at c4 c5
          have hmn : mx = none → m = cap := fun e => by subst e; injection hm with hm; exact hm.symm
          have key : ∀ (a' : Option Addr) (cap' : Nat), (mx = none → h ≤ cap') → (mx ≠ none → m ≤ cap') → (∀ (m' : Nat), m' = (if mx = none then cap' else m) →
              VRel σ (.slice (match Nat.beq m l with | true => a | false => a.map (·.add (Nat.mul l i.size))) (Nat.sub h l) (match Nat.blt cap inf || mx.isSome with | true => Nat.sub m l | false => cap)) (.slice (if m' = l then a' else a'.map (·.add (l * i.size))) (h - l) (m' - l))) →
              ∃ r', (Instr.sliceAt t (.slice a' len cap') lo' hi' mx').run P w = .ok r' w ∧ VRel σ (.slice (match Nat.beq m l with | true => a | false => a.map (·.add (Nat.mul l i.size))) (Nat.sub h l) (match Nat.blt cap inf || mx.isSome with | true => Nat.sub m l | false => cap)) r' := by
            intro a' cap' hle hle2 hv
            have hb := run_bounds (P := P) (cap := cap) w h1 h2 h3 hl hh hm cap' c1 (by
                split
                · exact hle ‹_›
                · exact c3) hle2 (fun hne => by
                rcases c4 with c4 | c4
                · exact absurd c4 hne
                · intro e; subst e; simp at c4)
            refine ⟨_, ?_, hv _ rfl⟩
            unfold Instr.sliceAt
            simp only [Sem.run_bind, run_underlying ht, Result.andThen_ok]
            unfold Instr.slice
            simp only [Sem.run_bind, run_underlying ht, Result.andThen_ok, hb, sizeOf, typeInfo, run_program, hi0, Sem.run_pure]
          have beqd : ∀ (x y : Nat), (∃ q : x = y, Nat.beq x y = true) ∨ (¬ x = y ∧ Nat.beq x y = false) := fun x y => by
            by_cases e : x = y
            · exact .inl ⟨e, by rw [e]; exact Nat.beq_refl y⟩
            · refine .inr ⟨e, ?_⟩
              cases hb : Nat.beq x y with
              | false => rfl
              | true => exact absurd (Nat.eq_of_beq_eq_true hb) e
          have bltd : ∀ (x y : Nat), (x < y ∧ Nat.blt x y = true) ∨ (¬ x < y ∧ Nat.blt x y = false) := fun x y => by
            by_cases e : x < y
            · exact .inl ⟨e, blt_iff.2 e⟩
            · refine .inr ⟨e, ?_⟩
              cases hb : Nat.blt x y with
              | false => rfl
              | true => exact absurd (blt_iff.1 hb) e
          cases hx with
          | sliceNil =>
            refine key none cap (fun e => by have := hmn e; omega) (fun _ => c3') (fun m' hm' => ?_)
            have hmm : m' = m := by
              rw [hm']
              split
              · exact (hmn ‹_›).symm
              · rfl
            subst hmm
            have e1 : (match Nat.beq m' l with | true => (none : Option Addr) | false => (none : Option Addr).map (fun q => Addr.add q (Nat.mul l i.size))) = none := by cases Nat.beq m' l <;> rfl
            have e2 : (if m' = l then (none : Option Addr) else (none : Option Addr).map (fun q => Addr.add q (l * i.size))) = none := by split <;> rfl
            rw [e1, e2]
            have : cap < inf := by
              rcases c5 with c5 | c5
              · exact c5
              · simp at c5
            rcases bltd cap inf with ⟨_, hb⟩ | ⟨hn, _⟩
            · rw [hb]; exact .sliceNil _ _
            · exact absurd this hn
          | slice _ g0 g1 g2 g3 =>
            rename_i b b' κ o p cap'
            refine key _ cap' (fun e => by omega) (fun e => by
              rcases c4 with c4 | c4
              · exact absurd c4 e
              · omega) (fun m' hm' => ?_)
            rcases bltd cap inf with ⟨hci, hb⟩ | ⟨hci, hb⟩
            · have hmm : m' = m := by
                rw [hm', g2 hci]
                split
                · exact (hmn ‹_›).symm
                · rfl
              subst hmm
              rw [hb]
              simp only [Bool.true_or]
              rcases beqd m' l with ⟨e, hq⟩ | ⟨e, hq⟩
              · rw [hq, if_pos e]
                exact .slice _ g0 (by show h - l ≤ m' - l; omega) (fun _ => rfl) (fun hge => by have : Nat.sub m' l = m' - l := rfl; omega)
              · rw [hq, if_neg e]
                exact ((PR.of_slice g0).add _).slice (by show m' - l < inf; omega) (by show h - l ≤ m' - l; omega)
            · rcases c5 with c5 | c5
              · exact absurd c5 hci
              · have hll := c5.1.2
                have hsz := c5.2
                rw [hb]
                by_cases hmx : mx = none
                · subst hmx
                  simp only [if_true] at hm'
                  subst hm'
                  have hmc := hmn rfl
                  rcases beqd m l with ⟨e, hq⟩ | ⟨e, hq⟩
                  · omega
                  · have e2 : ¬ m' = l := by omega
                    rw [hq, if_neg e2]
                    simp only [Option.isSome_none, Bool.or_false, Option.map_some]
                    by_cases hl0 : l = 0
                    · subst hl0
                      have : ∀ (q : Addr), q.add (Nat.mul 0 i.size) = q := fun q => by
                        have : Nat.mul 0 i.size = 0 := Nat.zero_mul _
                        unfold Addr.add; rw [if_pos this]
                      rw [this, show 0 * i.size = Nat.mul 0 i.size from rfl, this]
                      exact .slice _ g0 (by show h - 0 ≤ m' - 0; omega) (fun hlt => absurd hlt hci) (fun _ ho => by rw [Nat.sub_zero]; exact g3 (by omega) ho)
                    · have hpos : Nat.mul l i.size ≠ 0 := by
                        have := Nat.mul_pos (Nat.pos_of_ne_zero hl0) hsz
                        show l * i.size ≠ 0
                        omega
                      have hadd : ∀ (q : Addr), q.add (Nat.mul l i.size) = ⟨q.block, q.off + l * i.size, none⟩ := fun q => by
                        unfold Addr.add; rw [if_neg hpos]; rfl
                      rw [hadd, show l * i.size = Nat.mul l i.size from rfl, hadd]
                      exact .slice _ g0 (by show h - l ≤ m' - l; omega) (fun hlt => absurd hlt hci) (fun _ ho => by exfalso; have : l * i.size ≠ 0 := hpos; simp only at ho; omega)
                · have hms : mx.isSome = true := by cases mx <;> simp_all
                  rw [hms]
                  simp only [Bool.or_true, if_neg hmx] at hm' ⊢
                  subst hm'
                  have hlt : m' < inf := by
                    rcases c4 with c4 | c4
                    · exact absurd c4 hmx
                    · exact c4.2.2
                  rcases beqd m' l with ⟨e, hq⟩ | ⟨e, hq⟩
                  · rw [hq, if_pos e]
                    exact .slice _ g0 (by show h - l ≤ m' - l; omega) (fun _ => rfl) (fun hge => by have : Nat.sub m' l = m' - l := rfl; omega)
                  · rw [hq, if_neg e]
                    exact ((PR.of_slice g0).add _).slice (by show m' - l < inf; omega) (by show h - l ≤ m' - l; omega)
        · cases hr
      · cases hr
    · cases hr
  · cases hr
end
end Go.Proofs.Ytpaojoahbmlolaa
