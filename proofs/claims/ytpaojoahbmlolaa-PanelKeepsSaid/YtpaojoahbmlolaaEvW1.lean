/- Operations on lists that ask: what they do is what the run does. -/
import Derived.Test.YtpaojoahbmlolaaEvW
namespace Go.Proofs.Ytpaojoahbmlolaa
open Go
set_option linter.unusedSectionVars false
set_option linter.unusedVariables false
set_option linter.unusedSimpArgs false
set_option linter.unnecessarySimpa false
section
variable {P : Program} [NoCx P] {α : Type}

theorem growO_of {e : TypeId} {n : Nat} {q : Qs} {k : Qs → Option α} {r : α} (h : growO P e n q k = some r) : ∃ q', k q' = some r ∧ q.log <:+ q'.log ∧ (allP q'.log → growOk P e n = true) := by
  unfold growO at h
  split at h
  · rename_i b hb
    obtain ⟨b', q', h1, h2, h3⟩ := ask_of h
    cases b' with
    | false => cases h1
    | true =>
      refine ⟨q', h1, h2, fun ha => ?_⟩
      have hlt : n * b < 1000000000 := of_decide_eq_true (h3 ha)
      unfold growS at hb
      split at hb
      · rename_i i hi
        split at hb
        · rename_i hc
          injection hb with hb; subst hb
          simp only [Bool.and_eq_true] at hc
          unfold growOk
          rw [hi]
          simp only [Bool.and_eq_true]
          exact ⟨⟨hc.1, blt_iff.2 hlt⟩, hc.2⟩
        · cases hb
      · cases hb
  · cases h
theorem readC_of {s : HS} {b o n : Nat} {c : Array Value} {e : TypeId} {g : Bool} {l : List Value} (h : listC s b = some (c, e, g)) (k : segC c o n = some l) : readC s b o n = some (l, s.read b) := by
  unfold readC; rw [h]; simp only; rw [k]
theorem loadCO_of {st : Stop → Option α} (hst : ∀ x, st x = none) {t : TypeId} {b o : Nat} {s : HS} {q : Qs} {k : Value → HS → Qs → Option α} {r : α} (h : loadCO P st t b o s q k = some r) :
    ∃ v s' q', k v s' q' = some r ∧ q.log <:+ q'.log ∧ (allP q'.log → loadC P t b o s = some (v, s')) := by
  unfold loadCO at h
  split at h
  · rename_i c e g hl
    split at h
    · rename_i hagg
      obtain ⟨l, q', h1, h2, h3⟩ := askL_of hst h
      split at h1
      · rename_i v
        refine ⟨v, _, q', h1, h2, fun ha => ?_⟩
        unfold loadC
        rw [hagg]
        simp only [readC_of hl (h3 ha)]
      · cases h1
    · rename_i hagg
      split at h
      · rename_i i hi
        obtain ⟨l, q', h1, h2, h3⟩ := askL_of hst h
        refine ⟨_, _, q', h1, h2, fun ha => ?_⟩
        unfold loadC
        rw [hagg]
        simp only [hi, readC_of hl (h3 ha)]
      · cases h
    · cases h
  · cases h
theorem indexCO_of {t : TypeId} {b n : Nat} {z : Int} {q : Qs} {k : Value → Qs → Option α} {r : α} (h : indexCO P t b n z q k = some r) :
    ∃ v q', k v q' = some r ∧ q.log <:+ q'.log ∧ (allP q'.log → indexC P t b n z = some v) := by
  unfold indexCO at h
  split at h
  · rename_i e hu
    split at h
    · rename_i i hi
      obtain ⟨b1, q1, h1, h2, h3⟩ := ask_of h
      cases b1 with
      | false => cases h1
      | true =>
        obtain ⟨b2, q2, g1, g2, g3⟩ := ask_of h1
        cases b2 with
        | false => cases g1
        | true =>
          refine ⟨_, q2, g1, h2.trans g2, fun ha => ?_⟩
          unfold indexC
          simp only [hu, hi, h3 (allP_suffix g2 ha), g3 ha, Bool.and_self]
    · cases h
  · cases h
theorem storeCO_of {st : Stop → Option α} (hst : ∀ x, st x = none) {t : TypeId} {b o : Nat} {u : Value} {s : HS} {q : Qs} {k : Value → HS → Qs → Option α} {r : α} (h : storeCO P st t b o u s q k = some r) :
    ∃ v s' q', k v s' q' = some r ∧ q.log <:+ q'.log ∧ (allP q'.log → storeC P t b o u s = some (v, s')) := by
  unfold storeCO at h
  split at h
  · rename_i i hi
    split at h
    · rename_i hc
      split at h
      · rename_i c e hg
        obtain ⟨q1, h1, h2, h3⟩ := askF_of hst h
        obtain ⟨d, q2, g1, g2, g3⟩ := askA_of hst h1
        split at g1
        · rename_i s' hp
          refine ⟨_, _, q2, g1, h2.trans g2, fun ha => ?_⟩
          unfold storeC
          have e1 := h3 (allP_suffix g2 ha)
          have e2 := g3 ha
          subst e2
          simp only [hi, hc, hg, e1, hp]
        · cases g1
      · cases h
    · cases h
  · cases h
theorem srcCO_of {st : Stop → Option α} (hst : ∀ x, st x = none) {t : TypeId} {x : Value} {size : Nat} {s : HS} {q : Qs} {k : Nat → List Value → HS → Qs → Option α} {r : α} (h : srcCO P st t x size s q k = some r) :
    ∃ m l s' q', k m l s' q' = some r ∧ q.log <:+ q'.log ∧ (allP q'.log → srcC P t x size s = some (m, l, s')) := by
  unfold srcCO at h
  split at h
  · rename_i b m _
    split at h
    · rename_i e hu
      split at h
      · rename_i c e g hl
        obtain ⟨l, q', h1, h2, h3⟩ := askL_of hst h
        refine ⟨_, _, _, q', h1, h2, fun ha => ?_⟩
        unfold srcC
        simp only [hu, readC_of hl (h3 ha)]
      · cases h
    · cases h
  · split at h
    · rename_i hs
      exact ⟨_, _, _, q, h, List.suffix_refl _, fun _ => hs⟩
    · cases h
theorem appendCO_of {st : Stop → Option α} (hst : ∀ x, st x = none) {t t' : TypeId} {u x : Value} {s : HS} {q : Qs} {k : Value → HS → Qs → Option α} {r : α} (h : appendCO P st t t' u x s q k = some r) :
    ∃ v s' q', k v s' q' = some r ∧ q.log <:+ q'.log ∧ (allP q'.log → appendC P t t' u x s = some (v, s')) := by
  unfold appendCO at h
  split at h
  · rename_i e hu
    split at h
    · rename_i i hi
      obtain ⟨m, new, s1, q1, h1, h2, h3⟩ := srcCO_of hst h
      try dsimp only at h1
      split at h1
      · rename_i b n
        split at h1
        · rename_i c e' hg
          split at h1
          · rename_i he
            obtain ⟨q2, g1, g2, g3⟩ := growO_of h1
            obtain ⟨q3, f1, f2, f3⟩ := askF_of hst g1
            obtain ⟨d, q4, d1, d2, d3⟩ := askA_of hst f1
            split at d1
            · rename_i s2 hp
              split at d1
              · rename_i s3 hn
                refine ⟨_, _, q4, d1, ((h2.trans g2).trans f2).trans d2, fun ha => ?_⟩
                have e1 := d3 ha
                have e2 := f3 (allP_suffix d2 ha)
                have e3 := g3 (allP_suffix (f2.trans d2) ha)
                have e4 := h3 (allP_suffix ((g2.trans f2).trans d2) ha)
                unfold appendC
                subst e1
                simp only [hu, hi, e4, hg, e3, e2, he, Bool.and_self, hp, hn]
              · cases d1
            · cases d1
          · cases h1
        · cases h1
      · split at h1
        · rename_i hh
          obtain ⟨q2, g1, g2, g3⟩ := growO_of h1
          obtain ⟨d, q4, d1, d2, d3⟩ := askA_of hst g1
          split at d1
          · rename_i s3 hn
            refine ⟨_, _, q4, d1, (h2.trans g2).trans d2, fun ha => ?_⟩
            have e1 := d3 ha
            have e3 := g3 (allP_suffix d2 ha)
            have e4 := h3 (allP_suffix (g2.trans d2) ha)
            unfold appendC
            subst e1
            simp only [hu, hi, e4, e3, hh, Bool.and_self, hn]
          · cases d1
        · cases h1
      · cases h1
    · cases h
  · cases h
theorem sliceCO_of {st : Stop → Option α} (hst : ∀ x, st x = none) {t : TypeId} {b n : Nat} {lo hi : Option Value} {s : HS} {q : Qs} {k : Value → HS → Qs → Option α} {r : α} (h : sliceCO P st t b n lo hi s q k = some r) :
    ∃ v s' q', k v s' q' = some r ∧ q.log <:+ q'.log ∧ (allP q'.log → sliceC P t b n lo hi s = some (v, s')) := by
  unfold sliceCO at h
  split at h
  · rename_i e hu
    split at h
    · rename_i i hi0
      split at h
      · rename_i l hh hl hhi
        obtain ⟨b1, q1, a1, a2, a3⟩ := ask_of h
        cases b1 with
        | false => cases a1
        | true =>
          obtain ⟨b2, q2, c1, c2, c3⟩ := ask_of a1
          cases b2 with
          | false => cases c1
          | true =>
            obtain ⟨b3, q3, d1, d2, d3⟩ := ask_of c1
            cases b3 with
            | false => cases d1
            | true =>
              try dsimp only at d1
              split at d1
              · rename_i c e' gr hlc
                split at d1
                · rename_i hpos
                  obtain ⟨q4, f1, f2, f3⟩ := askF_of hst d1
                  split at f1
                  · rename_i s1 hs1
                    obtain ⟨d, q5, g1, g2, g3⟩ := askA_of hst f1
                    split at g1
                    · rename_i s2 hn
                      refine ⟨_, _, q5, g1, (((a2.trans c2).trans d2).trans f2).trans g2, fun ha => ?_⟩
                      have e1 := g3 ha
                      have e2 := f3 (allP_suffix g2 ha)
                      have e3 := d3 (allP_suffix (f2.trans g2) ha)
                      have e4 := c3 (allP_suffix ((d2.trans f2).trans g2) ha)
                      have e5 := a3 (allP_suffix (((c2.trans d2).trans f2).trans g2) ha)
                      unfold sliceC
                      subst e1
                      simp only [hu, hi0, hl, hhi, e3, e4, e5, Bool.and_self, hlc, e2, hpos]
                      cases gr with
                      | true => simp only at hs1 ⊢; simp only [hs1, hn]
                      | false => simp only at hs1 ⊢; injection hs1 with hs1; subst hs1; simp only [hn]
                    · cases g1
                  · cases f1
                · cases d1
              · cases d1
      · cases h
    · cases h
  · cases h
theorem rowO_of {callo : CallO α} (hst : ∀ x, callo.st x = none) {o : Oper} {s : St} {q : Qs} {k : Value → HS → TV → Qs → Option α} {r : α} (h : rowO P callo o s q k = some r) :
    o.op.operands.toList.all (okOperand callo.g) = true ∧ ∃ v hs q', k v hs s.tmps q' = some r ∧ q.log <:+ q'.log ∧ (allP q'.log → rowV P o s = some (v, hs)) := by
  unfold rowO at h
  split at h
  · cases h
  · rename_i ho
    refine ⟨ho, ?_⟩
    split at h
    · rename_i t x ix hop
      split at h
      · rename_i b n kk z hx hix
        obtain ⟨v, q', h1, h2, h3⟩ := indexCO_of h
        refine ⟨v, _, q', h1, h2, fun ha => ?_⟩
        unfold rowV; rw [hop]; simp only [hx, hix, h3 ha]
      · cases h
    · rename_i t x hop
      split at h
      · rename_i b p hx
        obtain ⟨v, s', q', h1, h2, h3⟩ := loadCO_of hst h
        refine ⟨v, s', q', h1, h2, fun ha => ?_⟩
        unfold rowV; rw [hop]; simp only [hx, h3 ha]
      · cases h
    · rename_i t x y hop
      split at h
      · rename_i b p hx
        obtain ⟨v, s', q', h1, h2, h3⟩ := storeCO_of hst h
        refine ⟨v, s', q', h1, h2, fun ha => ?_⟩
        unfold rowV; rw [hop]; simp only [hx, h3 ha]
      · cases h
    · rename_i t x lo hi hop
      split at h
      · rename_i b n hx
        obtain ⟨v, s', q', h1, h2, h3⟩ := sliceCO_of hst h
        refine ⟨v, s', q', h1, h2, fun ha => ?_⟩
        unfold rowV; rw [hop]; simp only [hx, h3 ha]
      · cases h
    · rename_i args argTypes hop
      split at h
      · rename_i t t' a b e1 e2 e3 e4
        split at h
        · rename_i hsz
          obtain ⟨v, s', q', h1, h2, h3⟩ := appendCO_of hst h
          refine ⟨v, s', q', h1, h2, fun ha => ?_⟩
          unfold rowV; rw [hop]; simp only [e1, e2, e3, e4, hsz, h3 ha]
        · cases h
      · cases h
    · cases h
/-- such operations aren't done the short way -/
theorem rowQ_fast {call : CallV} {o : Oper} {s : St} (h : rowQ o s = true) : fastV P call o s = none := by
  unfold rowQ at h
  unfold fastV
  split at h
  · rename_i hop; rw [hop]
  · rename_i t x hop
    rw [hop]
    simp only
    split
    · generalize evalV s.tmps x = v at h ⊢
      cases v <;> first | rfl | cases h
    · rfl
  · rename_i hop; rw [hop]
  · rename_i hop; rw [hop]
  · rename_i hop; rw [hop]
  · cases h
theorem operQ_of {callo : CallO α} {call : Nat → CallV} (hc : CallOk callo call) {o : Oper} {s : St} {q : Qs} {k : Value → HS → TV → Qs → Option α} {r : α} (h : operQ P callo o s q k = some r) :
    ∃ v hs tm q', k v hs tm q' = some r ∧ q.log <:+ q'.log ∧ (allP q'.log → (Evt fun n => operV P (call n) o s = some (v, hs)) ∧ tm = s.tmps) := by
  unfold operQ at h
  split at h
  · rename_i hq
    obtain ⟨ho, v, hs, q', h1, h2, h3⟩ := rowO_of hc.st h
    refine ⟨v, hs, _, q', h1, h2, fun ha => ⟨.all fun n => ?_, rfl⟩⟩
    unfold operV
    rw [show o.op.operands.toList.all (okOperand (call n).g) = true by rw [← hc.g n]; exact ho]
    simp only [rowQ_fast hq, h3 ha]
  · exact operO_of hc h
end
end Go.Proofs.Ytpaojoahbmlolaa
