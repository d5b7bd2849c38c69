/- Calls and loops with lists: heads, states, contracts. -/
import Derived.Test.YtpaojoahbmlolaaEvZ6
namespace Go.Proofs.Ytpaojoahbmlolaa
open Go Go.RowKit
set_option linter.unusedSectionVars false
set_option linter.unusedVariables false
set_option linter.unusedSimpArgs false
noncomputable def headD (P : Program) (L : Vars) (T : GTab) (fuel : Nat) (f : FuncId) (ds : List D) (ans : List (Nat × Ans)) : Hd :=
  match startD L ds with
  | some (vs, hs) => match callO P (evO P L.length T (fun ro a s _ => s.fcv fun s => some (Hd.mk ro a s)) (fun _ => none) fuel) f vs.toArray hs ⟨0, ans, []⟩ fun _ _ _ => none with
    | some h => h
    | none => ⟨none, .skip, ⟨.nil, ⟨.nil, 0, 0, 0⟩, []⟩⟩
  | none => ⟨none, .skip, ⟨.nil, ⟨.nil, 0, 0, 0⟩, []⟩⟩
def sameB (n : Nat) : Nat → List (Nat × Nat)
  | 0 => []
  | k + 1 => sameB n k ++ [(Nat.add n k, Nat.add n k)]
/-- ahead of the first round -/
def entryR (P : Program) (l : List (Pl × TypeId)) (n m : Nat) (js : List Nat) (xr xw : Nat) (s : St) : St := match convs P l s with
  | some s1 => match canonS n m (sameB n l.length) js (Nat.add n l.length) xr xw s1 with
    | some s' => s'.fc fun s' => s'
    | none => s
  | none => s
def beginS (P : Program) (l : List (Pl × TypeId)) (n m : Nat) (ρ : List (Nat × Nat)) (js : List Nat) (nx xr xw : Nat) (s : St) : Option St := match convs P l s with
  | some s1 => canonS n m ρ js nx xr xw s1
  | none => none
def canonOkF (n m : Nat) (ρ : List (Nat × Nat)) (nx : Nat) (s : St) : Bool := force s.hs.rd fun rd => force s.hs.wr fun wr => force s.hs.next fun next => canonOk n m ρ nx ⟨.nil, ⟨.nil, next, rd, wr⟩, []⟩
theorem canonOkF_eq {n m : Nat} {ρ : List (Nat × Nat)} {nx : Nat} {s : St} : canonOkF n m ρ nx s = canonOk n m ρ nx s := by
  unfold canonOkF
  simp only [force_eq]
  rfl
def beginOk (P : Program) (l : List (Pl × TypeId)) (n m : Nat) (ρ : List (Nat × Nat)) (nx : Nat) (s : St) : Bool := match convs P l s with
  | some s1 => canonOkF n m ρ nx s1
  | none => false
theorem begin_open {P : Program} {l : List (Pl × TypeId)} {n m : Nat} {ρ : List (Nat × Nat)} {js : List Nat} {nx xr xw : Nat} {s S : St} (h : beginS P l n m ρ js nx xr xw s = some S) (h2 : beginOk P l n m ρ nx s = true) : ∃ s1, convs P l s = some s1 ∧ canonS n m ρ js nx xr xw s1 = some S ∧ canonOk n m ρ nx s1 = true := by
  unfold beginS at h
  unfold beginOk at h2
  split at h
  · rename_i s1 e
    rw [e] at h2
    exact ⟨s1, e, h, canonOkF_eq.symm.trans h2⟩
  · cases h
def Tr.rows : Tr → List (Nat × Array Value × TypeId) → Tr
  | t, [] => t
  | t, (b, c, e) :: l => match Tr.set 64 t b (.row c e) with
    | some t => Tr.rows t l
    | none => t
def St.rows (s : St) (l : List (Nat × Array Value × TypeId)) : St := ⟨s.tmps, ⟨s.hs.heap.rows l, s.hs.next, s.hs.rd, s.hs.wr⟩, s.defs⟩
theorem loop_known2 {P : Program} {G : Nat} {T : GTab} {ro : Option Nat} {a : Code} {s : St} {x : VX} {s' : St} (h : T.loop ro a s = some (x, s')) : LoopRes P G T ro a s x s' := by
  refine (Evt.all fun _ => trivial).succ (p := fun _ => True) fun n _ => ?_
  unfold evC
  simp only [hook_loop]
  rw [h]
theorem add_eq {T : GTab} {key : Nat} {ro : Option Nat} {a : Code} {s : St} {x : VX} {s' : St} {hk : loopKey a = key} : (T.add key ro a s x s' hk).loop ro a s = some (x, s') := by
  unfold GTab.add
  simp
theorem add_ne {T : GTab} {key : Nat} {ro ro2 : Option Nat} {a a2 : Code} {s s2 : St} {x x2 : VX} {s' s2' : St} {hk : loopKey a2 = key} (hn : Nat.beq (loopKey a) key = false) (h : T.loop ro a s = some (x, s')) : (T.add key ro2 a2 s2 x2 s2' hk).loop ro a s = some (x, s') := by
  unfold GTab.add
  simp only
  rw [if_neg (fun e => by rw [e.2.1, hk, Nat.beq_refl] at hn; cases hn)]
  exact h
theorem rowA_nil {α : Type} (g : α → List Value) : rowA g [] = #[] := by rw [rowA_eq]; rfl
theorem knownR_eq {P : Program} {L : Vars} {f : FuncId} {ds : List D} {v v' : Value} {bs bs' : Outs} (h : KnownR P L f ds v bs) (hv : v = v') (hb : bs = bs') : KnownR P L f ds v' bs' := by subst hv; subst hb; exact h
/-- a contract as a table's entry -/
noncomputable def fnP {π : Type} (A : π → List D) (C : π → Prop) (R : π → Value × Outs) (ds : List D) : Option (Value × Outs) := by
  classical exact if h : ∃ p, C p ∧ ds = A p then some (R (Classical.choose h)) else none
theorem fnP_at {π : Type} {A : π → List D} {C : π → Prop} {R : π → Value × Outs} (inj : ∀ p q, C p → C q → A p = A q → R p = R q) {p : π} {ds : List D} {v : Value} {bs : Outs} (hc : C p) (hd : ds = A p) (hr : R p = (v, bs)) : fnP A C R ds = some (v, bs) := by
  have h : ∃ p, C p ∧ ds = A p := ⟨p, hc, hd⟩
  unfold fnP
  rw [dif_pos h]
  have := Classical.choose_spec h
  rw [inj _ p this.1 hc (this.2.symm.trans hd), hr]
theorem fnP_ok {P : Program} {L : Vars} {f : FuncId} {π : Type} {A : π → List D} {C : π → Prop} {R : π → Value × Outs} (h : ∀ p, C p → KnownR P L f (A p) (R p).1 (R p).2) : ∀ ds v bs, fnP A C R ds = some (v, bs) → KnownR P L f ds v bs := by
  intro ds v bs e
  unfold fnP at e
  split at e
  · rename_i hx
    injection e with e
    have := Classical.choose_spec hx
    have k := h _ this.1
    rw [← this.2, e] at k
    exact k
  · cases e
theorem seg_all2 {α : Type} {g : α → List Value} {k : Nat} (hg : ∀ a, (g a).length = k) {l : List α} {m : Nat} (hm : m = l.length) : segC (rowA g l) 0 (m * k) = some (l.flatMap g) := by rw [hm]; exact seg_all hg rfl
theorem gI_inj {l m : List Int} : rowA gI l = rowA gI m ↔ l = m := ⟨row_inj (k := 1) (fun _ => rfl) (by decide) (fun a b h => by simpa [gI] using h), fun h => by rw [h]⟩
theorem gB_inj {l m : List Bool} : rowA gB l = rowA gB m ↔ l = m := ⟨row_inj (k := 1) (fun _ => rfl) (by decide) (fun a b h => by simpa [gB] using h), fun h => by rw [h]⟩
end Go.Proofs.Ytpaojoahbmlolaa
