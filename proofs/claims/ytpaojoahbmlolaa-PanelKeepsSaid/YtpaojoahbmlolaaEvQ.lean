/- Code, calls, and THE LAW: what the run says, the program does, in whatever memory and order. -/
import Derived.Test.YtpaojoahbmlolaaEvP
import Derived.LoopNIn
import Derived.Scope
import Derived.LoopN
namespace Go.Proofs.Ytpaojoahbmlolaa
open Go Go.RowKit
set_option linter.unusedSectionVars false
set_option linter.unusedVariables false
set_option linter.unusedSimpArgs false
set_option linter.unnecessarySimpa false
section
variable {P : Program} [NoCx P] {B : Bd}

theorem draw_sound {call : CallV} (hmix : P.follows .mixedOrders = true) (hc : CallSound P B call) {ops : Array Oper} {id : Nat} {s s' : St} (h : drawV P call ops s = some s') : VStep s.hs s'.hs ∧
    s'.defs = s.defs ∧ ∀ (σ : Ren) (ro : Option Nat) (H : Nat → Option VO) (a : Act) (w : World) (Q : Exit → Act → World → Prop), Match P B σ H w → Sim s.hs H → TR σ s.tmps a.tmps → Agree s.hs s'.hs H → Ok B w →
      (∀ σ' a' w', Ren.le σ σ' → Match P B σ' (upd H s'.hs) w' → TR σ' s'.tmps a'.tmps → a'.defers = a.defers → Below B.b w w' → Q .normal a' w') → (Code.region id ops true).wpIn (fz ro) 0 P Q a w := by
  unfold drawV at h
  split at h
  · rename_i anc hao
    split at h
    · rename_i s1 m hrm
      split at h
      rotate_left
      · cases h
      rename_i hmeet
      injection h with h
      obtain ⟨hanc, hstat⟩ : ancs ops ops.size 0 = some anc ∧ statOk ops anc = true := by
        unfold ancOf at hao
        split at hao
        · rename_i anc' h1
          split at hao
          · rename_i h2
            injection hao with hao; subst hao; exact ⟨h1, h2⟩
          · cases hao
        · cases hao
      obtain ⟨S, hS0, hSn, hch⟩ := chain_of ops.size s s1 m hrm
      have rdbits : ∀ (l : List (Nat × Nat)) (r i : Nat), (l.foldl (fun r x => Nat.lor r x.1) r).testBit i = true ↔ r.testBit i = true ∨ ∃ x ∈ l, x.1.testBit i = true := by
        intro l
        induction l with
        | nil => intro r i; simp
        | cons x l ih =>
          intro r i
          rw [List.foldl_cons, ih]
          have : (Nat.lor r x.1).testBit i = (r.testBit i || x.1.testBit i) := Nat.testBit_or r x.1 i
          rw [this]
          simp [or_assoc]
      have wrbits : ∀ (l : List (Nat × Nat)) (r i : Nat), (l.foldl (fun r x => Nat.lor r x.2) r).testBit i = true ↔ r.testBit i = true ∨ ∃ x ∈ l, x.2.testBit i = true := by
        intro l
        induction l with
        | nil => intro r i; simp
        | cons x l ih =>
          intro r i
          rw [List.foldl_cons, ih]
          have : (Nat.lor r x.2).testBit i = (r.testBit i || x.2.testBit i) := Nat.testBit_or r x.2 i
          rw [this]
          simp [or_assoc]
      have inM : ∀ k, k < ops.size → ((S (k + 1)).hs.rd, (S (k + 1)).hs.wr) ∈ m := fun k hk => List.mem_of_getElem? (hch.mark k hk)
      have ofM : ∀ x ∈ m, ∃ k, k < ops.size ∧ x = ((S (k + 1)).hs.rd, (S (k + 1)).hs.wr) := fun x hx => by
        obtain ⟨k, hk, e⟩ := List.mem_iff_getElem.1 hx
        refine ⟨k, by rw [← hch.len]; exact hk, ?_⟩
        have := hch.mark k (by rw [← hch.len]; exact hk)
        rw [List.getElem?_eq_getElem hk] at this
        injection this with this
        rw [← e, this]
      have hnext : s'.hs.next = (S ops.size).hs.next := by rw [← h, hSn]
      have hheap : s'.hs.heap = (S ops.size).hs.heap := by rw [← h, hSn]
      have htmps : s'.tmps = (S ops.size).tmps := by rw [← h, hSn]
      have hwr : ∀ i, s'.hs.wr.testBit i = true ↔ s.hs.wr.testBit i = true ∨ ∃ k, k < ops.size ∧ (S (k + 1)).hs.wr.testBit i = true := fun i => by
        rw [← h]
        simp only
        rw [wrbits]
        constructor
        · rintro (h | ⟨x, hx, h⟩)
          · exact .inl h
          · obtain ⟨k, hk, rfl⟩ := ofM x hx; exact .inr ⟨k, hk, h⟩
        · rintro (h | ⟨k, hk, h⟩)
          · exact .inl h
          · exact .inr ⟨_, inM k hk, h⟩
      have hrd : ∀ i, s'.hs.rd.testBit i = true ↔ s.hs.rd.testBit i = true ∨ ∃ k, k < ops.size ∧ (S (k + 1)).hs.rd.testBit i = true := fun i => by
        rw [← h]
        simp only
        rw [rdbits]
        constructor
        · rintro (h | ⟨x, hx, h⟩)
          · exact .inl h
          · obtain ⟨k, hk, rfl⟩ := ofM x hx; exact .inr ⟨k, hk, h⟩
        · rintro (h | ⟨k, hk, h⟩)
          · exact .inl h
          · exact .inr ⟨_, inM k hk, h⟩
      have hkeep : ∀ i, (∀ k, k < ops.size → (S (k + 1)).hs.wr.testBit i = false) → ∀ k, k ≤ ops.size → (S k).hs.heap.get i = (S 0).hs.heap.get i := by
        intro i hi k
        induction k with
        | zero => intro _; rfl
        | succ k ih =>
          intro hk
          obtain ⟨hv, _, _⟩ := step_facts hc hch (k := k) (by omega)
          exact (hv.keep i (hi k (by omega))).trans (ih (by omega))
      have hstep : VStep s.hs s'.hs := by
        refine ⟨?_, fun i e => (hrd i).2 (.inl e), fun i e => (hwr i).2 (.inl e), fun i e => ?_, fun i h1 h2 => ?_, fun hf i hi => ?_⟩
        · rw [hnext, ← hS0]; exact next_mono hc hch 0 _ (Nat.zero_le _) (Nat.le_refl _)
        · rw [hheap, ← hS0]
          refine hkeep i (fun k hk => ?_) _ (Nat.le_refl _)
          cases hb : (S (k + 1)).hs.wr.testBit i with
          | false => rfl
          | true => rw [(hwr i).2 (.inr ⟨k, hk, hb⟩)] at e; cases e
        · rw [hnext] at h2
          rw [← hS0] at h1
          have : ∃ k, k < ops.size ∧ (S k).hs.next ≤ i ∧ i < (S (k + 1)).hs.next := by
            have : ∀ n, n ≤ ops.size → i < (S n).hs.next → ∃ k, k < n ∧ (S k).hs.next ≤ i ∧ i < (S (k + 1)).hs.next := by
              intro n
              induction n with
              | zero => intro _ h; omega
              | succ n ih =>
                intro hn hlt
                by_cases hc : i < (S n).hs.next
                · obtain ⟨k, hk, h⟩ := ih (by omega) hc
                  exact ⟨k, by omega, h⟩
                · exact ⟨n, by omega, by omega, hlt⟩
            exact this _ (Nat.le_refl _) h2
          obtain ⟨k, hk, h3, h4⟩ := this
          obtain ⟨hv, _, _⟩ := step_facts hc hch (k := k) hk
          exact (hwr i).2 (.inr ⟨k, hk, hv.made i h3 h4⟩)
        · rw [hheap]
          rw [hnext] at hi
          exact (wf_chain hc hch (by rw [hS0]; exact hf) _ (Nat.le_refl _)).2 i hi
      refine ⟨hstep, by rw [← h], fun σ ro H a w Q hm hs ht ha hB hk => wpIn_region_any hmix ?_⟩
      have hord : ∀ j o, ops[j]? = some o → ∀ e ∈ o.after, Region.binds .any e = true → e.on < j := by
        intro j o ho e he hb
        obtain ⟨_, hs⟩ := ancs_spec ops.size anc hanc
        have hj : j < ops.size := (Array.getElem?_eq_some_iff.1 ho).1
        have key : ∀ (n : Nat) (l : List Nat), ancs ops n 0 = some l → ∀ j o, j < n → ops[j]? = some o → ∀ e ∈ o.after, Region.binds .any e = true → e.on < j := by
          intro n
          induction n with
          | zero => intro l _ j o hj; exact absurd hj (Nat.not_lt_zero j)
          | succ n ih =>
            intro l hl j o hj ho e he hb
            simp only [ancs] at hl
            cases hl1 : ancs ops n 0 with
            | none => rw [hl1] at hl; cases hl
            | some l1 =>
              by_cases hjn : j < n
              · exact ih l1 hl1 j o hjn ho e he hb
              · obtain rfl : j = n := by omega
                rw [hl1, ho] at hl
                simp only at hl
                split at hl
                · rename_i hall
                  have := List.all_eq_true.1 hall e (Array.mem_toList_iff.2 he)
                  rw [hb] at this
                  simp only [Bool.not_true, Bool.false_or] at this
                  exact blt_iff.1 this
                · cases hl
        exact key ops.size anc hanc j o hj ho e he hb
      have hrep : ∀ k, (Array.replicate ops.size false).getD k false = false := fun k => by
        by_cases hk : k < ops.size <;> simp [hk]
      have fH0 : ∀ k, foldH ops S H (Array.replicate ops.size false) k = H := by
        intro k
        induction k with
        | zero => rfl
        | succ k ih =>
          funext i
          unfold foldH
          rw [hrep k, ih]
          simp
      have fT0 : ∀ k t, foldT ops S (Array.replicate ops.size false) k t = (S 0).tmps.get t := by
        intro k
        induction k with
        | zero => intro t; rfl
        | succ k ih =>
          intro t
          unfold foldT
          rw [hrep k, ih t]
          simp
      refine draw_core hc hch hanc hstat hmeet hord (by rw [hS0]; exact hs.new) (fun k hk i hi => ?_) (fun i h1 h2 => ?_) (w0 := w) (D := a.defers) (σ0 := σ) (H0 := H) (Q := Q) (fun M σ1 a1 w1 hle inv hall => ?_) ro ops.size (Array.replicate ops.size false) σ a _ (Ren.le_refl _) ?_ ?_
      · rw [hS0]; exact ha.rd i ((hrd i).2 (.inr ⟨k, hk, hi⟩))
      · exact ha.new i (by rw [← hS0]; exact h1) (by rw [hnext]; exact h2)
      · refine hk σ1 a1 w1 hle ?_ ?_ inv.defers inv.below
        · have : foldH ops S H M ops.size = upd H s'.hs := by
            funext i
            have key : ∀ k, k ≤ ops.size → ((∃ j, j < k ∧ (S (j + 1)).hs.wr.testBit i = true) → foldH ops S H M k i = (S k).hs.heap.get i) ∧ ((∀ j, j < k → (S (j + 1)).hs.wr.testBit i = false) → foldH ops S H M k i = H i) := by
              intro k
              induction k with
              | zero => intro _; exact ⟨fun ⟨j, hj, _⟩ => absurd hj (Nat.not_lt_zero j), fun _ => rfl⟩
              | succ k ih =>
                intro hk
                obtain ⟨ih1, ih2⟩ := ih (by omega)
                obtain ⟨hv, _, _⟩ := step_facts hc hch (k := k) (by omega)
                unfold foldH
                rw [hall k (by omega)]
                by_cases hw : (S (k + 1)).hs.wr.testBit i = true
                · rw [if_pos ⟨rfl, hw⟩]
                  exact ⟨fun _ => rfl, fun hno => by rw [hno k (by omega)] at hw; cases hw⟩
                · rw [if_neg (fun h => hw h.2)]
                  refine ⟨fun ⟨j, hj, hjw⟩ => ?_, fun hno => ih2 fun j hj => hno j (by omega)⟩
                  rw [ih1 ⟨j, by
                    rcases Nat.lt_or_ge j k with h1 | h1
                    · exact h1
                    · obtain rfl : j = k := by omega
                      exact absurd hjw hw, hjw⟩]
                  exact (hv.keep i (by simpa using hw)).symm
            obtain ⟨k1, k2⟩ := key ops.size (Nat.le_refl _)
            by_cases hex : ∃ j, j < ops.size ∧ (S (j + 1)).hs.wr.testBit i = true
            · rw [k1 hex, upd_at ((hwr i).2 (.inr hex)), hheap]
            · have hno : ∀ j, j < ops.size → (S (j + 1)).hs.wr.testBit i = false := fun j hj => by
                cases hb : (S (j + 1)).hs.wr.testBit i with
                | false => rfl
                | true => exact absurd ⟨j, hj, hb⟩ hex
              rw [k2 hno]
              cases hw : s'.hs.wr.testBit i with
              | true =>
                rw [upd_at hw]
                rcases (hwr i).1 hw with h1 | h1
                · rw [hs.wr i h1, hheap, hkeep i hno _ (Nat.le_refl _), hS0]
                · exact absurd h1 hex
              | false => rw [upd_else hw]
          rw [← this]
          exact inv.mat
        · intro i
          have := inv.tm i
          rw [foldT_text hc hch (i := ops.size) (fun j hj _ => by rw [hall j hj]; simp [hj]) ops.size (Nat.le_refl _), Nat.min_self, ← htmps] at this
          exact this
      · refine ⟨by simp, (fun j o ho hj => by rw [hrep j] at hj; cases hj), ?_, fun t => ?_, ?_, rfl, (Below.refl B.b w).drew, hB.step ((Below.refl B.b w).drew)⟩
        · rw [fH0]; exact hm.grow rfl
        · rw [fT0, hS0]; exact ht t
        · intro t
          rw [hS0]
          rcases slot_of (ht t) with ⟨h1, h2⟩ | ⟨v, v', h1, h2, h3⟩
          · rw [h1, h2]
          · rw [h1, h2]; rfl
      · unfold cnt
        refine Nat.le_trans (List.countP_le_length) (by simp)
    · cases h
  · cases h

/-! results -/
/-- the world stays -/
def Pres (P : Program) {α : Type} (m : Sem α) : Prop := ∀ (w w' : World) (v : α), m.run P w = .ok v w' → w' = w
theorem pres_pure {α : Type} (a : α) : Pres P (pure a : Sem α) := fun w w' v h => by
  rw [Sem.run_pure] at h
  injection h with _ h; exact h.symm
theorem pres_bind {α β : Type} {m : Sem α} {f : α → Sem β} (h : Pres P m) (k : ∀ a, Pres P (f a)) : Pres P (m >>= f) := fun w w' v e => by
  rw [Sem.run_bind] at e
  cases hr : m.run P w with
  | ok a w1 =>
    rw [hr] at e
    have := h w w1 a hr
    subst this
    exact k a w1 w' v e
  | halt x w1 => rw [hr] at e; cases e
theorem pres_program : Pres P program := fun w w' v h => by
  simp only [program, Sem.run] at h
  injection h with _ h; exact h.symm
theorem pres_stuck {α : Type} {s : String} : Pres P (stuck s : Sem α) := fun w w' v h => by simp only [stuck, Sem.run] at h; cases h
theorem pres_goPanic {α : Type} {s : Value} : Pres P (goPanic s : Sem α) := fun w w' v h => by simp only [goPanic, Sem.run] at h; cases h
theorem pres_load {a : Addr} : Pres P (load a) := fun w w' v h => by
  unfold load at h
  simp only [Sem.run] at h
  split at h
  · injection h with _ h; exact h.symm
  · split at h
    · injection h with _ h; exact h.symm
    · cases h
theorem pres_underlying {t : TypeId} : Pres P (underlying t) := pres_bind pres_program fun p => by
  split
  · exact pres_pure _
  · exact pres_stuck
theorem pres_typeInfo {t : TypeId} : Pres P (typeInfo t) := pres_bind pres_program fun p => by
  split
  · exact pres_pure _
  · exact pres_stuck
theorem pres_isAgg {t : TypeId} : Pres P (isAgg t) := pres_bind pres_underlying fun d => by
  split <;> exact pres_pure _
theorem pres_cells : ∀ (n : Nat) (a : Addr) (i : Nat) (acc : Array Value), Pres P (loadCellsFrom a i n acc)
  | 0, a, i, acc => pres_pure _
  | n + 1, a, i, acc => pres_bind pres_load fun v => pres_cells n a (i + 1) _
theorem pres_loadVar {t : TypeId} {a : Addr} : Pres P (loadVar t a) := pres_bind pres_isAgg fun b => by
  split
  · exact pres_bind (pres_bind pres_typeInfo fun _ => pres_pure _) fun _ => pres_bind (pres_cells _ _ _ _) fun _ => pres_pure _
  · exact pres_load
theorem pres_asAddr {v : Value} : Pres P (asAddr v) := by
  unfold asAddr
  split
  · exact pres_pure _
  · exact pres_bind pres_program fun p => pres_goPanic
  · exact pres_stuck
theorem pres_mapM {α β : Type} (f : α → Sem β) (hf : ∀ x, Pres P (f x)) : ∀ (l : List α), Pres P (l.mapM f)
  | [] => by rw [List.mapM_nil]; exact pres_pure _
  | x :: l => by
    rw [List.mapM_cons]
    exact pres_bind (hf x) fun _ => pres_bind (pres_mapM f hf l) fun _ => pres_pure _
theorem pres_results (fn : Func) (t : Array Value) : Pres P (results fn t) := by
  unfold results
  rw [Array.mapM_eq_mapM_toList]
  refine pres_bind (pres_bind (pres_mapM _ (fun x => ?_) _) fun _ => pres_pure _) fun _ => pres_pure _
  split
  · exact pres_pure _
  · exact pres_bind pres_asAddr fun _ => pres_loadVar

theorem mapM_rel {σ : Ren} {α : Type} (f f' : α → Sem Value) : ∀ (l : List α) (hf : ∀ (s : Ren), Ren.le σ s → ∀ x, x ∈ l → SemRel P VR s (f x) (f' x)) (s : Ren), Ren.le σ s → SemRel P LR s (l.mapM f) (l.mapM f')
  | [], hf, s, hs => by rw [List.mapM_nil, List.mapM_nil]; exact .ret trivial
  | x :: l, hf, s, hs => by
    rw [List.mapM_cons, List.mapM_cons]
    refine (hf s hs x (by simp)).bnd fun t a b ht hab => ?_
    refine (mapM_rel f f' l (fun s hs y hy => hf s hs y (by simp [hy])) t (Ren.le_trans hs ht)).bnd fun u c d hu hcd => ?_
    exact .ret ⟨hab.mono hu, hcd⟩
theorem resultsV_some {fn : Func} {t : TV} {hs : HS} {r : Value × HS} (h : resultsV P fn t hs = some r) : fn.results.toList.all (resOk t) = true ∧ runV P (resultsT fn t) hs = some r := by
  unfold resultsV at h
  split at h
  · rename_i hj; exact ⟨hj, h⟩
  · cases h
theorem results_rel {σ : Ren} {fn : Func} {t : TV} {t' : Array Value} (h : TR σ t t') (hj : fn.results.toList.all (resOk t) = true) : SemRel P VR σ (resultsT fn t) (results fn t') := by
  unfold resultsT results
  rw [Array.mapM_eq_mapM_toList]
  have hm : SemRel P LR σ (fn.results.toList.mapM fun | .tmp k => pure (t.at k) | .cell a ty => do loadVar ty (← asAddr (t.at a))) (fn.results.toList.mapM fun | .tmp k => pure (t'.getD k undef) | .cell a ty => do loadVar ty (← asAddr (t'.getD a undef))) := by
    refine mapM_rel (σ := σ) _ _ _ (fun s hs x hx => ?_) σ (Ren.le_refl _)
    have ht := h.mono hs
    have hx := List.all_eq_true.1 hj x hx
    unfold resOk at hx
    split
    · exact .ret ((ht _).at (by simpa using hx))
    · exact (asAddr_rel ((ht _).at (by simpa using hx))).bnd fun _ a b _ hab => loadVar_rel hab
  have : ∀ {l : Sem (List Value)} {f : Array Value → Sem Value}, ((List.toArray <$> l) >>= f) = (l >>= fun x => f x.toArray) := fun {l f} => by
    show (l.bind fun a => Sem.pure a.toArray).bind f = l.bind fun x => f x.toArray
    have assoc : ∀ {α β γ : Type} (m : Sem α) (f : α → Sem β) (g : β → Sem γ), (m.bind f).bind g = m.bind fun x => (f x).bind g := by
      intro α β γ m f g
      induction m with
      | pure a => rfl
      | load m a k ih => exact congrArg _ (funext ih)
      | store m a v k ih => exact congrArg _ ih
      | new o k ih => exact congrArg _ (funext ih)
      | shape r k ih => exact congrArg _ (funext ih)
      | freeze a n k ih => exact congrArg _ ih
      | frozen a k ih => exact congrArg _ (funext ih)
      | getObj r k ih => exact congrArg _ (funext ih)
      | setObj r o k ih => exact congrArg _ ih
      | choose q k ih => exact congrArg _ (funext ih)
      | sys c k ih => exact congrArg _ (funext ih)
      | program k ih => exact congrArg _ (funext ih)
      | mark m k ih => exact congrArg _ ih
      | halt h => rfl
    exact assoc l _ f
  rw [this]
  refine hm.bnd fun s a b hs hab => ?_
  cases a with
  | nil => cases b with
    | nil => exact .ret (VRel.tuple rfl fun i v v' x => by simp at x)
    | cons => exact hab.elim
  | cons x a => cases b with
    | nil => exact hab.elim
    | cons y b =>
      cases a with
      | nil => cases b with
        | nil => exact .ret hab.1
        | cons => exact hab.2.elim
      | cons x2 a => cases b with
        | nil => exact hab.2.elim
        | cons y2 b =>
          have e : ¬ (y :: y2 :: b).toArray.size = 1 := by simp
          rw [dif_neg e]
          have := LR.array hab
          exact .ret (VRel.tuple this.1 this.2)

/-! code -/
end
end Go.Proofs.Ytpaojoahbmlolaa
