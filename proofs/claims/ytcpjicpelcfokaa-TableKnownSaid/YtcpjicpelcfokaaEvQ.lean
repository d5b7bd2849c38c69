/- Code, calls, and THE LAW: what the run says, the program does, in whatever memory and order. -/
import Derived.Test.YtcpjicpelcfokaaEvP
import Derived.Scope
import Derived.LoopN
namespace Go.Proofs.Ytcpjicpelcfokaa
open Go Go.RowKit
set_option linter.unusedVariables false
set_option linter.unusedSimpArgs false
set_option linter.unnecessarySimpa false
section
variable {P : Program} {B : Nat}

theorem draw_sound {call : CallV} (hmix : P.follows .mixedOrders = true) (hc : CallSound P B call) {ops : Array Oper} {id : Nat} {s s' : St} (h : drawV P call ops s = some s') : VStep s.hs s'.hs ∧
    ∀ (σ : Ren) (H : Nat → Option VO) (a : Act) (w : World) (Q : Exit → Act → World → Prop), Match P B σ H w → Sim s.hs H → TR σ s.tmps a.tmps → Agree s.hs s'.hs H → B ≤ w.heap.size →
      (∀ σ' a' w', Ren.le σ σ' → Match P B σ' (upd H s'.hs) w' → TR σ' s'.tmps a'.tmps → a'.defers = a.defers → Below B w w' → Q .normal a' w') → (Code.region id ops true).wp P Q a w := by
  unfold drawV at h
  split at h
  · rename_i anc hao
    split at h
    · rename_i s1 m hrm
      split at h
      rotate_left
      · cases h
      rename_i hmeet
      injection h with h
      obtain ⟨hanc, hstat⟩ : ancs ops ops.size 0 = some anc ∧ statOk ops anc = true := by
        unfold ancOf at hao
        split at hao
        · rename_i anc' h1
          split at hao
          · rename_i h2
            injection hao with hao; subst hao; exact ⟨h1, h2⟩
          · cases hao
        · cases hao
      obtain ⟨S, hS0, hSn, hch⟩ := chain_of ops.size s s1 m hrm
      have rdbits : ∀ (l : List (Nat × Nat)) (r i : Nat), (l.foldl (fun r x => Nat.lor r x.1) r).testBit i = true ↔ r.testBit i = true ∨ ∃ x ∈ l, x.1.testBit i = true := by
        intro l
        induction l with
        | nil => intro r i; simp
        | cons x l ih =>
          intro r i
          rw [List.foldl_cons, ih]
          have : (Nat.lor r x.1).testBit i = (r.testBit i || x.1.testBit i) := Nat.testBit_or r x.1 i
          rw [this]
          simp [or_assoc]
      have wrbits : ∀ (l : List (Nat × Nat)) (r i : Nat), (l.foldl (fun r x => Nat.lor r x.2) r).testBit i = true ↔ r.testBit i = true ∨ ∃ x ∈ l, x.2.testBit i = true := by
        intro l
        induction l with
        | nil => intro r i; simp
        | cons x l ih =>
          intro r i
          rw [List.foldl_cons, ih]
          have : (Nat.lor r x.2).testBit i = (r.testBit i || x.2.testBit i) := Nat.testBit_or r x.2 i
          rw [this]
          simp [or_assoc]
      have inM : ∀ k, k < ops.size → ((S (k + 1)).hs.rd, (S (k + 1)).hs.wr) ∈ m := fun k hk => List.mem_of_getElem? (hch.mark k hk)
      have ofM : ∀ x ∈ m, ∃ k, k < ops.size ∧ x = ((S (k + 1)).hs.rd, (S (k + 1)).hs.wr) := fun x hx => by
        obtain ⟨k, hk, e⟩ := List.mem_iff_getElem.1 hx
        refine ⟨k, by rw [← hch.len]; exact hk, ?_⟩
        have := hch.mark k (by rw [← hch.len]; exact hk)
        rw [List.getElem?_eq_getElem hk] at this
        injection this with this
        rw [← e, this]
      have hnext : s'.hs.next = (S ops.size).hs.next := by rw [← h, hSn]
      have hheap : s'.hs.heap = (S ops.size).hs.heap := by rw [← h, hSn]
      have htmps : s'.tmps = (S ops.size).tmps := by rw [← h, hSn]
      have hwr : ∀ i, s'.hs.wr.testBit i = true ↔ s.hs.wr.testBit i = true ∨ ∃ k, k < ops.size ∧ (S (k + 1)).hs.wr.testBit i = true := fun i => by
        rw [← h]
        simp only
        rw [wrbits]
        constructor
        · rintro (h | ⟨x, hx, h⟩)
          · exact .inl h
          · obtain ⟨k, hk, rfl⟩ := ofM x hx; exact .inr ⟨k, hk, h⟩
        · rintro (h | ⟨k, hk, h⟩)
          · exact .inl h
          · exact .inr ⟨_, inM k hk, h⟩
      have hrd : ∀ i, s'.hs.rd.testBit i = true ↔ s.hs.rd.testBit i = true ∨ ∃ k, k < ops.size ∧ (S (k + 1)).hs.rd.testBit i = true := fun i => by
        rw [← h]
        simp only
        rw [rdbits]
        constructor
        · rintro (h | ⟨x, hx, h⟩)
          · exact .inl h
          · obtain ⟨k, hk, rfl⟩ := ofM x hx; exact .inr ⟨k, hk, h⟩
        · rintro (h | ⟨k, hk, h⟩)
          · exact .inl h
          · exact .inr ⟨_, inM k hk, h⟩
      have hkeep : ∀ i, (∀ k, k < ops.size → (S (k + 1)).hs.wr.testBit i = false) → ∀ k, k ≤ ops.size → (S k).hs.heap.get i = (S 0).hs.heap.get i := by
        intro i hi k
        induction k with
        | zero => intro _; rfl
        | succ k ih =>
          intro hk
          obtain ⟨hv, _, _⟩ := step_facts hc hch (k := k) (by omega)
          exact (hv.keep i (hi k (by omega))).trans (ih (by omega))
      have hstep : VStep s.hs s'.hs := by
        refine ⟨?_, fun i e => (hrd i).2 (.inl e), fun i e => (hwr i).2 (.inl e), fun i e => ?_, fun i h1 h2 => ?_, fun hf i hi => ?_⟩
        · rw [hnext, ← hS0]; exact next_mono hc hch 0 _ (Nat.zero_le _) (Nat.le_refl _)
        · rw [hheap, ← hS0]
          refine hkeep i (fun k hk => ?_) _ (Nat.le_refl _)
          cases hb : (S (k + 1)).hs.wr.testBit i with
          | false => rfl
          | true => rw [(hwr i).2 (.inr ⟨k, hk, hb⟩)] at e; cases e
        · rw [hnext] at h2
          rw [← hS0] at h1
          have : ∃ k, k < ops.size ∧ (S k).hs.next ≤ i ∧ i < (S (k + 1)).hs.next := by
            have : ∀ n, n ≤ ops.size → i < (S n).hs.next → ∃ k, k < n ∧ (S k).hs.next ≤ i ∧ i < (S (k + 1)).hs.next := by
              intro n
              induction n with
              | zero => intro _ h; omega
              | succ n ih =>
                intro hn hlt
                by_cases hc : i < (S n).hs.next
                · obtain ⟨k, hk, h⟩ := ih (by omega) hc
                  exact ⟨k, by omega, h⟩
                · exact ⟨n, by omega, by omega, hlt⟩
            exact this _ (Nat.le_refl _) h2
          obtain ⟨k, hk, h3, h4⟩ := this
          obtain ⟨hv, _, _⟩ := step_facts hc hch (k := k) hk
          exact (hwr i).2 (.inr ⟨k, hk, hv.made i h3 h4⟩)
        · rw [hheap]
          rw [hnext] at hi
          exact (wf_chain hc hch (by rw [hS0]; exact hf) _ (Nat.le_refl _)).2 i hi
      refine ⟨hstep, fun σ H a w Q hm hs ht ha hB hk => wp_region_any hmix ?_⟩
      have hord : ∀ j o, ops[j]? = some o → ∀ e ∈ o.after, Region.binds .any e = true → e.on < j := by
        intro j o ho e he hb
        obtain ⟨_, hs⟩ := ancs_spec ops.size anc hanc
        have hj : j < ops.size := (Array.getElem?_eq_some_iff.1 ho).1
        have key : ∀ (n : Nat) (l : List Nat), ancs ops n 0 = some l → ∀ j o, j < n → ops[j]? = some o → ∀ e ∈ o.after, Region.binds .any e = true → e.on < j := by
          intro n
          induction n with
          | zero => intro l _ j o hj; exact absurd hj (Nat.not_lt_zero j)
          | succ n ih =>
            intro l hl j o hj ho e he hb
            simp only [ancs] at hl
            cases hl1 : ancs ops n 0 with
            | none => rw [hl1] at hl; cases hl
            | some l1 =>
              by_cases hjn : j < n
              · exact ih l1 hl1 j o hjn ho e he hb
              · obtain rfl : j = n := by omega
                rw [hl1, ho] at hl
                simp only at hl
                split at hl
                · rename_i hall
                  have := List.all_eq_true.1 hall e (Array.mem_toList_iff.2 he)
                  rw [hb] at this
                  simp only [Bool.not_true, Bool.false_or] at this
                  exact blt_iff.1 this
                · cases hl
        exact key ops.size anc hanc j o hj ho e he hb
      have hrep : ∀ k, (Array.replicate ops.size false).getD k false = false := fun k => by
        by_cases hk : k < ops.size <;> simp [hk]
      have fH0 : ∀ k, foldH ops S H (Array.replicate ops.size false) k = H := by
        intro k
        induction k with
        | zero => rfl
        | succ k ih =>
          funext i
          unfold foldH
          rw [hrep k, ih]
          simp
      have fT0 : ∀ k t, foldT ops S (Array.replicate ops.size false) k t = (S 0).tmps.get t := by
        intro k
        induction k with
        | zero => intro t; rfl
        | succ k ih =>
          intro t
          unfold foldT
          rw [hrep k, ih t]
          simp
      refine draw_core hc hch hanc hstat hmeet hord (by rw [hS0]; exact hs.new) (fun k hk i hi => ?_) (fun i h1 h2 => ?_) (w0 := w) (D := a.defers) (σ0 := σ) (H0 := H) (Q := Q) (fun M σ1 a1 w1 hle inv hall => ?_) ops.size (Array.replicate ops.size false) σ a _ (Ren.le_refl _) ?_ ?_
      · rw [hS0]; exact ha.rd i ((hrd i).2 (.inr ⟨k, hk, hi⟩))
      · exact ha.new i (by rw [← hS0]; exact h1) (by rw [hnext]; exact h2)
      · refine hk σ1 a1 w1 hle ?_ ?_ inv.defers inv.below
        · have : foldH ops S H M ops.size = upd H s'.hs := by
            funext i
            have key : ∀ k, k ≤ ops.size → ((∃ j, j < k ∧ (S (j + 1)).hs.wr.testBit i = true) → foldH ops S H M k i = (S k).hs.heap.get i) ∧ ((∀ j, j < k → (S (j + 1)).hs.wr.testBit i = false) → foldH ops S H M k i = H i) := by
              intro k
              induction k with
              | zero => intro _; exact ⟨fun ⟨j, hj, _⟩ => absurd hj (Nat.not_lt_zero j), fun _ => rfl⟩
              | succ k ih =>
                intro hk
                obtain ⟨ih1, ih2⟩ := ih (by omega)
                obtain ⟨hv, _, _⟩ := step_facts hc hch (k := k) (by omega)
                unfold foldH
                rw [hall k (by omega)]
                by_cases hw : (S (k + 1)).hs.wr.testBit i = true
                · rw [if_pos ⟨rfl, hw⟩]
                  exact ⟨fun _ => rfl, fun hno => by rw [hno k (by omega)] at hw; cases hw⟩
                · rw [if_neg (fun h => hw h.2)]
                  refine ⟨fun ⟨j, hj, hjw⟩ => ?_, fun hno => ih2 fun j hj => hno j (by omega)⟩
                  rw [ih1 ⟨j, by
                    rcases Nat.lt_or_ge j k with h1 | h1
                    · exact h1
                    · obtain rfl : j = k := by omega
                      exact absurd hjw hw, hjw⟩]
                  exact (hv.keep i (by simpa using hw)).symm
            obtain ⟨k1, k2⟩ := key ops.size (Nat.le_refl _)
            by_cases hex : ∃ j, j < ops.size ∧ (S (j + 1)).hs.wr.testBit i = true
            · rw [k1 hex, upd_at ((hwr i).2 (.inr hex)), hheap]
            · have hno : ∀ j, j < ops.size → (S (j + 1)).hs.wr.testBit i = false := fun j hj => by
                cases hb : (S (j + 1)).hs.wr.testBit i with
                | false => rfl
                | true => exact absurd ⟨j, hj, hb⟩ hex
              rw [k2 hno]
              cases hw : s'.hs.wr.testBit i with
              | true =>
                rw [upd_at hw]
                rcases (hwr i).1 hw with h1 | h1
                · rw [hs.wr i h1, hheap, hkeep i hno _ (Nat.le_refl _), hS0]
                · exact absurd h1 hex
              | false => rw [upd_else hw]
          rw [← this]
          exact inv.mat
        · intro i
          have := inv.tm i
          rw [foldT_text hc hch (i := ops.size) (fun j hj _ => by rw [hall j hj]; simp [hj]) ops.size (Nat.le_refl _), Nat.min_self, ← htmps] at this
          exact this
      · refine ⟨by simp, (fun j o ho hj => by rw [hrep j] at hj; cases hj), ?_, fun t => ?_, ?_, rfl, (Below.refl B w).drew, hB⟩
        · rw [fH0]; exact hm.grow rfl
        · rw [fT0, hS0]; exact ht t
        · intro t
          rw [hS0]
          rcases slot_of (ht t) with ⟨h1, h2⟩ | ⟨v, v', h1, h2, h3⟩
          · rw [h1, h2]
          · rw [h1, h2]; rfl
      · unfold cnt
        refine Nat.le_trans (List.countP_le_length) (by simp)
    · cases h
  · cases h

/-! results -/
/-- the world stays -/
def Pres (P : Program) {α : Type} (m : Sem α) : Prop := ∀ (w w' : World) (v : α), m.run P w = .ok v w' → w' = w
theorem pres_pure {α : Type} (a : α) : Pres P (pure a : Sem α) := fun w w' v h => by
  rw [Sem.run_pure] at h
  injection h with _ h; exact h.symm
theorem pres_bind {α β : Type} {m : Sem α} {f : α → Sem β} (h : Pres P m) (k : ∀ a, Pres P (f a)) : Pres P (m >>= f) := fun w w' v e => by
  rw [Sem.run_bind] at e
  cases hr : m.run P w with
  | ok a w1 =>
    rw [hr] at e
    have := h w w1 a hr
    subst this
    exact k a w1 w' v e
  | halt x w1 => rw [hr] at e; cases e
theorem pres_program : Pres P program := fun w w' v h => by
  simp only [program, Sem.run] at h
  injection h with _ h; exact h.symm
theorem pres_stuck {α : Type} {s : String} : Pres P (stuck s : Sem α) := fun w w' v h => by simp only [stuck, Sem.run] at h; cases h
theorem pres_goPanic {α : Type} {s : Value} : Pres P (goPanic s : Sem α) := fun w w' v h => by simp only [goPanic, Sem.run] at h; cases h
theorem pres_load {a : Addr} : Pres P (load a) := fun w w' v h => by
  unfold load at h
  simp only [Sem.run] at h
  split at h
  · injection h with _ h; exact h.symm
  · split at h
    · injection h with _ h; exact h.symm
    · cases h
theorem pres_underlying {t : TypeId} : Pres P (underlying t) := pres_bind pres_program fun p => by
  split
  · exact pres_pure _
  · exact pres_stuck
theorem pres_typeInfo {t : TypeId} : Pres P (typeInfo t) := pres_bind pres_program fun p => by
  split
  · exact pres_pure _
  · exact pres_stuck
theorem pres_isAgg {t : TypeId} : Pres P (isAgg t) := pres_bind pres_underlying fun d => by
  split <;> exact pres_pure _
theorem pres_cells : ∀ (n : Nat) (a : Addr) (i : Nat) (acc : Array Value), Pres P (loadCellsFrom a i n acc)
  | 0, a, i, acc => pres_pure _
  | n + 1, a, i, acc => pres_bind pres_load fun v => pres_cells n a (i + 1) _
theorem pres_loadVar {t : TypeId} {a : Addr} : Pres P (loadVar t a) := pres_bind pres_isAgg fun b => by
  split
  · exact pres_bind (pres_bind pres_typeInfo fun _ => pres_pure _) fun _ => pres_bind (pres_cells _ _ _ _) fun _ => pres_pure _
  · exact pres_load
theorem pres_asAddr {v : Value} : Pres P (asAddr v) := by
  unfold asAddr
  split
  · exact pres_pure _
  · exact pres_bind pres_program fun p => pres_goPanic
  · exact pres_stuck
theorem pres_mapM {α β : Type} (f : α → Sem β) (hf : ∀ x, Pres P (f x)) : ∀ (l : List α), Pres P (l.mapM f)
  | [] => by rw [List.mapM_nil]; exact pres_pure _
  | x :: l => by
    rw [List.mapM_cons]
    exact pres_bind (hf x) fun _ => pres_bind (pres_mapM f hf l) fun _ => pres_pure _
theorem pres_results (fn : Func) (t : Array Value) : Pres P (results fn t) := by
  unfold results
  rw [Array.mapM_eq_mapM_toList]
  refine pres_bind (pres_bind (pres_mapM _ (fun x => ?_) _) fun _ => pres_pure _) fun _ => pres_pure _
  split
  · exact pres_pure _
  · exact pres_bind pres_asAddr fun _ => pres_loadVar

theorem mapM_rel {σ : Ren} {α : Type} (f f' : α → Sem Value) (hf : ∀ (s : Ren), Ren.le σ s → ∀ x, SemRel P VR s (f x) (f' x)) : ∀ (l : List α) (s : Ren), Ren.le σ s → SemRel P LR s (l.mapM f) (l.mapM f')
  | [], s, hs => by rw [List.mapM_nil, List.mapM_nil]; exact .ret trivial
  | x :: l, s, hs => by
    rw [List.mapM_cons, List.mapM_cons]
    refine (hf s hs x).bnd fun t a b ht hab => ?_
    refine (mapM_rel f f' hf l t (Ren.le_trans hs ht)).bnd fun u c d hu hcd => ?_
    exact .ret ⟨hab.mono hu, hcd⟩
theorem results_rel {σ : Ren} {fn : Func} {t : TV} {t' : Array Value} (h : TR σ t t') : SemRel P VR σ (resultsT fn t) (results fn t') := by
  unfold resultsT results
  rw [Array.mapM_eq_mapM_toList]
  have hm : SemRel P LR σ (fn.results.toList.mapM fun | .tmp k => pure (t.at k) | .cell a ty => do loadVar ty (← asAddr (t.at a))) (fn.results.toList.mapM fun | .tmp k => pure (t'.getD k undef) | .cell a ty => do loadVar ty (← asAddr (t'.getD a undef))) := by
    refine mapM_rel (σ := σ) _ _ (fun s hs x => ?_) _ σ (Ren.le_refl _)
    have ht := h.mono hs
    split
    · exact .ret (ht _).at
    · exact (asAddr_rel (ht _).at).bnd fun _ a b _ hab => loadVar_rel hab
  have : ∀ {l : Sem (List Value)} {f : Array Value → Sem Value}, ((List.toArray <$> l) >>= f) = (l >>= fun x => f x.toArray) := fun {l f} => by
    show (l.bind fun a => Sem.pure a.toArray).bind f = l.bind fun x => f x.toArray
    have assoc : ∀ {α β γ : Type} (m : Sem α) (f : α → Sem β) (g : β → Sem γ), (m.bind f).bind g = m.bind fun x => (f x).bind g := by
      intro α β γ m f g
      induction m with
      | pure a => rfl
      | load m a k ih => exact congrArg _ (funext ih)
      | store m a v k ih => exact congrArg _ ih
      | new o k ih => exact congrArg _ (funext ih)
      | shape r k ih => exact congrArg _ (funext ih)
      | freeze a n k ih => exact congrArg _ ih
      | frozen a k ih => exact congrArg _ (funext ih)
      | getObj r k ih => exact congrArg _ (funext ih)
      | setObj r o k ih => exact congrArg _ ih
      | choose q k ih => exact congrArg _ (funext ih)
      | sys c k ih => exact congrArg _ (funext ih)
      | program k ih => exact congrArg _ (funext ih)
      | mark m k ih => exact congrArg _ ih
      | halt h => rfl
    exact assoc l _ f
  rw [this]
  refine hm.bnd fun s a b hs hab => ?_
  cases a with
  | nil => cases b with
    | nil => exact .ret (VRel.tuple rfl fun i v v' x => by simp at x)
    | cons => exact hab.elim
  | cons x a => cases b with
    | nil => exact hab.elim
    | cons y b =>
      cases a with
      | nil => cases b with
        | nil => exact .ret hab.1
        | cons => exact hab.2.elim
      | cons x2 a => cases b with
        | nil => exact hab.2.elim
        | cons y2 b =>
          have e : ¬ (y :: y2 :: b).toArray.size = 1 := by simp
          rw [dif_neg e]
          have := LR.array hab
          exact .ret (VRel.tuple this.1 this.2)

/-! code -/
def VX.out : VX → Exit
  | .normal => .normal
  | .exit id => .exit id
  | .ret => .ret

def CodeSound (P : Program) (B : Nat) (ev : Code → St → Option (VX × St)) : Prop :=
  ∀ (c : Code) (s s' : St) (x : VX), ev c s = some (x, s') → VStep s.hs s'.hs ∧
    ∀ (σ : Ren) (H : Nat → Option VO) (a : Act) (w : World) (Q : Exit → Act → World → Prop), Match P B σ H w → Sim s.hs H → TR σ s.tmps a.tmps → Agree s.hs s'.hs H → B ≤ w.heap.size →
      (∀ σ' a' w', Ren.le σ σ' → Match P B σ' (upd H s'.hs) w' → TR σ' s'.tmps a'.tmps → a'.defers = a.defers → Below B w w' → Q x.out a' w') → c.wp P Q a w

theorem call_sound {ev : Code → St → Option (VX × St)} (h : CodeSound P B ev) : CallSound P B (callWith P ev) := by
  intro f args s s' v0 hr
  unfold callWith at hr
  split at hr
  · rename_i fn hf
    split at hr
    · rename_i c hb
      split at hr
      rotate_left
      · cases hr
      rename_i hsz
      have hsz := blt_iff.1 hsz
      have both : ∀ (x : VX) (s1 : St), ev c ⟨startT args fn.ntmps, s⟩ = some (x, s1) → (x = .normal ∨ x = .ret) → runV P (resultsT fn s1.tmps) s1.hs = some (v0, s') →
          VStep s s' ∧ ∀ (σ : Ren) (args' : Array Value) (H : Nat → Option VO) (w : World), AR σ args args' → Match P B σ H w → Sim s H → Agree s s' H → B ≤ w.heap.size →
            Calls P f args' w fun e w' => ∃ σ' v', e = .returned v' ∧ Ren.le σ σ' ∧ VRel σ' v0 v' ∧ Match P B σ' (upd H s') w' ∧ Below B w w' := by
        intro x s1 he hx hres
        obtain ⟨h1, h2⟩ := h _ _ _ _ he
        have hst := runV_step _ _ _ _ hres
        refine ⟨h1.trans hst, fun σ args' H w hargs hm hs ha hB => calls_of_wp hf hb ?_⟩
        have hrep : TR σ (startT args fn.ntmps) (args' ++ Array.replicate (fn.ntmps - args'.size) undef) := by
          intro k
          unfold startT
          have hmk : ∀ j, (TV.mk 30 (Nat.max args.size fn.ntmps) undef).get j = if j < Nat.max args.size fn.ntmps then some undef else none := fun j => TV.get_mk 30 _ undef j (by omega)
          have hle1 : args.size ≤ Nat.max args.size fn.ntmps := Nat.le_max_left _ _
          have hle2 : fn.ntmps ≤ Nat.max args.size fn.ntmps := Nat.le_max_right _ _
          have hmx : Nat.max args.size fn.ntmps = args.size ∨ Nat.max args.size fn.ntmps = fn.ntmps := by
            show max args.size fn.ntmps = _ ∨ max args.size fn.ntmps = _
            omega
          rw [TV.get_puts _ _ _ _ (fun i hi => by rw [hmk, if_pos (by simp at hi; omega)]; simp), hmk, if_neg (Nat.not_lt_zero k)]
          simp only [Nat.zero_add, Array.length_toList, Nat.sub_zero, Array.getElem?_toList]
          rw [Array.getElem?_append, ← hargs.1]
          by_cases e : k < args.size
          · rw [if_pos e, if_pos e]
            have e1 : args[k]? = some args[k] := by simp [e]
            obtain ⟨v', e2, e3⟩ := hargs.get e1
            rw [e1, e2]; exact e3
          · rw [if_neg e, if_neg e, Array.getElem?_replicate]
            by_cases e2 : k < Nat.max args.size fn.ntmps
            · rw [if_pos e2, if_pos (by omega)]; exact undef_rel
            · rw [if_neg e2, if_neg (by omega)]; trivial
        refine h2 σ H _ w _ hm hs hrep (ha.first hst) hB fun σ1 a1 w1 g1 g2 g3 g4 g5 => ?_
        have hB1 := Nat.le_trans hB g5.size
        obtain ⟨σ2, v', w2, k1, k2, k3, k4, k5⟩ := run_sound (results_rel g3) s1.hs s' v0 hres _ w1 g2 (hs.step h1) (ha.last hs h1 hst) hB1
        have := pres_results fn a1.tmps w1 w2 v' k1
        subst this
        rw [upd_upd hst] at k4
        have fin : a1.defers = [] ∧ ∃ v, (results fn a1.tmps).run P w2 = .ok v w2 ∧ (∃ σ' v'_1, Ending.returned v = .returned v'_1 ∧ Ren.le σ σ' ∧ VRel σ' v0 v'_1 ∧ Match P B σ' (upd H s') w2 ∧ Below B w w2) := ⟨g4, v', k1, σ2, v', rfl, Ren.le_trans g1 k2, k3, k4, g5⟩
        rcases hx with rfl | rfl
        · exact fin
        · exact fin
      split at hr
      · rename_i s1 he; exact both _ s1 he (.inl rfl) hr
      · rename_i s1 he; exact both _ s1 he (.inr rfl) hr
      · cases hr
    · cases hr
  · cases hr

/-- a loop: so many rounds -/
def LoopSound (P : Program) (B : Nat) (ev : Code → St → Option (VX × St)) : Prop :=
  ∀ (c : Code) (s s' : St) (x : VX), ev (.loop c) s = some (x, s') → ∃ n, ∀ (σ : Ren) (H : Nat → Option VO) (a : Act) (w : World) (Q : Exit → Act → World → Prop), Match P B σ H w → Sim s.hs H → TR σ s.tmps a.tmps → Agree s.hs s'.hs H → B ≤ w.heap.size →
      (∀ σ' a' w', Ren.le σ σ' → Match P B σ' (upd H s'.hs) w' → TR σ' s'.tmps a'.tmps → a'.defers = a.defers → Below B w w' → Q x.out a' w') → Code.rounds P c Q n a w

theorem loop_sound {W : Nat → CallV → CallV} {f : Nat} (ih : CodeSound P B (evC P W f)) (il : LoopSound P B (evC P W f)) : LoopSound P B (evC P W (f + 1)) := by
  intro c1 s s' x h
  unfold evC at h
  simp only at h
  cases he : evC P W f c1 s with
  | none => rw [he] at h; cases h
  | some p =>
    obtain ⟨x1, s1⟩ := p
    rw [he] at h
    obtain ⟨q1, q2⟩ := ih _ _ _ _ he
    cases x1 with
    | normal =>
      obtain ⟨g1, _⟩ := ih _ _ _ _ h
      obtain ⟨n, g2⟩ := il _ _ _ _ h
      refine ⟨n + 1, fun σ H a w Q hm hs ht ha hB hk => ?_⟩
      rw [rounds_succ]
      refine q2 σ H a w _ hm hs ht (ha.first g1) hB fun σ' a' w' k1 k2 k3 k4 k5 => ?_
      refine g2 σ' _ a' w' Q k2 (hs.step q1) k3 (ha.last hs q1 g1) (Nat.le_trans hB k5.size) fun σ2 a2 w2 j1 j2 j3 j4 j5 => ?_
      rw [upd_upd g1] at j2
      exact hk σ2 a2 w2 (Ren.le_trans k1 j1) j2 j3 (j4.trans k4) (k5.trans j5)
    | exit id =>
      injection h with h; injection h with e1 e2; subst e1; subst e2
      refine ⟨1, fun σ H a w Q hm hs ht ha hB hk => ?_⟩
      rw [rounds_succ]
      exact q2 σ H a w _ hm hs ht ha hB hk
    | ret =>
      injection h with h; injection h with e1 e2; subst e1; subst e2
      refine ⟨1, fun σ H a w Q hm hs ht ha hB hk => ?_⟩
      rw [rounds_succ]
      exact q2 σ H a w _ hm hs ht ha hB hk

theorem ev_both (hmix : P.follows .mixedOrders = true) {W : Nat → CallV → CallV} (hW : ∀ f call, CallSound P B call → CallSound P B (W f call)) : ∀ f, CodeSound P B (evC P W f) ∧ LoopSound P B (evC P W f)
  | 0 => ⟨(fun c s s' x h => by simp [evC] at h), (fun c s s' x h => by simp [evC] at h)⟩
  | f + 1 => by
    obtain ⟨ih, il⟩ := ev_both hmix hW f
    refine ⟨?_, loop_sound ih il⟩
    have hc := hW f _ (call_sound ih)
    intro c s s' x h
    have stay : ∀ {x0 : VX}, some (x0, s) = some (x, s') → (∀ {Q : Exit → Act → World → Prop} {a : Act} {w : World}, Q x0.out a w → c.wp P Q a w) → VStep s.hs s'.hs ∧
        ∀ (σ : Ren) (H : Nat → Option VO) (a : Act) (w : World) (Q : Exit → Act → World → Prop), Match P B σ H w → Sim s.hs H → TR σ s.tmps a.tmps → Agree s.hs s'.hs H → B ≤ w.heap.size →
          (∀ σ' a' w', Ren.le σ σ' → Match P B σ' (upd H s'.hs) w' → TR σ' s'.tmps a'.tmps → a'.defers = a.defers → Below B w w' → Q x.out a' w') → c.wp P Q a w := by
      intro x0 e hw
      injection e with e; injection e with e1 e2; subst e1; subst e2
      exact ⟨.refl _, fun σ H a w Q hm hs ht ha hB hk => hw (hk σ a w (Ren.le_refl _) (by rw [hs.upd]; exact hm) ht rfl (Below.refl _ _))⟩
    -- one piece of code, then what stands behind it
    have chain : ∀ {c1 : Code} {s1 : St} {x1 : VX}, evC P W f c1 s = some (x1, s1) → ∀ {d : Code → Prop}, (VStep s1.hs s'.hs) → ∀ (σ : Ren) (H : Nat → Option VO) (a : Act) (w : World) (Q1 : Exit → Act → World → Prop), Match P B σ H w → Sim s.hs H → TR σ s.tmps a.tmps → Agree s.hs s'.hs H → B ≤ w.heap.size →
        (∀ σ' a' w', Ren.le σ σ' → Match P B σ' (upd H s1.hs) w' → Sim s1.hs (upd H s1.hs) → TR σ' s1.tmps a'.tmps → Agree s1.hs s'.hs (upd H s1.hs) → B ≤ w'.heap.size → a'.defers = a.defers → Below B w w' → Q1 x1.out a' w') → c1.wp P Q1 a w := by
      intro c1 s1 x1 he d hst σ H a w Q1 hm hs ht ha hB hk
      obtain ⟨h1, h2⟩ := ih _ _ _ _ he
      exact h2 σ H a w Q1 hm hs ht (ha.first hst) hB fun σ' a' w' g1 g2 g3 g4 g5 => hk σ' a' w' g1 g2 (hs.step h1) g3 (ha.last hs h1 hst) (Nat.le_trans hB g5.size) g4 g5
    unfold evC at h
    split at h
    · exact stay h fun hq => wp_skip hq
    · exact stay h fun hq => wp_label hq
    · split at h
      · rename_i s1 hr
        injection h with h; injection h with e1 e2; subst e1; subst e2
        exact ⟨(runOps_sound (Q := fun _ _ _ => True) hc _ _ _ hr).1, fun σ H a w Q hm hs ht ha hB hk => wp_region ((runOps_sound hc _ _ _ hr).2 σ H a w hm hs ht ha hB hk)⟩
      · cases h
    · split at h
      · rename_i s1 hr
        injection h with h; injection h with e1 e2; subst e1; subst e2
        obtain ⟨h1, h2⟩ := draw_sound hmix hc hr
        exact ⟨h1, fun σ H a w Q hm hs ht ha hB hk => h2 σ H a w Q hm hs ht ha hB hk⟩
      · cases h
    · rename_i c1 c2
      cases he : evC P W f c1 s with
      | none => rw [he] at h; cases h
      | some p =>
        obtain ⟨x1, s1⟩ := p
        rw [he] at h
        cases x1 with
        | normal =>
          obtain ⟨g1, g2⟩ := ih _ _ _ _ h
          refine ⟨(ih _ _ _ _ he).1.trans g1, fun σ H a w Q hm hs ht ha hB hk => wp_seq (chain he (d := fun _ => True) g1 σ H a w _ hm hs ht ha hB fun σ' a' w' k1 k2 k3 k4 k5 k6 k7 k8 => ?_)⟩
          refine g2 σ' _ a' w' Q k2 k3 k4 k5 k6 fun σ2 a2 w2 j1 j2 j3 j4 j5 => ?_
          rw [upd_upd g1] at j2
          exact hk σ2 a2 w2 (Ren.le_trans k1 j1) j2 j3 (j4.trans k7) (k8.trans j5)
        | exit id =>
          injection h with h; injection h with e1 e2; subst e1; subst e2
          exact ⟨(ih _ _ _ _ he).1, fun σ H a w Q hm hs ht ha hB hk => wp_seq ((ih _ _ _ _ he).2 σ H a w _ hm hs ht ha hB hk)⟩
        | ret =>
          injection h with h; injection h with e1 e2; subst e1; subst e2
          exact ⟨(ih _ _ _ _ he).1, fun σ H a w Q hm hs ht ha hB hk => wp_seq ((ih _ _ _ _ he).2 σ H a w _ hm hs ht ha hB hk)⟩
    · rename_i oc c1 c2
      have heval : ∀ {b : Bool} {σ : Ren} {a : Act}, evalV s.tmps oc = .bool b → TR σ s.tmps a.tmps → a.eval oc = .bool b := by
        intro b σ a he ht
        cases oc with
        | tmp t =>
          have := (ht t).at
          have he : s.tmps.at t = .bool b := he
          rw [he] at this
          generalize hx : a.tmps.getD t undef = x at this
          cases this
          exact hx
        | const v => exact he
        | global g => cases he
        | func g => cases he
      split at h
      · rename_i he
        obtain ⟨g1, g2⟩ := ih _ _ _ _ h
        exact ⟨g1, fun σ H a w Q hm hs ht ha hB hk => wp_cond_true (heval he ht) (g2 σ H a w Q hm hs ht ha hB hk)⟩
      · rename_i he
        obtain ⟨g1, g2⟩ := ih _ _ _ _ h
        exact ⟨g1, fun σ H a w Q hm hs ht ha hB hk => wp_cond_false (heval he ht) (g2 σ H a w Q hm hs ht ha hB hk)⟩
      · cases h
    · rename_i id c1
      cases he : evC P W f c1 s with
      | none => rw [he] at h; cases h
      | some p =>
        obtain ⟨x1, s1⟩ := p
        rw [he] at h
        obtain ⟨g1, g2⟩ := ih _ _ _ _ he
        cases x1 with
        | normal =>
          injection h with h; injection h with e1 e2; subst e1; subst e2
          exact ⟨g1, fun σ H a w Q hm hs ht ha hB hk => wp_block (g2 σ H a w _ hm hs ht ha hB hk)⟩
        | exit i =>
          simp only at h
          split at h
          · rename_i hi
            injection h with h; injection h with e1 e2; subst e1; subst e2
            have := Nat.eq_of_beq_eq_true hi
            subst this
            refine ⟨g1, fun σ H a w Q hm hs ht ha hB hk => wp_block (g2 σ H a w _ hm hs ht ha hB fun σ' a' w' k1 k2 k3 k4 k5 => ?_)⟩
            show (if i = i then Q .normal a' w' else Q (.exit i) a' w')
            rw [if_pos rfl]
            exact hk σ' a' w' k1 k2 k3 k4 k5
          · rename_i hi
            injection h with h; injection h with e1 e2; subst e1; subst e2
            refine ⟨g1, fun σ H a w Q hm hs ht ha hB hk => wp_block (g2 σ H a w _ hm hs ht ha hB fun σ' a' w' k1 k2 k3 k4 k5 => ?_)⟩
            show (if i = id then Q .normal a' w' else Q (.exit i) a' w')
            rw [if_neg (fun e => by rw [e, Nat.beq_refl] at hi; cases hi)]
            exact hk σ' a' w' k1 k2 k3 k4 k5
        | ret =>
          injection h with h; injection h with e1 e2; subst e1; subst e2
          exact ⟨g1, fun σ H a w Q hm hs ht ha hB hk => wp_block (g2 σ H a w _ hm hs ht ha hB hk)⟩
    · rename_i c1
      have hloop : evC P W (f + 1) (.loop c1) s = some (x, s') := by unfold evC; exact h
      obtain ⟨n, g2⟩ := loop_sound ih il _ _ _ _ hloop
      refine ⟨?_, fun σ H a w Q hm hs ht ha hB hk => wp_loop_rounds n (g2 σ H a w Q hm hs ht ha hB hk)⟩
      cases he : evC P W f c1 s with
      | none => rw [he] at h; cases h
      | some p =>
        obtain ⟨x1, s1⟩ := p
        rw [he] at h
        cases x1 with
        | normal => exact (ih _ _ _ _ he).1.trans (ih _ _ _ _ h).1
        | exit id =>
          injection h with h; injection h with e1 e2; subst e1; subst e2
          exact (ih _ _ _ _ he).1
        | ret =>
          injection h with h; injection h with e1 e2; subst e1; subst e2
          exact (ih _ _ _ _ he).1
    · exact stay h fun hq => wp_exit hq
    · obtain ⟨g1, g2⟩ := ih _ _ _ _ h
      refine ⟨g1, fun σ H a w Q hm hs ht ha hB hk => wp_scope_straight (g2 σ H a w _ hm hs ht ha hB fun σ' a' w' k1 k2 k3 k4 k5 => ?_)⟩
      cases x <;> exact hk σ' a' w' k1 k2 k3 k4 k5
    · exact stay h fun hq => wp_ret hq
    · cases h

/-! known calls -/
theorem eqI_eq {a b : Int} (h : eqI a b = true) : a = b := by
  cases a <;> cases b <;> first | (rw [Nat.eq_of_beq_eq_true h]; done) | cases h
theorem eqB_eq : ∀ {l m : List UInt8}, eqB l m = true → l = m
  | [], [], _ => rfl
  | a :: l, b :: m, h => by
    simp only [eqB, Bool.and_eq_true] at h
    have h1 := Nat.eq_of_beq_eq_true h.1
    rw [UInt8.toNat_inj.1 h1, eqB_eq h.2]
  | [], _ :: _, h => by cases h
  | _ :: _, [], h => by cases h
theorem eqL_eq {f : Value → Value → Bool} (hf : ∀ a b, f a b = true → a = b) : ∀ {l m : List Value}, eqL f l m = true → l = m
  | [], [], _ => rfl
  | a :: l, b :: m, h => by
    simp only [eqL, Bool.and_eq_true] at h
    rw [hf _ _ h.1, eqL_eq hf h.2]
  | [], _ :: _, h => by cases h
  | _ :: _, [], h => by cases h
theorem eqV_eq : ∀ (n : Nat) (a b : Value), eqV n a b = true → a = b
  | 0, a, b, h => by cases h
  | n + 1, a, b, h => by
    unfold eqV at h
    split at h
    · simp only [Bool.and_eq_true] at h
      rw [sameKind_eq h.1, eqI_eq h.2]
    · split at h
      · rfl
      · rfl
      · cases h
    · rename_i x y
      have := eqB_eq h
      have e : x.data = y.data := Array.toList_inj.1 this
      obtain ⟨x⟩ := x
      obtain ⟨y⟩ := y
      rw [show x = y from e]
    · rw [Array.toList_inj.1 (eqL_eq (eqV_eq n) h)]
    · rw [Array.toList_inj.1 (eqL_eq (eqV_eq n) h)]
    · cases h

theorem flat_eq {σ : Ren} : ∀ (n : Nat) (v v' : Value), flatV n v = true → VRel σ v v' → v' = v
  | 0, v, v', h, _ => by cases h
  | n + 1, v, v', h, k => by
    have all : ∀ (a a' : Array Value), a.toList.all (flatV n) = true → a.size = a'.size → (∀ (i : Nat) (v v' : Value), a[i]? = some v → a'[i]? = some v' → VRel σ v v') → a' = a := fun a a' ha hs hr => by
      apply Array.ext hs.symm
      intro i h1 h2
      exact flat_eq n _ _ (List.all_eq_true.1 ha a[i] (by simp)) (hr i _ _ (by simp [h2]) (by simp [h1]))
    cases k with
    | bool | int | string | ptrNil | sliceNil | mapNil | nilFunc | nilIface => rfl
    | ptr h1 => cases h
    | slice _ h1 => cases h
    | map h1 => cases h
    | iface t h1 => rw [flat_eq n _ _ h h1]
    | agg h1 h2 => rw [all _ _ h h1 h2]
    | tuple h1 h2 => rw [all _ _ h h1 h2]
    | func fn hy h1 h2 h3 h4 =>
      simp only [flatV, Bool.and_eq_true] at h
      rw [all _ _ h.1.2 h1 h2, all _ _ h.2 h3 h4]

/-- the calls of a table are so -/
def Known (P : Program) (f : FuncId) (args : List Value) (v : Value) : Prop := args.all (flatV 20) = true ∧ flatV 20 v = true ∧ ∀ w, Calls P f args.toArray w fun e w' => e = .returned v ∧ Below w.heap.size w w'
def TabOk (P : Program) (T : Tab) : Prop := ∀ f args v, T f args = some v → Known P f args v
theorem TabOk.none : TabOk P .none := fun f args v h => by cases h
theorem TabOk.put {T : Tab} {f : FuncId} {args : List Value} {v : Value} (h : Known P f args v) (k : TabOk P T) : TabOk P (.put f args v T) := by
  intro g xs u hm
  unfold Tab.put at hm
  split at hm
  · rename_i hc
    simp only [Bool.and_eq_true] at hc
    injection hm with hm
    subst hm
    rw [← Nat.eq_of_beq_eq_true hc.1, ← eqL_eq (eqV_eq 20) hc.2]
    exact h
  · exact k g xs u hm
theorem TabOk.fn {T : Tab} {f : FuncId} {q : List Value → Option Value} (h : ∀ args v, q args = some v → Known P f args v) (k : TabOk P T) : TabOk P (.fn f q T) := by
  intro g xs u hm
  unfold Tab.fn at hm
  split at hm
  · rename_i hc
    rw [← Nat.eq_of_beq_eq_true hc]
    exact h _ _ hm
  · exact k g xs u hm
theorem Match.below {σ : Ren} {H : Nat → Option VO} {w w' : World} (h : Match P B σ H w) (k : Below w.heap.size w w') : Match P B σ H w' :=
  ⟨h.dom, fun i b κ e => ⟨(h.old i b κ e).1, Nat.lt_of_lt_of_le (h.old i b κ e).2 k.size⟩, fun i b κ o ex e1 e2 => by
    obtain ⟨o', h1, h2⟩ := h.obj i b κ o ex e1 e2
    exact ⟨o', by rw [k.block b (h.old i b κ e1).2]; exact h1, h2⟩, h.inj⟩
theorem tab_sound {T : Tab} (hT : TabOk P T) {call : CallV} (hc : CallSound P B call) : CallSound P B (callT T call) := by
  intro f args s s' v h
  unfold callT at h
  split at h
  · rename_i u hl
    injection h with h; injection h with h1 h2; subst h1; subst h2
    refine ⟨.refl _, fun σ args' H w ha hm hs _ hB => ?_⟩
    obtain ⟨g1, g2, g3⟩ := hT _ _ _ hl
    have : args' = args := by
      apply Array.ext ha.1.symm
      intro i h1 h2
      exact flat_eq 20 _ _ (List.all_eq_true.1 g1 args[i] (by simp)) (ha.2 i _ _ (by simp [h2]) (by simp [h1]))
    subst this
    have g4 := g3 w
    rw [Array.toArray_toList] at g4
    refine g4.mono ?_
    rintro e w' ⟨rfl, hb⟩
    exact ⟨σ, u, rfl, Ren.le_refl _, flat_rel 20 u g2, by rw [hs.upd]; exact hm.below hb, hb.mono hB⟩
  · exact hc _ _ _ _ _ h

/-- THE LAW: a call that the run says, with flat arguments and a flat result. -/
theorem run_res (hmix : P.follows .mixedOrders = true) {T : Tab} (hT : TabOk P T) {fuel : Nat} {f : FuncId} {args : List Value} {v : Value} (h : resV P T fuel f args v = true) :
    Known P f args v := by
  unfold resV at h
  split at h
  · rename_i r s' hr
    simp only [Bool.and_eq_true] at h
    obtain ⟨h1, h2, h3⟩ := h
    have := eqV_eq 20 _ _ h1
    subst this
    refine ⟨h2, h3, fun w => ?_⟩
    obtain ⟨hst, hk⟩ := call_sound (B := w.heap.size) (ev_both hmix (fun _ call hc => tab_sound hT hc) fuel).1 f args.toArray startV s' _ hr
    have ha : AR (fun _ => none) args.toArray args.toArray := ⟨rfl, fun i v v' x y => by
      rw [x] at y; injection y with y; subst y
      exact flat_rel 20 _ (List.all_eq_true.1 h2 _ (by simpa using Array.mem_of_getElem? x))⟩
    refine (hk (fun _ => none) args.toArray (fun _ => none) w ha ⟨(fun i => by simp), (fun i b κ e => by cases e), (fun i b κ o ex e => by cases e), (fun i j b κ κ' o ex o' ex' e => by cases e)⟩
      ⟨(fun i e => by simp [startV] at e), (fun i _ => rfl)⟩ ⟨(fun i _ => by simp [startV, Tr.get_nil]), (fun i _ _ => rfl)⟩ (Nat.le_refl _)).mono ?_
    rintro e w' ⟨σ', v', rfl, _, hv, _, hb⟩
    exact ⟨by rw [flat_eq 20 _ _ h3 hv], hb⟩
  · cases h
end
end Go.Proofs.Ytcpjicpelcfokaa
