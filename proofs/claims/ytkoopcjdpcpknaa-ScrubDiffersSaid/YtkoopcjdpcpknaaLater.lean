/- A region that draws its order: its first operations hand back one value in every later world of a class; the others follow one after another. -/
import Derived.Test.YtkoopcjdpcpknaaKit2
import Derived.StillTail
import Derived.Deep.Quiet
import Derived.Deep.RegionHeld3
namespace Go.Proofs.Ytkoopcjdpcpknaa
open Go.RowKit
set_option linter.unusedVariables false

section
variable {P : Program} {md : Region.Mode} {C : World → Prop}

def headOk (md : Region.Mode) (l : List Oper) (n : Nat) : Bool :=
  (List.range n).all fun i => match l[i]? with
    | some o => (o.after.all fun e => !Region.binds md e || decide (e.on < i)) && (match o.guard with | some (j, _) => decide (j < n) | none => true)
    | none => false

theorem headOk_at {l : List Oper} {n i : Nat} (h : headOk md l n = true) (hi : i < n) : ∃ o, l[i]? = some o ∧ (∀ e ∈ o.after, Region.binds md e = true → e.on < i) ∧ ∀ j b, o.guard = some (j, b) → j < n := by
  have h1 := List.all_eq_true.1 h i (List.mem_range.2 hi)
  cases ho : l[i]? with
  | none => rw [ho] at h1; cases h1
  | some o =>
    rw [ho] at h1
    simp only [Bool.and_eq_true] at h1
    refine ⟨o, rfl, fun e he hb => ?_, fun j b hg => ?_⟩
    · have h2 := Array.all_eq_true'.1 h1.1 e he
      rw [hb] at h2
      simpa using h2
    · have h2 := h1.2
      rw [hg] at h2
      simpa using h2

theorem pre_get (l : List Oper) {n i : Nat} (h : i < n) : (l.take n).toArray[i]? = l.toArray[i]? := by simp [List.getElem?_take, h]

theorem wanted_pre {l : List Oper} {n i : Nat} {o : Oper} (h : headOk md l n = true) (hi : i < n) (ho : l[i]? = some o) (t : Array Value) :
    Region.wanted o (yielded (l.take n).toArray t) = Region.wanted o (yielded l.toArray t) := by
  obtain ⟨o', ho', _, hg⟩ := headOk_at h hi
  obtain rfl : o' = o := Option.some.inj (ho'.symm.trans ho)
  unfold Region.wanted
  cases hgd : o'.guard with
  | none => rfl
  | some jb =>
    obtain ⟨j, b⟩ := jb
    simp only [yielded, pre_get l (hg j b hgd)]

theorem wpAny_grow {ops : Array Oper} {Q : Exit → Act → World → Prop} : ∀ (f : Nat) (M : Array Bool) (a : Act) (w : World), wpAny P md ops Q f M a w → wpAny P md ops Q (f + 1) M a w
  | 0, M, a, w, h => ⟨fun _ => h.2, fun i hi => by rw [h.1] at hi; cases hi⟩
  | f + 1, M, a, w, h => ⟨h.1, fun i hi => wpOp_mono (fun a' w' h' => wpAny_grow f _ a' w' h') (h.2 i hi)⟩
theorem wpAny_grows {ops : Array Oper} {Q : Exit → Act → World → Prop} (g : Nat) (M : Array Bool) (a : Act) (w : World) (h : wpAny P md ops Q g M a w) : ∀ f : Nat, wpAny P md ops Q (f + g) M a w
  | 0 => by rw [Nat.zero_add]; exact h
  | f + 1 => by
    have := wpAny_grow _ _ _ _ (wpAny_grows g M a w h f)
    rwa [show f + 1 + g = f + g + 1 by omega]

theorem least_not {p : Nat → Prop} : ∀ n : Nat, ¬ (∀ j, j < n → p j) → ∃ j, j < n ∧ ¬ p j ∧ ∀ i, i < j → p i
  | 0, h => absurd (fun j hj => absurd hj (Nat.not_lt_zero j)) h
  | n + 1, h => by
    by_cases h1 : ∀ j, j < n → p j
    · refine ⟨n, Nat.lt_succ_self n, fun hp => h fun j hj => ?_, h1⟩
      rcases Nat.lt_succ_iff_lt_or_eq.1 hj with h2 | h2
      · exact h1 j h2
      · rw [h2]; exact hp
    · obtain ⟨j, hj, h2⟩ := least_not n h1
      exact ⟨j, Nat.lt_succ_of_lt hj, h2⟩

theorem getD_at {L : Array Bool} {j : Nat} (h : j < L.size) (d d' : Bool) : L.getD j d = L.getD j d' := by simp [h]
theorem getD_out {L : Array Bool} {j : Nat} (h : L.size ≤ j) (d : Bool) : L.getD j d = d := by
  simp [Array.getElem?_eq_none h]

def moves (l : List Oper) (i : Nat) : Bool := match l[i]? with
  | some o => (match o.op with | .move _ => true | .assign _ => true | _ => false)
  | none => false
theorem moves_at {l : List Oper} {i : Nat} {o : Oper} (h : moves l i = true) (ho : l[i]? = some o) : ∃ x, o.op = .move x ∨ o.op = .assign x := by
  simp only [moves, ho] at h
  split at h
  · rename_i x hx; exact ⟨x, .inl hx⟩
  · rename_i x hx; exact ⟨x, .inr hx⟩
  · cases h
def blocks (md : Region.Mode) (l : List Oper) (n : Nat) : Nat → Nat → Bool
  | 0, i => decide (i = n)
  | f + 1, i => decide (i = n) || (List.range (n + 1)).any fun j => decide (i < j) && Region.waitsFor md l.toArray j i && blocks md l n f j
def sinks (md : Region.Mode) (l : List Oper) (n : Nat) : Bool := (List.range n).all fun i => moves l i || blocks md l n n i
def movesFree (md : Region.Mode) (l : List Oper) (n : Nat) : Bool :=
  (List.range n).all fun i => !moves l i || (List.range l.length).all fun j => decide (j = i) || Region.waitsFor md l.toArray j i || Region.waitsFor md l.toArray i j || (match l[i]?, l[j]? with | some x, some y => x.apart l.toArray y | _, _ => false)

/-- while an operation of the head for which the tail waits has not come up, none of the tail may -/
theorem tail_shut {l : List Oper} {n : Nat} {M : Array Bool} (hc : Region.chainB md l.toArray n = true) (hn : n < l.toArray.size) (inv : HeadInv md l.toArray n M) :
    ∀ (f i : Nat), blocks md l n f i = true → i < n → M.getD i true = false → ∀ t, n ≤ t → t ∉ Region.ready md l.toArray M := by
  intro f
  induction f with
  | zero =>
    intro i h1 h2
    simp only [blocks, decide_eq_true_eq] at h1
    omega
  | succ f ih =>
    intro i h0 hi hun t ht hr
    obtain ⟨_, ot, hot, hall⟩ := mem_ready.1 hr
    have htl : t < l.toArray.size := (Array.getElem?_eq_some_iff.1 hot).1
    simp only [blocks, Bool.or_eq_true, decide_eq_true_eq] at h0
    rcases h0 with h0 | h0
    · omega
    obtain ⟨j, hj, h2⟩ := List.any_eq_true.1 h0
    simp only [Bool.and_eq_true, decide_eq_true_eq] at h2
    obtain ⟨⟨hij, hwait⟩, hblk⟩ := h2
    have hjn : j < n + 1 := List.mem_range.1 hj
    obtain ⟨oj, hoj, e, he, hb, hon⟩ := Region.waitsFor_spec hwait
    by_cases htn : n < t
    · have h3 := List.all_eq_true.1 hc t (List.mem_range.2 htl)
      simp only [Bool.or_eq_true, decide_eq_true_eq] at h3
      rcases h3 with h3 | h3
      · omega
      · obtain ⟨o', ho', e', he', hb', hon'⟩ := Region.waitsFor_spec h3
        obtain rfl : o' = ot := Option.some.inj (ho'.symm.trans hot)
        have h4 := hall e' he' hb'
        rw [hon', getD_both (inv.tail (t - 1) (by omega) (by omega))] at h4
        cases h4
    · obtain rfl : t = n := by omega
      by_cases hjt : j = t
      · subst hjt
        obtain rfl : oj = ot := Option.some.inj (hoj.symm.trans hot)
        have h4 := hall e he hb
        rw [hon, getD_both hun] at h4
        cases h4
      · have huj : M.getD j true = false := by
          cases hl : M.getD j false with
          | true =>
            have h4 := inv.closed j oj hoj hl e he hb
            rw [hon, getD_both hun] at h4
            cases h4
          | false => exact getD_in (by rw [inv.size]; omega) hl
        exact ih j hblk (by omega) huj t (Nat.le_refl _) hr

theorem head_core {l : List Oper} {n g : Nat} {Q : Exit → Act → World → Prop} {Q0 : Act → Prop} (hok : headOk md l n = true) (hs : sinks md l n = true) (hfree : movesFree md l n = true) (hc : Region.chainB md l.toArray n = true) (hn : n < l.toArray.size)
    (hsel : Region.noSelect l.toArray = true) (hP : ∀ c (a : Act) d v (w : World), Q (.panic c) (a.put d v) w → Q (.panic c) a w)
    (htail : ∀ (M : Array Bool) (a : Act) (w : World), C w → HeadInv md l.toArray n M → (∀ j, j < n → M.getD j true = true) → Q0 a → wpAny P md l.toArray Q g M a w) :
    ∀ (f : Nat) (M L : Array Bool) (a : Act) (w : World), HeadInv md l.toArray n M → L.size = n → (∀ j, j < n → ∀ d, M.getD j d = L.getD j d) → C w →
      wpAnyQ P md (l.take n).toArray C Q0 f L a → wpAny P md l.toArray Q (f + g) M a w := by
  intro f
  induction f with
  | zero =>
    intro M L a w inv hL hag hw h
    by_cases hall : ∀ j, j < n → L.getD j true = true
    · exact wpAny_grows g M a w (htail M a w hw inv (fun j hj => by rw [hag j hj]; exact hall j hj) h.2) 0
    · exfalso
      obtain ⟨j, hj, hnot, hbef⟩ := least_not n hall
      obtain ⟨o, ho, hdep, _⟩ := headOk_at hok hj
      have : j ∈ Region.ready md (l.take n).toArray L := mem_ready.2 ⟨by simpa using hnot, o, by rw [pre_get l hj]; simpa using ho, fun e he hb => by
        have := hbef _ (hdep e he hb)
        rwa [getD_at (by have := hdep e he hb; omega) false true]⟩
      rw [h.1] at this
      cases this
  | succ f ih =>
    intro M L a w inv hL hag hw h
    by_cases hall : ∀ j, j < n → L.getD j true = true
    · have h0 : Region.ready md (l.take n).toArray L = [] := by
        apply List.eq_nil_iff_forall_not_mem.2
        intro j hj
        have h1 := (mem_ready.1 hj).1
        by_cases hjn : j < n
        · rw [hall j hjn] at h1; cases h1
        · rw [getD_out (by omega)] at h1; cases h1
      exact wpAny_grows g M a w (htail M a w hw inv (fun j hj => by rw [hag j hj]; exact hall j hj) (h.1 h0)) (f + 1)
    · obtain ⟨j, hj, hnot, hbef⟩ := least_not n hall
      obtain ⟨o, ho, hdep, _⟩ := headOk_at hok hj
      have hun : M.getD j true = false := by rw [hag j hj]; simpa using hnot
      have hrj : j ∈ Region.ready md l.toArray M := mem_ready.2 ⟨hun, o, by simpa using ho, fun e he hb => by
        have hlt := hdep e he hb
        rw [hag _ (by omega), getD_at (by omega) false true]; exact hbef _ hlt⟩
      have hset : ∀ (i : Nat), i < n → ∀ k, k < n → ∀ d, (M.setIfInBounds i true).getD k d = (L.setIfInBounds i true).getD k d := fun i hin k hk d => by
        by_cases hki : i = k
        · subst hki
          have e1 : (M.setIfInBounds i true).getD i d = true := by
            have : i < M.size := by have := inv.size; omega
            simp [this]
          have e2 : (L.setIfInBounds i true).getD i d = true := by
            have : i < L.size := by omega
            simp [this]
          rw [e1, e2]
        · rw [getD_set_ne d hki, getD_set_ne d hki]; exact hag k hk d
      rw [show f + 1 + g = f + g + 1 by omega]
      by_cases hmv : moves l j = true
      · obtain ⟨x, hx⟩ := moves_at hmv ho
        have hrjL : j ∈ Region.ready md (l.take n).toArray L := mem_ready.2 ⟨by simpa using hnot, o, by rw [pre_get l hj]; simpa using ho, fun e he hb => by
          have hlt := hdep e he hb
          rw [getD_at (by omega) false true]; exact hbef _ hlt⟩
        have hq := h.2 j hrjL
        unfold qOp at hq
        rw [pre_get l hj, show l.toArray[j]? = some o by simpa using ho] at hq
        simp only at hq
        rw [wanted_pre hok hj ho] at hq
        obtain ⟨v, hy, hk⟩ : ∃ v, Yields P l.toArray o v a ∧ wpAnyQ P md (l.take n).toArray C Q0 f (L.setIfInBounds j true) (a.put o.dst v) := by
          by_cases hwt : Region.wanted o (yielded l.toArray a.tmps) = true
          · rw [if_pos hwt] at hq
            obtain ⟨v, hv, hk⟩ := hq
            have hrun : ∀ w, (execOp a.eval o).run P w = .ok (.value (a.eval x)) w := fun w => by
              rcases hx with hx | hx <;> (unfold execOp; rw [hx]; rfl)
            have hvx : a.eval x = v := by
              have h5 := hv w hw
              unfold Oper.quietAt at h5
              rw [hrun w] at h5
              exact h5.2
            exact ⟨v, .inl ⟨hwt, fun w => by rw [hrun w, hvx]⟩, hk⟩
          · rw [if_neg hwt] at hq
            exact ⟨undef, .inr ⟨by simpa using hwt, rfl⟩, hq⟩
        refine wpAny_first (P := P) (Q := Q) (i := j) (oi := o) (v := v) (by simpa using ho) (Region.noSelect_spec hsel) (fun c a w => hP c a o.dst v w) (f + g) M a w (fun k ok hk hkj hunk hno => ?_) hrj hy ?_
        · have hkl : k < l.length := by have := (Array.getElem?_eq_some_iff.1 hk).1; simpa using this
          have h5 := List.all_eq_true.1 hfree j (List.mem_range.2 hj)
          rw [hmv, Bool.not_true, Bool.false_or] at h5
          have h6 := List.all_eq_true.1 h5 k (List.mem_range.2 hkl)
          have hk' : l[k]? = some ok := by simpa using hk
          rw [ho, hk'] at h6
          simp only [Bool.or_eq_true, decide_eq_true_eq] at h6
          rcases h6 with ((h6 | h6) | h6) | h6
          · exact absurd h6 hkj
          · obtain ⟨o', ho', e', he', hb', hon'⟩ := Region.waitsFor_spec h6
            obtain rfl : o' = ok := Option.some.inj (ho'.symm.trans hk)
            exact absurd hon' (hno e' he' hb')
          · obtain ⟨o', ho', e', he', hb', hon'⟩ := Region.waitsFor_spec h6
            obtain ⟨_, o2, ho2, hdeps⟩ := mem_ready.1 hrj
            obtain rfl : o' = o2 := Option.some.inj (ho'.symm.trans ho2)
            have h7 := hdeps e' he' hb'
            rw [hon', getD_both hunk] at h7
            cases h7
          · exact h6
        · exact ih _ _ _ w (inv.set hrj hj) (by simpa using hL) (hset j hj) hw hk
      have hblk : blocks md l n n j = true := by
        have h1 := List.all_eq_true.1 hs j (List.mem_range.2 hj)
        rw [show moves l j = false by simpa using hmv, Bool.false_or] at h1
        exact h1
      refine ⟨fun h0 => (by rw [h0] at hrj; cases hrj), fun i hi => ?_⟩
      have hin : i < n := by
        rcases Nat.lt_or_ge i n with h1 | h1
        · exact h1
        · exact absurd hi (tail_shut hc hn inv n j hblk hj hun i h1)
      obtain ⟨oi, hoi, hdi, _⟩ := headOk_at hok hin
      obtain ⟨hui, oi', hoi', hall'⟩ := mem_ready.1 hi
      obtain rfl : oi' = oi := by have := hoi'.symm.trans (by simpa using hoi); exact Option.some.inj this
      have hri : i ∈ Region.ready md (l.take n).toArray L := mem_ready.2 ⟨by rw [← hag i hin]; exact hui, oi', by rw [pre_get l hin]; exact hoi', fun e he hb => by
        rw [← hag _ (by have := hdi e he hb; omega)]; exact hall' e he hb⟩
      have hq := h.2 i hri
      have hstep : ∀ (a' : Act) (w' : World), C w' → wpAnyQ P md (l.take n).toArray C Q0 f (L.setIfInBounds i true) a' → wpAny P md l.toArray Q (f + g) (M.setIfInBounds i true) a' w' := fun a' w' hw' h' =>
        ih _ _ a' w' (inv.set hi hin) (by simpa using hL) (hset i hin) hw' h'
      unfold qOp at hq
      rw [pre_get l hin, hoi'] at hq
      simp only at hq
      unfold wpOp
      rw [hoi']
      simp only
      rw [wanted_pre hok hin hoi] at hq
      split
      · rename_i hwt
        rw [if_pos hwt] at hq
        exact .inl (Oper.wp_of_quiet hw (fun a' w' hw' h' => hstep a' w' hw' h') hq)
      · rename_i hwt
        rw [if_neg hwt] at hq
        exact hstep _ _ hw hq

def headTailB (md : Region.Mode) (l : List Oper) (n : Nat) : Bool :=
  Region.lexB md (l.take n).toArray && headOk md l n && sinks md l n && movesFree md l n && Region.noSelect l.toArray && Region.chainB md l.toArray n && decide (n < l.length) &&
    Region.seqB md l.toArray (l.length - n) n ((List.replicate n true ++ List.replicate (l.length - n) false).toArray)

/-- THE LAW: the head by one walk in the order of the text, in whatever world of the class; then the tail. -/
theorem wp_region_head {id : Nat} {Q : Exit → Act → World → Prop} {a : Act} {w : World} {l : List Oper} (n : Nat) (hm : P.follows .mixedOrders = true) (hB : headTailB .any l n = true) (hP : ∀ c (a : Act) d v (w : World), Q (.panic c) (a.put d v) w → Q (.panic c) a w) (hC : C { w with drawn := w.drawn + 1 })
    (h : wpQuiet P (l.take n).toArray C (fun a' => ∀ w', C w' → wpList P l.toArray Q (l.drop n) a' w') (l.take n) a) : (Code.region id l.toArray true).wp P Q a w := by
  simp only [headTailB, Bool.and_eq_true, decide_eq_true_eq] at hB
  obtain ⟨⟨⟨⟨⟨⟨⟨hlex, hok⟩, hs⟩, hfree⟩, hsel⟩, hc⟩, hn⟩, hseq⟩ := hB
  simp only [Region.lexB, Bool.and_eq_true] at hlex
  have hn' : n < l.toArray.size := by simpa using hn
  have htn : (l.take n).length = n := by simp; omega
  have inv0 : HeadInv .any l.toArray n (Array.replicate l.toArray.size false) :=
    ⟨by simp, fun j oj _ hl => (by rw [getD_replicate_false] at hl; cases hl), fun t _ ht => getD_in (by simpa using ht) (getD_replicate_false _ _)⟩
  have hq := wpAnyQ_lex (C := C) (md := .any) (P := P) hlex.1 (l.take n) 0 (Array.replicate (l.take n).toArray.size false) a (by simp) (by simpa [htn] using hlex.2) h
  refine wp_region_any hm ?_
  have := head_core (P := P) (md := .any) (C := C) (Q := Q) (n := n) (g := l.length - n) hok hs hfree hc hn' hsel hP (fun M a w hw inv hall hQ => ?_) (l.take n).length (Array.replicate l.toArray.size false) (Array.replicate (l.take n).toArray.size false) a _ inv0 (by simp; omega) (fun j hj d => ?_) hC hq
  · rw [htn, show n + (l.length - n) = l.toArray.size by simp; omega] at this
    exact this
  · have hM : M = (List.replicate n true ++ List.replicate (l.length - n) false).toArray := by
      apply Array.ext
      · have := inv.size; simp at this; simp; omega
      · intro i h1 h2
        rcases Nat.lt_or_ge i n with hi | hi
        · have h3 := hall i hi
          rw [getD_at h1 true false] at h3
          simp [h1] at h3
          simp [List.getElem_append, hi, h3]
        · have h3 := inv.tail i hi (by rw [← inv.size]; exact h1)
          simp [h1] at h3
          simp [List.getElem_append, Nat.not_lt.2 hi, h3]
    rw [hM]
    have := wpAny_of_seq (md := .any) (Q' := Q) (l.drop n) n (P := P) (ops := l.toArray) (List.replicate n true ++ List.replicate (l.length - n) false).toArray a w (fun j => by simp [List.getElem?_drop]) (by simpa using hseq) (hQ w hw)
    simpa using this
  · have h1 : j < (Array.replicate l.toArray.size false).size := by simp; omega
    have h2 : j < (Array.replicate (l.take n).toArray.size false).size := by simp; omega
    have h3 : j < min n l.length := by omega
    simp [show j < l.length by omega, show j < n by omega, h3]
end

/-- THE SAME, where the post may hang on the frame at a panic: the tail is shown not to panic. -/
theorem wp_region_head' {P : Program} {C : World → Prop} {id : Nat} {Q : Exit → Act → World → Prop} {a : Act} {w : World} {l : List Oper} (n : Nat) (hm : P.follows .mixedOrders = true) (hB : headTailB .any l n = true) (hC : C { w with drawn := w.drawn + 1 })
    (h : wpQuiet P (l.take n).toArray C (fun a' => ∀ w', C w' → wpList P l.toArray (NoPanic Q) (l.drop n) a' w') (l.take n) a) : (Code.region id l.toArray true).wp P Q a w :=
  wp_region_noPanic (wp_region_head n hm hB (fun _ _ _ _ _ h => h) hC h)

/-- a world in which nothing of W's has turned -/
structure Later (W : World) where
  w : World
  kept : Below W.heap.size W w
instance (W : World) : Inhabited (Later W) := ⟨⟨W, Below.refl _ _⟩⟩
theorem later_cell (W : World) : ∀ (x : Later W) (b o : Nat), b < W.heap.size → x.w.cell? ⟨b, o, none⟩ = W.cell? ⟨b, o, none⟩ := fun x b o h => x.kept.cell (p := ⟨b, o, none⟩) h
theorem later_start (W : World) : ∃ y : Later W, { W with drawn := W.drawn + 1 } = y.w := ⟨⟨W.drew, keep_drew (Below.refl _ _)⟩, rfl⟩
theorem wp_region_calm {P : Program} {C : World → Prop} {id : Nat} {Q : Exit → Act → World → Prop} {a : Act} {w : World} {l : List Oper} (hm : P.follows .mixedOrders = true) (hB : Region.lexB .any l.toArray = true) (hC : C { w with drawn := w.drawn + 1 })
    (h : wpQuiet P l.toArray C (fun a' => ∀ w', C w' → Q .normal a' w') l a) : (Code.region id l.toArray true).wp P Q a w :=
  wp_region_quiet hm hB hC (by simpa using h)
theorem later_of {P : Program} {f : FuncId} {args : Array Value} {W : World} {x : Later W} {v : Value} (h : Calls P f args x.w fun e w' => e = .returned v ∧ Below x.w.heap.size x.w w') :
    Calls P f args x.w fun e w' => e = .returned v ∧ ∃ y : Later W, w' = y.w :=
  h.mono fun _ w' ⟨he, hb⟩ => ⟨he, ⟨w', keep_step hb x.kept rfl⟩, rfl⟩
end Go.Proofs.Ytkoopcjdpcpknaa
