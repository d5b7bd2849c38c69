/- The operations, run and real: slices, maps, indexes. -/
import Derived.Test.YtpaojoahbmlolaaEvE
namespace Go.Proofs.Ytpaojoahbmlolaa
open Go Go.RowKit
set_option linter.unusedVariables false
set_option linter.unusedSimpArgs false
set_option linter.unnecessarySimpa false
section
variable {P : Program} {σ : Ren} {α β : Type} {R : Ren → α → β → Prop}

theorem elemT_slice {t e : TypeId} (h : P.underlying t = some (.slice e)) : elemT P t = e := by simp [elemT, h]
theorem elemT_map {t k e : TypeId} (h : P.underlying t = some (.map k e)) : elemT P t = e := by simp [elemT, h]

theorem PR.slice {a a' : Addr} (h : PR σ a a') {l c : Nat} (hc : c < inf) (hl : l ≤ c) : VRel σ (.slice (some a) l c) (.slice (some a') l c) := by
  obtain ⟨κ, h1, h2, h3⟩ := h
  obtain ⟨b, o, p⟩ := a
  obtain ⟨b', o', p'⟩ := a'
  simp only at h1 h2 h3
  subst h2; subst h3
  exact .slice l h1 hl (fun _ => rfl) (fun h => by omega)

theorem zeros_rel {e : TypeId} (hz : flatZ P e = true) (n : Nat) : SemRel P AR σ (if n = 0 then pure #[] else do pure (← zeroValue e).cells : Sem (Array Value)) (if n = 0 then pure #[] else do pure (← zeroValue e).cells : Sem (Array Value)) := by
  split
  · exact .ret AR.empty
  · exact (zeroValue_rel hz).bnd fun _ z z' _ h => .ret (AR.cells h)

theorem buildSlice_rel {t : TypeId} {n : Nat} {ps ps' : Array (Nat × Value)} (hz : flatZ P (elemT P t) = true) (hn : n < inf) (h : PL σ ps.toList ps'.toList) : SemRel P VR σ (Instr.buildSlice t n ps) (Instr.buildSlice t n ps') := by
  unfold Instr.buildSlice
  refine underlying_any.bnd fun s d d' hs e => ?_
  obtain ⟨rfl, hu⟩ := e
  split
  · rename_i e
    rw [elemT_slice hu] at hz
    refine sizeOf_any.bnd fun s2 a b hs2 e => ?_
    obtain ⟨rfl, _⟩ := e
    simp only
    have tail : ∀ (s2 : Ren), Ren.le s s2 → ∀ (s3 : Ren) (z z' : Array Value), Ren.le s2 s3 → AR s3 z z' → SemRel P VR s3
          (match Instr.fill (fun i => some (i * a, a)) ((Array.range (n * a)).map (z[· % z.size]!)) ps.toList with
            | some cells => do pure (.slice (some (← newRow e cells)) n n)
            | _ => stuck "buildSlice: a part of the wrong size")
          (match Instr.fill (fun i => some (i * a, a)) ((Array.range (n * a)).map (z'[· % z'.size]!)) ps'.toList with
            | some cells => do pure (.slice (some (← newRow e cells)) n n)
            | _ => stuck "buildSlice: a part of the wrong size") := by
        intro s2 hs2 s3 z z' hs3 hzz
        have := fill_rel (s := s3) (fun i => some (i * a, a)) (hzz.range (n * a)) (PL.mono (Ren.le_trans hs (Ren.le_trans hs2 hs3)) h)
        generalize Instr.fill (fun i => some (i * a, a)) ((Array.range (n * a)).map (z[· % z.size]!)) ps.toList = x at *
        generalize Instr.fill (fun i => some (i * a, a)) ((Array.range (n * a)).map (z'[· % z'.size]!)) ps'.toList = y at *
        cases x with
        | none => exact .dead dead_stuck
        | some x => cases y with
          | none => exact this.elim
          | some y => exact (newRow_rel this).bnd fun _ q q' _ hq => .ret (hq.slice hn (Nat.le_refl _))
    split
    · exact .dead (dead_bind _ dead_unsupported)
    · split
      · refine SemRel.bnd (S := AR) (.ret AR.empty) ?_
        exact tail s2 hs2
      · refine (zeroValue_rel hz).bnd fun s3 z z' hs3 hzz => ?_
        refine SemRel.bnd (S := AR) (.ret (AR.cells hzz)) ?_
        exact tail s3 (Ren.le_trans hs2 hs3)
  · exact .dead dead_stuck

theorem makeMap_rel {t : TypeId} {r r' : Option Value} (h : match r, r' with | some a, some b => VRel σ a b | none, none => True | _, _ => False) : SemRel P VR σ (Instr.makeMap t r) (Instr.makeMap t r') := by
  have tail : ∀ s : Ren, SemRel P VR s (do pure (.map (some (← newObj (.map #[] 0)))) : Sem Value) (do pure (.map (some (← newObj (.map #[] 0)))) : Sem Value) := fun s =>
    .new (.map 0 rfl fun j e e' x => by simp at x) fun i b hi => .pure (VRel.map (κ := 0) (by simp [Ren.ext]))
  unfold Instr.makeMap
  cases r with
  | none => cases r' with
    | none => exact tail σ
    | some b => exact h.elim
  | some a => cases r' with
    | none => exact h.elim
    | some b =>
      simp only
      refine underlying_any.bnd fun s d d' hs e => ?_
      obtain ⟨rfl, hu⟩ := e
      split
      · exact (asInt_rel (h.mono hs)).bnd fun s2 _ _ _ _ => tail s2
      · exact .dead (dead_bind _ dead_stuck)

theorem indexAt_rel {t : TypeId} {v v' i i' : Value} (h : VRel σ v v') (k : VRel σ i i') : SemRel P VR σ (Instr.indexAt t v i) (Instr.indexAt t v' i') := by
  unfold Instr.indexAt
  refine (asIntOf_rel k).bnd fun s a b hs e => ?_
  obtain rfl : a = b := e
  obtain ⟨ik, n⟩ := a
  simp only
  refine underlying_any.bnd fun s2 d d' hs2 e => ?_
  obtain ⟨rfl, hu⟩ := e
  have hv := (h.mono hs).mono hs2
  have last : ∀ (s3 : Ren) (q q' : Addr) (len : Nat) (elem : TypeId), PR s3 q q' → SemRel P VR s3
      (do
        let tiny := decide (len ≤ 1) && (match ← underlying t with | .array .. => true | _ => false)
        if 0 ≤ n ∧ n < (len : Int) then pure (.pointer (some (q.add (n.toNat * (← sizeOf elem)))))
        else if tiny then unsupported (.noEntry "op/indexAddr.an index out of range at an array of length 0 or 1 (ledger 616)")
        else boundsPanic ik n len .index : Sem Value)
      (do
        let tiny := decide (len ≤ 1) && (match ← underlying t with | .array .. => true | _ => false)
        if 0 ≤ n ∧ n < (len : Int) then pure (.pointer (some (q'.add (n.toNat * (← sizeOf elem)))))
        else if tiny then unsupported (.noEntry "op/indexAddr.an index out of range at an array of length 0 or 1 (ledger 616)")
        else boundsPanic ik n len .index : Sem Value) := by
    intro s3 q q' len elem hq
    refine underlying_any.bnd fun s4 d d' hs4 e => ?_
    obtain ⟨rfl, _⟩ := e
    simp only
    by_cases hb : 0 ≤ n ∧ n < (len : Int)
    · rw [if_pos hb, if_pos hb]
      refine sizeOf_any.bnd fun s5 a b hs5 e => ?_
      obtain ⟨rfl, _⟩ := e
      exact .ret (((hq.mono hs4).mono hs5).add _).ptr
    · rw [if_neg hb, if_neg hb]
      refine .dead fun x => ?_
      repeat' split
      all_goals first | exact dead_unsupported x | exact dead_boundsPanic x
  split
  · refine (sureAddr_rel hv).bnd fun s3 q q' hs3 hq => ?_
    exact last s3 q q' _ _ hq
  · rename_i elem base len cap
    cases hv
    case sliceNil =>
      refine .dead fun x => ?_
      show runV P (underlying t >>= fun d => boundsPanic ik n 0 .index) x = none
      exact dead_after (fun _ => dead_boundsPanic) x
    case slice h1 h2 h3 h4 => exact last s2 _ _ _ _ ⟨_, h1, rfl, rfl⟩
  · exact .dead (dead_bind _ dead_stuck)

theorem index_rel {t : TypeId} {v v' i i' : Value} (h : VRel σ v v') (k : VRel σ i i') : SemRel P VR σ (Instr.index t v i) (Instr.index t v' i') := by
  unfold Instr.index
  refine (asIntOf_rel k).bnd fun s a b hs e => ?_
  obtain rfl : a = b := e
  obtain ⟨ik, n⟩ := a
  simp only
  refine underlying_any.bnd fun s2 d d' hs2 e => ?_
  obtain ⟨rfl, hu⟩ := e
  have hv := (h.mono hs).mono hs2
  split
  · rename_i len elem cs
    cases hv
    case agg a' h1 h2 =>
      have hc : AR s2 cs a' := ⟨h1, h2⟩
      simp only
      by_cases hb : 0 ≤ n ∧ n < (len : Int)
      · rw [if_pos hb, if_pos hb]
        refine sizeOf_any.bnd fun s5 a b hs5 e => ?_
        obtain ⟨rfl, _⟩ := e
        exact part_rel (hc.mono hs5)
      · rw [if_neg hb]
        exact .dead dead_boundsPanic
  · cases hv
    simp only
    split
    · exact .ret (.int _ _)
    · exact .dead dead_boundsPanic
  · exact .dead dead_stuck

theorem bound_rel {x x' : Value} (h : VRel σ x x') (y : Nat) (c : BoundsCode) : SemRel P ER σ (Instr.sliceBound x y c) (Instr.sliceBound x' y c) := by
  unfold Instr.sliceBound
  refine (asIntOf_rel h).bnd fun s a b hs e => ?_
  obtain rfl : a = b := e
  obtain ⟨ik, n⟩ := a
  simp only
  split
  · exact .ret rfl
  · exact .dead dead_boundsPanic
theorem bound_le {x x' : Value} (h : VRel σ x x') (y : Nat) (c : BoundsCode) : SemRel P (fun _ a b => a = b ∧ a ≤ y) σ (Instr.sliceBound x y c) (Instr.sliceBound x' y c) := by
  unfold Instr.sliceBound
  refine (asIntOf_rel h).bnd fun s a b hs e => ?_
  obtain rfl : a = b := e
  obtain ⟨ik, n⟩ := a
  simp only
  split
  · exact .ret ⟨rfl, by omega⟩
  · exact .dead dead_boundsPanic
/-- an operand that may be missing -/
def OV (s : Ren) : Option Value → Option Value → Prop
  | some a, some b => VRel s a b
  | none, none => True
  | _, _ => False
theorem OV.mono {s t : Ren} (h : Ren.le s t) : ∀ {a b : Option Value}, OV s a b → OV t a b
  | some a, some b, k => VRel.mono h k
  | none, none, _ => trivial
  | some _, none, k => k.elim
  | none, some _, k => k.elim
theorem bounds_rel {lo lo' hi hi' mx mx' : Option Value} (h1 : OV σ lo lo') (h2 : OV σ hi hi') (h3 : OV σ mx mx') (b : Bool) (len cap : Nat) (hlc : len ≤ cap) : SemRel P (fun _ a b => a = b ∧ a.2.2 ≤ cap ∧ a.2.1 ≤ a.2.2) σ (Instr.sliceBounds b len cap lo hi mx) (Instr.sliceBounds b len cap lo' hi' mx') := by
  unfold Instr.sliceBounds
  cases mx <;> cases mx' <;> try exact h3.elim
  all_goals dsimp only
  · refine SemRel.bnd (S := fun _ a b => a = b ∧ a = cap) (.ret ⟨rfl, rfl⟩) ?_
    rintro s m m' hs ⟨rfl, rfl⟩
    have hle := Nat.le_refl m
    cases hi <;> cases hi' <;> try exact h2.elim
    all_goals dsimp only
    · refine SemRel.bnd (S := fun _ a b => a = b ∧ a ≤ m) (.ret ⟨rfl, hlc⟩) ?_
      rintro s2 a b hs2 ⟨rfl, hh⟩
      cases lo <;> cases lo' <;> try exact h1.elim
      · refine SemRel.bnd (S := ER) (.ret rfl) ?_
        rintro s3 c d hs3 e
        obtain rfl : c = d := e
        exact .ret ⟨rfl, hle, hh⟩
      · refine SemRel.bnd (S := ER) (bound_rel (VRel.mono hs2 (VRel.mono hs h1)) _ _) ?_
        rintro s3 c d hs3 e
        obtain rfl : c = d := e
        exact .ret ⟨rfl, hle, hh⟩
    · refine SemRel.bnd (S := fun _ a b => a = b ∧ a ≤ m) (bound_le (VRel.mono hs h2) _ _) ?_
      rintro s2 a b hs2 ⟨rfl, hh⟩
      cases lo <;> cases lo' <;> try exact h1.elim
      · refine SemRel.bnd (S := ER) (.ret rfl) ?_
        rintro s3 c d hs3 e
        obtain rfl : c = d := e
        exact .ret ⟨rfl, hle, hh⟩
      · refine SemRel.bnd (S := ER) (bound_rel (VRel.mono hs2 (VRel.mono hs h1)) _ _) ?_
        rintro s3 c d hs3 e
        obtain rfl : c = d := e
        exact .ret ⟨rfl, hle, hh⟩
  · refine SemRel.bnd (S := fun _ a b => a = b ∧ a ≤ cap) (bound_le h3 _ _) ?_
    rintro s m m' hs ⟨rfl, hle⟩
    cases hi <;> cases hi' <;> try exact h2.elim
    all_goals dsimp only
    · exact .dead (dead_bind _ dead_stuck)
    · refine SemRel.bnd (S := fun _ a b => a = b ∧ a ≤ m) (bound_le (VRel.mono hs h2) _ _) ?_
      rintro s2 a b hs2 ⟨rfl, hh⟩
      cases lo <;> cases lo' <;> try exact h1.elim
      · refine SemRel.bnd (S := ER) (.ret rfl) ?_
        rintro s3 c d hs3 e
        obtain rfl : c = d := e
        exact .ret ⟨rfl, hle, hh⟩
      · refine SemRel.bnd (S := ER) (bound_rel (VRel.mono hs2 (VRel.mono hs h1)) _ _) ?_
        rintro s3 c d hs3 e
        obtain rfl : c = d := e
        exact .ret ⟨rfl, hle, hh⟩

theorem sliceAt_rel {t : TypeId} {v v' : Value} {lo lo' hi hi' mx mx' : Option Value} (h : VRel σ v v') (h1 : OV σ lo lo') (h2 : OV σ hi hi') (h3 : OV σ mx mx')
    (ht : P.underlying t = some .string ∨ ∃ n e, P.underlying t = some (.array n e) ∧ n < inf) : SemRel P VR σ (Instr.sliceAt t v lo hi mx) (Instr.sliceAt t v' lo' hi' mx') := by
  unfold Instr.sliceAt
  rcases ht with ht | ⟨n, e, ht, hn⟩
  · refine (underlying_rel ht).bnd fun s d d' hs e => ?_
    obtain ⟨rfl, rfl⟩ := e
    simp only
    unfold Instr.slice
    refine (underlying_rel ht).bnd fun s2 d d' hs2 e => ?_
    obtain ⟨rfl, rfl⟩ := e
    have e : mx.isSome = mx'.isSome := by cases mx <;> cases mx' <;> first | rfl | exact h3.elim
    cases hvv : h.mono (Ren.le_trans hs hs2)
    case string b =>
      simp only [e]
      split
      · exact .dead (dead_bind _ dead_stuck)
      · refine (bounds_rel ((h1.mono hs).mono hs2) ((h2.mono hs).mono hs2) (show OV s2 none none from trivial) _ _ _ (Nat.le_refl _)).bnd fun s3 a b hs3 e => ?_
        obtain ⟨rfl, _⟩ := e
        exact .ret (.string _)
    all_goals exact .dead dead_stuck
  · refine (underlying_rel ht).bnd fun s d d' hs e => ?_
    obtain ⟨rfl, rfl⟩ := e
    simp only
    refine (sureAddr_rel (h.mono hs)).bnd fun s2 a a' hs2 ha => ?_
    refine (bounds_rel ((h1.mono hs).mono hs2) ((h2.mono hs).mono hs2) ((h3.mono hs).mono hs2) _ _ _ (Nat.le_refl _)).bnd fun s3 x y hs3 e => ?_
    obtain ⟨rfl, hle, hhm⟩ := e
    obtain ⟨l, hh, m⟩ := x
    refine sizeOf_any.bnd fun s4 x y hs4 e => ?_
    obtain ⟨rfl, _⟩ := e
    have hp := (ha.mono hs3).mono hs4
    simp only at hle hhm
    refine .ret ?_
    split
    · exact hp.slice (by omega) (by omega)
    · exact (hp.add _).slice (by omega) (by omega)

theorem makeSlice_rel {t : TypeId} {l l' c c' : Value} (hz : flatZ P (elemT P t) = true) (hb : hasBytes P (elemT P t) = true) (h : VRel σ l l') (k : VRel σ c c') : SemRel P VR σ (Instr.makeSlice t l c) (Instr.makeSlice t l' c') := by
  unfold Instr.makeSlice
  refine underlying_any.bnd fun s d d' hs e => ?_
  obtain ⟨rfl, hu⟩ := e
  split
  · rename_i e
    rw [elemT_slice hu] at hz hb
    refine (asInt_rel (h.mono hs)).bnd fun s2 a b hs2 e => ?_
    obtain rfl : a = b := e
    refine (asInt_rel ((k.mono hs).mono hs2)).bnd fun s3 x y hs3 e => ?_
    obtain rfl : x = y := e
    refine typeInfo_any.bnd fun s4 i i' hs4 e => ?_
    obtain ⟨rfl, hi⟩ := e
    have hby : 0 < i.bytes := by
      unfold hasBytes at hb
      rw [hi] at hb
      exact Nat.le_of_ble_eq_true hb
    simp only
    split
    · refine .dead ?_
      split
      · exact dead_bind _ dead_runtimePanic
      · split
        · exact dead_bind _ dead_runtimePanic
        · exact dead_after fun _ => dead_bind _ dead_runtimePanic
    · rename_i hc
      have hlt : (IntKind.i64.wrap x).toNat < inf := by
        simp only [Bool.or_eq_true, decide_eq_true_eq, not_or] at hc
        have h2 : ¬ (i.bytes : Int) * IntKind.i64.wrap x > 2 ^ 48 := by
          have := hc.1.1
          simp at this
          omega
        have h3 : IntKind.i64.wrap x ≤ 2 ^ 48 := by
          rcases Int.lt_or_le (IntKind.i64.wrap x) 0 with h4 | h4
          · omega
          · have : 1 * IntKind.i64.wrap x ≤ (i.bytes : Int) * IntKind.i64.wrap x := Int.mul_le_mul_of_nonneg_right (by omega) h4
            omega
        unfold inf
        omega
      have hle : (IntKind.i64.wrap a).toNat ≤ (IntKind.i64.wrap x).toNat := by
        simp only [Bool.or_eq_true, decide_eq_true_eq, not_or] at hc
        omega
      have room : ∀ n (s : Ren), SemRel P ER s (askRoom n) (askRoom n) := fun n s => by
        unfold askRoom
        split
        · exact .mark (.pure rfl)
        · exact .ret rfl
      refine (room _ _).bnd fun s5 _ _ hs5 _ => ?_
      refine sizeOf_any.bnd fun s6 x y hs6 e => ?_
      obtain ⟨rfl, _⟩ := e
      have tail : ∀ (s7 : Ren) (z z' : Array Value) (n l c : Nat), c < inf → l ≤ c → AR s7 z z' → SemRel P VR s7 (do pure (.slice (some (← newRow e ((Array.range n).map (z[· % z.size]!)))) l c) : Sem Value) (do pure (.slice (some (← newRow e ((Array.range n).map (z'[· % z'.size]!)))) l c) : Sem Value) :=
        fun s7 z z' n l c hc hlc hzz => (newRow_rel (hzz.range n)).bnd fun _ q q' _ hq => .ret (hq.slice hc hlc)
      split
      · exact tail _ _ _ _ _ _ hlt hle AR.empty
      · exact (zeroValue_rel hz).bnd fun s7 z z' hs7 hzz => tail s7 _ _ _ _ _ hlt hle (AR.cells hzz)
  · exact .dead dead_stuck
end
end Go.Proofs.Ytpaojoahbmlolaa
