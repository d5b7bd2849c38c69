/- Slices of ints that a call makes itself. -/
import Derived.Test.YtkoopcjdpcpknaaKit2
import Derived.OwnWalk
namespace Go.Proofs.Ytkoopcjdpcpknaa
open Go.RowKit
set_option linter.unusedVariables false

theorem info_int : (Try.prog.info? 3).map (fun i => (i.zero, i.size, i.bytes)) = some (some (.int .i64 0), 1, 8) := by kernel_rfl

/-- the call's own slice, of these ints, in blocks from B on -/
def Mine (B : Nat) (w : World) (v : Value) (xs : List Int) : Prop := w.ownsRow B 3 1 v xs.length (xs.map (Value.int .i64))

theorem Mine.nil (B : Nat) (w : World) : Mine B w (.slice none 0 0) [] := ⟨rfl, .inl ⟨rfl, rfl⟩⟩

theorem Mine.slice {B : Nat} {w : World} {v : Value} {xs : List Int} (h : Mine B w v xs) : ∃ A cap, v = .slice A xs.length cap ∧ Ints w A xs ∧ xs.length ≤ maxLen := by
  obtain ⟨_, ⟨rfl, h0⟩ | ⟨g, cap, cur, rfl, hg, hat, hle, hcm, hsz, htk⟩⟩ := h
  · have : xs = [] := List.length_eq_zero_iff.1 h0
    subst this
    exact ⟨none, 0, rfl, .inl rfl, by simp⟩
  · refine ⟨_, cap, rfl, .inr ⟨g, 0, rfl, fun i hi => ?_⟩, by omega⟩
    have h1 : cur.toList[i]? = some (.int .i64 xs[i]) := by
      have h2 : (cur.toList.take (xs.length * 1))[i]? = some (.int .i64 xs[i]) := by rw [htk]; simp [hi]
      rwa [List.getElem?_take_of_lt (by omega)] at h2
    have h3 : cur[i]? = some (.int .i64 xs[i]) := by simpa using h1
    simp [World.cell?, hat, h3, nth_eq hi]

theorem Mine.step {B : Nat} {w w' : World} {v : Value} {xs : List Int} (h : Mine B w v xs) (hb : Below w.heap.size w w') : Mine B w' v xs := by
  obtain ⟨h1, ⟨h0, h2⟩ | ⟨g, cap, cur, rfl, hg, hat, hr⟩⟩ := h
  · exact ⟨h1, .inl ⟨h0, h2⟩⟩
  · refine ⟨h1, .inr ⟨g, cap, cur, rfl, hg, ?_, hr⟩⟩
    rw [hb.block g (Array.getElem?_eq_some_iff.1 hat).1]; exact hat

theorem Ints.step {w w' : World} {A : Option Addr} {xs : List Int} (h : Ints w A xs) (hb : Below w.heap.size w w') : Ints w' A xs := by
  rcases h with h | ⟨b, o, rfl, h⟩
  · exact .inl h
  · refine .inr ⟨b, o, rfl, fun i hi => ?_⟩
    have h1 := h i hi
    have hlt := World.block_lt_of_cell? w _ h1
    rw [hb.cell (p := ⟨b, o + i, none⟩) hlt]; exact h1

theorem push_int {ops : Array Oper} {rest : List Oper} {o : Oper} {a : Act} {Q : Exit → Act → World → Prop} {w : World} (hgd : o.guard = none) (s x : Operand)
    (ho : o.op = .call { callee := .builtin .append, args := #[s, x], argTypes := #[22, 22] }) (w0 : World) (v : Value) (xs : List Int) (y : Int)
    {H : Nat} (hs : a.eval s = v) (hx : a.eval x = .slice (some ⟨H, 0, none⟩) 1 1) (hH : H = w.heap.size) (hown : Mine w0.heap.size w v xs) (hB : Below w0.heap.size w0 w) (hl : xs.length ≤ 17592186044414)
    (h : ∀ v' w', Mine w0.heap.size w' v' (xs ++ [y]) → Below w0.heap.size w0 w' → wpList Try.prog ops Q rest (a.put o.dst v') w') :
    wpList Try.prog ops Q (o :: rest) a (w.alloc (.cells #[.int .i64 y] 3)) := by
  obtain ⟨i0, hi, hz0, hz1, hz2⟩ := info_parts info_int
  subst hH
  have hB' := hB.size
  refine wpList_append_own _ hgd s x 22 ho w0.heap.size 3 i0 (.int .i64 0) 1 8 Try.underlying22 hi hz0 hz1 hz2 rfl (by decide) v xs.length _ hs (hown.alloc _) ⟨w.heap.size, 0, none⟩ 1 1 [.int .i64 y] hx rfl ?_ ?_ ?_ ?_ ?_ ?_
  · intro j u hu
    cases j with
    | zero =>
      simp at hu; subst hu
      exact World.cell?_alloc_at _ _ _ _ rfl
    | succ j => simp at hu
  · simp [Value.oneCell']
  · unfold maxLen; omega
  · omega
  · simp; omega
  · intro v' w1 hown1 hgrow _
    refine h v' w1 ?_ ?_
    · unfold Mine
      simpa using hown1
    · refine (hB.alloc hB' _).grown hgrow (by simp; omega) (fun k hk => ?_)
      exact (World.ownsRow.lt hown k hk).1

/-- THE SAME, over whatever bound: nothing below B turns. -/
theorem push_intB {ops : Array Oper} {rest : List Oper} {o : Oper} {a : Act} {Q : Exit → Act → World → Prop} {w : World} (hgd : o.guard = none) (s x : Operand)
    (ho : o.op = .call { callee := .builtin .append, args := #[s, x], argTypes := #[22, 22] }) (B : Nat) (v : Value) (xs : List Int) (y : Int)
    {H : Nat} (hs : a.eval s = v) (hx : a.eval x = .slice (some ⟨H, 0, none⟩) 1 1) (hH : H = w.heap.size) (hown : Mine B w v xs) (hB : B ≤ w.heap.size) (hl : xs.length ≤ 17592186044414)
    (h : ∀ v' w', Mine B w' v' (xs ++ [y]) → Below B w w' → wpList Try.prog ops Q rest (a.put o.dst v') w') :
    wpList Try.prog ops Q (o :: rest) a (w.alloc (.cells #[.int .i64 y] 3)) := by
  obtain ⟨i0, hi, hz0, hz1, hz2⟩ := info_parts info_int
  subst hH
  refine wpList_append_own _ hgd s x 22 ho B 3 i0 (.int .i64 0) 1 8 Try.underlying22 hi hz0 hz1 hz2 rfl (by decide) v xs.length _ hs (hown.alloc _) ⟨w.heap.size, 0, none⟩ 1 1 [.int .i64 y] hx rfl ?_ ?_ ?_ ?_ ?_ ?_
  · intro j u hu
    cases j with
    | zero =>
      simp at hu; subst hu
      exact World.cell?_alloc_at _ _ _ _ rfl
    | succ j => simp at hu
  · simp [Value.oneCell']
  · unfold maxLen; omega
  · omega
  · simp; omega
  · intro v' w1 hown1 hgrow _
    refine h v' w1 ?_ ?_
    · unfold Mine
      simpa using hown1
    · refine ((Below.refl B w).alloc hB _).grown hgrow (by simp; omega) (fun k hk => ?_)
      exact (World.ownsRow.lt hown k hk).1
end Go.Proofs.Ytkoopcjdpcpknaa
