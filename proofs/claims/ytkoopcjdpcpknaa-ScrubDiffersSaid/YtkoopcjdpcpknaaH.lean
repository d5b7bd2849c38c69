/- Slices of ints appended whole; copies. -/
import Derived.Test.YtkoopcjdpcpknaaOwn
import Derived.Laws.AppendOwnNone
namespace Go.Proofs.Ytkoopcjdpcpknaa
open Go.RowKit
set_option linter.unusedVariables false

theorem append_void {w : World} {ty : TypeId} {w0 : Nat} {v : Value} {xs : List Int} (hown : Mine w0 w v xs) (c : Nat) : (Builtin.append_ #[22, 22] ty #[v, .slice none 0 c]).run Try.prog w = .ok v w := by
  obtain ⟨i0, hi, hz0, hz1, hz2⟩ := info_parts info_int
  have hu := Try.underlying22
  obtain ⟨_, ⟨rfl, h0⟩ | ⟨g, cap, cur, rfl, _, _, hnc, _⟩⟩ := hown
  · simp [Builtin.append_, run_underlying hu, sizeOf, typeInfo, hi, Builtin.lenOf, Builtin.firstCells]
  · simp [Builtin.append_, run_underlying hu, sizeOf, typeInfo, hi, Builtin.lenOf, Builtin.firstCells, hnc, storeCells]

set_option maxRecDepth 20000 in
theorem join_int {ops : Array Oper} {rest : List Oper} {o : Oper} {a : Act} {Q : Exit → Act → World → Prop} {w : World} (hgd : o.guard = none) (s x : Operand)
    (ho : o.op = .call { callee := .builtin .append, args := #[s, x], argTypes := #[22, 22] }) (w0 : World) (v : Value) (xs ys : List Int) (A : Option Addr) (m c : Nat)
    (hs : a.eval s = v) (hx : a.eval x = .slice A m c) (hm : ys.length = m) (hA : Ints w A ys) (hown : Mine w0.heap.size w v xs) (hB : Below w0.heap.size w0 w) (hl : xs.length + m ≤ 17592186044415)
    (h : ∀ v' w', Mine w0.heap.size w' v' (xs ++ ys) → Below w0.heap.size w0 w' → wpList Try.prog ops Q rest (a.put o.dst v') w') :
    wpList Try.prog ops Q (o :: rest) a w := by
  obtain ⟨i0, hi, hz0, hz1, hz2⟩ := info_parts info_int
  have hB' := hB.size
  subst hm
  rcases A with _ | ad
  · have h0 : ys.length = 0 := by
      rcases hA with h1 | ⟨b, o, h1, _⟩
      · exact h1
      · cases h1
    have hnil : ys = [] := List.length_eq_zero_iff.1 h0
    subst hnil
    refine wpList_plain hgd fun K hK => ?_
    have hrun := append_void (ty := o.type) hown c
    unfold Oper.wp
    simp [execOp, ho, resolve, invoke, builtin, hs, hx, hrun, Result.andThen]
    exact hK _ _ (h _ _ (by simpa using hown) hB)
  · refine wpList_append_own _ hgd s x 22 ho w0.heap.size 3 i0 (.int .i64 0) 1 8 Try.underlying22 hi hz0 hz1 hz2 rfl (by decide) v xs.length _ hs hown ad ys.length c (ys.map (Value.int .i64)) hx (by simp) ?_ ?_ ?_ ?_ hB' ?_
    · intro j u hu
      have hj : j < ys.length := by
        rcases Nat.lt_or_ge j ys.length with h1 | h1
        · exact h1
        · rw [List.getElem?_eq_none (by simpa using h1)] at hu; cases hu
      rcases hA with h1 | ⟨b, o, h1, h2⟩
      · omega
      · injection h1 with h1
        subst h1
        have h3 := h2 j hj
        have h4 : u = .int .i64 (nth ys j) := by
          rw [nth_eq hj]; simp [hj] at hu; exact hu.symm
        rw [h4, ← h3]
        congr 1
        unfold Addr.add
        split
        · rename_i h5; simp [h5]
        · rfl
    · intro u hu
      obtain ⟨y, _, rfl⟩ := List.mem_map.1 hu
      rfl
    · unfold maxLen; omega
    · omega
    · intro v' w1 hown1 hgrow _
      refine h v' w1 ?_ ?_
      · unfold Mine
        simpa using hown1
      · exact hB.grown hgrow hB' (fun k hk => (World.ownsRow.lt hown k hk).1)

theorem Mine.made (w : World) : Mine w.heap.size (w.alloc (.cells #[] 3)) (.slice (some ⟨w.heap.size, 0, none⟩) 0 0) [] :=
  ⟨rfl, .inr ⟨w.heap.size, 0, #[], rfl, Nat.le_refl _, heap_alloc_new w _, Nat.le_refl _, by unfold maxLen; omega, rfl, rfl⟩⟩

theorem ownInts_any (A : Option Addr) (n cap : Nat) (xs : List Int) (w : World) (hn : xs.length = n) (hm : n ≤ 17592186044415) (hA : Ints w A xs) :
    Calls Try.prog 8 #[.slice A n cap] w fun e w' => ∃ A' c, e = .returned (.slice A' n c) ∧ Ints w' A' xs ∧ Below w.heap.size w w' := by
  have HN := Lib.hid hn
  have hlen : ([] : List Int).length + n ≤ 17592186044415 := by simpa using hm
  clear hn
  go_enter Try.func8, Try.ntmps8
  go_wp2_with (first | (at_builtin; refine join_int rfl _ _ rfl w _ [] xs A n cap rfl rfl HN.out (hA.step (by repeat (first | exact Below.refl _ _ | apply keep_alloc | apply keep_drew | apply keep_drewN | refine keep_step (by assumption) ?_ (by rfl) | refine keep_set ?_ _ _ (by first | exact Nat.le_refl _ | (show _ ≤ _; simp; done) | (show _ ≤ _; simp; omega))))) (Mine.made w) (by repeat (first | exact Below.refl _ _ | apply keep_alloc | apply keep_drew | apply keep_drewN | refine keep_step (by assumption) ?_ (by rfl) | refine keep_set ?_ _ _ (by first | exact Nat.le_refl _ | (show _ ≤ _; simp; done) | (show _ ≤ _; simp; omega)))) hlen ?_; intro v1 w1 hown hb; have H1 := Lib.hid hown; clear hown) | go_in)
  go_ret
  obtain ⟨A', c, rfl, hi, _⟩ := H1.out.slice
  exact ⟨A', c, by simp [HN.out], hi, hb⟩
end Go.Proofs.Ytkoopcjdpcpknaa
