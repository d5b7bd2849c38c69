import Derived.Test.YtcjlidciniiofaaOwn
import Derived.Laws.AppendOwn
import Derived.OwnWalk
set_option linter.unusedVariables false
namespace Go.Proofs.Ytcjlidciniiofaa
open Go.RowKit
def Turn (g : Nat) (w w' : World) : Prop := w.grownBy w' (some g)
theorem Turn.refl (g : Nat) (w : World) : Turn g w w := World.grownBy.refl w _
theorem Turn.trans {g : Nat} {a b c : World} (h : Turn g a b) (k : Turn g b c) : Turn g a c :=
 ⟨k.os.trans h.os, k.tape.trans h.tape, k.output.trans h.output, Nat.le_trans h.size k.size, fun i hi hne => (k.block i (Nat.lt_of_lt_of_le hi h.size) hne).trans (h.block i hi hne)⟩
theorem Turn.set {g : Nat} {a w : World} (h : Turn g a w) (i : Nat) (s : Option Nat) (v : Value) : Turn g a (w.setCell ⟨g, i, s⟩ v) :=
 h.trans ⟨rfl, rfl, rfl, by simp [World.setCell], fun k _ hk => Below.heap_setCell _ _ _ k (fun e => hk (by rw [e]))⟩
theorem Turn.alloc {g : Nat} {a w : World} (h : Turn g a w) (o : Obj) : Turn g a (w.alloc o) := h.trans (World.grownBy_alloc w o _)
theorem Turn.drew {g : Nat} {a w : World} (h : Turn g a w) : Turn g a w.drew := h.trans ⟨rfl, rfl, rfl, Nat.le_refl _, fun _ _ _ => rfl⟩
theorem Turn.drewN {g : Nat} {a w : World} (h : Turn g a w) (n : Nat) : Turn g a (w.drewN n) := h.trans ⟨rfl, rfl, rfl, Nat.le_refl _, fun _ _ _ => rfl⟩
theorem Turn.below {g : Nat} {a b c : World} {B : Nat} (h : Turn g a b) (k : Below B b c) (e : B = b.heap.size) : Turn g a c :=
 h.trans ⟨k.os, k.tape, k.output, k.size, fun i hi _ => k.block i (by rw [e]; exact hi)⟩
theorem Turn.setNew {g : Nat} {a w : World} (h : Turn g a w) (p : Addr) (v : Value) (hp : a.heap.size ≤ p.block) : Turn g a (w.setCell p v) :=
 ⟨h.os, h.tape, h.output, Nat.le_trans h.size (by simp [World.setCell]), fun k hk hne => (Below.heap_setCell _ _ _ k (fun e => by omega)).trans (h.block k hk hne)⟩
theorem Mine.turn {B g : Nat} {w w' : World} {v : Value} {xs : List Int} (h : Mine B w v xs) (t : Turn g w w') (hg : g < B) : Mine B w' v xs := by
 obtain ⟨h1, ⟨h0, h2⟩ | ⟨b, cap, cur, rfl, hb, hat, hr⟩⟩ := h
 ·exact ⟨h1, .inl ⟨h0, h2⟩⟩
 ·refine ⟨h1, .inr ⟨b, cap, cur, rfl, hb, ?_, hr⟩⟩
  rw [t.block b (Array.getElem?_eq_some_iff.1 hat).1 (fun e => by injection e with e; omega)]; exact hat
theorem keep_turn {g : Nat} {a b c : World} (t : Turn g b c) (h : Below a.heap.size a b) (hg : a.heap.size ≤ g) : Below a.heap.size a c :=
 h.grown t h.size (fun k hk => by injection hk with hk; omega)
theorem turn_cell {g : Nat} {w w' : World} (t : Turn g w w') : (∀ b o, b < w.heap.size → b ≠ g → w'.cell? ⟨b, o, none⟩ = w.cell? ⟨b, o, none⟩) ∧ (∀ b o, b < w.heap.size → b ≠ g → w'.frozen? ⟨b, o, none⟩ = w.frozen? ⟨b, o, none⟩) :=
 ⟨fun b o h hne => World.cell?_of_block (t.block b h (fun e => hne (by injection e))), fun b o h hne => World.frozen?_of_block (t.block b h (fun e => hne (by injection e)))⟩
theorem keep_set {a w : World} (h : Below a.heap.size a w) (p : Addr) (u : Value) (hp : a.heap.size ≤ p.block) : Below a.heap.size a (w.setCell p u) := h.setCell hp u
theorem set2 {w : World} {g : Nat} {a b x y : Value} (h0 : w.cell? ⟨g, 0, none⟩ = some a) (h1 : w.cell? ⟨g, 1, none⟩ = some b) :
  ((w.setCell ⟨g, 0, none⟩ x).setCell ⟨g, 1, none⟩ y).cell? ⟨g, 0, none⟩ = some x ∧ ((w.setCell ⟨g, 0, none⟩ x).setCell ⟨g, 1, none⟩ y).cell? ⟨g, 1, none⟩ = some y :=
 ⟨(World.cell?_setCell_other _ _ _ _ (by simp)).trans (World.cell?_setCell_same _ _ _ h0), World.cell?_setCell_same _ _ _ ((World.cell?_setCell_other _ _ _ _ (by simp)).trans h1)⟩
end Go.Proofs.Ytcjlidciniiofaa
