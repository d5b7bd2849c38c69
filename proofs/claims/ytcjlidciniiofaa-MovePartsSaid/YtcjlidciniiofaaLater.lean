import Derived.Test.YtcjlidciniiofaaKit2
import Derived.StillTail
import Derived.Deep.Quiet
import Derived.Deep.RegionHeld3
set_option linter.unusedVariables false
namespace Go.Proofs.Ytcjlidciniiofaa
open Go.RowKit
section
variable {P : Program} {md : Region.Mode} {C : World → Prop}
def blocks (md : Region.Mode) (l : List Oper) (n : Nat) : Nat → Nat → Bool
 | 0, i => decide (i = n)
 | f + 1, i => decide (i = n) || (List.range (n + 1)).any fun j => decide (i < j) && Region.waitsFor md l.toArray j i && blocks md l n f j
end
structure Later (W : World) where
 w : World
 kept : Below W.heap.size W w
instance (W : World) : Inhabited (Later W) := ⟨⟨W, Below.refl _ _⟩⟩
theorem later_cell (W : World) : ∀ (x : Later W) (b o : Nat), b < W.heap.size → x.w.cell? ⟨b, o, none⟩ = W.cell? ⟨b, o, none⟩ := fun x b o h => x.kept.cell (p := ⟨b, o, none⟩) h
theorem later_start (W : World) : ∃ y : Later W, { W with drawn := W.drawn + 1 } = y.w := ⟨⟨W.drew, keep_drew (Below.refl _ _)⟩, rfl⟩
theorem wp_region_calm {P : Program} {C : World → Prop} {id : Nat} {Q : Exit → Act → World → Prop} {a : Act} {w : World} {l : List Oper} (hm : P.follows .mixedOrders = true) (hB : Region.lexB .any l.toArray = true) (hC : C { w with drawn := w.drawn + 1 })
  (h : wpQuiet P l.toArray C (fun a' => ∀ w', C w' → Q .normal a' w') l a) : (Code.region id l.toArray true).wp P Q a w :=
 wp_region_quiet hm hB hC (by simpa using h)
theorem later_of {P : Program} {f : FuncId} {args : Array Value} {W : World} {x : Later W} {v : Value} (h : Calls P f args x.w fun e w' => e = .returned v ∧ Below x.w.heap.size x.w w') :
  Calls P f args x.w fun e w' => e = .returned v ∧ ∃ y : Later W, w' = y.w :=
 h.mono fun _ w' ⟨he, hb⟩ => ⟨he, ⟨w', keep_step hb x.kept rfl⟩, rfl⟩
end Go.Proofs.Ytcjlidciniiofaa
