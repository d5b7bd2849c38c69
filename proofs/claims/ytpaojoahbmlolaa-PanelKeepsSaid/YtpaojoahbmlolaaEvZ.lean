/- Loops whose rounds make blocks: behind each round the blocks are numbered anew, and what is out of reach is forgotten. -/
import Derived.Test.YtpaojoahbmlolaaEvY
namespace Go.Proofs.Ytpaojoahbmlolaa
open Go Go.RowKit
set_option linter.unusedVariables false
set_option linter.unusedSimpArgs false
set_option linter.unnecessarySimpa false

def renT (f : Value → Option Value) : TV → Option TV
  | .nil => some .nil
  | .node o l r => match (match o with | none => some none | some v => (match f v with | some u => some (some u) | none => none)) with
    | some o' => match renT f l, renT f r with
      | some l', some r' => some (.node o' l' r')
      | _, _ => none
    | none => none
def renE (f : Value → Option Value) : List MapEntry → Option (List MapEntry)
  | [] => some []
  | e :: l => match f e.key, f e.val, renE f l with
    | some k, some v, some m => some ({ e with key := k, val := v } :: m)
    | _, _, _ => none
def renO (n : Nat) (ρ : List (Nat × Nat)) : VO → Option VO
  | .live (.cells ⟨l⟩ e fz) ex => match renL (renV n ρ 20) l with
    | some m => some (.live (.cells ⟨m⟩ e fz) ex)
    | none => none
  | .live (.map ⟨l⟩ cl) ex => match renE (renV n ρ 20) l with
    | some m => some (.live (.map ⟨m⟩ cl) ex)
    | none => none
  | .live (.stringIter b p) ex => some (.live (.stringIter b p) ex)
  | .live (.deferred d) ex => some (.live (.deferred d) ex)
  | .loop st pe t ps asg bd d => match renT (renV n ρ 20) t, renB n ρ d with
    | some t', some d' => some (.loop st pe t' ps asg bd d')
    | _, _ => none
  | .dead => some .dead
  | .row c e => some (.row c e)
  | .ro c e => some (.ro c e)
  | _ => none
def renDs (n : Nat) (ρ : List (Nat × Nat)) : List Deferred → Option (List Deferred)
  | [] => some []
  | d :: l => match renDs n ρ l with
    | none => none
    | some m => match d.target with
      | .collected r => match renB n ρ r, d.args.toList with
        | some r', [] => some ({ target := .collected r', args := #[] } :: m)
        | _, _ => none
      | .fn (.func g) c => match renL (renV n ρ 20) c.toList, renL (renV n ρ 20) d.args.toList with
        | some c', some a' => some ({ target := .fn (.func g) ⟨c'⟩, args := ⟨a'⟩ } :: m)
        | _, _ => none
      | _ => none
/-- a node, if it holds anything -/
def Tr.nd (o : Option VO) (l r : Tr) : Tr := match o with
  | some v => .node (some v) l r
  | none => match l with
    | .node a b c => .node none (.node a b c) r
    | .nil => match r with
      | .node a b c => .node none .nil (.node a b c)
      | .nil => .nil
def Tr.del : Tr → Nat → Tr
  | .nil, _ => .nil
  | .node o l r, k => match Nat.beq k 0 with
    | true => Tr.nd none l r
    | false => match Nat.beq (Nat.mod k 2) 1 with
      | true => Tr.nd o (l.del (Nat.div (Nat.sub k 1) 2)) r
      | false => Tr.nd o l (r.del (Nat.div (Nat.sub k 1) 2))
def Tr.dels : Nat → Nat → Tr → Tr
  | 0, _, t => t
  | k + 1, b, t => Tr.dels k (Nat.add b 1) (t.del b)
def setAll (f : Nat → Option VO) : List Nat → Tr → Option Tr
  | [], t => some t
  | j :: l, t => match f j with
    | some v => match Tr.set 64 t j v with
      | some t' => setAll f l t'
      | none => none
    | none => none
def backB : List (Nat × Nat) → Nat → Option Nat
  | [], _ => none
  | (o, n) :: l, b => match Nat.beq n b with
    | true => some o
    | false => backB l b
/-- the marks of the numbers from n to before m -/
def winM (n m : Nat) : Nat := Nat.sub (bitOf m) (bitOf n)
/-- numbered anew from n to before m; slots forgotten; the next number; more marks -/
def canonS (n m : Nat) (ρ : List (Nat × Nat)) (js : List Nat) (nx : Nat) (xr xw : Nat) (s : St) : Option St :=
  match renT (renV n ρ 20) (s.tmps.upds (js.map fun k => (k, junk))), renDs n ρ s.defs with
  | some t, some ds =>
    match setAll (fun j => match s.hs.heap.get j with | some v => renO n ρ v | none => none) ((List.range n).filter fun j => Nat.testBit s.hs.wr j && (s.hs.heap.get j).isSome) (Tr.dels (Nat.sub s.hs.next n) n s.hs.heap) with
    | some h1 => match setAll (fun j => match backB ρ j with | some o => (match s.hs.heap.get o with | some v => renO n ρ v | none => none) | none => none) (ρ.map (·.2)) h1 with
      | some h2 => force (Nat.lor (Nat.mod (Nat.lor s.hs.rd (Nat.lor xr xw)) (bitOf n)) (winM n m)) fun rd => force (Nat.lor (Nat.mod (Nat.lor s.hs.wr xw) (bitOf n)) (winM n m)) fun wr => some ⟨t, ⟨h2, nx, rd, wr⟩, ds⟩
      | none => none
    | none => none
  | _, _ => none
/-- the list is in order: old numbers and new ones from n on, no new one twice, below nx; nx below m; no marks from m on -/
def canonOk (n m : Nat) (ρ : List (Nat × Nat)) (nx : Nat) (s : St) : Bool :=
  Nat.ble n nx && Nat.ble nx m && Nat.ble s.hs.next m && ρ.all (fun p => Nat.ble n p.1 && Nat.blt p.1 s.hs.next && Nat.ble n p.2 && Nat.blt p.2 nx) && (List.range ρ.length).all (fun i => (List.range i).all fun j => !(Nat.beq (ρ.getD i (0, 0)).1 (ρ.getD j (0, 0)).1) && !(Nat.beq (ρ.getD i (0, 0)).2 (ρ.getD j (0, 0)).2)) &&
  Nat.blt s.hs.rd (bitOf m) && Nat.blt s.hs.wr (bitOf m)
end Go.Proofs.Ytpaojoahbmlolaa
