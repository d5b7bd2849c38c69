/- Calls with lists: what goes in, and what comes out. -/
import Derived.Test.YtpaojoahbmlolaaEvS
namespace Go.Proofs.Ytpaojoahbmlolaa
open Go Go.RowKit
set_option linter.unusedSectionVars false
set_option linter.unusedVariables false
set_option linter.unusedSimpArgs false
set_option linter.unnecessarySimpa false

/-- what goes into a call: a value without addresses; a list, its cells and its length; a struct with lists in it -/
inductive D where
  | val (v : Value)
  | list (c : Array Value) (n : Nat)
  | agg (l : List D)
/-- lists that come out, by their numbers: their cells, and the type of their elements -/
abbrev Outs := List (Array Value × TypeId)

def embL (f : D → HS → Option (Value × HS)) : List D → HS → Option (List Value × HS)
  | [], s => some ([], s)
  | d :: l, s => match f d s with
    | some (v, s') => match embL f l s' with
      | some (vs, s'') => some (v :: vs, s'')
      | none => none
    | none => none
def embD : Nat → D → HS → Option (Value × HS)
  | 0, _, _ => none
  | f + 1, d, s => match d with
    | .val v => match flatV 20 v with
      | true => some (v, s)
      | false => none
    | .list c n => match s.new (.ro c 0) with
      | some s' => some (.complex .f64 s.next n, s')
      | none => none
    | .agg l => match embL (embD f) l s with
      | some (l', s') => some (.agg ⟨l'⟩, s')
      | none => none
/-- what a value in memory is, as it goes into a call -/
def isListV (v : Value) : Bool := match v with
  | .slice .. => true
  | .complex .. => true
  | _ => false
def rdL (f : HS → Value → Option (D × HS)) : List Value → HS → Option (List D × HS)
  | [], s => some ([], s)
  | v :: l, s => match f s v with
    | some (d, s') => match rdL f l s' with
      | some (ds, s'') => some (d :: ds, s'')
      | none => none
    | none => none
def rdD : Nat → HS → Value → Option (D × HS)
  | 0, _, _ => none
  | f + 1, s, v => match v with
    | .complex .f64 b n => match listC s b with
      | some (c, _, _) => some (.list c n, s.read b)
      | none => none
    | .slice none 0 0 => some (.list #[] 0, s)
    | .agg ⟨l⟩ => match l.any isListV with
      | true => match rdL (rdD f) l s with
        | some (ds, s') => some (.agg ds, s')
        | none => none
      | false => match flatV 20 (.agg ⟨l⟩) with
        | true => some (.val (.agg ⟨l⟩), s)
        | false => none
    | v => match flatV 20 v with
      | true => some (.val v, s)
      | false => none
/-- new lists -/
def putR : Outs → HS → Option HS
  | [], s => some s
  | (c, e) :: l, s => match s.new (.row c e) with
    | some s' => putR l s'
    | none => none
def rhoR (nx : Nat) : Nat → List (Nat × Nat)
  | 0 => []
  | k + 1 => rhoR nx k ++ [(k, Nat.add nx k)]
abbrev TabD := FuncId → List D → Option (Value × Outs)
def callD (T : TabD) (k : FuncId → Array Value → HS → Option (Value × HS)) : FuncId → Array Value → HS → Option (Value × HS) := fun f args hs => match rdL (rdD 20) args.toList hs with
  | some (ds, hs1) => match T f ds with
    | some (v, bs) => match putR bs hs1, renV 0 (rhoR hs1.next bs.length) 20 v with
      | some hs2, some v' => some (v', hs2)
      | _, _ => k f args hs
    | none => k f args hs
  | none => k f args hs
/-- a list as it is handed back: its cells, its length, and its block -/
def asRowV (P : Program) (s : HS) (e : TypeId) (v : Value) : Option (Array Value × Nat × Option Nat) := match v with
  | .slice none 0 0 => some (#[], 0, none)
  | .complex .f64 b n => match s.heap.get b with
    | some (.row c e') => match Nat.beq e' e with
      | true => some (c, n, some b)
      | false => none
    | _ => none
  | .slice (some ⟨b, 0, none⟩) n cap => match s.heap.get b, P.info? e with
    | some (.live (.cells c e' (0, 0)) true), some i => match Nat.beq e' e && (Nat.blt cap inf && Nat.beq c.size (Nat.mul cap i.size)) && (Nat.beq n cap && (c.toList.all okC && Nat.blt 0 c.size)) with
      | true => some (c, n, some b)
      | false => none
    | some (.live (.cells c e' (0, 0)) false), some i => match Nat.beq e' e && (Nat.ble inf cap && Nat.beq c.size (Nat.mul n i.size)) && (c.toList.all okC && Nat.blt 0 c.size) with
      | true => some (c, n, some b)
      | false => none
    | _, _ => none
  | _ => none
structure Pk where
  es : List TypeId
  bs : Outs
  us : List (Option Nat)
def hasU (us : List (Option Nat)) (b : Nat) : Bool := us.any fun u => match u with
  | some a => Nat.beq a b
  | none => false
def packL (f : Value → Pk → Option (Value × Pk)) : List Value → Pk → Option (List Value × Pk)
  | [], p => some ([], p)
  | v :: l, p => match f v p with
    | some (u, p') => match packL f l p' with
      | some (us, p'') => some (u :: us, p'')
      | none => none
    | none => none
def packV (P : Program) (s : HS) : Nat → Value → Pk → Option (Value × Pk)
  | 0, _, _ => none
  | f + 1, v, p => match v with
    | .agg ⟨l⟩ => match packL (packV P s f) l p with
      | some (l', p') => some (.agg ⟨l'⟩, p')
      | none => none
    | .tuple ⟨l⟩ => match packL (packV P s f) l p with
      | some (l', p') => some (.tuple ⟨l'⟩, p')
      | none => none
    | v => match isListV v with
      | true => match p.es with
        | e :: es => match asRowV P s e v with
          | some (c, n, none) => some (.complex .f64 p.bs.length n, ⟨es, p.bs ++ [(c, e)], p.us ++ [none]⟩)
          | some (c, n, some b) => match hasU p.us b with
            | true => none
            | false => some (.complex .f64 p.bs.length n, ⟨es, p.bs ++ [(c, e)], p.us ++ [some b]⟩)
          | none => none
        | [] => none
      | false => match flatV 20 v with
        | true => some (v, p)
        | false => none
end Go.Proofs.Ytpaojoahbmlolaa
