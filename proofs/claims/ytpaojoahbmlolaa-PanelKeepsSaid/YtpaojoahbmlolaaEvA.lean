/- A run over memory of its own: the blocks that a call makes have numbers of their own here, and the order of a statement is the text's. -/
import Derived.Orders
namespace Go.Proofs.Ytpaojoahbmlolaa
open Go
set_option linter.unusedVariables false
set_option linter.unusedSimpArgs false
set_option linter.unnecessarySimpa false

/-- the slots of a call -/
inductive TV where
  | nil
  | node (o : Option Value) (l r : TV)
def TV.get : TV → Nat → Option Value
  | .nil, _ => none
  | .node o l r, k => match Nat.beq k 0 with
    | true => o
    | false => match Nat.beq (Nat.mod k 2) 1 with
      | true => l.get (Nat.div (Nat.sub k 1) 2)
      | false => r.get (Nat.div (Nat.sub k 1) 2)
def TV.set : TV → Nat → Value → TV
  | .nil, _, _ => .nil
  | .node o l r, k, v => match Nat.beq k 0 with
    | true => .node (match o with | some _ => some v | none => none) l r
    | false => match Nat.beq (Nat.mod k 2) 1 with
      | true => .node o (l.set (Nat.div (Nat.sub k 1) 2) v) r
      | false => .node o l (r.set (Nat.div (Nat.sub k 1) 2) v)
/-- so many slots -/
def TV.mk : Nat → Nat → Value → TV
  | 0, _, _ => .nil
  | f + 1, n, v => match Nat.beq n 0 with
    | true => .nil
    | false => .node (some v) (TV.mk f (Nat.div n 2) v) (TV.mk f (Nat.div (Nat.sub n 1) 2) v)
def TV.puts : TV → Nat → List Value → TV
  | t, _, [] => t
  | t, k, v :: l => TV.puts (t.set k v) (Nat.add k 1) l
def TV.at (t : TV) (k : Nat) : Value := match t.get k with
  | some v => v
  | none => undef

/-- a block of the run: gone; a package variable (read only); an object (exact: as many cells as the real one has); the record of a loop over a function; the cells of a list that may grow, and of one that is only read (a list's handle is .complex .f64 BLOCK LENGTH, that of an address in it .complex .f32 BLOCK PLACE) -/
inductive VO where
  | dead
  | glob (c : Array Value) (e : TypeId)
  | live (o : Obj) (exact : Bool)
  | loop (state : LoopState) (pending : Option Code) (tmps : TV) (params : Array Tmp) (assign body : Code) (defers : Nat)
  | row (c : Array Value) (e : TypeId)
  | ro (c : Array Value) (e : TypeId)

/-- blocks by their numbers -/
inductive Tr where
  | nil
  | node (o : Option VO) (l r : Tr)

def Tr.get : Tr → Nat → Option VO
  | .nil, _ => none
  | .node o l r, k => match Nat.beq k 0 with
    | true => o
    | false => match Nat.beq (Nat.mod k 2) 1 with
      | true => l.get (Nat.div (Nat.sub k 1) 2)
      | false => r.get (Nat.div (Nat.sub k 1) 2)

def Tr.val : Tr → Option VO
  | .nil => none
  | .node o _ _ => o
def Tr.left : Tr → Tr
  | .nil => .nil
  | .node _ l _ => l
def Tr.right : Tr → Tr
  | .nil => .nil
  | .node _ _ r => r
def Tr.set : Nat → Tr → Nat → VO → Option Tr
  | 0, _, _, _ => none
  | f + 1, t, k, v => match Nat.beq k 0 with
    | true => some (.node (some v) t.left t.right)
    | false => match Nat.beq (Nat.mod k 2) 1 with
      | true => match Tr.set f t.left (Nat.div (Nat.sub k 1) 2) v with
        | some l => some (.node t.val l t.right)
        | none => none
      | false => match Tr.set f t.right (Nat.div (Nat.sub k 1) 2) v with
        | some r => some (.node t.val t.left r)
        | none => none

/-- a number, reckoned at once -/
def force {α : Type} (n : Nat) (k : Nat → α) : α := match n with
  | 0 => k 0
  | m + 1 => k (m + 1)

/-- memory, the next number, and which blocks have been read and written -/
structure HS where
  heap : Tr
  next : Nat
  rd : Nat
  wr : Nat

def bitOf (k : Nat) : Nat := Nat.shiftLeft 1 k
def HS.read (s : HS) (k : Nat) : HS := force (Nat.lor s.rd (bitOf k)) fun r => { heap := s.heap, next := s.next, rd := r, wr := s.wr }
def HS.put (s : HS) (k : Nat) (v : VO) : Option HS := match Tr.set 64 s.heap k v with
  | some h => force (Nat.lor s.rd (bitOf k)) fun r => force (Nat.lor s.wr (bitOf k)) fun q => some { heap := h, next := s.next, rd := r, wr := q }
  | none => none
def HS.new (s : HS) (v : VO) : Option HS := match Tr.set 64 s.heap s.next v with
  | some h => force (Nat.add s.next 1) fun n => force (Nat.lor s.wr (bitOf s.next)) fun q => some { heap := h, next := n, rd := s.rd, wr := q }
  | none => none

def Obj.isCells : Obj → Bool
  | .cells .. => true
  | _ => false

/-- objects that the run may make or store -/
def Obj.okV : Obj → Bool
  | .map .. | .stringIter .. => true
  | _ => false

/-- which cells a string shares -/
def freezeV (fz : Nat × Nat) (off n : Nat) : Nat × Nat := match Nat.beq n 0 with
  | true => fz
  | false => match Nat.beq fz.1 fz.2 with
    | true => (off, Nat.add off n)
    | false => (Nat.min fz.1 off, Nat.max fz.2 (Nat.add off n))

def frozenV (fz : Nat × Nat) (off : Nat) : Bool := Nat.ble fz.1 off && Nat.blt off fz.2

section
variable {α : Type}

def runV (P : Program) : Sem α → HS → Option (α × HS)
  | .pure a, s => some (a, s)
  | .load _ a k, s => match a.spot with
    | some _ => none
    | none => match s.heap.get a.block with
      | some (.live (.cells c _ _) _) => match c[a.off]? with
        | some v => runV P (k v) (s.read a.block)
        | none => none
      | some (.glob c _) => match c[a.off]? with
        | some v => runV P (k v) (s.read a.block)
        | none => none
      | _ => none
  | .store _ a v k, s => match a.spot with
    | some _ => none
    | none => match s.heap.get a.block with
      | some (.live (.cells c e fz) ex) => match Nat.blt a.off c.size && !frozenV fz a.off with
        | true => match v with
          | .agg _ => none
          | .tuple _ => none
          | v => match s.put a.block (.live (.cells (c.setIfInBounds a.off v) e fz) ex) with
            | some s' => runV P k s'
            | none => none
        | false => none
      | _ => none
  | .new o k, s => match s.new (.live o true) with
    | some s' => runV P (k s.next) s'
    | none => none
  | .getObj r k, s => match s.heap.get r with
    | some (.live (.map es cl) _) => runV P (k (.map es cl)) (s.read r)
    | some (.live (.stringIter b p) _) => runV P (k (.stringIter b p)) (s.read r)
    | some (.live (.deferred d) _) => runV P (k (.deferred d)) (s.read r)
    | _ => none
  | .setObj r o k, s => match s.heap.get r with
    | some (.live (.map es cl) _) => match s.put r (.live o true) with
      | some s' => runV P k s'
      | none => none
    | some (.live (.stringIter b p) _) => match s.put r (.live o true) with
      | some s' => runV P k s'
      | none => none
    | some (.live (.deferred d) _) => match s.put r (.live o true) with
      | some s' => runV P k s'
      | none => none
    | _ => none
  | .choose q k, s => match q.forced with
    | true => runV P (k 0) s
    | false => none
  | .program k, s => runV P (k P) s
  | .mark m k, s => match m with
    | .extern _ => none
    | _ => runV P k s
  | .shape .., _ => none
  | .freeze .., _ => none
  | .frozen .., _ => none
  | .sys .., _ => none
  | .halt _, _ => none
end

def evalV (tmps : TV) : Operand → Value
  | .tmp t => tmps.at t
  | .const v => v
  | .global g => .pointer (some ⟨g, 0, none⟩)
  | .func f => .func (.func f) #[] #[]

/-- no address in it -/
def flatV : Nat → Value → Bool
  | 0, _ => false
  | f + 1, v => match v with
    | .bool _ | .int .. | .string _ | .pointer none | .slice none _ _ | .map none | .nilFunc | .nilIface => true
    | .iface _ x => flatV f x
    | .agg cs => cs.toList.all (flatV f)
    | .tuple cs => cs.toList.all (flatV f)
    | .func fn a b => (match fn with | .yield _ => false | _ => true) && a.toList.all (flatV f) && b.toList.all (flatV f)
    | _ => false
def okOperand (G : Nat) : Operand → Bool
  | .tmp _ => true
  | .const v => flatV 50 v
  | .global g => Nat.blt g G
  | .func _ => true
def flatZ (P : Program) (t : TypeId) : Bool := match P.info? t with
  | some i => match i.zero with
    | some z => flatV 50 z
    | none => true
  | none => true
def elemT (P : Program) (t : TypeId) : TypeId := match P.underlying t with
  | some (.slice e) => e
  | some (.map _ e) => e
  | some (.array _ e) => e
  | _ => 0

/-- a capacity that is not known -/
def inf : Nat := 4611686018427387904
def hasBytes (P : Program) (t : TypeId) : Bool := match P.info? t with
  | some i => Nat.blt 0 i.bytes
  | none => false
def okConv (P : Program) (s d : TypeId) : Bool := match P.underlying s, P.underlying d with
  | some (.int _), some (.int _) => true
  | some .string, some .string => true
  | some (.int _), some .string => true
  | some (.slice _), some .string => true
  | _, _ => false
/-- the operations that are run as they stand -/
def okOp (P : Program) : Op → Bool
  | .move _ | .assign _ | .pick .. | .box .. | .load .. | .store .. | .unOp .. | .makeInterface .. | .fieldAddr .. | .field .. | .indexAddr .. | .index .. | .extract .. => true
  | .alloc e => flatZ P e
  | .makeFunc fn _ _ => match fn with
    | .yield _ => false
    | _ => true
  | .build t _ => flatZ P t
  | .buildSlice t n _ => flatZ P (elemT P t) && Nat.blt n inf
  | .convert s d _ => okConv P s d
  | .makeMap _ _ => true
  | .makeSlice t _ _ => flatZ P (elemT P t) && hasBytes P (elemT P t)
  | .lookup t _ _ _ => flatZ P (elemT P t)
  | .mapUpdate .. | .insert .. | .entryStore .. => true
  | .mapEntry t _ _ => flatZ P (elemT P t)
  | .range t _ => match P.underlying t with
    | some .string => true
    | _ => false
  | .next _ b => b
  | .typeAssert _ _ t _ => flatZ P t
  | .call { callee := .builtin b, argTypes, .. } => match b with
    | .len | .copy | .delete | .min | .max => true
    | .clear => match argTypes[0]? with
      | some t => flatZ P (elemT P t)
      | none => false
    | _ => false
  | _ => false


/-- a bound of a slice expression -/
def natV : Value → Option Nat
  | .int _ (.ofNat n) => some n
  | _ => none
def optV (d : Nat) : Option Value → Option Nat
  | none => some d
  | some v => natV v
/-- s[a:b] and s[a:b:c] of a slice: the bounds within the length -/
def sliceV (P : Program) (t : TypeId) (x : Value) (lo hi mx : Option Value) : Option Value :=
  match P.underlying t, x with
  | some (.slice e), .slice a len cap => match P.info? e with
    | some i =>
      match optV 0 lo, optV len hi, optV cap mx with
      | some l, some h, some m =>
        match Nat.ble l h && Nat.ble h len && Nat.ble h m && Nat.ble m cap && (mx.isNone || (hi.isSome && (Nat.ble m len && Nat.blt m inf))) && (Nat.blt cap inf || (a.isSome && (Nat.blt l len && Nat.blt len inf) && Nat.blt 0 i.size)) with
        | true => some (.slice (match Nat.beq m l with | true => a | false => a.map (·.add (Nat.mul l i.size))) (Nat.sub h l) (match Nat.blt cap inf || mx.isSome with | true => Nat.sub m l | false => cap))
        | false => none
      | _, _, _ => none
    | none => none
  | _, _ => none

def oneV : Value → Bool
  | .agg _ | .tuple _ => false
  | _ => true
/-- n elements from an address on -/
def cellsV (s : HS) (base : Option Addr) (n size : Nat) : Option (List Value × HS) :=
  match base with
  | none => match n with
    | 0 => some ([], s)
    | _ => none
  | some ⟨b, o, none⟩ => match s.heap.get b with
    | some (.live (.cells c _ _) _) => match Nat.ble (Nat.add o (Nat.mul n size)) c.size with
      | true => some ((c.toList.drop o).take (Nat.mul n size), s.read b)
      | false => none
    | _ => none
  | _ => none
/-- what an append appends -/
def srcV (P : Program) (t : TypeId) (x : Value) (size : Nat) (s : HS) : Option (Nat × List Value × HS) :=
  match P.underlying t, x with
  | some (.slice _), .slice base m _ => match cellsV s base m size with
    | some (l, s) => some (m, l, s)
    | none => none
  | some .string, .string b => match Nat.beq size 1 with
    | true => some (b.size, b.data.toList.map fun x => Value.int .u8 x.toNat, s)
    | false => none
  | _, _ => none
def growOk (P : Program) (e : TypeId) (k : Nat) : Bool := match P.info? e with
  | some i => Nat.blt 0 i.size && Nat.blt 0 i.bytes && Nat.blt (Nat.mul k i.bytes) 1000000000 && (match i.zero with | some z => Nat.beq z.cells.size i.size | none => false)
  | none => false
/-- room, for sure -/
def roomK (i : TypeInfo) (base : Option Addr) (n cap m : Nat) (new : List Value) (s : HS) : Option (Value × HS) :=
  match m with
  | 0 => some (.slice base n cap, s)
  | _ => match base with
    | some ⟨b, o, none⟩ => match s.heap.get b with
      | some (.live (.cells c e' (0, 0)) true) => match Nat.ble (Nat.add (Nat.add o (Nat.mul n i.size)) new.length) c.size with
        | true => match s.put b (.live (.cells (c.toList.take (Nat.add o (Nat.mul n i.size)) ++ new ++ c.toList.drop (Nat.add (Nat.add o (Nat.mul n i.size)) new.length)).toArray e' (0, 0)) true) with
          | some s' => some (.slice base (Nat.add n m) cap, s')
          | none => none
        | false => none
      | _ => none
    | _ => none
/-- new memory, for sure -/
def growK (e : TypeId) (i : TypeInfo) (base : Option Addr) (n m : Nat) (new : List Value) (s : HS) : Option (Value × HS) :=
  match cellsV s base n i.size with
  | some (old, s) => match s.new (.live (.cells (old ++ new).toArray e (0, 0)) false) with
    | some s' => some (.slice (some ⟨s.next, 0, none⟩) (Nat.add n m) inf, s')
    | none => none
  | none => none
/-- who knows -/
def doubtK (e : TypeId) (i : TypeInfo) (base : Option Addr) (n m : Nat) (new : List Value) (s : HS) : Option (Value × HS) :=
  match base with
  | some ⟨b, 0, none⟩ => match s.heap.get b with
    | some (.live (.cells c e' (0, 0)) false) => match Nat.beq c.size (Nat.mul n i.size) && Nat.beq e' e with
      | true => match s.put b .dead with
        | some s' => match s'.new (.live (.cells (c.toList ++ new).toArray e (0, 0)) false) with
          | some s'' => some (.slice (some ⟨s'.next, 0, none⟩) (Nat.add n m) inf, s'')
          | none => none
        | none => none
      | false => none
    | _ => none
  | _ => none
/-- room in a row of unknown length -/
def roomR (e : TypeId) (i : TypeInfo) (base : Option Addr) (n m : Nat) (new : List Value) (s : HS) : Option (Value × HS) :=
  match base with
  | some ⟨b, 0, none⟩ => match s.heap.get b with
    | some (.live (.cells c e' (0, 0)) false) => match Nat.blt 0 m && Nat.ble (Nat.mul (Nat.add n m) i.size) c.size && Nat.beq e' e with
      | true => match s.put b (.live (.cells (c.toList.take (Nat.mul n i.size) ++ new ++ c.toList.drop (Nat.add (Nat.mul n i.size) new.length)).toArray e' (0, 0)) false) with
        | some s' => some (.slice base (Nat.add n m) inf, s')
        | none => none
      | false => none
    | _ => none
  | _ => none
/-- append(s, x...) -/
def appendV (P : Program) (t t' : TypeId) (v x : Value) (s : HS) : Option (Value × HS) :=
  match P.underlying t, v with
  | some (.slice e), .slice base n cap => match P.info? e with
    | some i => match srcV P t' x i.size s with
      | some (m, new, s) => match new.all oneV && growOk P e (Nat.add n m) with
        | true => match Nat.blt cap inf with
          | true => match Nat.ble (Nat.add n m) cap with
            | true => roomK i base n cap m new s
            | false => growK e i base n m new s
          | false => match roomR e i base n m new s with
            | some r => some r
            | none => doubtK e i base n m new s
        | false => none
      | none => none
    | none => none
  | _, _ => none

/-- append(nil, make([]T, n)...) -/
def zerosV (P : Program) (t t' : TypeId) (v x : Value) (s : HS) : Option (Value × HS) :=
  match P.underlying t, P.underlying t', v, x with
  | some (.slice e), some (.int _), .slice none 0 0, .int .i64 (.ofNat n) => match P.info? e with
    | some i => match i.zero with
      | some z => match Nat.blt 0 n && growOk P e n && flatV 50 z with
        | true => match s.new (.live (.cells (Builtin.zeroCells z.cells n) e (0, 0)) false) with
          | some s' => some (.slice (some ⟨s.next, 0, none⟩) n inf, s')
          | none => none
        | false => none
      | none => none
    | none => none
  | _, _, _, _ => none

/-- what is compared, and what is reckoned with -/
def isHandle (v : Value) : Bool := match v with
  | .complex _ _ _ => true
  | _ => false
/-- no handle in it -/
def noHv : Nat → Value → Bool
  | 0, _ => false
  | n + 1, v => match v with
    | .complex _ _ _ => false
    | .iface _ x => noHv n x
    | .agg c => c.toList.all (noHv n)
    | _ => true
def okDyn (ρ : Operand → Value) (op : Op) : Bool := match op with
  | .unOp _ _ x => !isHandle (ρ x)
  | .mapUpdate _ _ k _ => noHv 20 (ρ k)
  | .insert _ _ k _ => noHv 20 (ρ k)
  | .mapEntry _ _ k => noHv 20 (ρ k)
  | _ => true
def okBin (op : BinOp) (x y : Value) : Bool := match op with
  | .eql | .neq => !isHandle x && !isHandle y
  | _ => match x, y with
    | .int .., .int .. => true
    | .string _, .string _ => true
    | _, _ => false

/-- may be called -/
def callable (P : Program) (f : FuncId) : Bool := match P.funcs[f]? with
  | some fn => !(fn.name == "runtime.NumGoroutine") && !fn.body.isNone
  | none => false
/-- a slot of which nothing is known -/
def junk : Value := .tuple #[.tuple #[]]
def isJunk (v : Value) : Bool := match v with
  | .tuple a => match a.toList with
    | [x] => match x with
      | .tuple _ => true
      | _ => false
    | _ => false
  | _ => false
structure St where
  tmps : TV
  hs : HS
  defs : List Deferred

/-- how many package variables are known; calls of the program's functions; calls of a loop's yield -/
structure CallV where
  g : Nat
  fn : FuncId → Array Value → HS → Option (Value × HS)
  rnd : Nat → Array Value → HS → Option (Value × HS)

/-- bytes -/
def byteV (v : Value) : Option UInt8 := match v with
  | .int .u8 (.ofNat n) => match Nat.blt n 256 with
    | true => some n.toUInt8
    | false => none
  | _ => none
def bytesV : List Value → Option (List UInt8)
  | [] => some []
  | v :: l => match byteV v with
    | some b => match bytesV l with
      | some m => some (b :: m)
      | none => none
    | none => none
/-- to a raw pointer, and back -/
def uconvV (P : Program) (src dst : TypeId) (x : Value) (hs : HS) : Option (Value × HS) :=
  match P.underlying src, P.underlying dst with
  | some (.pointer t), some .unsafePointer => match x with
    | .pointer none => some (.pointer none, hs)
    | .pointer (some ⟨b, o, none⟩) => match hs.heap.get b with
      | some (.live (.cells c _ _) true) => match P.info? t with
        | some i => match Nat.blt 0 i.size && Nat.blt o c.size with
          | true => some (.pointer (some ⟨b, o, none⟩), hs.read b)
          | false => none
        | none => none
      | _ => none
    | _ => none
  | some .unsafePointer, some (.pointer u) => match x with
    | .pointer none => some (.pointer none, hs)
    | .pointer (some ⟨b, o, none⟩) => match hs.heap.get b with
      | some (.live (.cells c e _) true) => match P.info? u with
        | some i => match Nat.blt 0 i.size && liesAt P P.depth e (Nat.div c.size (P.cellsOf e)) o u 1 with
          | true => some (.pointer (some ⟨b, o, none⟩), hs.read b)
          | false => none
        | none => none
      | _ => none
    | _ => none
  | _, _ => none
/-- a string to a slice of bytes or runes -/
def s2bV (P : Program) (src dst : TypeId) (x : Value) (hs : HS) : Option (Value × HS) :=
  match P.underlying src, P.underlying dst with
  | some .string, some (.slice e) => match x with
    | .string b => match P.underlying e, P.info? e with
      | some (.int .u8), some i => match Nat.beq i.size 1 && Nat.blt b.size inf with
        | true => match hs.new (.live (.cells (b.data.map fun x => Value.int .u8 x.toNat) e (inf, inf)) false) with
          | some hs' => some (.slice (some ⟨hs.next, 0, none⟩) b.size inf, hs')
          | none => none
        | false => none
      | some (.int .i32), some i => match Nat.beq i.size 1 && Nat.blt (Conv.runesFrom b b.size 0 #[]).size inf with
        | true => match hs.new (.live (.cells (Conv.runesFrom b b.size 0 #[]) e (0, 0)) false) with
          | some hs' => some (.slice (some ⟨hs.next, 0, none⟩) (Conv.runesFrom b b.size 0 #[]).size inf, hs')
          | none => none
        | false => none
      | _, _ => none
    | _ => none
  | _, _ => none
/-- a string of given bytes, without a copy -/
def ustrV (P : Program) (pt : TypeId) (x y : Value) (hs : HS) : Option (Value × HS) :=
  match P.underlying pt with
  | some (.pointer e) => match y with
    | .int .i64 (.ofNat n) => match Nat.beq n 0 with
      | true => match x with
        | .pointer _ => some (.string .empty, hs)
        | _ => none
      | false => match x with
        | .pointer (some ⟨b, 0, none⟩) => match hs.heap.get b with
          | some (.live (.cells c e' fz) ex) => match Nat.beq e' e && Nat.beq (P.cellsOf e) 1 && Nat.ble n c.size && Nat.blt n 1000000000 && Nat.blt fz.1 inf with
            | true => match bytesV (c.toList.take n) with
              | some l => match hs.put b (.live (.cells c e' (freezeV fz 0 n)) ex) with
                | some hs' => some (.string ⟨l.toArray⟩, hs')
                | none => none
              | none => none
            | false => none
          | _ => none
        | _ => none
    | _ => none
  | _ => none
/-- the first byte of a slice -/
def udataV (x : Value) : Option Value := match x with
  | .slice none _ _ => some (.pointer none)
  | .slice (some a) l c => match Nat.blt 0 l || (Nat.blt 0 c && Nat.blt c inf) with
    | true => some (.pointer (some a))
    | false => none
  | _ => none
/-- what needs no memory -/
def pureN (P : Program) : Sem Next → Option Value
  | .pure n => match n with
    | .value v => some v
    | _ => none
  | .program k => pureN P (k P)
  | .mark _ k => pureN P k
  | _ => none
/-- a function without a body -/
def extV (P : Program) (g : FuncId) (args : Array Value) (hs : HS) : Option (Value × HS) :=
  match P.funcs[g]? with
  | some fn => match fn.body with
    | some _ => none
    | none => match fn.name == "internal/abi.NoEscape" && fn.origin == "" with
      | true => match args.toList with
        | [x] => some (x, hs)
        | _ => none
      | false => match args.toList.all (flatV 20) with
        | true => match pureN P (callFunc g args) with
          | some v => match flatV 20 v with
            | true => some (v, hs)
            | false => none
          | none => none
        | false => none
  | none => none
/-- a method behind an interface value -/
def methodV (P : Program) (t : TypeId) (name : String) : Option FuncId := match P.info? t with
  | some i => match i.methods.find? (·.name == name) with
    | some m => match m.path.isEmpty with
      | true => match m.func with
        | some (f, pt) => match P.underlying t with
          | some (.pointer _) => match pt with
            | true => some f
            | false => none
          | some _ => match pt with
            | false => some f
            | true => none
          | none => none
        | none => none
      | false => none
    | none => none
  | none => none
def slowV (P : Program) (call : CallV) (o : Oper) (s : St) : Option (Value × HS) :=
  match o.op.operands.toList.all (okOperand call.g) with
  | false => none
  | true => match o.op with
    | .slice t x lo hi mx => match P.underlying t with
      | some (.slice _) => match sliceV P t (evalV s.tmps x) (lo.map (evalV s.tmps)) (hi.map (evalV s.tmps)) (mx.map (evalV s.tmps)) with
        | some v => some (v, s.hs)
        | none => none
      | some .string => match runV P (execOp (evalV s.tmps) o) s.hs with
        | some (.value v, hs) => some (v, hs)
        | _ => none
      | some (.array n _) => match Nat.blt n inf with
        | true => match runV P (execOp (evalV s.tmps) o) s.hs with
          | some (.value v, hs) => some (v, hs)
          | _ => none
        | false => none
      | _ => none
    | .call { callee := .builtin .append, args, argTypes } => match argTypes[0]?, argTypes[1]?, args[0]?, args[1]? with
      | some t, some t', some a, some b => match Nat.beq args.size 2 && Nat.beq argTypes.size 2 with
        | true => match appendV P t t' (evalV s.tmps a) (evalV s.tmps b) s.hs with
          | some r => some r
          | none => zerosV P t t' (evalV s.tmps a) (evalV s.tmps b) s.hs
        | false => none
      | _, _, _, _ => none
    | .binOp op _ x y _ => match okBin op (evalV s.tmps x) (evalV s.tmps y) with
      | true => match runV P (execOp (evalV s.tmps) o) s.hs with
        | some (.value v, hs) => some (v, hs)
        | _ => none
      | false => none
    | .nilCheck x => match evalV s.tmps x with
      | .pointer (some a) => some (.pointer (some a), s.hs)
      | .func (.func g) a b => some (.func (.func g) a b, s.hs)
      | .func (.yield l) a b => some (.func (.yield l) a b, s.hs)
      | _ => none
    | .call { callee := .value f, args, .. } => match evalV s.tmps f with
      | .func (.func g) a b => match runV P (execOp (evalV s.tmps) o) s.hs with
        | some (.enter f args, hs) => call.fn f args hs
        | _ => extV P g ((a ++ args.map (evalV s.tmps)) ++ b) s.hs
      | .func (.yield l) _ _ => call.rnd l (args.map (evalV s.tmps)) s.hs
      | _ => none
    | .convert src dst x => match okConv P src dst with
      | true => match runV P (execOp (evalV s.tmps) o) s.hs with
        | some (.value v, hs) => some (v, hs)
        | _ => none
      | false => match uconvV P src dst (evalV s.tmps x) s.hs with
        | some r => some r
        | none => s2bV P src dst (evalV s.tmps x) s.hs
    | .call { callee := .invoke recv name, args, .. } => match evalV s.tmps recv with
      | .iface t v => match methodV P t name with
        | some f => match callable P f with
          | true => call.fn f (#[v] ++ args.map (evalV s.tmps)) s.hs
          | false => none
        | none => none
      | _ => none
    | .call { callee := .builtin .unsafeString, args, argTypes } => match argTypes[0]?, args[0]?, args[1]? with
      | some t, some a, some b => match Nat.beq args.size 2 && Nat.beq argTypes.size 2 with
        | true => ustrV P t (evalV s.tmps a) (evalV s.tmps b) s.hs
        | false => none
      | _, _, _ => none
    | .call { callee := .builtin .cap, args, argTypes } => match argTypes[0]?, args[0]? with
      | some t, some a => match P.underlying t, evalV s.tmps a with
        | some (.slice _), .slice _ _ c => match Nat.blt c inf with
          | true => some (.int .i64 (.ofNat c), s.hs)
          | false => none
        | _, _ => none
      | _, _ => none
    | .call { callee := .builtin .unsafeSliceData, args, .. } => match args[0]? with
      | some a => match Nat.beq args.size 1 with
        | true => match udataV (evalV s.tmps a) with
          | some v => some (v, s.hs)
          | none => none
        | false => none
      | none => none
    | op => match okOp P op && okDyn (evalV s.tmps) op with
      | false => none
      | true => match runV P (execOp (evalV s.tmps) o) s.hs with
        | some (.value v, hs) => some (v, hs)
        | some (.skip, hs) => some (undef, hs)
        | _ => none

/-- the most frequent ones, the short way -/
def intV (op : BinOp) (k : IntKind) (a b : Int) : Option Value :=
  match op with
  | .add => some (.int k (k.wrap (a + b)))
  | .sub => some (.int k (k.wrap (a - b)))
  | .mul => some (.int k (k.wrap (a * b)))
  | .eql => some (.bool (a == b))
  | .neq => some (.bool (a != b))
  | .lss => some (.bool (decide (a < b)))
  | .leq => some (.bool (decide (a ≤ b)))
  | .gtr => some (.bool (decide (a > b)))
  | .geq => some (.bool (decide (a ≥ b)))
  | _ => none
def sameKind (a b : IntKind) : Bool := match a, b with
  | .i8, .i8 | .i16, .i16 | .i32, .i32 | .i64, .i64 | .u8, .u8 | .u16, .u16 | .u32, .u32 | .u64, .u64 => true
  | _, _ => false
/-- a type of one cell -/
def oneT (P : Program) (t : TypeId) : Bool := match P.underlying t with
  | some (.struct _) => false
  | some (.array _ _) => false
  | some _ => true
  | none => false
def cellV (s : HS) (b o : Nat) : Option Value := match s.heap.get b with
  | some (.live (.cells c _ _) _) => c[o]?
  | _ => none
/-- where a field lies -/
def fieldV (P : Program) (t : TypeId) (i : Nat) : Option Nat := match P.underlying t with
  | some (.struct fs) => match fs[i]? with
    | some f => match P.info? f.type with
      | some j => match Nat.beq j.size 0 with
        | true => none
        | false => some f.offset
      | none => none
    | none => none
  | _ => none
def fastV (P : Program) (call : CallV) (o : Oper) (s : St) : Option (Value × HS) :=
  match o.op with
  | .move x => some (evalV s.tmps x, s.hs)
  | .assign x => some (evalV s.tmps x, s.hs)
  | .pick c a b => match evalV s.tmps c with
    | .bool true => some (evalV s.tmps a, s.hs)
    | .bool false => some (evalV s.tmps b, s.hs)
    | _ => none
  | .binOp op _ x y _ => match evalV s.tmps x, evalV s.tmps y with
    | .int k a, .int k' b => match sameKind k k' with
      | true => match intV op k a b with
        | some v => some (v, s.hs)
        | none => none
      | false => none
    | _, _ => none
  | .extract x i => match evalV s.tmps x with
    | .tuple vs => match vs[i]? with
      | some v => some (v, s.hs)
      | none => none
    | _ => none
  | .load t x => match oneT P t with
    | true => match evalV s.tmps x with
      | .pointer (some ⟨b, o, none⟩) => match cellV s.hs b o with
        | some v => some (v, s.hs.read b)
        | none => none
      | _ => none
    | false => none
  | .nilCheck x => match evalV s.tmps x with
    | .pointer (some a) => some (.pointer (some a), s.hs)
    | .func (.func g) a b => some (.func (.func g) a b, s.hs)
    | _ => none
  | .fieldAddr t x i => match fieldV P t i with
    | some off => match evalV s.tmps x with
      | .pointer (some a) => some (.pointer (some (a.add off)), s.hs)
      | _ => none
    | none => none
  | .call { callee := .value f, args, .. } => match evalV s.tmps f with
    | .func (.func g) a b => match callable P g with
      | true => call.fn g ((a ++ args.map (evalV s.tmps)) ++ b) s.hs
      | false => none
    | _ => none
  | _ => none
/-! lists whose cells are known by their block -/
/-- a cell of a list: no address in it -/
def okC (v : Value) : Bool := oneV v && flatV 50 v
/-- the cells; whether it may grow -/
def listC (s : HS) (b : Nat) : Option (Array Value × TypeId × Bool) := match s.heap.get b with
  | some (.row c e) => some (c, e, true)
  | some (.ro c e) => some (c, e, false)
  | _ => none
/-- n cells from a place on -/
def segC (c : Array Value) (o n : Nat) : Option (List Value) := match Nat.ble (Nat.add o n) c.size with
  | true => some ((c.toList.drop o).take n)
  | false => none
def readC (s : HS) (b o n : Nat) : Option (List Value × HS) := match listC s b with
  | some (c, _, _) => match segC c o n with
    | some l => some (l, s.read b)
    | none => none
  | none => none
def aggT (P : Program) (t : TypeId) : Option Bool := match P.underlying t with
  | some (.struct _) => some true
  | some (.array _ _) => some true
  | some _ => some false
  | none => none
def loadC (P : Program) (t : TypeId) (b o : Nat) (s : HS) : Option (Value × HS) := match aggT P t with
  | some false => match readC s b o 1 with
    | some ([v], s) => some (v, s)
    | _ => none
  | some true => match P.info? t with
    | some i => match readC s b o i.size with
      | some (l, s) => some (.agg ⟨l⟩, s)
      | none => none
    | none => none
  | none => none
/-- where an element begins -/
def indexC (P : Program) (t : TypeId) (b n : Nat) (z : Int) : Option Value := match P.underlying t with
  | some (.slice e) => match P.info? e with
    | some i => match decide (0 ≤ z) && decide (z < (n : Int)) with
      | true => some (.complex .f32 b (Nat.mul z.toNat i.size))
      | false => none
    | none => none
  | _ => none
/-- other cells from a place on -/
def spliceC (c : Array Value) (o : Nat) (l : List Value) : Array Value := (c.toList.take o ++ l ++ c.toList.drop (Nat.add o l.length)).toArray
def storeC (P : Program) (t : TypeId) (b o : Nat) (v : Value) (s : HS) : Option (Value × HS) := match P.info? t with
  | some i => match Nat.beq v.cells.size i.size && v.cells.toList.all okC with
    | true => match s.heap.get b with
      | some (.row c e) => match Nat.ble (Nat.add o i.size) c.size with
        | true => match s.put b (.row (spliceC c o v.cells.toList) e) with
          | some s => some (undef, s)
          | none => none
        | false => none
      | _ => none
    | false => none
  | none => none
/-- what is appended -/
def srcC (P : Program) (t : TypeId) (x : Value) (size : Nat) (s : HS) : Option (Nat × List Value × HS) := match x with
  | .complex .f64 b m => match P.underlying t with
    | some (.slice _) => match readC s b 0 (Nat.mul m size) with
      | some (l, s) => some (m, l, s)
      | none => none
    | _ => none
  | x => match srcV P t x size s with
    | some (m, l, s) => match l.all okC with
      | true => some (m, l, s)
      | false => none
    | none => none
def appendC (P : Program) (t t' : TypeId) (v x : Value) (s : HS) : Option (Value × HS) := match P.underlying t with
  | some (.slice e) => match P.info? e with
    | some i => match srcC P t' x i.size s with
      | some (m, new, s) => match v with
        | .complex .f64 b n => match s.heap.get b with
          | some (.row c e') => match growOk P e (Nat.add n m) && (Nat.beq c.size (Nat.mul n i.size) && Nat.beq e' e) with
            | true => match s.put b .dead with
              | some s => match s.new (.row (c.toList ++ new).toArray e) with
                | some s' => some (.complex .f64 s.next (Nat.add n m), s')
                | none => none
              | none => none
            | false => none
          | _ => none
        | .slice _ 0 0 => match growOk P e m && isHandle x with
          | true => match s.new (.row new.toArray e) with
            | some s' => some (.complex .f64 s.next m, s')
            | none => none
          | false => none
        | _ => none
      | none => none
    | none => none
  | _ => none
/-- a bound of a part -/
def boundC (d : Nat) : Option Value → Option Int
  | none => some d
  | some (.int _ z) => some z
  | _ => none
def sliceC (P : Program) (t : TypeId) (b n : Nat) (lo hi : Option Value) (s : HS) : Option (Value × HS) := match P.underlying t with
  | some (.slice e) => match P.info? e with
    | some i => match boundC 0 lo, boundC n hi with
      | some l, some h => match decide (0 ≤ l) && (decide (l ≤ h) && decide (h ≤ (n : Int))) with
        | true => match listC s b with
          | some (c, e', grows) => match Nat.beq c.size (Nat.mul n i.size) && Nat.blt 0 i.size with
            | true => match (match grows with | true => s.put b (.ro c e') | false => some (s.read b)) with
              | some s => match s.new (.ro ((c.toList.drop (Nat.mul l.toNat i.size)).take (Nat.mul (Nat.sub h.toNat l.toNat) i.size)).toArray e') with
                | some s' => some (.complex .f64 s.next (Nat.sub h.toNat l.toNat), s')
                | none => none
              | none => none
            | false => none
          | none => none
        | false => none
      | _, _ => none
    | none => none
  | _ => none
def rowV (P : Program) (o : Oper) (s : St) : Option (Value × HS) := match o.op with
  | .call { callee := .builtin .len, args, argTypes } => match argTypes[0]?, args[0]? with
    | some t, some a => match P.underlying t, evalV s.tmps a with
      | some (.slice _), .complex .f64 _ n => some (.int .i64 (n : Int), s.hs)
      | _, _ => none
    | _, _ => none
  | .indexAddr t x ix => match evalV s.tmps x, evalV s.tmps ix with
    | .complex .f64 b n, .int _ z => match indexC P t b n z with
      | some v => some (v, s.hs)
      | none => none
    | _, _ => none
  | .load t x => match evalV s.tmps x with
    | .complex .f32 b o => loadC P t b o s.hs
    | _ => none
  | .nilCheck x => match evalV s.tmps x with
    | .complex .f32 b o => some (.complex .f32 b o, s.hs)
    | _ => none
  | .fieldAddr t x i => match fieldV P t i with
    | some off => match evalV s.tmps x with
      | .complex .f32 b o => some (.complex .f32 b (Nat.add o off), s.hs)
      | _ => none
    | none => none
  | .store t x y => match evalV s.tmps x with
    | .complex .f32 b o => storeC P t b o (evalV s.tmps y) s.hs
    | _ => none
  | .call { callee := .builtin .append, args, argTypes } => match argTypes[0]?, argTypes[1]?, args[0]?, args[1]? with
    | some t, some t', some a, some b => match Nat.beq args.size 2 && Nat.beq argTypes.size 2 with
      | true => appendC P t t' (evalV s.tmps a) (evalV s.tmps b) s.hs
      | false => none
    | _, _, _, _ => none
  | .slice t x lo hi none => match evalV s.tmps x with
    | .complex .f64 b n => sliceC P t b n (lo.map (evalV s.tmps)) (hi.map (evalV s.tmps)) s.hs
    | _ => none
  | _ => none
def operV (P : Program) (call : CallV) (o : Oper) (s : St) : Option (Value × HS) :=
  match o.op.operands.toList.all (okOperand call.g) with
  | false => none
  | true => match fastV P call o s with
    | some r => some r
    | none => match rowV P o s with
      | some r => some r
      | none => slowV P call o s

def putT (tmps : TV) (dst : Option Tmp) (v : Value) : TV :=
  match dst with
  | some d => tmps.set d v
  | none => tmps

def yieldedT (ops : Array Oper) (tmps : TV) (j : Nat) : Option Bool :=
  match ops[j]? with
  | some o => match o.dst with
    | some d => match tmps.get d with
      | some (.bool b) => some b
      | _ => none
    | none => none
  | none => none
def stepV (P : Program) (call : CallV) (ops : Array Oper) (i : Nat) (s : St) : Option St :=
  match ops[i]? with
  | none => none
  | some o => match Region.wanted o (yieldedT ops s.tmps) with
    | true => match operV P call o s with
      | some (v, hs) => some ⟨putT s.tmps o.dst v, hs, s.defs⟩
      | none => none
    | false => some ⟨putT s.tmps o.dst undef, s.hs, s.defs⟩
def isDefer : Op → Bool
  | .defer _ => true
  | _ => false
/-- a call put off -/
def deferV (call : CallV) (o : Oper) (s : St) : Option St :=
  match o.op.operands.toList.all (okOperand call.g) with
  | false => none
  | true => match o.op with
    | .defer { callee := .value f, args, .. } => match evalV s.tmps f with
      | .func (.func g) a b => some ⟨putT s.tmps o.dst undef, s.hs, { target := .fn (.func g) b, args := a ++ args.map (evalV s.tmps) } :: s.defs⟩
      | _ => none
    | _ => none
/-- one operation, in a round of the loop ro or in none -/
def stepD (P : Program) (call : CallV) (ro : Option Nat) (ops : Array Oper) (i : Nat) (s : St) : Option St :=
  match ops[i]? with
  | none => none
  | some o => match isDefer o.op with
    | false => stepV P call ops i s
    | true => match ro with
      | some _ => none
      | none => match Region.wanted o (yieldedT ops s.tmps) with
        | true => deferV call o s
        | false => none

/-- what an operation reads is known -/
def okJ (ops : Array Oper) (i : Nat) (t : TV) : Bool := match ops[i]? with
  | none => true
  | some o => (match o.guard with
    | none => true
    | some (j, _) => match ops[j]? with
      | none => true
      | some x => match x.dst with
        | none => true
        | some d => !isJunk (t.at d)) && (o.op.operands.toList.all (fun x => !isJunk (evalV t x)) || !Region.wanted o (yieldedT ops t))
def runOps (P : Program) (call : CallV) (ro : Option Nat) (ops : Array Oper) : List Nat → St → Option St
  | [], s => some s
  | i :: l, s => match okJ ops i s.tmps with
    | false => none
    | true => match stepD P call ro ops i s with
      | some s' => runOps P call ro ops l s'
      | none => none

def ancStep (l : List Nat) (s : Nat) (e : Edge) : Nat := match Region.binds .any e with
  | true => Nat.lor s (Nat.lor (bitOf e.on) (l.getD e.on 0))
  | false => s
/-- what an operation waits for, all of it -/
def ancs (ops : Array Oper) : Nat → Nat → Option (List Nat)
  | 0, _ => some []
  | n + 1, _ => match ancs ops n 0 with
    | some l => match ops[n]? with
      | some o => match o.after.toList.all fun e => !Region.binds .any e || Nat.blt e.on n with
        | true => some (l ++ [o.after.toList.foldl (ancStep l) 0])
        | false => none
      | none => none
    | none => none

/-- i before j in the text: one waits for the other, or their slots don't meet -/
def statOk (ops : Array Oper) (anc : List Nat) : Bool :=
  (List.range ops.size).all fun j => (List.range j).all fun i => Nat.testBit (anc.getD j 0) i || (match ops[i]?, ops[j]? with
   | some x, some y => x.apart ops y
   | _, _ => false)
def ancOf (ops : Array Oper) : Option (List Nat) := match ancs ops ops.size 0 with
  | some anc => match statOk ops anc with
    | true => some anc
    | false => none
  | none => none
/-- those that read or write, with their numbers -/
def busy : Nat → List (Nat × Nat) → List (Nat × Nat × Nat)
  | _, [] => []
  | k, (r, w) :: l => match Nat.beq (Nat.lor r w) 0 with
    | true => busy (Nat.add k 1) l
    | false => (k, r, w) :: busy (Nat.add k 1) l
def dynOk (anc : List Nat) : List (Nat × Nat × Nat) → Bool
  | [] => true
  | (i, r, w) :: l => (l.all fun x => Nat.testBit (anc.getD x.1 0) i || (Nat.beq (Nat.land w (Nat.lor x.2.1 x.2.2)) 0 && Nat.beq (Nat.land x.2.2 r) 0)) && dynOk anc l

/-- one after another, with the marks of each -/
def runMarks (P : Program) (call : CallV) (ops : Array Oper) : List Nat → St → List (Nat × Nat) → Option (St × List (Nat × Nat))
  | [], s, m => some (s, m)
  | i :: l, s, m => match okJ ops i s.tmps with
    | false => none
    | true => match stepV P call ops i { s with hs := { s.hs with rd := 0, wr := 0 } } with
      | some s' => runMarks P call ops l s' (m ++ [(s'.hs.rd, s'.hs.wr)])
      | none => none

def drawV (P : Program) (call : CallV) (ops : Array Oper) (s : St) : Option St :=
  match ancOf ops with
  | some anc => match runMarks P call ops (List.range ops.size) s [] with
    | some (s', m) => match dynOk anc (busy 0 m) with
      | true => some ⟨s'.tmps, { s'.hs with rd := m.foldl (fun r x => Nat.lor r x.1) s.hs.rd, wr := m.foldl (fun r x => Nat.lor r x.2) s.hs.wr }, s.defs⟩
      | false => none
    | none => none
  | none => none

/-- flat values, equal -/
def eqI : Int → Int → Bool
  | .ofNat a, .ofNat b => Nat.beq a b
  | .negSucc a, .negSucc b => Nat.beq a b
  | _, _ => false
def eqB : List UInt8 → List UInt8 → Bool
  | [], [] => true
  | a :: l, b :: m => Nat.beq a.toNat b.toNat && eqB l m
  | _, _ => false
def eqL (f : Value → Value → Bool) : List Value → List Value → Bool
  | [], [] => true
  | a :: l, b :: m => f a b && eqL f l m
  | _, _ => false
/-! the orders of a region, all of them -/
def ordersR (ops : Array Oper) : Nat → Array Bool → List Nat → List (List Nat)
  | 0, _, acc => [acc.reverse]
  | f + 1, listed, acc => match Region.ready .any ops listed with
    | [] => [acc.reverse]
    | l => l.flatMap fun i => ordersR ops f (listed.setIfInBounds i true) (i :: acc)
def eqN (a b : Option Nat) : Bool := match a, b with
  | some a, some b => Nat.beq a b
  | none, none => true
  | _, _ => false
def eqAddr (a b : Option Addr) : Bool := match a, b with
  | some a, some b => Nat.beq a.block b.block && Nat.beq a.off b.off && eqN a.spot b.spot
  | none, none => true
  | _, _ => false
def eqFn (a b : Fn) : Bool := match a, b with
  | .func f, .func g => Nat.beq f g
  | .yield f, .yield g => Nat.beq f g
  | _, _ => false
/-- values, equal -/
def eqW : Nat → Value → Value → Bool
  | 0, _, _ => false
  | n + 1, a, b => match a, b with
    | .int k x, .int k' y => sameKind k k' && eqI x y
    | .bool x, .bool y => (match x, y with | true, true => true | false, false => true | _, _ => false)
    | .string x, .string y => eqB x.data.toList y.data.toList
    | .pointer x, .pointer y => eqAddr x y
    | .slice x l c, .slice y l' c' => eqAddr x y && Nat.beq l l' && Nat.beq c c'
    | .map x, .map y => eqN x y
    | .nilFunc, .nilFunc => true
    | .nilIface, .nilIface => true
    | .iface t x, .iface t' y => Nat.beq t t' && eqW n x y
    | .func f x y, .func f' x' y' => eqFn f f' && eqL (eqW n) x.toList x'.toList && eqL (eqW n) y.toList y'.toList
    | .agg x, .agg y => eqL (eqW n) x.toList y.toList
    | .tuple x, .tuple y => eqL (eqW n) x.toList y.toList
    | _, _ => false
def eqTV : TV → TV → Bool
  | .nil, .nil => true
  | .node o l r, .node o' l' r' => (match o, o' with
    | some a, some b => eqW 20 a b
    | none, none => true
    | _, _ => false) && eqTV l l' && eqTV r r'
  | _, _ => false
def eqEs : List MapEntry → List MapEntry → Bool
  | [], [] => true
  | a :: l, b :: m => eqW 20 a.key b.key && eqW 20 a.val b.val && Nat.beq a.born b.born && eqEs l m
  | _, _ => false
def eqBool (a b : Bool) : Bool := match a, b with
  | true, true => true
  | false, false => true
  | _, _ => false
/-- blocks, equal -/
def eqVO (a b : Option VO) : Bool := match a, b with
  | some (.live (.cells c e f) x), some (.live (.cells c' e' f') x') => eqL (eqW 20) c.toList c'.toList && Nat.beq e e' && Nat.beq f.1 f'.1 && Nat.beq f.2 f'.2 && eqBool x x'
  | some (.live (.map es c) x), some (.live (.map es' c') x') => eqEs es.toList es'.toList && Nat.beq c c' && eqBool x x'
  | some .dead, some .dead => true
  | none, none => true
  | _, _ => false
def eqSt (s t : St) : Bool := Nat.beq s.hs.next t.hs.next && Nat.beq s.hs.rd t.hs.rd && Nat.beq s.hs.wr t.hs.wr && eqTV s.tmps t.tmps &&
  (List.range s.hs.next).all fun k => match Nat.testBit s.hs.wr k with
    | true => eqVO (s.hs.heap.get k) (t.hs.heap.get k)
    | false => true
/-- a region in each of its orders -/
def drawAll (P : Program) (call : CallV) (ro : Option Nat) (ops : Array Oper) (s : St) : Option St :=
  match Nat.blt ops.size 12 && ops.toList.all (fun o => !isDefer o.op) with
  | false => none
  | true => match ordersR ops ops.size (Array.replicate ops.size false) [] with
    | [] => none
    | l :: ls => match runOps P call ro ops l { s with hs := { s.hs with rd := 0, wr := 0 } } with
      | none => none
      | some s1 => match ls.all (fun m => match runOps P call ro ops m { s with hs := { s.hs with rd := 0, wr := 0 } } with
          | some s2 => eqSt s1 s2
          | none => false) with
        | true => some ⟨s1.tmps, { s1.hs with rd := Nat.lor s.hs.rd s1.hs.rd, wr := Nat.lor s.hs.wr s1.hs.wr }, s.defs⟩
        | false => none

inductive VX where
  | normal
  | exit (id : Nat)
  | ret

def resultsT (fn : Func) (tmps : TV) : Sem Value := do
  let vs ← fn.results.toList.mapM fun
    | .tmp t => pure (tmps.at t)
    | .cell a t => do loadVar t (← asAddr (tmps.at a))
  match vs with
  | [v] => pure v
  | vs => pure (.tuple vs.toArray)
def resOk (t : TV) : ResultVar → Bool
  | .tmp k => !isJunk (t.at k)
  | .cell a _ => !isJunk (t.at a)
/-- the results, if they are known -/
def resultsV (P : Program) (fn : Func) (t : TV) (hs : HS) : Option (Value × HS) := match fn.results.toList.all (resOk t) with
  | true => runV P (resultsT fn t) hs
  | false => none
def startT (args : Array Value) (n : Nat) : TV := TV.puts (TV.mk 30 (Nat.max args.size n) undef) 0 args.toList
/-- what a function does, and how it is left -/
abbrev EvV := Option Nat → Code → St → Option (VX × St)
/-- a call that was put off -/
def lateWith (P : Program) (ev : EvV) (f : FuncId) (args : Array Value) (hs : HS) : Option (Value × HS) :=
  match P.funcs[f]? with
  | some fn => match fn.body with
    | some c => match Nat.blt (Nat.max args.size fn.ntmps) 1000000 with
      | true => match ev none c ⟨startT args fn.ntmps, hs, []⟩ with
        | some (.normal, s) => match s.defs with
          | [] => resultsV P fn s.tmps s.hs
          | _ => none
        | some (.ret, s) => match s.defs with
          | [] => resultsV P fn s.tmps s.hs
          | _ => none
        | _ => none
      | false => none
    | none => none
  | none => none
/-- the calls that were put off -/
def leaveV (P : Program) (ev : EvV) : List Deferred → HS → Option HS
  | [], hs => some hs
  | d :: ds, hs => match d.target with
    | .collected r => match runV P (Instr.takeDeferred r) hs with
      | some ([], hs') => leaveV P ev ds hs'
      | _ => none
    | .fn (.func g) cap => match callable P g with
      | true => match lateWith P ev g (d.args ++ cap) hs with
        | some (_, hs') => leaveV P ev ds hs'
        | none => none
      | false => none
    | _ => none
def callWith (P : Program) (ev : EvV) : FuncId → Array Value → HS → Option (Value × HS) := fun f args hs =>
  match P.funcs[f]? with
  | some fn => match fn.body with
    | some c => match Nat.blt (Nat.max args.size fn.ntmps) 1000000 with
      | true => match ev none c ⟨startT args fn.ntmps, hs, []⟩ with
        | some (.normal, s) => match leaveV P ev s.defs s.hs with
          | some hs' => resultsV P fn s.tmps hs'
          | none => none
        | some (.ret, s) => match leaveV P ev s.defs s.hs with
          | some hs' => resultsV P fn s.tmps hs'
          | none => none
        | _ => none
      | false => none
    | none => none
  | none => none

/-! a loop over a function: its record, its rounds -/
def enterV (ro : Option Nat) (t : TV) (ps : Array Tmp) (assign body : Code) (hs : HS) : Option (Nat × List Deferred × HS) :=
  match ro with
  | none => match hs.new (.live (.deferred (some [])) true) with
    | some hs1 => match hs1.new (.loop .ready none t ps assign body hs.next) with
      | some hs2 => some (hs1.next, [{ target := .collected hs.next, args := #[] }], hs2)
      | none => none
    | none => none
  | some l0 => match hs.heap.get l0 with
    | some (.loop _ _ _ _ _ _ d) => match (hs.read l0).new (.loop .ready none t ps assign body d) with
      | some hs2 => some (hs.next, [], hs2)
      | none => none
    | _ => none
/-- the record's state and its jump -/
def markLoop (l : Nat) (ok : LoopState → Bool) (st : LoopState) (jump : Option (Option Code)) (hs : HS) : Option HS :=
  match hs.heap.get l with
  | some (.loop st0 pe t ps asg bd d) => match ok st0 with
    | true => hs.put l (.loop st (match jump with | some j => j | none => pe) t ps asg bd d)
    | false => none
  | _ => none
def isReady : LoopState → Bool
  | .ready => true
  | _ => false
def notBusy : LoopState → Bool
  | .busy => false
  | _ => true
def anyState : LoopState → Bool := fun _ => true
def TV.sets (t : TV) : List Tmp → List Value → TV
  | p :: ps, v :: vs => TV.sets (t.set p v) ps vs
  | _, _ => t
def roundWith (P : Program) (ev : EvV) : Nat → Array Value → HS → Option (Value × HS) := fun l args hs =>
  match hs.heap.get l with
  | some (.loop _ _ t ps asg bd _) => match Nat.beq args.size ps.size with
    | false => none
    | true => match ev (some l) asg ⟨t.sets ps.toList args.toList, hs.read l, []⟩ with
      | some (.normal, s1) => match markLoop l isReady .busy none s1.hs with
        | some hs2 => match ev (some l) bd ⟨s1.tmps, hs2, s1.defs⟩ with
          | some (.normal, s3) => match markLoop l anyState .ready (some none) s3.hs with
            | some hs4 => some (.bool true, hs4)
            | none => none
          | some (.exit id, s3) => match markLoop l anyState .done (some (some (.exit id))) s3.hs with
            | some hs4 => some (.bool false, hs4)
            | none => none
          | some (.ret, s3) => match markLoop l anyState .done (some (some .ret)) s3.hs with
            | some hs4 => some (.bool false, hs4)
            | none => none
          | none => none
        | none => none
      | _ => none
  | _ => none
/-- the jump that a round has left -/
def pendV (l : Nat) (hs : HS) : Option VX := match hs.heap.get l with
  | some (.loop _ pe _ _ _ _ _) => match pe with
    | none => some .normal
    | some .ret => some .ret
    | some (.exit id) => some (.exit id)
    | _ => none
  | _ => none
/-- what is known of calls, and of loops -/
structure Hook where
  call : CallV → CallV
  loop : Option Nat → Code → St → Option (VX × St)
def noLoops : Option Nat → Code → St → Option (VX × St) := fun _ _ _ => none
def evC (P : Program) (G : Nat) (W : Hook) : Nat → EvV
  | 0, _, _, _ => none
  | f + 1, ro, c, s => match c with
    | .skip => some (.normal, s)
    | .label _ => some (.normal, s)
    | .region _ ops false => match runOps P (W.call ⟨G, callWith P (evC P G W f), roundWith P (evC P G W f)⟩) ro ops (List.range ops.size) s with
      | some s' => some (.normal, s')
      | none => none
    | .region _ ops true => match drawV P (W.call ⟨G, callWith P (evC P G W f), roundWith P (evC P G W f)⟩) ops s with
      | some s' => some (.normal, s')
      | none => match drawAll P (W.call ⟨G, callWith P (evC P G W f), roundWith P (evC P G W f)⟩) ro ops s with
        | some s' => some (.normal, s')
        | none => none
    | .seq a b => match evC P G W f ro a s with
      | some (.normal, s') => evC P G W f ro b s'
      | r => r
    | .cond c a b => match evalV s.tmps c with
      | .bool true => evC P G W f ro a s
      | .bool false => evC P G W f ro b s
      | _ => none
    | .block id a => match evC P G W f ro a s with
      | some (.exit i, s') => match Nat.beq i id with
        | true => some (.normal, s')
        | false => some (.exit i, s')
      | r => r
    | .loop a => match W.loop ro a s with
      | some r => some r
      | none => match evC P G W f ro a s with
        | some (.normal, s') => evC P G W f ro (.loop a) s'
        | r => r
    | .exit id => some (.exit id, s)
    | .scope a => evC P G W f ro a s
    | .ret => some (.ret, s)
    | .rangeFunc g ps asg bd => match okOperand G g with
      | false => none
      | true => match evalV s.tmps g with
        | .func (.func gf) a b => match callable P gf with
          | false => none
          | true => match enterV ro s.tmps ps asg bd s.hs with
            | some (l, mk, hs1) => match (W.call ⟨G, callWith P (evC P G W f), roundWith P (evC P G W f)⟩).fn gf ((a ++ #[.func (.yield l) #[] #[]]) ++ b) hs1 with
              | some (_, hs2) => match pendV l hs2 with
                | some x => match markLoop l notBusy .exhausted none hs2 with
                  | some hs3 => some (x, ⟨s.tmps, hs3, mk ++ s.defs⟩)
                  | none => none
                | none => none
              | none => none
            | none => none
        | _ => none
    | _ => none

/-- the package variables that are known, at the start -/
abbrev Vars := List (Option (Array Value × TypeId))
def varV : Option (Array Value × TypeId) → VO
  | some (c, e) => .glob c e
  | none => .dead
def layV : Vars → Nat → Tr → Option Tr
  | [], _, t => some t
  | x :: l, k, t => match Tr.set 64 t k (varV x) with
    | some t' => layV l (Nat.add k 1) t'
    | none => none
def startH (L : Vars) : Option HS := match layV L 0 .nil with
  | some t => force L.length fun n => some ⟨t, n, 0, 0⟩
  | none => none
def eqV : Nat → Value → Value → Bool
  | 0, _, _ => false
  | n + 1, a, b => match a, b with
    | .int k x, .int k' y => sameKind k k' && eqI x y
    | .bool x, .bool y => (match x, y with | true, true => true | false, false => true | _, _ => false)
    | .string x, .string y => eqB x.data.toList y.data.toList
    | .agg x, .agg y => eqL (eqV n) x.toList y.toList
    | .tuple x, .tuple y => eqL (eqV n) x.toList y.toList
    | _, _ => false
/-- calls that are known -/
abbrev Tab := FuncId → List Value → Option Value
def Tab.none : Tab := fun _ _ => Option.none
def Tab.put (f : FuncId) (args : List Value) (v : Value) (T : Tab) : Tab := fun g xs => match Nat.beq f g && eqL (eqV 20) args xs with
  | true => some v
  | false => T g xs
def Tab.fn (f : FuncId) (k : List Value → Option Value) (T : Tab) : Tab := fun g xs => match Nat.beq f g with
  | true => k xs
  | false => T g xs
def callF (T : Tab) (k : FuncId → Array Value → HS → Option (Value × HS)) : FuncId → Array Value → HS → Option (Value × HS) := fun f args hs => match T f args.toList with
  | some v => some (v, hs)
  | none => k f args hs
def callT (T : Tab) (call : CallV) : CallV := ⟨call.g, callF T call.fn, call.rnd⟩
/-- flat variables -/
def flatL (L : Vars) : Bool := L.all fun x => match x with
  | some (c, _) => c.toList.all (flatV 50)
  | none => true
/-- a call without memory of its own -/
def resV (P : Program) (L : Vars) (T : Tab) (fuel : Nat) (f : FuncId) (args : List Value) (v : Value) : Bool :=
  match startH L with
  | some hs => match callWith P (evC P L.length ⟨callT T, noLoops⟩ fuel) f args.toArray hs with
    | some (r, _) => eqV 20 r v && (args.all (flatV 20) && flatV 20 v && flatL L)
    | none => false
  | none => false
/-! numbers anew: those below n stay, others by a list (old, new) -/
def lookB : List (Nat × Nat) → Nat → Option Nat
  | [], _ => none
  | (o, n) :: l, b => match Nat.beq o b with
    | true => some n
    | false => lookB l b
def renB (n : Nat) (ρ : List (Nat × Nat)) (b : Nat) : Option Nat := match Nat.blt b n with
  | true => some b
  | false => lookB ρ b
def renL (f : Value → Option Value) : List Value → Option (List Value)
  | [] => some []
  | v :: l => match f v with
    | some u => match renL f l with
      | some m => some (u :: m)
      | none => none
    | none => none
def renV (n : Nat) (ρ : List (Nat × Nat)) : Nat → Value → Option Value
  | 0, _ => none
  | d + 1, v => match v with
    | .bool b => some (.bool b)
    | .int k z => some (.int k z)
    | .string b => some (.string b)
    | .pointer none => some (.pointer none)
    | .pointer (some ⟨b, o, p⟩) => match renB n ρ b with
      | some b' => some (.pointer (some ⟨b', o, p⟩))
      | none => none
    | .slice none l c => some (.slice none l c)
    | .slice (some ⟨b, o, p⟩) l c => match renB n ρ b with
      | some b' => some (.slice (some ⟨b', o, p⟩) l c)
      | none => none
    | .complex .f64 b m => match renB n ρ b with
      | some b' => some (.complex .f64 b' m)
      | none => none
    | .complex .f32 b m => match renB n ρ b with
      | some b' => some (.complex .f32 b' m)
      | none => none
    | .map none => some (.map none)
    | .map (some r) => match renB n ρ r with
      | some r' => some (.map (some r'))
      | none => none
    | .nilFunc => some .nilFunc
    | .nilIface => some .nilIface
    | .iface t x => match renV n ρ d x with
      | some y => some (.iface t y)
      | none => none
    | .agg ⟨l⟩ => match renL (renV n ρ d) l with
      | some m => some (.agg ⟨m⟩)
      | none => none
    | .tuple ⟨l⟩ => match renL (renV n ρ d) l with
      | some m => some (.tuple ⟨m⟩)
      | none => none
    | .func (.yield l) ⟨a⟩ ⟨b⟩ => match a, b with
      | [], [] => match renB n ρ l with
        | some l' => some (.func (.yield l') ⟨[]⟩ ⟨[]⟩)
        | none => none
      | _, _ => none
    | .func (.func g) ⟨a⟩ ⟨b⟩ => match renL (renV n ρ d) a, renL (renV n ρ d) b with
      | some a', some b' => some (.func (.func g) ⟨a'⟩ ⟨b'⟩)
      | _, _ => none
    | _ => none
end Go.Proofs.Ytpaojoahbmlolaa
