/- The run with open numbers: what can't be decided is answered, and the answers are written down. -/
import Derived.Test.YtpaojoahbmlolaaEvS3
namespace Go.Proofs.Ytpaojoahbmlolaa
open Go
set_option linter.unusedVariables false
set_option linter.unusedSimpArgs false
set_option linter.unnecessarySimpa false
set_option linter.constructorNameAsVariable false

/-- a thing that is asked about: nothing is seen of it -/
inductive Box (β : Type) where
  | mk (v : β)
  | no
theorem box_ex {β : Type} (b : Box β) : ∃ c : Box β, c = b := ⟨b, rfl⟩
noncomputable def hidB {β : Type} (b : Box β) : Box β := Classical.choose (box_ex b)
theorem hidB_eq {β : Type} (b : Box β) : hidB b = b := Classical.choose_spec (box_ex b)
/-- an answer: 0 no, 1 yes, or a number; how a loop ends; here to stop -/
inductive Ans where
  | b (z : Int)
  | loop (x : VX) (s : St)
  | vals (l : List Value)
  | arr (c : Array Value)
  | outs (v : Value) (bs : Outs)
  | yes
  | stop
/-- what is asked where a run stops -/
inductive Stop where
  | vals (x : Option (List Value))
  | arr (c : Array Value)
  | fact (b : Bool)
  | call (f : FuncId) (ds : List D)
/-- how many questions there were; the answers to come, to which question; what was answered -/
structure Qs where
  n : Nat
  ans : List (Nat × Ans)
  log : List Prop

/-- equal values of a type, without a way out before the end -/
def partS (P : Program) (t : TypeId) (cs : Array Value) (off : Nat) : Option Value := match P.underlying t, P.info? t with
  | some (.struct _), some i => some (.agg (cs.extract off (Nat.add off i.size)))
  | some (.array _ _), some i => some (.agg (cs.extract off (Nat.add off i.size)))
  | some _, _ => cs[off]?
  | none, _ => none
def eqFs (P : Program) (eq : TypeId → Value → Value → Option Bool) (xs ys : Array Value) : List Field → Option Bool
  | [] => some true
  | f :: l => match f.name == "_" with
    | true => none
    | false => match partS P f.type xs f.offset, partS P f.type ys f.offset with
      | some a, some b => match eq f.type a b with
        | some e => match l with
          | [] => some e
          | _ => match eqFs P eq xs ys l with
            | some r => some (e && r)
            | none => none
        | none => none
      | _, _ => none
def eqS (P : Program) : Nat → TypeId → Value → Value → Option Bool
  | 0, _, _, _ => none
  | d + 1, t, x, y => match P.underlying t, x, y with
    | some .bool, .bool a, .bool b => some (a == b)
    | some (.int _), .int k a, .int k' b => match sameKind k k' with
      | true => some (a == b)
      | false => none
    | some .string, .string a, .string b => some (a == b)
    | some (.struct fs), .agg xs, .agg ys => match P.stoodInHeld t with
      | true => none
      | false => eqFs P (eqS P d) xs ys fs.toList
    | _, _, _ => none
def noCall (g : Nat) : CallV := ⟨g, fun _ _ _ => none, fun _ _ _ => none⟩
def isEq : BinOp → Option Bool
  | .eql => some false
  | .neq => some true
  | _ => none
def isAgg2 : Value → Value → Bool
  | .agg _, .agg _ => true
  | _, _ => false
/-- a quotient, or a rest -/
def isDiv : BinOp → Option Bool
  | .quo => some true
  | .rem => some false
  | _ => none
/-- a shift: to the left? -/
def isShl : BinOp → Option Bool
  | .shl => some true
  | .shr => some false
  | _ => none
def setC (t : TV) (c : Operand) (r : Bool) : TV := match c with
  | .tmp d => t.set d (.bool r)
  | _ => t
/-- a slot that has been asked -/
def settle (s : St) (t : Tmp) (r : Bool) : St := ⟨s.tmps.set t (.bool r), s.hs, s.defs⟩

noncomputable section
variable {α : Type}
def ask (q : Qs) (b : Bool) (k : Bool → Qs → Option α) : Option α := match q.ans with
  | [] => force (Nat.add q.n 1) fun n => match b with
    | true => k true ⟨n, [], q.log⟩
    | false => k false ⟨n, [], q.log⟩
  | (i, p) :: l => match Nat.beq i q.n with
    | true => match p with
      | .b (.ofNat 0) => force (Nat.add q.n 1) fun n => k false ⟨n, l, (b = false) :: q.log⟩
      | .b _ => force (Nat.add q.n 1) fun n => k true ⟨n, l, (b = true) :: q.log⟩
      | _ => none
    | false => force (Nat.add q.n 1) fun n => match b with
      | true => k true ⟨n, (i, p) :: l, q.log⟩
      | false => k false ⟨n, (i, p) :: l, q.log⟩
def askI (q : Qs) (z : Int) (k : Int → Qs → Option α) : Option α := match q.ans with
  | [] => force (Nat.add q.n 1) fun n => k z ⟨n, [], q.log⟩
  | (i, p) :: l => match Nat.beq i q.n with
    | true => match p with
      | .b p => force (Nat.add q.n 1) fun n => k p ⟨n, l, (z = p) :: q.log⟩
      | _ => none
    | false => force (Nat.add q.n 1) fun n => k z ⟨n, (i, p) :: l, q.log⟩

/-- some cells of a list -/
def askL (st : Stop → Option α) (q : Qs) (x : Option (List Value)) (k : List Value → Qs → Option α) : Option α := match q.ans with
  | [] => force (Nat.add q.n 1) fun n => match x with
    | some l => k l ⟨n, [], q.log⟩
    | none => none
  | (i, p) :: l => match Nat.beq i q.n with
    | true => match p with
      | .vals v => force (Nat.add q.n 1) fun n => k v ⟨n, l, (x = some v) :: q.log⟩
      | .stop => st (.vals x)
      | _ => none
    | false => force (Nat.add q.n 1) fun n => match x with
      | some v => k v ⟨n, (i, p) :: l, q.log⟩
      | none => none
/-- all cells of a list, another way -/
noncomputable def askA (st : Stop → Option α) (q : Qs) (c : Array Value) (k : Array Value → Qs → Option α) : Option α := match q.ans with
  | [] => force (Nat.add q.n 1) fun n => match hidB (.mk c) with
    | .mk d => k d ⟨n, [], q.log⟩
    | .no => none
  | (i, p) :: l => match Nat.beq i q.n with
    | true => match p with
      | .arr d => force (Nat.add q.n 1) fun n => k d ⟨n, l, (c = d) :: q.log⟩
      | .stop => st (.arr c)
      | _ => none
    | false => force (Nat.add q.n 1) fun n => match hidB (.mk c) with
      | .mk d => k d ⟨n, (i, p) :: l, q.log⟩
      | .no => none
/-- what has to be so -/
noncomputable def askF (st : Stop → Option α) (q : Qs) (b : Bool) (k : Qs → Option α) : Option α := match q.ans with
  | [] => force (Nat.add q.n 1) fun n => match hidB (.mk b) with
    | .mk true => k ⟨n, [], q.log⟩
    | .mk false => none
    | .no => none
  | (i, p) :: l => match Nat.beq i q.n with
    | true => match p with
      | .yes => force (Nat.add q.n 1) fun n => k ⟨n, l, (b = true) :: q.log⟩
      | .stop => st (.fact b)
      | _ => none
    | false => force (Nat.add q.n 1) fun n => match hidB (.mk b) with
      | .mk true => k ⟨n, (i, p) :: l, q.log⟩
      | .mk false => none
      | .no => none
/-- a call with lists -/
noncomputable def askD (st : Stop → Option α) (q : Qs) (f : FuncId) (ds : List D) (x : Option (Value × Outs)) (k : Value → Outs → Qs → Option α) : Option α := match q.ans with
  | [] => force (Nat.add q.n 1) fun n => match hidB (.mk x) with
    | .mk (some (v, bs)) => k v bs ⟨n, [], q.log⟩
    | .mk none => st (.call f ds)
    | .no => none
  | (i, p) :: l => match Nat.beq i q.n with
    | true => match p with
      | .outs v bs => force (Nat.add q.n 1) fun n => k v bs ⟨n, l, (x = some (v, bs)) :: q.log⟩
      | _ => st (.call f ds)
    | false => force (Nat.add q.n 1) fun n => match hidB (.mk x) with
      | .mk (some (v, bs)) => k v bs ⟨n, (i, p) :: l, q.log⟩
      | .mk none => st (.call f ds)
      | .no => none

structure CallO (α : Type) where
  st : Stop → Option α
  g : Nat
  fn : FuncId → Array Value → HS → Qs → (Value → HS → Qs → Option α) → Option α
  rnd : Nat → Array Value → HS → Qs → (Value → HS → Qs → Option α) → Option α
/-- what stays as it is -/
def plainO (P : Program) (g : Nat) (o : Oper) (s : St) (q : Qs) (k : Value → HS → TV → Qs → Option α) : Option α :=
  match operV P (noCall g) o s with
  | some (v, hs) => k v hs s.tmps q
  | none => none
def operO (P : Program) (call : CallO α) (o : Oper) (s : St) (q : Qs) (k : Value → HS → TV → Qs → Option α) : Option α :=
  match o.op.operands.toList.all (okOperand call.g) with
  | false => none
  | true => match o.op with
    | .pick c a b => match evalV s.tmps c with
      | .bool x => ask q x fun r q => match r with
        | true => k (evalV s.tmps a) s.hs (setC s.tmps c true) q
        | false => k (evalV s.tmps b) s.hs (setC s.tmps c false) q
      | _ => none
    | .call { callee := .value f, args, .. } => match evalV s.tmps f with
      | .func (.func g) a b => match callable P g with
        | true => call.fn g ((a ++ args.map (evalV s.tmps)) ++ b) s.hs q fun v hs q => k v hs s.tmps q
        | false => plainO P call.g o s q k
      | .func (.yield l) _ _ => call.rnd l (args.map (evalV s.tmps)) s.hs q fun v hs q => k v hs s.tmps q
      | _ => none
    | .call { callee := .invoke recv name, args, .. } => match evalV s.tmps recv with
      | .iface t v => match methodV P t name with
        | some f => match callable P f with
          | true => call.fn f (#[v] ++ args.map (evalV s.tmps)) s.hs q fun v hs q => k v hs s.tmps q
          | false => none
        | none => none
      | _ => none
    | .binOp op t x y _ => match isEq op, isAgg2 (evalV s.tmps x) (evalV s.tmps y) with
      | some neg, true => match eqS P Op.maxDepth t (evalV s.tmps x) (evalV s.tmps y), P.eqGuardType P.depth t with
        | some b, false => k (.bool (cond neg (!b) b)) s.hs s.tmps q
        | _, _ => none
      | _, _ => match isDiv op, evalV s.tmps x, evalV s.tmps y with
        | some dv, .int kd a, .int kd' b => match sameKind kd kd' with
          | true => ask q (b == 0) fun r q => match r with
            | true => none
            | false => match dv with
              | true => k (.int kd (kd.wrap (a.tdiv b))) s.hs s.tmps q
              | false => k (.int kd (a.tmod b)) s.hs s.tmps q
          | false => none
        | _, _, _ => match isShl op, evalV s.tmps x, evalV s.tmps y with
          | some left, .int kd a, .int _ b => ask q (decide (b < 0)) fun r q => match r with
            | true => none
            | false => match left with
              | true => k (.int kd (kd.wrap (a * 2 ^ min b.toNat kd.bits))) s.hs s.tmps q
              | false => k (.int kd (a.fdiv (2 ^ min b.toNat kd.bits))) s.hs s.tmps q
          | _, _, _ => plainO P call.g o s q k
    | .indexAddr t x ix => match evalV s.tmps ix with
      | .int kd z => askI q z fun z q => plainO P call.g { o with op := .indexAddr t x (.const (.int kd z)) } s q k
      | _ => plainO P call.g o s q k
    | .index t x ix => match evalV s.tmps ix with
      | .int kd z => askI q z fun z q => plainO P call.g { o with op := .index t x (.const (.int kd z)) } s q k
      | _ => plainO P call.g o s q k
    | _ => plainO P call.g o s q k
/-! lists known by their block -/
def growS (P : Program) (e : TypeId) : Option Nat := match P.info? e with
  | some i => match Nat.blt 0 i.size && Nat.blt 0 i.bytes && (match i.zero with | some z => Nat.beq z.cells.size i.size | none => false) with
    | true => some i.bytes
    | false => none
  | none => none
def growO (P : Program) (e : TypeId) (n : Nat) (q : Qs) (k : Qs → Option α) : Option α := match growS P e with
  | some b => ask q (decide (n * b < 1000000000)) fun r q => match r with
    | true => k q
    | false => none
  | none => none
def isSl (v : Value) : Bool := match v with
  | .complex .f64 _ _ => true
  | _ => false
def isPt (v : Value) : Bool := match v with
  | .complex .f32 _ _ => true
  | _ => false
/-- an operation on a list that asks -/
def rowQ (o : Oper) (s : St) : Bool := match o.op with
  | .indexAddr _ x _ => isSl (evalV s.tmps x)
  | .load _ x => isPt (evalV s.tmps x)
  | .store _ x _ => isPt (evalV s.tmps x)
  | .slice _ x _ _ none => isSl (evalV s.tmps x)
  | .call { callee := .builtin .append, args, .. } => match args[0]?, args[1]? with
    | some a, some b => isSl (evalV s.tmps a) || isSl (evalV s.tmps b)
    | _, _ => false
  | _ => false
def loadCO (P : Program) (st : Stop → Option α) (t : TypeId) (b o : Nat) (s : HS) (q : Qs) (k : Value → HS → Qs → Option α) : Option α := match listC s b with
  | some (c, _, _) => match aggT P t with
    | some false => askL st q (segC c o 1) fun l q => match l with
      | [v] => k v (s.read b) q
      | _ => none
    | some true => match P.info? t with
      | some i => askL st q (segC c o i.size) fun l q => k (.agg ⟨l⟩) (s.read b) q
      | none => none
    | none => none
  | none => none
def indexCO (P : Program) (t : TypeId) (b n : Nat) (z : Int) (q : Qs) (k : Value → Qs → Option α) : Option α := match P.underlying t with
  | some (.slice e) => match P.info? e with
    | some i => ask q (decide (0 ≤ z)) fun r q => match r with
      | true => ask q (decide (z < (n : Int))) fun r q => match r with
        | true => k (.complex .f32 b (Nat.mul z.toNat i.size)) q
        | false => none
      | false => none
    | none => none
  | _ => none
def storeCO (P : Program) (st : Stop → Option α) (t : TypeId) (b o : Nat) (v : Value) (s : HS) (q : Qs) (k : Value → HS → Qs → Option α) : Option α := match P.info? t with
  | some i => match Nat.beq v.cells.size i.size && v.cells.toList.all okC with
    | true => match s.heap.get b with
      | some (.row c e) => askF st q (Nat.ble (Nat.add o i.size) c.size) fun q => askA st q (spliceC c o v.cells.toList) fun c q => match s.put b (.row c e) with
        | some s => k undef s q
        | none => none
      | _ => none
    | false => none
  | none => none
def srcCO (P : Program) (st : Stop → Option α) (t : TypeId) (x : Value) (size : Nat) (s : HS) (q : Qs) (k : Nat → List Value → HS → Qs → Option α) : Option α := match isSl x, x with
  | true, .complex .f64 b m => match P.underlying t with
    | some (.slice _) => match listC s b with
      | some (c, _, _) => askL st q (segC c 0 (Nat.mul m size)) fun l q => k m l (s.read b) q
      | none => none
    | _ => none
  | _, _ => match srcC P t x size s with
    | some (m, l, s) => k m l s q
    | none => none
def appendCO (P : Program) (st : Stop → Option α) (t t' : TypeId) (v x : Value) (s : HS) (q : Qs) (k : Value → HS → Qs → Option α) : Option α := match P.underlying t with
  | some (.slice e) => match P.info? e with
    | some i => srcCO P st t' x i.size s q fun m new s q => match v with
      | .complex .f64 b n => match s.heap.get b with
        | some (.row c e') => match Nat.beq e' e with
          | true => growO P e (Nat.add n m) q fun q => askF st q (Nat.beq c.size (Nat.mul n i.size)) fun q => askA st q (c.toList ++ new).toArray fun c q => match s.put b .dead with
            | some s => match s.new (.row c e) with
              | some s' => k (.complex .f64 s.next (Nat.add n m)) s' q
              | none => none
            | none => none
          | false => none
        | _ => none
      | .slice _ 0 0 => match isHandle x with
        | true => growO P e m q fun q => askA st q new.toArray fun c q => match s.new (.row c e) with
          | some s' => k (.complex .f64 s.next m) s' q
          | none => none
        | false => none
      | _ => none
    | none => none
  | _ => none
def sliceCO (P : Program) (st : Stop → Option α) (t : TypeId) (b n : Nat) (lo hi : Option Value) (s : HS) (q : Qs) (k : Value → HS → Qs → Option α) : Option α := match P.underlying t with
  | some (.slice e) => match P.info? e with
    | some i => match boundC 0 lo, boundC n hi with
      | some l, some h => ask q (decide (0 ≤ l)) fun r q => match r with
        | true => ask q (decide (l ≤ h)) fun r q => match r with
          | true => ask q (decide (h ≤ (n : Int))) fun r q => match r with
            | true => match listC s b with
              | some (c, e', grows) => match Nat.blt 0 i.size with
                | true => askF st q (Nat.beq c.size (Nat.mul n i.size)) fun q => match (match grows with | true => s.put b (.ro c e') | false => some (s.read b)) with
                  | some s => askA st q ((c.toList.drop (Nat.mul l.toNat i.size)).take (Nat.mul (Nat.sub h.toNat l.toNat) i.size)).toArray fun c q => match s.new (.ro c e') with
                    | some s' => k (.complex .f64 s.next (Nat.sub h.toNat l.toNat)) s' q
                    | none => none
                  | none => none
                | false => none
              | none => none
            | false => none
          | false => none
        | false => none
      | _, _ => none
    | none => none
  | _ => none
def rowO (P : Program) (call : CallO α) (o : Oper) (s : St) (q : Qs) (k : Value → HS → TV → Qs → Option α) : Option α :=
  match o.op.operands.toList.all (okOperand call.g) with
  | false => none
  | true => match o.op with
    | .indexAddr t x ix => match evalV s.tmps x, evalV s.tmps ix with
      | .complex .f64 b n, .int _ z => indexCO P t b n z q fun v q => k v s.hs s.tmps q
      | _, _ => none
    | .load t x => match evalV s.tmps x with
      | .complex .f32 b p => loadCO P call.st t b p s.hs q fun v hs q => k v hs s.tmps q
      | _ => none
    | .store t x y => match evalV s.tmps x with
      | .complex .f32 b p => storeCO P call.st t b p (evalV s.tmps y) s.hs q fun v hs q => k v hs s.tmps q
      | _ => none
    | .slice t x lo hi none => match evalV s.tmps x with
      | .complex .f64 b n => sliceCO P call.st t b n (lo.map (evalV s.tmps)) (hi.map (evalV s.tmps)) s.hs q fun v hs q => k v hs s.tmps q
      | _ => none
    | .call { callee := .builtin .append, args, argTypes } => match argTypes[0]?, argTypes[1]?, args[0]?, args[1]? with
      | some t, some t', some a, some b => match Nat.beq args.size 2 && Nat.beq argTypes.size 2 with
        | true => appendCO P call.st t t' (evalV s.tmps a) (evalV s.tmps b) s.hs q fun v hs q => k v hs s.tmps q
        | false => none
      | _, _, _, _ => none
    | _ => none
def operQ (P : Program) (call : CallO α) (o : Oper) (s : St) (q : Qs) (k : Value → HS → TV → Qs → Option α) : Option α := match rowQ o s with
  | true => rowO P call o s q k
  | false => operO P call o s q k
/-- whether an operation is wanted -/
def wantO (ops : Array Oper) (o : Oper) (s : St) (q : Qs) (k : Bool → St → Qs → Option α) : Option α := match o.guard with
  | none => k true s q
  | some (j, want) => match ops[j]? with
    | some oj => match oj.dst with
      | some d => match s.tmps.get d with
        | some (.bool b) => ask q b fun r q => match r with
          | true => k (eqBool true want) (settle s d true) q
          | false => k (eqBool false want) (settle s d false) q
        | _ => k false s q
      | none => k false s q
    | none => k false s q
def stepO (P : Program) (call : CallO α) (ops : Array Oper) (i : Nat) (s : St) (q : Qs) (k : St → Qs → Option α) : Option α :=
  match ops[i]? with
  | none => none
  | some o => wantO ops o s q fun r s q => match r with
    | true => operQ P call o s q fun v hs tm q => k ⟨putT tm o.dst v, hs, s.defs⟩ q
    | false => k ⟨putT s.tmps o.dst undef, s.hs, s.defs⟩ q
def stepDO (P : Program) (call : CallO α) (ro : Option Nat) (ops : Array Oper) (i : Nat) (s : St) (q : Qs) (k : St → Qs → Option α) : Option α :=
  match ops[i]? with
  | none => none
  | some o => match isDefer o.op with
    | false => stepO P call ops i s q k
    | true => match ro with
      | some _ => none
      | none => wantO ops o s q fun r s q => match r with
        | true => match deferV (noCall call.g) o s with
          | some s' => k s' q
          | none => none
        | false => none
def runOpsO (P : Program) (call : CallO α) (ro : Option Nat) (ops : Array Oper) : List Nat → St → Qs → (St → Qs → Option α) → Option α
  | [], s, q, k => k s q
  | i :: l, s, q, k => match okJ ops i s.tmps with
    | false => none
    | true => stepDO P call ro ops i s q fun s q => runOpsO P call ro ops l s q k
def runMarksO (P : Program) (call : CallO α) (ops : Array Oper) : List Nat → St → List (Nat × Nat) → Qs → (St → List (Nat × Nat) → Qs → Option α) → Option α
  | [], s, m, q, k => k s m q
  | i :: l, s, m, q, k => match okJ ops i s.tmps with
    | false => none
    | true => stepO P call ops i { s with hs := { s.hs with rd := 0, wr := 0 } } q fun s' q' =>
      runMarksO P call ops l s' (m ++ [(s'.hs.rd, s'.hs.wr)]) q' k
def drawO (P : Program) (call : CallO α) (ops : Array Oper) (s : St) (q : Qs) (k : St → Qs → Option α) : Option α :=
  match ancOf ops with
  | some anc => runMarksO P call ops (List.range ops.size) s [] q fun s' m q' => match dynOk anc (busy 0 m) with
    | true => k ⟨s'.tmps, { s'.hs with rd := m.foldl (fun r x => Nat.lor r x.1) s.hs.rd, wr := m.foldl (fun r x => Nat.lor r x.2) s.hs.wr }, s.defs⟩ q'
    | false => none
  | none => none

abbrev EvO (α : Type) := Option Nat → Code → St → Qs → (VX → St → Qs → Option α) → Option α
/-- the results -/
def endO (P : Program) (fn : Func) (tmps : TV) (hs : HS) (q : Qs) (k : Value → HS → Qs → Option α) : Option α := match resultsV P fn tmps hs with
  | some (v, hs) => k v hs q
  | none => none
def lateO (P : Program) (ev : EvO α) (f : FuncId) (args : Array Value) (hs : HS) (q : Qs) (k : Value → HS → Qs → Option α) : Option α :=
  match P.funcs[f]? with
  | some fn => match fn.body with
    | some c => match Nat.blt (Nat.max args.size fn.ntmps) 1000000 with
      | true => ev none c ⟨startT args fn.ntmps, hs, []⟩ q fun x s q => match x with
        | .normal => match s.defs with
          | [] => endO P fn s.tmps s.hs q k
          | _ => none
        | .ret => match s.defs with
          | [] => endO P fn s.tmps s.hs q k
          | _ => none
        | _ => none
      | false => none
    | none => none
  | none => none
def leaveO (P : Program) (ev : EvO α) : List Deferred → HS → Qs → (HS → Qs → Option α) → Option α
  | [], hs, q, k => k hs q
  | d :: ds, hs, q, k => match d.target with
    | .collected r => match runV P (Instr.takeDeferred r) hs with
      | some ([], hs') => leaveO P ev ds hs' q k
      | _ => none
    | .fn (.func g) cap => match callable P g with
      | true => lateO P ev g (d.args ++ cap) hs q fun _ hs' q' => leaveO P ev ds hs' q' k
      | false => none
    | _ => none
def callO (P : Program) (ev : EvO α) : FuncId → Array Value → HS → Qs → (Value → HS → Qs → Option α) → Option α := fun f args hs q k =>
  match P.funcs[f]? with
  | some fn => match fn.body with
    | some c => match Nat.blt (Nat.max args.size fn.ntmps) 1000000 with
      | true => ev none c ⟨startT args fn.ntmps, hs, []⟩ q fun x s q => match x with
        | .normal => leaveO P ev s.defs s.hs q fun hs' q' => endO P fn s.tmps hs' q' k
        | .ret => leaveO P ev s.defs s.hs q fun hs' q' => endO P fn s.tmps hs' q' k
        | _ => none
      | false => none
    | none => none
  | none => none
def markO (l : Nat) (ok : LoopState → Bool) (st : LoopState) (jump : Option (Option Code)) (hs : HS) (k : HS → Option α) : Option α := match markLoop l ok st jump hs with
  | some hs' => k hs'
  | none => none
def roundO (P : Program) (ev : EvO α) : Nat → Array Value → HS → Qs → (Value → HS → Qs → Option α) → Option α := fun l args hs q k =>
  match hs.heap.get l with
  | some (.loop _ _ t ps asg bd _) => match Nat.beq args.size ps.size with
    | false => none
    | true => ev (some l) asg ⟨t.sets ps.toList args.toList, hs.read l, []⟩ q fun x s1 q => match x with
      | .normal => markO l isReady .busy none s1.hs fun hs2 => ev (some l) bd ⟨s1.tmps, hs2, s1.defs⟩ q fun x s3 q => match x with
        | .normal => markO l anyState .ready (some none) s3.hs fun hs4 => k (.bool true) hs4 q
        | .exit id => markO l anyState .done (some (some (.exit id))) s3.hs fun hs4 => k (.bool false) hs4 q
        | .ret => markO l anyState .done (some (some .ret)) s3.hs fun hs4 => k (.bool false) hs4 q
      | _ => none
  | _ => none
/-- known calls, each under a condition; known loops -/
def loopKey : Code → Nat
  | .region id _ _ => Nat.add id 1
  | .seq a b => match loopKey a with
    | 0 => loopKey b
    | k + 1 => k + 1
  | .cond _ a b => match loopKey a with
    | 0 => loopKey b
    | k + 1 => k + 1
  | .block _ a => loopKey a
  | .loop a => loopKey a
  | .scope a => loopKey a
  | _ => 0
structure GTab where
  look : FuncId → List Value → Option (Bool × Value)
  loop : Option Nat → Code → St → Option (VX × St)
  keys : Nat → Bool
  out : ∀ ro a s, keys (loopKey a) = false → loop ro a s = none
  dk : Nat → Bool
  lookD : TabD
  outD : ∀ f ds, dk f = false → lookD f ds = none
def GTab.tab (T : GTab) : Tab := fun f args => match T.look f args with
  | some (true, v) => some v
  | _ => none
def tabC (T : GTab) (call : CallV) : CallV := callT T.tab ⟨call.g, callD T.lookD call.fn, call.rnd⟩
def GTab.hook (T : GTab) : Hook := ⟨tabC T, T.loop⟩
def GTab.of (T : Tab) : GTab := ⟨fun f args => match T f args with
  | some v => some (true, v)
  | none => none, noLoops, fun _ => false, fun _ _ _ _ => rfl, fun _ => false, fun _ _ => none, fun _ _ _ => rfl⟩
def GTab.none : GTab := ⟨fun _ _ => Option.none, noLoops, fun _ => false, fun _ _ _ _ => rfl, fun _ => false, fun _ _ => Option.none, fun _ _ _ => rfl⟩
def GTab.fnD (f : FuncId) (k : List D → Option (Value × Outs)) (T : GTab) : GTab := ⟨T.look, T.loop, T.keys, T.out, fun g => match Nat.beq f g with
  | true => true
  | false => T.dk g, fun g ds => match Nat.beq f g with
  | true => k ds
  | false => T.lookD g ds, fun g ds h => by
    cases hb : Nat.beq f g with
    | true => simp [hb] at h
    | false => simp only [hb] at h ⊢; exact T.outD g ds h⟩
def GTab.fn (f : FuncId) (k : List Value → Option (Bool × Value)) (T : GTab) : GTab := ⟨fun g xs => match Nat.beq f g with
  | true => k xs
  | false => T.look g xs, T.loop, T.keys, T.out, T.dk, T.lookD, T.outD⟩
def GTab.fn1 (f : FuncId) (k : List Value → Option Value) (T : GTab) : GTab := ⟨fun g xs => match Nat.beq f g with
  | true => match k xs with
    | some v => some (true, v)
    | none => T.look g xs
  | false => T.look g xs, T.loop, T.keys, T.out, T.dk, T.lookD, T.outD⟩
theorem hook_call (T : GTab) : T.hook.call = tabC T := rfl
theorem hook_loop (T : GTab) : T.hook.loop = T.loop := rfl
def tabD (T : GTab) (call : CallO α) : FuncId → Array Value → HS → Qs → (Value → HS → Qs → Option α) → Option α := fun f args hs q k => match T.dk f with
  | false => call.fn f args hs q k
  | true => match rdL (rdD 20) args.toList hs with
    | some (ds, hs1) => askD call.st q f ds (T.lookD f ds) fun v bs q => match putR bs hs1, renV 0 (rhoR hs1.next bs.length) 20 v with
      | some hs2, some v' => k v' hs2 q
      | _, _ => none
    | none => none
def tabO (T : GTab) (call : CallO α) : CallO α := ⟨call.st, call.g, fun f args hs q k => match T.look f args.toList with
  | some (b, v) => ask q b fun r q => match r with
    | true => k v hs q
    | false => tabD T call f args hs q k
  | none => tabD T call f args hs q k, call.rnd⟩
/-- what the loops do, however much time there is -/
def Evt (p : Nat → Prop) : Prop := ∃ F, ∀ f, F ≤ f → p f
def LoopRes (P : Program) (G : Nat) (T : GTab) (ro : Option Nat) (a : Code) (s : St) (x : VX) (s' : St) : Prop := Evt fun f => evC P G T.hook f ro (.loop a) s = some (x, s')
def loopO (P : Program) (G : Nat) (T : GTab) (hk : Option Nat → Code → St → Qs → Option α) (ro : Option Nat) (a : Code) (s : St) (q : Qs) (k : VX → St → Qs → Option α) (go : Qs → Option α) : Option α := match q.ans with
  | [] => force (Nat.add q.n 1) fun n => go ⟨n, [], q.log⟩
  | (i, p) :: l => match Nat.beq i q.n with
    | true => match p with
      | .loop x s' => force (Nat.add q.n 1) fun n => k x s' ⟨n, l, LoopRes P G T ro a s x s' :: q.log⟩
      | .stop => hk ro a s q
      | _ => none
    | false => force (Nat.add q.n 1) fun n => go ⟨n, (i, p) :: l, q.log⟩
def evO (P : Program) (G : Nat) (T : GTab) (hk : Option Nat → Code → St → Qs → Option α) (st : Stop → Option α) : Nat → EvO α
  | 0, _, _, _, _, _ => none
  | f + 1, ro, c, s, q, k => match c with
    | .skip => k .normal s q
    | .label _ => k .normal s q
    | .region _ ops false => runOpsO P (tabO T ⟨st, G, callO P (evO P G T hk st f), roundO P (evO P G T hk st f)⟩) ro ops (List.range ops.size) s q fun s' q' => k .normal s' q'
    | .region _ ops true => drawO P (tabO T ⟨st, G, callO P (evO P G T hk st f), roundO P (evO P G T hk st f)⟩) ops s q fun s' q' => k .normal s' q'
    | .seq a b => evO P G T hk st f ro a s q fun x s' q' => match x with
      | .normal => evO P G T hk st f ro b s' q' k
      | .exit i => k (.exit i) s' q'
      | .ret => k .ret s' q'
    | .cond c a b => match evalV s.tmps c with
      | .bool x => ask q x fun r q => match r with
        | true => evO P G T hk st f ro a ⟨setC s.tmps c true, s.hs, s.defs⟩ q k
        | false => evO P G T hk st f ro b ⟨setC s.tmps c false, s.hs, s.defs⟩ q k
      | _ => none
    | .block id a => evO P G T hk st f ro a s q fun x s' q' => match x with
      | .normal => k .normal s' q'
      | .exit i => match Nat.beq i id with
        | true => k .normal s' q'
        | false => k (.exit i) s' q'
      | .ret => k .ret s' q'
    | .loop a => match T.keys (loopKey a) with
      | false => loopO P G T hk ro a s q k fun q => evO P G T hk st f ro a s q fun x s' q' => match x with
        | .normal => evO P G T hk st f ro (.loop a) s' q' k
        | .exit i => k (.exit i) s' q'
        | .ret => k .ret s' q'
      | true => loopO P G T hk ro a s q k fun _ => none
    | .exit id => k (.exit id) s q
    | .scope a => evO P G T hk st f ro a s q k
    | .ret => k .ret s q
    | .rangeFunc g ps asg bd => match okOperand G g with
      | false => none
      | true => match evalV s.tmps g with
        | .func (.func gf) a b => match callable P gf with
          | false => none
          | true => match enterV ro s.tmps ps asg bd s.hs with
            | some (l, mk, hs1) => (tabO T ⟨st, G, callO P (evO P G T hk st f), roundO P (evO P G T hk st f)⟩).fn gf ((a ++ #[.func (.yield l) #[] #[]]) ++ b) hs1 q fun _ hs2 q' => match pendV l hs2 with
              | some x => markO l notBusy .exhausted none hs2 fun hs3 => k x ⟨s.tmps, hs3, mk ++ s.defs⟩ q'
              | none => none
            | none => none
        | _ => none
    | _ => none
end
/-- a call with open arguments, its questions answered -/
noncomputable def outO (P : Program) (L : Vars) (T : GTab) (fuel : Nat) (f : FuncId) (args : List Value) (ans : List (Nat × Ans)) : Option (Value × List Prop) :=
  match startH L with
  | some hs => callO P (evO P L.length T (fun _ _ _ _ => none) (fun _ => none) fuel) f args.toArray hs ⟨0, ans, []⟩ fun v _ q => some (v, q.log)
  | none => none
/-- a call with lists, packed -/
noncomputable def outD (P : Program) (L : Vars) (T : GTab) (fuel : Nat) (f : FuncId) (ds : List D) (es : List TypeId) (ans : List (Nat × Ans)) : Option (Value × Outs × List Prop) :=
  match startD L ds with
  | some (vs, hs) => callO P (evO P L.length T (fun _ _ _ _ => none) (fun _ => none) fuel) f vs.toArray hs ⟨0, ans, []⟩ fun v hs q => match packV P hs 20 v ⟨es, [], []⟩ with
    | some (u, p) => some (u, p.bs, q.log)
    | none => none
  | none => none
/-- a loop's head: where a call comes to it -/
structure Hd where
  ro : Option Nat
  a : Code
  s : St
noncomputable def headO (P : Program) (L : Vars) (T : GTab) (fuel : Nat) (f : FuncId) (args : List Value) (ans : List (Nat × Ans)) : Hd :=
  match startH L with
  | some hs => match callO P (evO P L.length T (fun ro a s _ => some (Hd.mk ro a s)) (fun _ => none) fuel) f args.toArray hs ⟨0, ans, []⟩ fun _ _ _ => none with
    | some h => h
    | none => ⟨none, .skip, ⟨.nil, ⟨.nil, 0, 0, 0⟩, []⟩⟩
  | none => ⟨none, .skip, ⟨.nil, ⟨.nil, 0, 0, 0⟩, []⟩⟩
/-- other values in slots, and in cells -/
def TV.upds : TV → List (Nat × Value) → TV
  | t, [] => t
  | t, (k, v) :: l => TV.upds (t.set k v) l
def Tr.cell (t : Tr) (b o : Nat) (v : Value) : Tr := match t.get b with
  | some (.live (.cells c e fz) ex) => match Tr.set 64 t b (.live (.cells (c.setIfInBounds o v) e fz) ex) with
    | some t => t
    | none => t
  | _ => t
def Tr.cells : Tr → List (Nat × Nat × Value) → Tr
  | t, [] => t
  | t, (b, o, v) :: l => Tr.cells (t.cell b o v) l
def St.upd (s : St) (u : List (Nat × Value)) (m : List (Nat × Nat × Value)) (rd wr : Nat) : St := ⟨s.tmps.upds u, ⟨s.hs.heap.cells m, s.hs.next, rd, wr⟩, s.defs⟩
/-- one round, from a head -/
noncomputable def bodyO (P : Program) (G : Nat) (T : GTab) (fuel : Nat) (h : Hd) (s : St) (ans : List (Nat × Ans)) : Option (VX × St × List Prop) :=
  evO P G T (fun _ _ _ _ => none) (fun _ => none) fuel h.ro h.a s ⟨0, ans, []⟩ fun x s q => some (x, s, q.log)
def allP : List Prop → Prop
  | [] => True
  | p :: l => p ∧ allP l
end Go.Proofs.Ytpaojoahbmlolaa
