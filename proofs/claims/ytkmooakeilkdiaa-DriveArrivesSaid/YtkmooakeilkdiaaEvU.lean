/- The run with open numbers: what can't be decided is answered, and the answers are written down. -/
import Derived.Test.YtkmooakeilkdiaaEvS
namespace Go.Proofs.Ytkmooakeilkdiaa
open Go
set_option linter.unusedVariables false
set_option linter.unusedSimpArgs false
set_option linter.unnecessarySimpa false
set_option linter.constructorNameAsVariable false

/-- an answer: 0 no, 1 yes, or a number; how a loop ends; here to stop -/
inductive Ans where
  | b (z : Int)
  | loop (x : VX) (s : St)
  | stop
/-- how many questions there were; the answers to come, to which question; what was answered -/
structure Qs where
  n : Nat
  ans : List (Nat × Ans)
  log : List Prop

/-- equal values of a type, without a way out before the end -/
def partS (P : Program) (t : TypeId) (cs : Array Value) (off : Nat) : Option Value := match P.underlying t, P.info? t with
  | some (.struct _), some i => some (.agg (cs.extract off (Nat.add off i.size)))
  | some (.array _ _), some i => some (.agg (cs.extract off (Nat.add off i.size)))
  | some _, _ => cs[off]?
  | none, _ => none
def eqFs (P : Program) (eq : TypeId → Value → Value → Option Bool) (xs ys : Array Value) : List Field → Option Bool
  | [] => some true
  | f :: l => match f.name == "_" with
    | true => none
    | false => match partS P f.type xs f.offset, partS P f.type ys f.offset with
      | some a, some b => match eq f.type a b with
        | some e => match l with
          | [] => some e
          | _ => match eqFs P eq xs ys l with
            | some r => some (e && r)
            | none => none
        | none => none
      | _, _ => none
def eqS (P : Program) : Nat → TypeId → Value → Value → Option Bool
  | 0, _, _, _ => none
  | d + 1, t, x, y => match P.underlying t, x, y with
    | some .bool, .bool a, .bool b => some (a == b)
    | some (.int _), .int k a, .int k' b => match sameKind k k' with
      | true => some (a == b)
      | false => none
    | some .string, .string a, .string b => some (a == b)
    | some (.struct fs), .agg xs, .agg ys => match P.stoodInHeld t with
      | true => none
      | false => eqFs P (eqS P d) xs ys fs.toList
    | _, _, _ => none
def noCall (g : Nat) : CallV := ⟨g, fun _ _ _ => none, fun _ _ _ => none⟩
def isEq : BinOp → Option Bool
  | .eql => some false
  | .neq => some true
  | _ => none
def isAgg2 : Value → Value → Bool
  | .agg _, .agg _ => true
  | _, _ => false
/-- a quotient, or a rest -/
def isDiv : BinOp → Option Bool
  | .quo => some true
  | .rem => some false
  | _ => none
/-- a shift: to the left? -/
def isShl : BinOp → Option Bool
  | .shl => some true
  | .shr => some false
  | _ => none
def setC (t : TV) (c : Operand) (r : Bool) : TV := match c with
  | .tmp d => t.set d (.bool r)
  | _ => t
/-- a slot that has been asked -/
def settle (s : St) (t : Tmp) (r : Bool) : St := ⟨s.tmps.set t (.bool r), s.hs, s.defs⟩

section
variable {α : Type}
def ask (q : Qs) (b : Bool) (k : Bool → Qs → Option α) : Option α := match q.ans with
  | [] => force (Nat.add q.n 1) fun n => match b with
    | true => k true ⟨n, [], q.log⟩
    | false => k false ⟨n, [], q.log⟩
  | (i, p) :: l => match Nat.beq i q.n with
    | true => match p with
      | .b (.ofNat 0) => force (Nat.add q.n 1) fun n => k false ⟨n, l, (b = false) :: q.log⟩
      | .b _ => force (Nat.add q.n 1) fun n => k true ⟨n, l, (b = true) :: q.log⟩
      | _ => none
    | false => force (Nat.add q.n 1) fun n => match b with
      | true => k true ⟨n, (i, p) :: l, q.log⟩
      | false => k false ⟨n, (i, p) :: l, q.log⟩
def askI (q : Qs) (z : Int) (k : Int → Qs → Option α) : Option α := match q.ans with
  | [] => force (Nat.add q.n 1) fun n => k z ⟨n, [], q.log⟩
  | (i, p) :: l => match Nat.beq i q.n with
    | true => match p with
      | .b p => force (Nat.add q.n 1) fun n => k p ⟨n, l, (z = p) :: q.log⟩
      | _ => none
    | false => force (Nat.add q.n 1) fun n => k z ⟨n, (i, p) :: l, q.log⟩

structure CallO (α : Type) where
  g : Nat
  fn : FuncId → Array Value → HS → Qs → (Value → HS → Qs → Option α) → Option α
  rnd : Nat → Array Value → HS → Qs → (Value → HS → Qs → Option α) → Option α
/-- what stays as it is -/
def plainO (P : Program) (g : Nat) (o : Oper) (s : St) (q : Qs) (k : Value → HS → TV → Qs → Option α) : Option α :=
  match operV P (noCall g) o s with
  | some (v, hs) => k v hs s.tmps q
  | none => none
def operO (P : Program) (call : CallO α) (o : Oper) (s : St) (q : Qs) (k : Value → HS → TV → Qs → Option α) : Option α :=
  match o.op.operands.toList.all (okOperand call.g) with
  | false => none
  | true => match o.op with
    | .pick c a b => match evalV s.tmps c with
      | .bool x => ask q x fun r q => match r with
        | true => k (evalV s.tmps a) s.hs (setC s.tmps c true) q
        | false => k (evalV s.tmps b) s.hs (setC s.tmps c false) q
      | _ => none
    | .call { callee := .value f, args, .. } => match evalV s.tmps f with
      | .func (.func g) a b => match callable P g with
        | true => call.fn g ((a ++ args.map (evalV s.tmps)) ++ b) s.hs q fun v hs q => k v hs s.tmps q
        | false => plainO P call.g o s q k
      | .func (.yield l) _ _ => call.rnd l (args.map (evalV s.tmps)) s.hs q fun v hs q => k v hs s.tmps q
      | _ => none
    | .call { callee := .invoke recv name, args, .. } => match evalV s.tmps recv with
      | .iface t v => match methodV P t name with
        | some f => match callable P f with
          | true => call.fn f (#[v] ++ args.map (evalV s.tmps)) s.hs q fun v hs q => k v hs s.tmps q
          | false => none
        | none => none
      | _ => none
    | .binOp op t x y _ => match isEq op, isAgg2 (evalV s.tmps x) (evalV s.tmps y) with
      | some neg, true => match eqS P Op.maxDepth t (evalV s.tmps x) (evalV s.tmps y), P.eqGuardType P.depth t with
        | some b, false => k (.bool (cond neg (!b) b)) s.hs s.tmps q
        | _, _ => none
      | _, _ => match isDiv op, evalV s.tmps x, evalV s.tmps y with
        | some dv, .int kd a, .int kd' b => match sameKind kd kd' with
          | true => ask q (b == 0) fun r q => match r with
            | true => none
            | false => match dv with
              | true => k (.int kd (kd.wrap (a.tdiv b))) s.hs s.tmps q
              | false => k (.int kd (a.tmod b)) s.hs s.tmps q
          | false => none
        | _, _, _ => match isShl op, evalV s.tmps x, evalV s.tmps y with
          | some left, .int kd a, .int _ b => ask q (decide (b < 0)) fun r q => match r with
            | true => none
            | false => match left with
              | true => k (.int kd (kd.wrap (a * 2 ^ min b.toNat kd.bits))) s.hs s.tmps q
              | false => k (.int kd (a.fdiv (2 ^ min b.toNat kd.bits))) s.hs s.tmps q
          | _, _, _ => plainO P call.g o s q k
    | .indexAddr t x ix => match evalV s.tmps ix with
      | .int kd z => askI q z fun z q => plainO P call.g { o with op := .indexAddr t x (.const (.int kd z)) } s q k
      | _ => plainO P call.g o s q k
    | .index t x ix => match evalV s.tmps ix with
      | .int kd z => askI q z fun z q => plainO P call.g { o with op := .index t x (.const (.int kd z)) } s q k
      | _ => plainO P call.g o s q k
    | _ => plainO P call.g o s q k
/-- whether an operation is wanted -/
def wantO (ops : Array Oper) (o : Oper) (s : St) (q : Qs) (k : Bool → St → Qs → Option α) : Option α := match o.guard with
  | none => k true s q
  | some (j, want) => match ops[j]? with
    | some oj => match oj.dst with
      | some d => match s.tmps.get d with
        | some (.bool b) => ask q b fun r q => match r with
          | true => k (eqBool true want) (settle s d true) q
          | false => k (eqBool false want) (settle s d false) q
        | _ => k false s q
      | none => k false s q
    | none => k false s q
def stepO (P : Program) (call : CallO α) (ops : Array Oper) (i : Nat) (s : St) (q : Qs) (k : St → Qs → Option α) : Option α :=
  match ops[i]? with
  | none => none
  | some o => wantO ops o s q fun r s q => match r with
    | true => operO P call o s q fun v hs tm q => k ⟨putT tm o.dst v, hs, s.defs⟩ q
    | false => k ⟨putT s.tmps o.dst undef, s.hs, s.defs⟩ q
def stepDO (P : Program) (call : CallO α) (ro : Option Nat) (ops : Array Oper) (i : Nat) (s : St) (q : Qs) (k : St → Qs → Option α) : Option α :=
  match ops[i]? with
  | none => none
  | some o => match isDefer o.op with
    | false => stepO P call ops i s q k
    | true => match ro with
      | some _ => none
      | none => wantO ops o s q fun r s q => match r with
        | true => match deferV (noCall call.g) o s with
          | some s' => k s' q
          | none => none
        | false => none
def runOpsO (P : Program) (call : CallO α) (ro : Option Nat) (ops : Array Oper) : List Nat → St → Qs → (St → Qs → Option α) → Option α
  | [], s, q, k => k s q
  | i :: l, s, q, k => match okJ ops i s.tmps with
    | false => none
    | true => stepDO P call ro ops i s q fun s q => runOpsO P call ro ops l s q k
def runMarksO (P : Program) (call : CallO α) (ops : Array Oper) : List Nat → St → List (Nat × Nat) → Qs → (St → List (Nat × Nat) → Qs → Option α) → Option α
  | [], s, m, q, k => k s m q
  | i :: l, s, m, q, k => match okJ ops i s.tmps with
    | false => none
    | true => stepO P call ops i { s with hs := { s.hs with rd := 0, wr := 0 } } q fun s' q' =>
      runMarksO P call ops l s' (m ++ [(s'.hs.rd, s'.hs.wr)]) q' k
def drawO (P : Program) (call : CallO α) (ops : Array Oper) (s : St) (q : Qs) (k : St → Qs → Option α) : Option α :=
  match ancOf ops with
  | some anc => runMarksO P call ops (List.range ops.size) s [] q fun s' m q' => match dynOk anc (busy 0 m) with
    | true => k ⟨s'.tmps, { s'.hs with rd := m.foldl (fun r x => Nat.lor r x.1) s.hs.rd, wr := m.foldl (fun r x => Nat.lor r x.2) s.hs.wr }, s.defs⟩ q'
    | false => none
  | none => none

abbrev EvO (α : Type) := Option Nat → Code → St → Qs → (VX → St → Qs → Option α) → Option α
/-- the results -/
def endO (P : Program) (fn : Func) (tmps : TV) (hs : HS) (q : Qs) (k : Value → HS → Qs → Option α) : Option α := match resultsV P fn tmps hs with
  | some (v, hs) => k v hs q
  | none => none
def lateO (P : Program) (ev : EvO α) (f : FuncId) (args : Array Value) (hs : HS) (q : Qs) (k : Value → HS → Qs → Option α) : Option α :=
  match P.funcs[f]? with
  | some fn => match fn.body with
    | some c => match Nat.blt (Nat.max args.size fn.ntmps) 1000000 with
      | true => ev none c ⟨startT args fn.ntmps, hs, []⟩ q fun x s q => match x with
        | .normal => match s.defs with
          | [] => endO P fn s.tmps s.hs q k
          | _ => none
        | .ret => match s.defs with
          | [] => endO P fn s.tmps s.hs q k
          | _ => none
        | _ => none
      | false => none
    | none => none
  | none => none
def leaveO (P : Program) (ev : EvO α) : List Deferred → HS → Qs → (HS → Qs → Option α) → Option α
  | [], hs, q, k => k hs q
  | d :: ds, hs, q, k => match d.target with
    | .collected r => match runV P (Instr.takeDeferred r) hs with
      | some ([], hs') => leaveO P ev ds hs' q k
      | _ => none
    | .fn (.func g) cap => match callable P g with
      | true => lateO P ev g (d.args ++ cap) hs q fun _ hs' q' => leaveO P ev ds hs' q' k
      | false => none
    | _ => none
def callO (P : Program) (ev : EvO α) : FuncId → Array Value → HS → Qs → (Value → HS → Qs → Option α) → Option α := fun f args hs q k =>
  match P.funcs[f]? with
  | some fn => match fn.body with
    | some c => match Nat.blt (Nat.max args.size fn.ntmps) 1000000 with
      | true => ev none c ⟨startT args fn.ntmps, hs, []⟩ q fun x s q => match x with
        | .normal => leaveO P ev s.defs s.hs q fun hs' q' => endO P fn s.tmps hs' q' k
        | .ret => leaveO P ev s.defs s.hs q fun hs' q' => endO P fn s.tmps hs' q' k
        | _ => none
      | false => none
    | none => none
  | none => none
def markO (l : Nat) (ok : LoopState → Bool) (st : LoopState) (jump : Option (Option Code)) (hs : HS) (k : HS → Option α) : Option α := match markLoop l ok st jump hs with
  | some hs' => k hs'
  | none => none
def roundO (P : Program) (ev : EvO α) : Nat → Array Value → HS → Qs → (Value → HS → Qs → Option α) → Option α := fun l args hs q k =>
  match hs.heap.get l with
  | some (.loop _ _ t ps asg bd _) => match Nat.beq args.size ps.size with
    | false => none
    | true => ev (some l) asg ⟨t.sets ps.toList args.toList, hs.read l, []⟩ q fun x s1 q => match x with
      | .normal => markO l isReady .busy none s1.hs fun hs2 => ev (some l) bd ⟨s1.tmps, hs2, s1.defs⟩ q fun x s3 q => match x with
        | .normal => markO l anyState .ready (some none) s3.hs fun hs4 => k (.bool true) hs4 q
        | .exit id => markO l anyState .done (some (some (.exit id))) s3.hs fun hs4 => k (.bool false) hs4 q
        | .ret => markO l anyState .done (some (some .ret)) s3.hs fun hs4 => k (.bool false) hs4 q
      | _ => none
  | _ => none
/-- known calls, each under a condition; known loops -/
def loopKey : Code → Nat
  | .region id _ _ => Nat.add id 1
  | .seq a b => match loopKey a with
    | 0 => loopKey b
    | k + 1 => k + 1
  | .cond _ a b => match loopKey a with
    | 0 => loopKey b
    | k + 1 => k + 1
  | .block _ a => loopKey a
  | .loop a => loopKey a
  | .scope a => loopKey a
  | _ => 0
structure GTab where
  look : FuncId → List Value → Option (Bool × Value)
  loop : Option Nat → Code → St → Option (VX × St)
  keys : Nat → Bool
  out : ∀ ro a s, keys (loopKey a) = false → loop ro a s = none
def GTab.tab (T : GTab) : Tab := fun f args => match T.look f args with
  | some (true, v) => some v
  | _ => none
def GTab.hook (T : GTab) : Hook := ⟨callT T.tab, T.loop⟩
def GTab.of (T : Tab) : GTab := ⟨fun f args => match T f args with
  | some v => some (true, v)
  | none => none, noLoops, fun _ => false, fun _ _ _ _ => rfl⟩
def GTab.none : GTab := ⟨fun _ _ => Option.none, noLoops, fun _ => false, fun _ _ _ _ => rfl⟩
def GTab.fn (f : FuncId) (k : List Value → Option (Bool × Value)) (T : GTab) : GTab := ⟨fun g xs => match Nat.beq f g with
  | true => k xs
  | false => T.look g xs, T.loop, T.keys, T.out⟩
def GTab.fn1 (f : FuncId) (k : List Value → Option Value) (T : GTab) : GTab := ⟨fun g xs => match Nat.beq f g with
  | true => match k xs with
    | some v => some (true, v)
    | none => T.look g xs
  | false => T.look g xs, T.loop, T.keys, T.out⟩
theorem hook_call (T : GTab) : T.hook.call = callT T.tab := rfl
theorem hook_loop (T : GTab) : T.hook.loop = T.loop := rfl
def tabO (T : GTab) (call : CallO α) : CallO α := ⟨call.g, fun f args hs q k => match T.look f args.toList with
  | some (b, v) => ask q b fun r q => match r with
    | true => k v hs q
    | false => call.fn f args hs q k
  | none => call.fn f args hs q k, call.rnd⟩
/-- what the loops do, however much time there is -/
def Evt (p : Nat → Prop) : Prop := ∃ F, ∀ f, F ≤ f → p f
def LoopRes (P : Program) (G : Nat) (T : GTab) (ro : Option Nat) (a : Code) (s : St) (x : VX) (s' : St) : Prop := Evt fun f => evC P G T.hook f ro (.loop a) s = some (x, s')
def loopO (P : Program) (G : Nat) (T : GTab) (hk : Option Nat → Code → St → Qs → Option α) (ro : Option Nat) (a : Code) (s : St) (q : Qs) (k : VX → St → Qs → Option α) (go : Qs → Option α) : Option α := match q.ans with
  | [] => force (Nat.add q.n 1) fun n => go ⟨n, [], q.log⟩
  | (i, p) :: l => match Nat.beq i q.n with
    | true => match p with
      | .loop x s' => force (Nat.add q.n 1) fun n => k x s' ⟨n, l, LoopRes P G T ro a s x s' :: q.log⟩
      | .stop => hk ro a s q
      | .b _ => none
    | false => force (Nat.add q.n 1) fun n => go ⟨n, (i, p) :: l, q.log⟩
def evO (P : Program) (G : Nat) (T : GTab) (hk : Option Nat → Code → St → Qs → Option α) : Nat → EvO α
  | 0, _, _, _, _, _ => none
  | f + 1, ro, c, s, q, k => match c with
    | .skip => k .normal s q
    | .label _ => k .normal s q
    | .region _ ops false => runOpsO P (tabO T ⟨G, callO P (evO P G T hk f), roundO P (evO P G T hk f)⟩) ro ops (List.range ops.size) s q fun s' q' => k .normal s' q'
    | .region _ ops true => drawO P (tabO T ⟨G, callO P (evO P G T hk f), roundO P (evO P G T hk f)⟩) ops s q fun s' q' => k .normal s' q'
    | .seq a b => evO P G T hk f ro a s q fun x s' q' => match x with
      | .normal => evO P G T hk f ro b s' q' k
      | .exit i => k (.exit i) s' q'
      | .ret => k .ret s' q'
    | .cond c a b => match evalV s.tmps c with
      | .bool x => ask q x fun r q => match r with
        | true => evO P G T hk f ro a ⟨setC s.tmps c true, s.hs, s.defs⟩ q k
        | false => evO P G T hk f ro b ⟨setC s.tmps c false, s.hs, s.defs⟩ q k
      | _ => none
    | .block id a => evO P G T hk f ro a s q fun x s' q' => match x with
      | .normal => k .normal s' q'
      | .exit i => match Nat.beq i id with
        | true => k .normal s' q'
        | false => k (.exit i) s' q'
      | .ret => k .ret s' q'
    | .loop a => match T.keys (loopKey a) with
      | false => loopO P G T hk ro a s q k fun q => evO P G T hk f ro a s q fun x s' q' => match x with
        | .normal => evO P G T hk f ro (.loop a) s' q' k
        | .exit i => k (.exit i) s' q'
        | .ret => k .ret s' q'
      | true => loopO P G T hk ro a s q k fun _ => none
    | .exit id => k (.exit id) s q
    | .scope a => evO P G T hk f ro a s q k
    | .ret => k .ret s q
    | .rangeFunc g ps asg bd => match okOperand G g with
      | false => none
      | true => match evalV s.tmps g with
        | .func (.func gf) a b => match callable P gf with
          | false => none
          | true => match enterV ro s.tmps ps asg bd s.hs with
            | some (l, mk, hs1) => (tabO T ⟨G, callO P (evO P G T hk f), roundO P (evO P G T hk f)⟩).fn gf ((a ++ #[.func (.yield l) #[] #[]]) ++ b) hs1 q fun _ hs2 q' => match pendV l hs2 with
              | some x => markO l notBusy .exhausted none hs2 fun hs3 => k x ⟨s.tmps, hs3, mk ++ s.defs⟩ q'
              | none => none
            | none => none
        | _ => none
    | _ => none
end
/-- a call with open arguments, its questions answered -/
def outO (P : Program) (L : Vars) (T : GTab) (fuel : Nat) (f : FuncId) (args : List Value) (ans : List (Nat × Ans)) : Option (Value × List Prop) :=
  match startH L with
  | some hs => callO P (evO P L.length T (fun _ _ _ _ => none) fuel) f args.toArray hs ⟨0, ans, []⟩ fun v _ q => some (v, q.log)
  | none => none
/-- a loop's head: where a call comes to it -/
structure Hd where
  ro : Option Nat
  a : Code
  s : St
def headO (P : Program) (L : Vars) (T : GTab) (fuel : Nat) (f : FuncId) (args : List Value) (ans : List (Nat × Ans)) : Hd :=
  match startH L with
  | some hs => match callO P (evO P L.length T (fun ro a s _ => some (Hd.mk ro a s)) fuel) f args.toArray hs ⟨0, ans, []⟩ fun _ _ _ => none with
    | some h => h
    | none => ⟨none, .skip, ⟨.nil, ⟨.nil, 0, 0, 0⟩, []⟩⟩
  | none => ⟨none, .skip, ⟨.nil, ⟨.nil, 0, 0, 0⟩, []⟩⟩
/-- other values in slots, and in cells -/
def TV.upds : TV → List (Nat × Value) → TV
  | t, [] => t
  | t, (k, v) :: l => TV.upds (t.set k v) l
def Tr.cell (t : Tr) (b o : Nat) (v : Value) : Tr := match t.get b with
  | some (.live (.cells c e fz) ex) => match Tr.set 64 t b (.live (.cells (c.setIfInBounds o v) e fz) ex) with
    | some t => t
    | none => t
  | _ => t
def Tr.cells : Tr → List (Nat × Nat × Value) → Tr
  | t, [] => t
  | t, (b, o, v) :: l => Tr.cells (t.cell b o v) l
def St.upd (s : St) (u : List (Nat × Value)) (m : List (Nat × Nat × Value)) (rd wr : Nat) : St := ⟨s.tmps.upds u, ⟨s.hs.heap.cells m, s.hs.next, rd, wr⟩, s.defs⟩
/-- one round, from a head -/
def bodyO (P : Program) (G : Nat) (T : GTab) (fuel : Nat) (h : Hd) (s : St) (ans : List (Nat × Ans)) : Option (VX × St × List Prop) :=
  evO P G T (fun _ _ _ _ => none) fuel h.ro h.a s ⟨0, ans, []⟩ fun x s q => some (x, s, q.log)
def allP : List Prop → Prop
  | [] => True
  | p :: l => p ∧ allP l
end Go.Proofs.Ytkmooakeilkdiaa
