import Derived.Test.YtfpabkpmcmfbhaaOgF
import Derived.ProofKit
import Derived.IntWalk
import Derived.Test.YtfpabkpmcmfbhaaOgD
set_option linter.unusedVariables false
namespace Go.Proofs.Ytfpabkpmcmfbhaa
open Go Go.RowKit
theorem w8u {n:Int}(h:0≤n)(h2:n<18446744073709551616):IntKind.u64.wrap n=n:=by rw [wrapU64]; omega
def wdN:List Bool→Nat
 | []=>0
 | b::r=>(bif b then 1 else 0)+2*wdN r
theorem wd_lt:∀ (F:List Bool),wdN F<2^F.length
 | []=>by simp [wdN]
 | b::r=>by
  have:=wd_lt r
  unfold wdN
  rw [List.length_cons,Nat.pow_succ]
  cases b <;> simp <;> omega
theorem wd_set:∀ (F:List Bool) (j:Nat),j<F.length→wdN (F.set j true)=wdN F ||| 2^j
 | [],j,h=>by simp at h
 | b::r,0,h=>by
  rw [List.set_cons_zero]
  unfold wdN
  apply Nat.eq_of_testBit_eq
  intro i
  rw [Nat.testBit_or]
  cases i with
  | zero=>cases b <;> simp [Nat.testBit_zero] <;> omega
  | succ i =>
   rw [Nat.testBit_succ,Nat.testBit_succ,Nat.testBit_succ]
   have e1:((bif true then 1 else 0)+2*wdN r) / 2=wdN r:=by simp; omega
   have e2:((bif b then 1 else 0)+2*wdN r) / 2=wdN r:=by cases b <;> simp <;> omega
   have e3:(2:Nat)^0 / 2=0:=by decide
   rw [e1,e2,e3]
   simp
 | b::r,j+1,h=>by
  rw [List.set_cons_succ]
  unfold wdN
  rw [wd_set r j (by simpa using h)]
  apply Nat.eq_of_testBit_eq
  intro i
  rw [Nat.testBit_or]
  cases i with
  | zero =>
   rw [Nat.testBit_zero,Nat.testBit_zero,Nat.testBit_zero,Nat.pow_succ]
   cases b <;> simp <;> omega
  | succ i =>
   rw [Nat.testBit_succ,Nat.testBit_succ,Nat.testBit_succ]
   have e1:((bif b then 1 else 0)+2*(wdN r ||| 2^j)) / 2=wdN r ||| 2^j:=by cases b <;> simp <;> omega
   have e2:((bif b then 1 else 0)+2*wdN r) / 2=wdN r:=by cases b <;> simp <;> omega
   have e3:(2:Nat)^(j+1) / 2=2^j:=by rw [Nat.pow_succ]; omega
   rw [e1,e2,e3,Nat.testBit_or]
theorem pow8 {j:Nat}(h:j≤8):(2:Nat)^j≤256:=by
 have:(2:Nat)^j≤2^8:=Nat.pow_le_pow_right (by omega) h
 omega
theorem or_bits {F:List Bool}{j:Nat}{x y:Int}(hF:F.length≤8)(hj:j<F.length)(hx:x=(wdN F:Int))(hy:y=((2^j:Nat):Int)):((BitVec.ofInt 64 x ||| BitVec.ofInt 64 y).toNat:Int)=(wdN (F.set j true):Int):=by
 subst hx; subst hy
 have h1:=wd_lt F
 have h2:=pow8 hF
 have h3:=pow8 (j:=j) (by omega)
 rw [BitVec.ofInt_natCast,BitVec.ofInt_natCast,BitVec.toNat_or,BitVec.toNat_ofNat,BitVec.toNat_ofNat,Nat.mod_eq_of_lt (by omega),Nat.mod_eq_of_lt (by omega),wd_set F j hj]
theorem shl_one {j:Nat}(hj:j≤8):(1:Int)*2^min ((j:Int)).toNat 64=((2^j:Nat):Int):=by
 rw [Int.toNat_natCast,Nat.min_eq_left (by omega),Int.one_mul]
 simp
def stepE (x:En)(s:List Int × List Bool):List Int × List Bool :=
 if x.2.1=2 then (if x.2.2.2.2.2.1=1 then (s.1.set (x.2.2.2.2.1 - 1).toNat x.2.2.2.2.2.2,s.2) else if 3≤x.2.2.2.2.2.1 then (s.1,s.2.set (x.2.2.2.2.1 - 1).toNat true) else s) else s
def okE (n:Int)(x:En):Prop:=0≤x.1∧x.1≤1099511627776∧(x.2.1≠2∨(1≤x.2.2.2.2.1∧x.2.2.2.2.1≤n∧1≤x.2.2.2.2.2.1∧x.2.2.2.2.2.1≤6))
theorem el_end {es:List En}:(el es ((es.length:Nat):Int)).2.1=0:=by
 unfold el
 rw [List.getD_eq_getElem?_getD,Int.toNat_natCast,List.getElem?_eq_none (Nat.le_refl _)]
 rfl
theorem ok_at {n:Int}{es:List En}(h:∀ i:Nat,i<es.length→okE n (el es (i:Int))){i:Nat}(hi:i≤es.length):(el es (i:Int)).2.1≠2∨(1≤(el es (i:Int)).2.2.2.2.1∧(el es (i:Int)).2.2.2.2.1≤n∧1≤(el es (i:Int)).2.2.2.2.2.1∧(el es (i:Int)).2.2.2.2.2.1≤6):=by
 rcases Nat.lt_or_eq_of_le hi with h1 | h1
 ·exact (h i h1).2.2
 ·subst h1; left; rw [el_end]; decide
end Go.Proofs.Ytfpabkpmcmfbhaa
