import Derived.Test.YtfpabkpmcmfbhaaZC
set_option linter.unusedVariables false
namespace Go.Proofs.Ytfpabkpmcmfbhaa
open Go Go.RowKit
def tgF (m:Int):List Bool→List Int→List Bool
 | f::F,x::L=>(f||decide (x>m))::tgF m F L
 | _,_=>[]
theorem tg_len (m:Int):∀ (F:List Bool) (L:List Int),F.length=L.length→(tgF m F L).length=F.length
 | [],[],_=>rfl
 | f::F,x::L,h=>by
  unfold tgF
  rw [List.length_cons,List.length_cons,tg_len m F L (by simpa using h)]
 | [],x::L,h=>by simp at h
 | f::F,[],h=>by simp at h
theorem elw_zero {α:Type}[Inhabited α](a:α)(l:List α):el (a::l) ((0:Nat):Int)=a:=rfl
theorem elw_succ {α:Type}[Inhabited α](a:α)(l:List α)(i:Nat):el (a::l) ((i+1:Nat):Int)=el l (i:Int):=by unfold el; simp
theorem tg_el (m:Int):∀ (F:List Bool) (L:List Int) (i:Nat),F.length=L.length→i<F.length→el (tgF m F L) (i:Int)=(el F (i:Int)||decide (el L (i:Int)>m))
 | [],L,i,_,h=>by simp at h
 | f::F,[],i,h,_=>by simp at h
 | f::F,x::L,0,_,_=>by unfold tgF; rw [elw_zero,elw_zero,elw_zero]
 | f::F,x::L,i+1,h,h2=>by
  unfold tgF
  rw [elw_succ,elw_succ,elw_succ]
  exact tg_el m F L i (by simpa using h) (by simpa using h2)
theorem take_one {α:Type}[Inhabited α]{l:List α}{i:Nat}(h:i<l.length):l.take (i+1)=l.take i++[el l (i:Int)]:=by
 rw [List.take_add_one]
 unfold el
 rw [List.getD_eq_getElem?_getD,Int.toNat_natCast,List.getElem?_eq_getElem h]
 rfl
theorem set_mid:∀ (A:List Bool) (b:Bool) (R:List Bool),(A++b::R).set A.length true=A++true::R
 | [],b,R=>rfl
 | a::A,b,R=>by
  rw [List.cons_append,List.length_cons,List.set_cons_succ,set_mid A b R,List.cons_append]
theorem wd_app:∀ (A:List Bool) (b:Bool),wdN (A++[b])=wdN A+(bif b then 2^A.length else 0)
 | [],b=>by cases b <;> rfl
 | a::A,b=>by
  rw [List.cons_append]
  unfold wdN
  rw [wd_app A b,List.length_cons,Nat.pow_succ]
  cases b <;> simp <;> omega
theorem rfB_go {ld:List Int}{es:List En}{m lo hi2:Int}{z2:Int}{L:List Int}{F:List Bool}(hl:ld.length≤8)(hL:L.length=ld.length)(hF:F.length=ld.length):∀ (k i:Nat),i+k=ld.length →
  ∃ z z',rfB_f ld es lo hi2 m L.reverse F.reverse z2 (k+1) (wdN ((tgF m F L).take i):Int) ((2^i:Nat):Int) (i:Int)=some (0,((wdN (tgF m F L):Int),z,z')):=by
 have ht:=tg_len m F L (by omega)
 intro k
 induction k with
 | zero =>
  intro i h
  rw [rfB_fs,bif_dT (by omega),bif_dF (by omega),List.take_of_length_le (by omega)]
  exact ⟨_,_,rfl⟩
 | succ k ih =>
  intro i h
  obtain ⟨z,z',hz⟩:=ih (i+1) (by omega)
  have p1:=pow8 (j:=i) (by omega)
  have p2:=wd_lt ((tgF m F L).take i)
  have p3:=pow8 (j:=((tgF m F L).take i).length) (by rw [List.length_take]; omega)
  have e1:=take_one (l:=tgF m F L) (i:=i) (by omega)
  rw [e1,wd_app,List.length_take,Nat.min_eq_left (by omega),tg_el m F L i (by omega) (by omega),Nat.pow_succ] at hz
  rw [rfB_fs,bif_dT (by omega),bif_dT (by omega),List.reverse_reverse,List.reverse_reverse,w8n (n:=(i:Int)+1) (by omega) (by omega),show (i:Int)+1=((i+1:Nat):Int) by omega]
  clear e1
  generalize wdN ((tgF m F L).take i)=a at *
  generalize 2^i=b at *
  have q1:IntKind.i64.wrap (2*(b:Int))=((b*2:Nat):Int):=by rw [w8n (by omega) (by omega)]; omega
  have q2:IntKind.i64.wrap ((a:Int)+(b:Int))=((a+b:Nat):Int):=by rw [w8n (by omega) (by omega)]; omega
  rw [q1,q2]
  refine ⟨z,z',?_⟩
  cases hf:el F (i:Int) with
  | true =>
   rw [hf,Bool.true_or,cond_true] at hz
   rw [cond_true]; exact hz
  | false =>
   rw [hf,Bool.false_or] at hz
   rw [cond_false]
   by_cases h1:el L (i:Int)>m
   ·rw [decide_eq_true h1,cond_true] at hz
    rw [bif_dT h1]; exact hz
   ·rw [decide_eq_false h1,cond_false,Nat.add_zero] at hz
    rw [bif_dF h1]; exact hz
theorem enX_ok {x:En}{n:Int}(h:enX x n=0):x.2.1≠2∨(1≤x.2.2.2.2.1∧x.2.2.2.2.1≤n∧1≤x.2.2.2.2.2.1∧x.2.2.2.2.2.1≤6):=by
 by_cases h2:x.2.1=2
 ·right
  unfold enX pe_c0 at h
  have b1:(x.2.1 != 1)=true:=by simp [h2]
  have b2:(x.2.1 != 2)=false:=by simp [h2]
  rw [b1,b2,cond_true,cond_false] at h
  by_cases c1:x.2.2.2.2.1≥1
  ·by_cases c2:x.2.2.2.2.1≤n
   ·by_cases c3:x.2.2.2.2.2.1=1
    ·omega
    ·have b3:(x.2.2.2.2.2.1==1)=false:=by simp [c3]
     simp only [b3,decide_eq_true c1,decide_eq_true c2,cond_true,cond_false,Bool.not_true] at h
     by_cases c4:x.2.2.2.2.2.1≥1
     ·by_cases c5:x.2.2.2.2.2.1≤6
      ·exact ⟨c1,c2,c4,c5⟩
      ·simp only [decide_eq_true c4,decide_eq_false c5,cond_true,Bool.not_false] at h
       cases h
     ·simp only [decide_eq_false c4,cond_false] at h
      cases h
   ·simp only [decide_eq_true c1,decide_eq_false c2,cond_true,Bool.not_false] at h
    cases hb:(x.2.2.2.2.2.1==1) <;> rw [hb] at h <;> cases h
  ·simp only [decide_eq_false c1,cond_false] at h
   cases hb:(x.2.2.2.2.2.1==1) <;> rw [hb] at h <;> cases h
 ·exact .inl h2
theorem enS_ok {n:Int}:∀ {es:List En} {p:Int},enS n es p=0→∀ i:Nat,i<es.length→okE n (el es (i:Int))
 | [],p,_,i,hi=>by simp at hi
 | x::r,p,h,i,hi=>by
  unfold enS at h
  split at h
  ·cases h
  ·rename_i h1
   split at h
   ·cases h
   ·split at h
    ·rename_i h3
     cases i with
     | zero=>rw [elw_zero]; exact ⟨by omega,by omega,enX_ok h3⟩
     | succ i=>rw [elw_succ]; exact enS_ok h i (by simpa using hi)
    ·rename_i h3; exact absurd h h3
theorem ch_ok {m:Int}{ld:List Int}{es:List En}(h:chX m ld es=0):1≤(ld.length:Int)∧(ld.length:Int)≤8∧(es.length:Int)≤2000∧∀ i:Nat,i<es.length→okE (ld.length:Int) (el es (i:Int)):=by
 unfold chX at h
 split at h
 ·rename_i hE
  split at h
  ·split at h
   ·rename_i he
    exact ⟨hE.2.2.1,hE.2.2.2,he,enS_ok h⟩
   ·cases h
  ·cases h
 ·cases h
theorem wd_none:∀ n:Nat,wdN (List.replicate n false)=0
 | 0=>rfl
 | n+1=>by rw [List.replicate_succ]; unfold wdN; rw [wd_none n]; rfl
end Go.Proofs.Ytfpabkpmcmfbhaa
