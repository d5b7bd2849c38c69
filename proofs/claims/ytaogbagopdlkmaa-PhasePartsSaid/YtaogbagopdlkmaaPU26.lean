import Derived.Test.YtaogbagopdlkmaaPM
set_option linter.unusedVariables false
namespace Go.Proofs.Ytaogbagopdlkmaa
open Go Go.RowKit
structure NxT (m d s:Int) (N:Nat) (k x b v:Int):Prop where
 mem:∃ j,j<2*N+3∧(prt m d N j).1=k∧((v=b+fst m d j∧x<v)∨v=b+s+fst m d j)
 low1:∀ j,j<2*N+3→(prt m d N j).1=k→x<b+fst m d j→v≤b+fst m d j
 low2:∀ j,j<2*N+3→(prt m d N j).1=k→v≤b+s+fst m d j
theorem NxT.one {m d s:Int}{N:Nat}{k x b v v':Int}(h:NxT m d s N k x b v)(h':NxT m d s N k x b v'):v=v':=by
 obtain ⟨j,j1,j2,j3⟩:=h.mem
 obtain ⟨i,i1,i2,i3⟩:=h'.mem
 have a:v'≤v:=by
  rcases j3 with ⟨e,l⟩ | e
  ·have:=h'.low1 j j1 j2 (by omega); omega
  ·have:=h'.low2 j j1 j2; omega
 have b:v≤v':=by
  rcases i3 with ⟨e,l⟩ | e
  ·have:=h.low1 i i1 i2 (by omega); omega
  ·have:=h.low2 i i1 i2; omega
 omega
def hitT (m d:Int)(N:Nat)(w0 x k:Int)(j:Nat):Prop:=(prt m d N j).1=k∧x<w0+fst m d j∧w0+fst m d j≤1099511627776
theorem nxJ_go {m d t s c x k:Int}{N:Nat}(z1 w0:Int)(hm:1≤m∧m≤200000)(hd:1≤d∧d≤200000)(hN2:N≤16)(hw:0≤w0∧w0≤10000000000000):∀ (n i:Nat),2*N+3≤i+n→i≤2*N+3 →
  ∃ kk z,nxI_f m d t s c x k (pts m d N (2*N+1)).reverse z1 (m+N*(m+d)) w0 (n+1) (i:Int)=some (kk,z) ∧
   ((kk=0∧∃ j:Nat,z=(j:Int)∧i≤j∧j<2*N+3∧hitT m d N w0 x k j∧∀ j',i≤j'→j'<j→¬ hitT m d N w0 x k j')∨(kk=1∧∀ j',i≤j'→j'<2*N+3→¬ hitT m d N w0 x k j')):=by
 have hb:=nmul (n:=N) (t:=m+d) (by omega) (by omega) (by omega)
 have w1:=w8n (n:=m+N*(m+d)+m) (by omega) (by omega)
 intro n
 induction n with
 | zero =>
  intro i h h0
  refine ⟨1,(i:Int),?_,.inr ⟨rfl,fun j' a b=>absurd b (by omega)⟩⟩
  rw [nxI_fs]
  simp only [List.length_reverse,pts_len]
  rw [bif_dT (by omega),bif_dF (by omega)]
 | succ n ih =>
  intro i h h0
  rcases Nat.lt_or_ge i (2*N+3) with hi | hi
  ·obtain ⟨kk,z,g1,g2⟩:=ih (i+1) (by omega) (by omega)
   have hnext:nxI_f m d t s c x k (pts m d N (2*N+1)).reverse z1 (m+N*(m+d)) w0 (n+1) (IntKind.i64.wrap ((i:Int)+1))=some (kk,z):=by
    rw [w8n (n:=(i:Int)+1) (by omega) (by omega)]; exact g1
   have hx3:0≤fst m d i∧fst m d i≤8000000:=by
    have:=fst_mono hm.1 hd.1 (a:=0) (b:=i) (by omega)
    have g:=fst_mono hm.1 hd.1 (a:=i) (b:=2*(N+1)+1) (by omega)
    rw [fst_odd,nsucc] at g
    have f0:fst m d 0=0:=by unfold fst; rw [if_pos rfl]
    rw [f0] at this
    omega
   have skip:¬ hitT m d N w0 x k i→((kk=0∧∃ j:Nat,z=(j:Int)∧i≤j∧j<2*N+3∧hitT m d N w0 x k j∧∀ j',i≤j'→j'<j→¬ hitT m d N w0 x k j')∨(kk=1∧∀ j',i≤j'→j'<2*N+3→¬ hitT m d N w0 x k j')):=fun hno=>by
    rcases g2 with ⟨a,j,b,c1,c2,c3,c4⟩ | ⟨a,b⟩
    ·refine .inl ⟨a,j,b,by omega,c2,c3,fun j' e1 e2=>?_⟩
     rcases (by omega:j'=i∨i+1≤j') with rfl | e
     ·exact hno
     ·exact c4 j' e e2
    ·refine .inr ⟨a,fun j' e1 e2=>?_⟩
     rcases (by omega:j'=i∨i+1≤j') with rfl | e
     ·exact hno
     ·exact b j' e e2
   have hfst:(prt m d N i).2.2.1=fst m d i:=prt_fst m d N i
   rw [nxI_fs,w1,ptL_eq,ptL_el m d N i hi,hnext,hfst,w8n (n:=w0+fst m d i) (by omega) (by omega)]
   simp only [List.length_reverse,pts_len]
   rw [bif_dT (by omega),bif_dT (by omega)]
   by_cases c1:(prt m d N i).1=k
   ·rw [show ((prt m d N i).1==k)=true by simpa using c1,cond_true]
    by_cases c2:w0+fst m d i>x
    ·rw [bif_dT c2]
     by_cases c3:w0+fst m d i≤1099511627776
     ·rw [bif_dT c3]
      exact ⟨0,(i:Int),rfl,.inl ⟨rfl,i,rfl,Nat.le_refl _,hi,⟨c1,c2,c3⟩,fun j' a b=>absurd b (by omega)⟩⟩
     ·rw [bif_dF c3]
      exact ⟨kk,z,rfl,skip (fun g=>c3 g.2.2)⟩
    ·rw [bif_dF c2]
     exact ⟨kk,z,rfl,skip (fun g=>c2 g.2.1)⟩
   ·rw [show ((prt m d N i).1==k)=false from beq_eq_false_iff_ne.2 c1,cond_false]
    exact ⟨kk,z,rfl,skip (fun g=>c1 g.1)⟩
  ·refine ⟨1,(i:Int),?_,.inr ⟨rfl,fun j' a b=>absurd b (by omega)⟩⟩
   rw [nxI_fs]
   simp only [List.length_reverse,pts_len]
   rw [bif_dT (by omega),bif_dF (by omega)]
theorem next_all {m d t s c x k v:Int}{N:Nat}(h:ckX m d t s c=0)(hN:trN m t s=N)(hx:0≤x∧x≤1099511627776)(hk:1≤k∧k≤5)(hv:NxT m d s N k x (x / s*s) v):KnownR Try.prog [] 27 [.val (.agg #[.int .i64 m,.int .i64 d,.int .i64 t,.int .i64 s,.int .i64 c]),.val (.int .i64 x),.val (.int .i64 k)] (.tuple #[.int .i64 (if v≤1099511627776 then v else 0),.int .i64 (if v≤1099511627776 then 0 else 2)]) []:=by
 obtain ⟨h1,h2,h3,h4,h5,h6,h7⟩:=ck_all h
 have hN2:N≤16:=by omega
 have hsl:=slot_len (d:=d) hN (by omega) h3
 have hb0:=nmul (n:=N) (t:=m+d) (by omega) (by omega) (by omega)
 have w1:=w8n (n:=m+N*(m+d)+m) (by omega) (by omega)
 have w2:=w8n (n:=m+N*(m+d)+m+d) (by omega) (by omega)
 have hW:IntKind.i64.wrap (IntKind.i64.wrap (m+N*(m+d)+m)+d)=s:=by rw [w1,w2,hsl]
 have hD:=nxD_ok m d t s c x k h h1 h2 h6 h4 (N+1) 0 _ (by rw [nxD_eq m d t s c x k 0]; exact ofD_all h1 h2 hN hN2)
 dsimp only at hD
 have hz:(pts m d N (2*N+1)).reverse.length≤33:=by rw [List.length_reverse,pts_len]; omega
 have hk1:(ckX m d t s c != (0:Int))=false:=by rw [h]; rfl
 have hs1:1≤IntKind.i64.wrap (IntKind.i64.wrap (m+N*(m+d)+m)+d):=by rw [hW]; exact h5.1
 have u0:=Int.emod_nonneg x (b:=s) (by omega)
 have u1:=Int.emod_lt_of_pos x (b:=s) (by omega)
 have q2:=Int.emod_add_mul_ediv x s
 have q0:0≤x / s:=Int.ediv_nonneg hx.1 (by omega)
 have qc:s*(x / s)=x / s*s:=Int.mul_comm _ _
 have qn:0≤x / s*s:=Int.mul_nonneg q0 (by omega)
 have hf:fst m d (2*N+3)=s:=by rw [show 2*N+3=2*(N+1)+1 by omega,fst_odd,nsucc]; omega
 have f0:fst m d 0=0:=by unfold fst; rw [if_pos rfl]
 have hbase:IntKind.i64.wrap (x - x.tmod (IntKind.i64.wrap (IntKind.i64.wrap (m+N*(m+d)+m)+d)))=x / s*s:=by
  rw [hW,Int.tmod_eq_emod_of_nonneg hx.1,w8n (by omega) (by omega)]; omega
 have hlow:∀ j:Nat,j<2*N+3→0≤fst m d j∧fst m d j<s:=fun j hj=>by
  have a1:=fst_mono h1.1 h2.1 (a:=0) (b:=j) (by omega)
  have a2:=fst_lt h1.1 h2.1 hj
  omega
 have k4:(decide (((pts m d N (2*N+1)).reverse.length+(1:Nat))*(32:Nat)<(1000000000:Nat)))=true:=decide_eq_true (by omega)
 have k7:(decide (((pts m d N (2*N+1)).reverse.length+(1:Nat)+(1:Nat))*(32:Nat)<(1000000000:Nat)))=true:=decide_eq_true (by omega)
 have k11:(decide (x≥(0:Int)))=true:=decide_eq_true hx.1
 have k14:(!decide (x≤(1099511627776:Int)))=false:=by rw [decide_eq_true hx.2]; rfl
 have k15:(decide (k≥(1:Int)))=true:=decide_eq_true hk.1
 have k18:(!decide (k≤(5:Int)))=false:=by rw [decide_eq_true hk.2]; rfl
 have k19:(IntKind.i64.wrap (IntKind.i64.wrap (m+N*(m+d)+m)+d)==(0:Int))=false:=by rw [hW]; exact beq_eq_false_iff_ne.2 (by omega)
 have fin:∀ (b:Int) (j:Nat),0≤b→b+fst m d j=v→v≤1099511627776→j<2*N+3→(∃ fu,nxA_f m d t s c x k (pts m d N (2*N+1)).reverse (N:Int) (m+N*(m+d)) fu (x / s*s)=some (0,(b,(j:Int))))→KnownR Try.prog [] 27 [.val (.agg #[.int .i64 m,.int .i64 d,.int .i64 t,.int .i64 s,.int .i64 c]),.val (.int .i64 x),.val (.int .i64 k)] (.tuple #[.int .i64 (if v≤1099511627776 then v else 0),.int .i64 (if v≤1099511627776 then 0 else 2)]) []:=by
  intro b j hb1 hbv hv2 hj hfu
  obtain ⟨fu,hfu⟩:=hfu
  have hA:=nxA_ok m d t s c x k (pts m d N (2*N+1)).reverse (N:Int) (m+N*(m+d)) h h1 h2 h6 h4 hz hs1 hx hk hk1 hD fu 0 (b,(j:Int)) (by rw [hbase]; exact hfu)
  dsimp only at hA
  have kk:=nx0 m d t s c x k (pts m d N (2*N+1)).reverse (N:Int) (m+N*(m+d)) b (j:Int) h h1 h2 h6 h4 hz hs1 hx hk hk1 hD k4 k7 k11 k14 k15 k18 k19 hA
  have hl:=hlow j hj
  have e0:nx0_c0 m d t s c x k (pts m d N (2*N+1)).reverse (N:Int) (m+N*(m+d)) b (j:Int)=v:=by
   unfold nx0_c0
   rw [w1,ptL_eq,ptL_el m d N j hj,prt_fst,w8n (by omega) (by omega),hbv]
  rw [e0] at kk
  rw [if_pos hv2,if_pos hv2]
  exact kk
 have out:1099511627776<v→(∃ fu z,nxA_f m d t s c x k (pts m d N (2*N+1)).reverse (N:Int) (m+N*(m+d)) fu (x / s*s)=some (1,z))→KnownR Try.prog [] 27 [.val (.agg #[.int .i64 m,.int .i64 d,.int .i64 t,.int .i64 s,.int .i64 c]),.val (.int .i64 x),.val (.int .i64 k)] (.tuple #[.int .i64 (if v≤1099511627776 then v else 0),.int .i64 (if v≤1099511627776 then 0 else 2)]) []:=by
  intro hv2 hfu
  obtain ⟨fu,z,hfu⟩:=hfu
  have hA:=nxA_ok m d t s c x k (pts m d N (2*N+1)).reverse (N:Int) (m+N*(m+d)) h h1 h2 h6 h4 hz hs1 hx hk hk1 hD fu 1 z (by rw [hbase]; exact hfu)
  have kk:=nx1 m d t s c x k (pts m d N (2*N+1)).reverse (N:Int) (m+N*(m+d)) z.1 z.2 h h1 h2 h6 h4 hz hs1 hx hk hk1 hD k4 k7 k11 k14 k15 k18 k19 hA
  rw [if_neg (by omega),if_neg (by omega)]
  exact kk
 have step:∀ (fu:Nat) (y:Int),0≤y→y≤1099511627776→nxA_f m d t s c x k (pts m d N (2*N+1)).reverse (N:Int) (m+N*(m+d)) (fu+1) y=nxI_m (nxI_f m d t s c x k (pts m d N (2*N+1)).reverse (N:Int) (m+N*(m+d)) y 40 0) fun (nxI_j:Nat) (nxI_z0:Int)=>(bif (Nat.beq nxI_j 0) then some (0,((y),nxI_z0)) else (bif (Nat.beq nxI_j 1) then nxA_f m d t s c x k (pts m d N (2*N+1)).reverse (N:Int) (m+N*(m+d)) fu (y+s) else none)):=fun fu y a b=>by
  rw [nxA_fs,bif_dT a,bif_dT b,hW,w8n (n:=y+s) (by omega) (by omega)]
 have stop:∀ (fu:Nat) (y:Int),0≤y→1099511627776<y→nxA_f m d t s c x k (pts m d N (2*N+1)).reverse (N:Int) (m+N*(m+d)) (fu+1) y=some (1,(y,default)):=fun fu y a b=>by
  rw [nxA_fs,bif_dT a,bif_dF (by omega)]
 obtain ⟨vj,vj1,vj2,vj3⟩:=hv.mem
 have hvj:=hlow vj vj1
 obtain ⟨k1,z1,g1,g2⟩:=nxJ_go (m:=m) (d:=d) (t:=t) (s:=s) (c:=c) (x:=x) (k:=k) (N:=N) (N:Int) (x / s*s) h1 h2 hN2 ⟨by omega,by omega⟩ 39 0 (by omega) (by omega)
 have g1:nxI_f m d t s c x k (pts m d N (2*N+1)).reverse (N:Int) (m+N*(m+d)) (x / s*s) 40 0=some (k1,z1):=g1
 rcases g2 with ⟨rfl,j,rfl,_,hj,hh,hno⟩ | ⟨rfl,hno⟩
 ·have hl:=hlow j hj
  have hv':NxT m d s N k x (x / s*s) (x / s*s+fst m d j):=by
   refine ⟨⟨j,hj,hh.1,.inl ⟨rfl,hh.2.1⟩⟩,fun j' a b e=>?_,fun j' a b=>?_⟩
   ·rcases Nat.lt_or_ge j' j with g | g
    ·have:=hno j' (by omega) g
     have hle:=fst_mono h1.1 h2.1 (a:=j') (b:=j) (by omega)
     exact absurd ⟨b,e,by have:=hh.2.2; omega⟩ this
    ·have:=fst_mono h1.1 h2.1 g; omega
   ·have:=hlow j' a; omega
  have ev:=hv.one hv'
  refine fin (x / s*s) j (by omega) ev.symm (by rw [ev]; exact hh.2.2) hj ⟨1,?_⟩
  rw [step 0 _ (by omega) (by omega),g1]
  simp only [nxI_m]
  rfl
 ·have big1:∀ j,j<2*N+3→(prt m d N j).1=k→x<x / s*s+fst m d j→1099511627776<x / s*s+fst m d j:=fun j a b e=>by
   rcases Int.lt_or_le 1099511627776 (x / s*s+fst m d j) with g | g
   ·exact g
   ·exact absurd ⟨b,e,g⟩ (hno j (by omega) a)
  rcases Int.lt_or_le 1099511627776 (x / s*s+s) with hbig | hsm
  ·refine out (by
    rcases vj3 with ⟨e,l⟩ | e
    ·rw [e]; exact big1 vj vj1 vj2 (by omega)
    ·omega) ⟨2,(x / s*s+s,default),?_⟩
   rw [step 1 _ (by omega) (by omega),g1]
   simp only [nxI_m]
   rw [show Nat.beq 1 0=false from rfl,cond_false,show Nat.beq 1 1=true from rfl,cond_true,stop 0 _ (by omega) hbig]
  ·obtain ⟨k2,z2,g3,g4⟩:=nxJ_go (m:=m) (d:=d) (t:=t) (s:=s) (c:=c) (x:=x) (k:=k) (N:=N) (N:Int) (x / s*s+s) h1 h2 hN2 ⟨by omega,by omega⟩ 39 0 (by omega) (by omega)
   have g3:nxI_f m d t s c x k (pts m d N (2*N+1)).reverse (N:Int) (m+N*(m+d)) (x / s*s+s) 40 0=some (k2,z2):=g3
   rcases g4 with ⟨rfl,j,rfl,_,hj,hh,hno2⟩ | ⟨rfl,hno2⟩
   ·have hl:=hlow j hj
    have hv':NxT m d s N k x (x / s*s) (x / s*s+s+fst m d j):=by
     refine ⟨⟨j,hj,hh.1,.inr rfl⟩,fun j' a b e=>?_,fun j' a b=>?_⟩
     ·have:=big1 j' a b e; have:=hh.2.2; omega
     ·rcases Nat.lt_or_ge j' j with g | g
      ·have:=hno2 j' (by omega) g
       have hle:=fst_mono h1.1 h2.1 (a:=j') (b:=j) (by omega)
       have hl':=hlow j' a
       exact absurd ⟨b,by omega,by have:=hh.2.2; omega⟩ this
      ·have:=fst_mono h1.1 h2.1 g; omega
    have ev:=hv.one hv'
    refine fin (x / s*s+s) j (by omega) ev.symm (by rw [ev]; exact hh.2.2) hj ⟨2,?_⟩
    rw [step 1 _ (by omega) (by omega),g1]
    simp only [nxI_m]
    rw [show Nat.beq 1 0=false from rfl,cond_false,show Nat.beq 1 1=true from rfl,cond_true,step 0 _ (by omega) (by omega),g3]
    simp only [nxI_m]
    rfl
   ·have big2:∀ j,j<2*N+3→(prt m d N j).1=k→1099511627776<x / s*s+s+fst m d j:=fun j a b=>by
     have hl':=hlow j a
     rcases Int.lt_or_le 1099511627776 (x / s*s+s+fst m d j) with g | g
     ·exact g
     ·exact absurd ⟨b,by omega,g⟩ (hno2 j (by omega) a)
    have hb3:=big2 vj vj1 vj2
    refine out (by
     rcases vj3 with ⟨e,l⟩ | e
     ·rw [e]; exact big1 vj vj1 vj2 (by omega)
     ·omega) ⟨3,(x / s*s+s+s,default),?_⟩
    rw [step 2 _ (by omega) (by omega),g1]
    simp only [nxI_m]
    rw [show Nat.beq 1 0=false from rfl,cond_false,show Nat.beq 1 1=true from rfl,cond_true,step 1 _ (by omega) hsm,g3]
    simp only [nxI_m]
    rw [show Nat.beq 1 0=false from rfl,cond_false,show Nat.beq 1 1=true from rfl,cond_true,stop 0 _ (by omega) (by omega)]
end Go.Proofs.Ytaogbagopdlkmaa
