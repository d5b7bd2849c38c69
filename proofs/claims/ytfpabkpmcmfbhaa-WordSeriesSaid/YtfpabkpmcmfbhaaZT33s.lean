import Derived.Test.YtfpabkpmcmfbhaaOgS
set_option linter.unusedSimpArgs false
set_option linter.unusedVariables false
namespace Go.Proofs.Ytfpabkpmcmfbhaa
open Go Go.RowKit
def segS (B:Int):List En→List Int × List Bool→List En × (List Int × List Bool)
 | [],s=>([],s)
 | x::r,s=>if x.1<B then segS B r (stepE x s) else (x::r,s)
theorem low {i:Nat}{P Q:Nat→Prop}(h:∃ i':Nat,P i'∧i+1≤i'∧Q i'):∃ i':Nat,P i'∧i≤i'∧Q i':=by
 obtain ⟨a,h1,h2,h3⟩:=h
 exact ⟨a,h1,by omega,h3⟩
theorem sgI_go (d:Nat){m sl n B:Int}{w0 w1:List Int}{w2 w3 w4:Int}{ld:List Int}{es:List En}(hB:IntKind.i64.wrap (IntKind.i64.wrap (w3+1)*sl)=B)(hl:ld.length≤8)(he:es.length≤2000)(ho:∀ i:Nat,i<es.length→okE (ld.length:Int) (el es (i:Int))):∀ (k i:Nat) (L:List Int) (F:List Bool),i+k=es.length→L.length=ld.length→F.length=ld.length →
  ∃ i':Nat,sgI_f m ld es sl n w0 w1 w2 w3 w4 (k+d+1) L.reverse (i:Int) (wdN F:Int)=some (0,((segS B (es.drop i) (L,F)).2.1.reverse,(i':Int),(wdN (segS B (es.drop i) (L,F)).2.2:Int)))∧i≤i'∧i'≤es.length∧es.drop i'=(segS B (es.drop i) (L,F)).1∧(segS B (es.drop i) (L,F)).2.1.length=ld.length∧(segS B (es.drop i) (L,F)).2.2.length=ld.length:=by
 intro k
 induction k with
 | zero =>
  intro i L F h hL hF
  have hk:=ok_at ho (i:=i) (by omega)
  rw [sgI_fs,bif_dT ⟨by omega,by omega,hk,by simp [hL]⟩,bif_dF (by omega),List.drop_of_length_le (by omega)]
  exact ⟨i,rfl,by omega,by omega,by rw [List.drop_of_length_le (by omega)]; rfl,hL,hF⟩
 | succ k ih =>
  intro i L F h hL hF
  rw [show k+1+d=k+d+1 by omega]
  have hk:=ok_at ho (i:=i) (by omega)
  obtain ⟨g1,g2,g3⟩:=ho i (by omega)
  have hdr:=el_drop (l:=es) (i:=i) (by omega)
  rw [sgI_fs,bif_dT ⟨by omega,by omega,hk,by simp [hL]⟩,bif_dT (by omega),hdr,w8n (n:=(i:Int)+1) (by omega) (by omega),show (i:Int)+1=((i+1:Nat):Int) by omega,hB]
  generalize el es (i:Int)=x at *
  by_cases cB:x.1<B
  rotate_left
  ·have e9:segS B (x::es.drop (i+1)) (L,F)=(x::es.drop (i+1),(L,F)):=by unfold segS; rw [if_neg cB]
   rw [bif_dF cB,e9]
   exact ⟨i,rfl,by omega,by omega,hdr,hL,hF⟩
  have e9:segS B (x::es.drop (i+1)) (L,F)=segS B (es.drop (i+1)) (stepE x (L,F)):=by conv=>lhs; unfold segS; rw [if_pos cB]
  rw [bif_dT cB,e9]
  by_cases h1:x.2.1=2
  ·have e1:(x.2.1==2)=true:=by simp [h1]
   rw [e1,cond_true]
   rcases g3 with g3 | ⟨g3,g4,g5,g6⟩
   ·exact absurd h1 g3
   ·rw [w8n (n:=x.2.2.2.2.1 - 1) (by omega) (by omega),List.reverse_reverse]
    obtain ⟨c,hc⟩:∃ c:Nat,x.2.2.2.2.1 - 1=(c:Int):=⟨(x.2.2.2.2.1 - 1).toNat,by omega⟩
    by_cases h2:x.2.2.2.2.2.1=1
    ·have e3:stepE x (L,F)=(L.set (x.2.2.2.2.1 - 1).toNat x.2.2.2.2.2.2,F):=by unfold stepE; rw [if_pos h1,if_pos h2]
     rw [bif_dT h2,e3]
     exact low (ih (i+1) _ _ (by omega) (by simp [hL]) hF)
    ·rw [bif_dF h2]
     by_cases h4:x.2.2.2.2.2.1=2
     ·have e3:stepE x (L,F)=(L,F):=by unfold stepE; rw [if_pos h1,if_neg h2,if_neg (by omega)]
      rw [bif_dT h4,e3]
      exact low (ih (i+1) _ _ (by omega) hL hF)
     ·have e3:stepE x (L,F)=(L,F.set c true):=by unfold stepE; rw [if_pos h1,if_neg h2,if_pos (by omega),hc,Int.toNat_natCast]
      have hcl:c<F.length:=by omega
      have p1:=pow8 (j:=c) (by omega)
      have hs:IntKind.i64.wrap ((1:Int)*2^min ((IntKind.u64.wrap (c:Int))).toNat 64)=((2^c:Nat):Int):=by
       rw [w8u (by omega) (by omega),shl_one (by omega)]
       generalize (2:Nat)^c=q at p1 ⊢
       exact w8n (by omega) (by omega)
      have ho2:=or_bits (F:=F) (j:=c) (by omega) hcl rfl rfl
      have hb:=wd_lt (F.set c true)
      have hb2:=pow8 (j:=(F.set c true).length) (by simp; omega)
      have ih2:=ih (i+1) L (F.set c true) (by omega) hL (by simp [hF])
      rw [e3,hc,hs]
      simp only [ho2]
      rw [w8n (n:=(wdN (F.set c true):Int)) (by omega) (by omega)]
      rw [bif_dF h4]
      by_cases h5:x.2.2.2.2.2.1=3
      ·rw [bif_dT h5]; exact low ih2
      ·rw [bif_dF h5]
       by_cases h6:x.2.2.2.2.2.1=4
       ·rw [bif_dT h6]; exact low ih2
       ·rw [bif_dF h6]
        by_cases h7:x.2.2.2.2.2.1=5
        ·rw [bif_dT h7]; exact low ih2
        ·rw [bif_dF h7]; exact low ih2
  ·have e1:(x.2.1==2)=false:=by simp [h1]
   have e3:stepE x (L,F)=(L,F):=by unfold stepE; rw [if_neg h1]
   rw [e1,cond_false,e3]
   exact low (ih (i+1) _ _ (by omega) hL hF)
theorem sgW_go {m sl n:Int}{w0 w1:List Int}{w2 w3 w4:Int}{ld:List Int}{es:List En}{z1 z2:Int}{L:List Int}{F:List Bool}(hl:ld.length≤8)(hL:L.length=ld.length)(hF:F.length=ld.length):∀ (k i:Nat),i+k=ld.length →
  ∃ z,sgW_f m ld es sl n w0 w1 w2 w3 w4 L.reverse z1 z2 (k+1) (wdN ((tgF m F L).take i++F.drop i):Int) (i:Int)=some (0,((wdN (tgF m F L):Int),z)):=by
 have ht:=tg_len m F L (by omega)
 intro k
 induction k with
 | zero =>
  intro i h
  rw [sgW_fs,bif_dT ⟨by omega,by omega,by rw [List.length_reverse]; omega⟩,bif_dF (by omega),List.take_of_length_le (by omega),List.drop_of_length_le (by omega),List.append_nil]
  exact ⟨_,rfl⟩
 | succ k ih =>
  intro i h
  obtain ⟨z,hz⟩:=ih (i+1) (by omega)
  have e1:=take_one (l:=tgF m F L) (i:=i) (by omega)
  have e2:=el_drop (l:=F) (i:=i) (by omega)
  have et:=tg_el m F L i (by omega) (by omega)
  refine ⟨z,?_⟩
  rw [sgW_fs,bif_dT ⟨by omega,by omega,by rw [List.length_reverse]; omega⟩,bif_dT (by omega),List.reverse_reverse,w8n (n:=(i:Int)+1) (by omega) (by omega),show (i:Int)+1=((i+1:Nat):Int) by omega]
  by_cases h1:el L (i:Int)>m
  ·rw [bif_dT h1]
   have hT:((tgF m F L).take i++F.drop i).length=ld.length:=by rw [List.length_append,List.length_take,List.length_drop]; omega
   have hset:((tgF m F L).take i++F.drop i).set i true=(tgF m F L).take (i+1)++F.drop (i+1):=by
    rw [e1,et,decide_eq_true h1,Bool.or_true,e2]
    have hi:((tgF m F L).take i).length=i:=by rw [List.length_take]; omega
    have hm:=set_mid ((tgF m F L).take i) (el F (i:Int)) (F.drop (i+1))
    rw [hi] at hm
    rw [hm,List.append_assoc]
    rfl
   have hs:IntKind.u64.wrap ((1:Int)*2^min ((IntKind.u64.wrap (i:Int))).toNat 64)=((2^i:Nat):Int):=by
    have p1:=pow8 (j:=i) (by omega)
    rw [w8u (n:=(i:Int)) (by omega) (by omega),shl_one (by omega)]
    generalize (2:Nat)^i=q at p1 ⊢
    exact w8u (by omega) (by omega)
   have ho:=or_bits (F:=(tgF m F L).take i++F.drop i) (j:=i) (by omega) (by omega) rfl rfl
   have hb:=wd_lt (((tgF m F L).take i++F.drop i).set i true)
   have hb2:=pow8 (j:=(((tgF m F L).take i++F.drop i).set i true).length) (by rw [List.length_set]; omega)
   rw [hs,ho,w8u (by omega) (by omega),hset]
   exact hz
  ·rw [bif_dF h1]
   have hT:(tgF m F L).take i++F.drop i=(tgF m F L).take (i+1)++F.drop (i+1):=by
    rw [e1,et,decide_eq_false h1,Bool.or_false,e2,List.append_assoc]
    rfl
   rw [hT]
   exact hz
def serP (m sl:Int):Nat→Int→List En→List Int→List Int
 | 0,_,_,_=>[]
 | k+1,j,r,L=>(wdN (tgF m (segS ((j+1)*sl) r (L,List.replicate L.length false)).2.2 (segS ((j+1)*sl) r (L,List.replicate L.length false)).2.1):Int)::serP m sl k (j+1) (segS ((j+1)*sl) r (L,List.replicate L.length false)).1 (segS ((j+1)*sl) r (L,List.replicate L.length false)).2.1
theorem serP_len (m sl:Int):∀ (k:Nat) (j:Int) (r:List En) (L:List Int),(serP m sl k j r L).length=k
 | 0,_,_,_=>rfl
 | k+1,j,r,L=>by unfold serP; rw [List.length_cons,serP_len m sl k]
theorem sgA_go {m sl n:Int}{ld:List Int}{es:List En}(h1:1≤ld.length)(hl:ld.length≤8)(he:es.length≤2000)(ho:∀ i:Nat,i<es.length→okE (ld.length:Int) (el es (i:Int)))(hs:1≤sl∧sl≤1099511627776)(hn:0≤n∧n≤1000):∀ (k i j:Nat) (Y L:List Int) (w4:Int),(j:Int)+k=n→i≤es.length→Y.length=j→L.length=ld.length →
  ∃ z1 z2 z3 z4 z5 z6 z7 z8 z9,sgA_f m ld es sl n (k+1) Y L.reverse (i:Int) (j:Int) w4=some (0,((serP m sl k (j:Int) (es.drop i) L).reverse++Y,z1,z2,z3,z4,z5,z6,z7,z8,z9)):=by
 intro k
 induction k with
 | zero =>
  intro i j Y L w4 hj hi hY hL
  rw [sgA_fs,bif_dT ⟨by omega,by omega,by omega,by omega,by omega,by simp [hL]⟩,bif_dF (by omega)]
  exact ⟨_,_,_,_,_,_,_,_,_,rfl⟩
 | succ k ih =>
  intro i j Y L w4 hj hi hY hL
  have m1:0≤((j:Int)+1)*sl:=Int.mul_nonneg (by omega) (by omega)
  have m2:((j:Int)+1)*sl≤1001*1099511627776:=Int.mul_le_mul (by omega) hs.2 (by omega) (by omega)
  have hB:IntKind.i64.wrap (IntKind.i64.wrap ((j:Int)+1)*sl)=((j:Int)+1)*sl:=by
   rw [w8n (n:=(j:Int)+1) (by omega) (by omega),w8n (by omega) (by omega)]
  have hF:(List.replicate ld.length false).length=ld.length:=by simp
  obtain ⟨i',hI,a1,a2,a3,a4,a5⟩:=sgI_go i (m:=m) (n:=n) (w0:=Y) (w1:=L.reverse) (w2:=(i:Int)) (w4:=w4) hB hl he ho (es.length - i) i L (List.replicate ld.length false) (by omega) hL hF
  rw [show es.length - i+i+1=es.length+1 by omega,wd_none,show ((0:Nat):Int)=0 from rfl] at hI
  have hW:=wd_lt (segS (((j:Int)+1)*sl) (es.drop i) (L,List.replicate ld.length false)).2.2
  have hW2:=pow8 (j:=(segS (((j:Int)+1)*sl) (es.drop i) (L,List.replicate ld.length false)).2.2.length) (by omega)
  obtain ⟨zz,hG⟩:=sgW_go (m:=m) (sl:=sl) (n:=n) (w0:=Y) (w1:=L.reverse) (w2:=(i:Int)) (w3:=(j:Int)) (w4:=w4) (ld:=ld) (es:=es) (z1:=(i':Int)) (z2:=(wdN (segS (((j:Int)+1)*sl) (es.drop i) (L,List.replicate ld.length false)).2.2:Int)) hl a4 a5 ld.length 0 (by omega)
  rw [List.take_zero,List.nil_append,List.drop_zero,show ((0:Nat):Int)=0 from rfl] at hG
  have hT:=wd_lt (tgF m (segS (((j:Int)+1)*sl) (es.drop i) (L,List.replicate ld.length false)).2.2 (segS (((j:Int)+1)*sl) (es.drop i) (L,List.replicate ld.length false)).2.1)
  have hT2:=pow8 (j:=(tgF m (segS (((j:Int)+1)*sl) (es.drop i) (L,List.replicate ld.length false)).2.2 (segS (((j:Int)+1)*sl) (es.drop i) (L,List.replicate ld.length false)).2.1).length) (by rw [tg_len m _ _ (by omega)]; omega)
  have ih2:=ih i' (j+1) ((wdN (tgF m (segS (((j:Int)+1)*sl) (es.drop i) (L,List.replicate ld.length false)).2.2 (segS (((j:Int)+1)*sl) (es.drop i) (L,List.replicate ld.length false)).2.1):Int)::Y) (segS (((j:Int)+1)*sl) (es.drop i) (L,List.replicate ld.length false)).2.1 (wdN (segS (((j:Int)+1)*sl) (es.drop i) (L,List.replicate ld.length false)).2.2:Int) (by omega) a2 (by simp [hY]) a4
  obtain ⟨z1,z2,z3,z4,z5,z6,z7,z8,z9,hZ⟩:=ih2
  refine ⟨z1,z2,z3,z4,z5,z6,z7,z8,z9,?_⟩
  have e:serP m sl (k+1) (j:Int) (es.drop i) L=(wdN (tgF m (segS (((j:Int)+1)*sl) (es.drop i) (L,List.replicate ld.length false)).2.2 (segS (((j:Int)+1)*sl) (es.drop i) (L,List.replicate ld.length false)).2.1):Int)::serP m sl k ((j+1:Nat):Int) (es.drop i') (segS (((j:Int)+1)*sl) (es.drop i) (L,List.replicate ld.length false)).2.1:=by
   rw [a3]
   conv=>lhs; unfold serP
   rw [hL,show ((j+1:Nat):Int)=(j:Int)+1 by omega]
  rw [e,List.reverse_cons,List.append_assoc,List.singleton_append,sgA_fs,bif_dT ⟨by omega,by omega,by omega,by omega,by omega,by simp [hL]⟩,bif_dT (by omega),hI]
  simp only [sgI_m]
  rw [show Nat.beq 0 0=true from rfl,cond_true,w8u (by omega) (by omega),hG]
  simp only [sgW_m]
  rw [show Nat.beq 0 0=true from rfl,cond_true,w8n (n:=(wdN (tgF m (segS (((j:Int)+1)*sl) (es.drop i) (L,List.replicate ld.length false)).2.2 (segS (((j:Int)+1)*sl) (es.drop i) (L,List.replicate ld.length false)).2.1):Int)) (by omega) (by omega),w8n (n:=(j:Int)+1) (by omega) (by omega),show (j:Int)+1=((j+1:Nat):Int) by omega]
  exact hZ
end Go.Proofs.Ytfpabkpmcmfbhaa
