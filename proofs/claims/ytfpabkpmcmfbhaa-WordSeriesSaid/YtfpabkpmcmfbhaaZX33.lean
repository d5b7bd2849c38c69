import Derived.Test.YtfpabkpmcmfbhaaZV33
import Derived.Test.YtfpabkpmcmfbhaaOgV
set_option linter.unusedSimpArgs false
set_option linter.unusedVariables false
namespace Go.Proofs.Ytfpabkpmcmfbhaa
open Go Go.RowKit
theorem stepE_len (x:En)(s:List Int × List Bool):(stepE x s).1.length=s.1.length:=by
 unfold stepE; split
 ·split
  ·simp
  ·split <;> simp
 ·rfl
theorem stepF_len (lo hi2:Int)(x:En)(s:List Int × List Bool):(stepF lo hi2 x s).1.length=s.1.length:=by
 unfold stepF; split
 ·exact stepE_len x s
 ·rfl
theorem foldF_len (lo hi2:Int):∀ (es:List En) (s:List Int × List Bool),(es.foldl (fun s x=>stepF lo hi2 x s) s).1.length=s.1.length
 | [],s=>rfl
 | x::es,s=>by rw [List.foldl_cons,foldF_len lo hi2 es]; exact stepF_len lo hi2 x s
theorem wsL_len (ld:List Int)(es:List En)(lo hi2:Int):(wsL ld es lo hi2).length=ld.length:=foldF_len lo hi2 es _
theorem okL_next {ld:List Int}{es:List En}(h:okL ld es)(lo hi2:Int):okL (wsL ld es lo hi2) es:=by
 obtain ⟨h1,h2,h3⟩:=h
 unfold okL
 rw [wsL_len]
 exact ⟨h1,h2,h3⟩
theorem enS_sorted {n:Int}:∀ {es:List En} {p:Int},enS n es p=0→es.Pairwise (fun a b=>a.1≤b.1)∧(∀ x ∈ es,p≤x.1)∧∀ x ∈ es,0≤x.1
 | [],p,_=>⟨List.Pairwise.nil,by simp,by simp⟩
 | x::r,p,h=>by
  unfold enS at h
  split at h
  ·cases h
  ·rename_i h1
   split at h
   ·cases h
   ·rename_i h2
    split at h
    ·obtain ⟨a,b,c⟩:=enS_sorted h
     refine ⟨List.pairwise_cons.2 ⟨b,a⟩,fun y hy=>?_,fun y hy=>?_⟩
     ·rcases List.mem_cons.1 hy with rfl | hy
      ·omega
      ·have:=b y hy; omega
     ·rcases List.mem_cons.1 hy with rfl | hy
      ·omega
      ·exact c y hy
    ·rename_i h3; exact absurd h h3
theorem ch_sorted {m:Int}{ld:List Int}{es:List En}(h:chX m ld es=0):es.Pairwise (fun a b=>a.1≤b.1)∧∀ x ∈ es,0≤x.1:=by
 unfold chX at h
 split at h
 ·split at h
  ·split at h
   ·have:=enS_sorted h; exact ⟨this.1,this.2.2⟩
   ·cases h
  ·cases h
 ·cases h
theorem rsA_go {m sl n:Int}{ld:List Int}{es:List En}(hs:1≤sl∧sl≤1099511627776)(hn:0≤n∧n≤1000):∀ (k j:Nat) (Y L:List Int) (a4 a5 a6 a7 a8 a9 b0 b1 b2 b3 b4:Int),(j:Int)+k=n→Y.length=j→okL L es →
  ∃ z,rsA_f m ld es sl n (k+1) Y L.reverse L.length (j:Int) a4 a5 a6 a7 a8 a9 b0 b1 b2 b3 b4=some (0,((serR m sl es k (j:Int) L).reverse++Y,z)):=by
 intro k
 induction k with
 | zero =>
  intro j Y L a4 a5 a6 a7 a8 a9 b0 b1 b2 b3 b4 hj hY hL
  rw [rsA_fs,List.reverse_reverse,okB_is.2 hL,decide_eq_true (show 0≤(j:Int)∧(j:Int)≤1000∧(Y.length:Int)=(j:Int) by omega),decide_eq_true (show L.length=L.reverse.length by simp)]
  simp only [Bool.and_self,cond_true]
  rw [bif_dF (by omega)]
  exact ⟨_,rfl⟩
 | succ k ih =>
  intro j Y L a4 a5 a6 a7 a8 a9 b0 b1 b2 b3 b4 hj hY hL
  have m0:0≤(j:Int)*sl:=Int.mul_nonneg (by omega) (by omega)
  have m1:((j:Int)+1)*sl=(j:Int)*sl+sl:=by rw [Int.add_mul,Int.one_mul]
  have m2:(j:Int)*sl≤1000*1099511627776:=Int.mul_le_mul (by omega) hs.2 (by omega) (by omega)
  rw [rsA_fs,List.reverse_reverse,okB_is.2 hL,decide_eq_true (show 0≤(j:Int)∧(j:Int)≤1000∧(Y.length:Int)=(j:Int) by omega),decide_eq_true (show L.length=L.reverse.length by simp)]
  simp only [Bool.and_self,cond_true]
  rw [bif_dT (by omega),w8n (n:=(j:Int)+1) (by omega) (by omega),w8n (n:=(j:Int)*sl) (by omega) (by omega),w8n (n:=((j:Int)+1)*sl) (by omega) (by omega)]
  have hR:wsR L es ((j:Int)*sl) (((j:Int)+1)*sl)=(wsL L es ((j:Int)*sl) (((j:Int)+1)*sl)).reverse:=rfl
  rw [hR,List.length_reverse,show (j:Int)+1=((j+1:Nat):Int) by omega]
  have e:serR m sl es (k+1) (j:Int) L=wsN m L es ((j:Int)*sl) (((j:Int)+1)*sl)::serR m sl es k ((j:Int)+1) (wsL L es ((j:Int)*sl) (((j:Int)+1)*sl)):=rfl
  rw [e,List.reverse_cons,List.append_assoc,List.singleton_append,show (j:Int)+1=((j+1:Nat):Int) by omega]
  exact ih (j+1) _ _ _ _ _ _ _ _ _ _ _ _ _ (by omega) (by simp [hY]) (okL_next hL _ _)
theorem rser_is (m:Int)(ld:List Int)(es:List En)(sl n:Int):KnownR Try.prog [] 17 [.val (.int .i64 m),.list (rowA gI ld) ld.length,.list (rowA gE es) es.length,.val (.int .i64 sl),.val (.int .i64 n)] (.tuple #[.complex .f64 0 (serL m ld es sl n).length,.int .i64 (serE m ld es sl n)]) [(rowA gI (serL m ld es sl n),3)]:=by
 by_cases hc:chX m ld es=0
 ·by_cases hs:serOk sl n
  ·have hs':=hs
   obtain ⟨s1,s2,s3,s4⟩:=hs
   have e0:serL m ld es sl n=serR m sl es n.toNat 0 ld:=by
    unfold serL; rw [if_pos ⟨hc,hs'⟩]
    have st:=ch_sorted hc
    exact (ser_eq s1 st.1 n.toNat 0 [] es ld rfl (by simp) (fun x hx=>by have:=st.2 x hx; simpa using this)).symm
   have e1:serE m ld es sl n=0:=by unfold serE; rw [if_pos hc,if_pos hs']
   obtain ⟨l1,l2,l3,ho⟩:=ch_ok hc
   have hL:okL ld es:=⟨⟨l1,l2⟩,l3,ho⟩
   rw [e0,e1]
   by_cases hn:n=0
   ·subst hn
    exact rs0 m ld es sl hc (okB_is.2 hL) ⟨s1,s2⟩
   ·obtain ⟨k,hk⟩:∃ k:Nat,n.toNat=k+1:=⟨n.toNat - 1,by omega⟩
    obtain ⟨z,hz⟩:=rsA_go (m:=m) (sl:=sl) (n:=n) (ld:=ld) (es:=es) ⟨s1,s2⟩ ⟨s3,s4⟩ k 1 [wsN m ld es (0*sl) (1*sl)] (wsL ld es (0*sl) (1*sl)) (wsN m ld es (0*sl) (1*sl)) 0 0 1 0 (0*sl) 0 1 (1*sl) (wsN m ld es (0*sl) (1*sl)) (wsN m ld es (0*sl) (1*sl)) (by omega) rfl (okL_next hL _ _)
    have w0:IntKind.i64.wrap (0*sl)=0*sl:=w8n (by omega) (by omega)
    have w1:IntKind.i64.wrap (1*sl)=1*sl:=w8n (by omega) (by omega)
    have hR:wsR ld es (0*sl) (1*sl)=(wsL ld es (0*sl) (1*sl)).reverse:=rfl
    have lB:=rsB_ok m ld es sl n hc (okB_is.2 hL) ⟨s1,s2⟩ ⟨by omega,s4⟩ _ _ _ (by rw [w0,w1,hR,List.length_reverse]; exact hz)
    dsimp only at lB
    have r:=rsK m ld es sl n _ _ _ _ _ _ _ _ _ _ _ _ _ _ _ hc (okB_is.2 hL) ⟨s1,s2⟩ ⟨by omega,s4⟩ (by simp [hc]) (decide_eq_false (by omega)) (decide_eq_false (by omega)) (decide_eq_false (by omega)) (decide_eq_false (by omega)) (by simp [hc]) lB
    unfold rsK_c0 at r
    have e:((serR m sl es k ((1:Nat):Int) (wsL ld es (0*sl) (1*sl))).reverse++[wsN m ld es (0*sl) (1*sl)]).reverse=serR m sl es n.toNat 0 ld:=by
     rw [hk,List.reverse_append,List.reverse_reverse]; rfl
    rw [e] at r
    exact r
  ·have e0:serL m ld es sl n=[]:=by unfold serL; rw [if_neg (fun h=>hs h.2)]
   have e1:serE m ld es sl n=2:=by unfold serE; rw [if_pos hc,if_neg hs]
   rw [e0,e1]
   exact rsR m ld es sl n hc hs
 ·have e0:serL m ld es sl n=[]:=by unfold serL; rw [if_neg (fun h=>hc h.1)]
  have e1:serE m ld es sl n=chX m ld es:=by unfold serE; rw [if_neg hc]
  rw [e0,e1]
  exact rsE m ld es sl n hc
end Go.Proofs.Ytfpabkpmcmfbhaa
