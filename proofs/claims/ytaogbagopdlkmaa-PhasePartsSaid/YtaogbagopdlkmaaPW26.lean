import Derived.Test.YtaogbagopdlkmaaPV26
set_option linter.unusedVariables false
namespace Go.Proofs.Ytaogbagopdlkmaa
open Go Go.RowKit
def ntE (m d t s c x k:Int):Int:=if ckX m d t s c=0 then (if 0≤x∧x≤1099511627776 then (if 1≤k∧k≤5 then (if nxR' m d s x k (trN m t s).toNat≤1099511627776 then 0 else 2) else 11) else 2) else ckX m d t s c
def ntV (m d t s c x k:Int):Int:=if ntE m d t s c x k=0 then nxR' m d s x k (trN m t s).toNat else 0
theorem nt_in {m d t s c x k:Int}{N:Nat}(h:ckX m d t s c=0)(hN:trN m t s=N)(hx:0≤x∧x≤1099511627776)(hk:1≤k∧k≤5):ntE m d t s c x k=(if nxR' m d s x k N≤1099511627776 then 0 else 2)∧ntV m d t s c x k=(if nxR' m d s x k N≤1099511627776 then nxR' m d s x k N else 0):=by
 have e:ntE m d t s c x k=(if nxR' m d s x k N≤1099511627776 then 0 else 2):=by unfold ntE; rw [if_pos h,if_pos hx,if_pos hk,hN,Int.toNat_natCast]
 refine ⟨e,?_⟩
 unfold ntV
 rw [e,hN,Int.toNat_natCast]
 by_cases g:nxR' m d s x k N≤1099511627776
 ·rw [if_pos g,if_pos rfl,if_pos g]
 ·rw [if_neg g,if_neg (by decide),if_neg g]
theorem pNextT (m d t s c x k:Int):KnownR Try.prog [] 27 [.val (.agg #[.int .i64 m,.int .i64 d,.int .i64 t,.int .i64 s,.int .i64 c]),.val (.int .i64 x),.val (.int .i64 k)] (.tuple #[.int .i64 (ntV m d t s c x k),.int .i64 (ntE m d t s c x k)]) []:=by
 by_cases h:ckX m d t s c=0
 ·obtain ⟨h1,h2,h3,h4,h5,h6,h7⟩:=ck_all h
  obtain ⟨N,hN⟩:∃ N:Nat,trN m t s=N:=⟨(trN m t s).toNat,by omega⟩
  have hN2:N≤16:=by omega
  have hsl:=slot_len (d:=d) hN (by omega) h3
  have hb0:=nmul (n:=N) (t:=m+d) (by omega) (by omega) (by omega)
  have hW:IntKind.i64.wrap (IntKind.i64.wrap (m+N*(m+d)+m)+d)=s:=by rw [w8n (n:=m+N*(m+d)+m) (by omega) (by omega),w8n (by omega) (by omega),hsl]
  have hz:(pts m d N (2*N+1)).reverse.length≤33:=by rw [List.length_reverse,pts_len]; omega
  have hk1:(ckX m d t s c != (0:Int))=false:=by rw [h]; rfl
  have hs1:1≤IntKind.i64.wrap (IntKind.i64.wrap (m+N*(m+d)+m)+d):=by rw [hW]; exact h5.1
  have hD:=nxD_ok m d t s c x k h h1 h2 h6 h4 (N+1) 0 _ (by rw [nxD_eq m d t s c x k 0]; exact ofD_all h1 h2 hN hN2)
  dsimp only at hD
  by_cases hx:0≤x∧x≤1099511627776
  ·by_cases hk:1≤k∧k≤5
   ·rw [(nt_in h hN hx hk).1,(nt_in h hN hx hk).2]
    exact next_all h hN hx hk (nxR_is h hN hk)
   ·have e:ntE m d t s c x k=11:=by unfold ntE; rw [if_pos h,if_pos hx,if_neg hk]
    unfold ntV
    rw [e,if_neg (by decide)]
    exact nxK m d t s c x k _ _ _ h h1 h2 h6 h4 hz hs1 hx hk hk1 hD
  ·have e:ntE m d t s c x k=2:=by unfold ntE; rw [if_pos h,if_neg hx]
   unfold ntV
   rw [e,if_neg (by decide)]
   exact nxR m d t s c x k _ _ _ h h1 h2 h6 h4 hz hs1 hx hk1 hD
 ·have e:ntE m d t s c x k=ckX m d t s c:=by unfold ntE; rw [if_neg h]
  unfold ntV
  rw [e,if_neg h]
  exact nxE m d t s c x k h
theorem two_ifs (v:Int):(bif decide (v>1099511627776) then (0:Int) else v)=(if v≤1099511627776 then v else 0)∧(bif decide (v>1099511627776) then (2:Int) else 0)=(if v≤1099511627776 then 0 else 2):=by
 by_cases g:v>1099511627776
 ·rw [bif_dT g,bif_dT g,if_neg (by omega),if_neg (by omega)]; exact ⟨rfl,rfl⟩
 ·rw [bif_dF g,bif_dF g,if_pos (by omega),if_pos (by omega)]; exact ⟨rfl,rfl⟩
theorem rNextT (m d t s c x k:Int)(hs:s≤9223372036854775807)(hcc:c≤9223372036854775807):KnownR Try.prog [] 28 [.val (.agg #[.int .i64 m,.int .i64 d,.int .i64 t,.int .i64 s,.int .i64 c]),.val (.int .i64 x),.val (.int .i64 k)] (.tuple #[.int .i64 (ntV m d t s c x k),.int .i64 (ntE m d t s c x k)]) []:=by
 by_cases h:ckX m d t s c=0
 ·obtain ⟨h1,h2,h3,h4,h5,h6,h7⟩:=ck_all h
  obtain ⟨N,hN⟩:∃ N:Nat,trN m t s=N:=⟨(trN m t s).toNat,by omega⟩
  by_cases hx:0≤x∧x≤1099511627776
  ·by_cases hk:1≤k∧k≤5
   ·rw [(nt_in h hN hx hk).1,(nt_in h hN hx hk).2]
    have hxt:x.tmod s=x%s:=Int.tmod_eq_emod_of_nonneg hx.1
    have u0:=Int.emod_nonneg x (b:=s) (by omega)
    have u1:=Int.emod_lt_of_pos x (b:=s) (by omega)
    have q2:=Int.emod_add_mul_ediv x s
    have q0:0≤s*(x / s):=Int.mul_nonneg (by omega) (Int.ediv_nonneg hx.1 (by omega))
    have hB:=tkB_in (k:=k) h1 h2 (N:=N) (i:=0) (by omega) (by omega)
    have hb0:hbV m d t s c k 0=tkB m d N k 0:=hb_is h hN hk 0 (by omega)
    have hB0:0≤tkB m d N k 0∧tkB m d N k 0≤8000000:=hB
    have g0:(ckX m d t s c==(0:Int))=true:=by rw [h]; rfl
    have g5:(ckX m d t s c != (0:Int))=false:=by rw [h]; rfl
    have g1:decide (x<(0:Int))=false:=decide_eq_false (by omega)
    have g2:decide (x>(1099511627776:Int))=false:=decide_eq_false (by omega)
    have g3:(s==(0:Int))=false:=beq_eq_false_iff_ne.2 (by omega)
    have g4:(t==(0:Int))=false:=beq_eq_false_iff_ne.2 (by omega)
    have g6:decide (k<(1:Int))=false:=decide_eq_false (by omega)
    have g7:decide (k>(5:Int))=false:=decide_eq_false (by omega)
    have hg:=rq_go h hN hx hk N (x - x%s+s+tkB m d N k 0) (Nat.le_refl _)
    have hl:=rqA_ok m d t s c x k hs hcc g0 g5 g1 g2 g3 g4 g6 g7 (N+1) 0 (nxR' m d s x k N,-1) (by
     rw [hb0,ht_is h hN,hxt]
     simp (disch:=omega) only [w8n]
     exact hg)
    dsimp only at hl
    have kk:=rqT m d t s c x k (nxR' m d s x k N) (-1) hs hcc g0 g5 g1 g2 g3 g4 g6 g7 g0 g1 g2 g0 g6 g7 g3 hl
    unfold rqT_c0 rqT_c1 at kk
    rw [(two_ifs _).1,(two_ifs _).2] at kk
    exact kk
   ·have e:ntE m d t s c x k=11:=by unfold ntE; rw [if_pos h,if_pos hx,if_neg hk]
    unfold ntV
    rw [e,if_neg (by decide)]
    exact rnK m d t s c x k hs hcc h hx hk
  ·have e:ntE m d t s c x k=2:=by unfold ntE; rw [if_pos h,if_neg hx]
   unfold ntV
   rw [e,if_neg (by decide)]
   exact rnX m d t s c x k hs hcc h hx
 ·have e:ntE m d t s c x k=ckX m d t s c:=by unfold ntE; rw [if_neg h]
  unfold ntV
  rw [e,if_neg h]
  exact rxE m d t s c x k hs hcc h
end Go.Proofs.Ytaogbagopdlkmaa
