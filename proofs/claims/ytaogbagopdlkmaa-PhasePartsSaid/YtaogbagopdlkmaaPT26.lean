import Derived.Test.YtaogbagopdlkmaaPR26
import Derived.Test.YtaogbagopdlkmaaOgKc
set_option linter.unusedVariables false
namespace Go.Proofs.Ytaogbagopdlkmaa
open Go Go.RowKit
theorem ws_le {m d t s c k:Int}{N:Nat}(h:ckX m d t s c=0)(hN:trN m t s=N)(hk:1≤k∧k≤5):0≤wsK m d N k∧wsK m d N k≤s:=by
 obtain ⟨h1,h2,h3,h4,h5,h6,h7⟩:=ck_all h
 have hsl:=slot_len (d:=d) hN (by omega) h3
 have a0:0≤(N:Int)*m:=Int.mul_nonneg (by omega) (by omega)
 have b0:0≤(N:Int)*d:=Int.mul_nonneg (by omega) (by omega)
 rw [Int.mul_add] at hsl
 rw [ws_is m d N k hk]
 split
 ·omega
 ·split
  ·omega
  ·split <;> omega
theorem cnt_in2 {m d t s c k x:Int}{N:Nat}(hm:1≤m∧m≤200000)(hd:1≤d∧d≤200000)(hN:trN m t s=N)(hN2:N≤16)(h:ckX m d t s c=0)(hx:0≤x)(hx2:x≤1099511627776)(hk:1≤k∧k≤5):(0≤x / s∧x / s≤1099511627776)∧(0≤wsK m d N k*(x / s)∧wsK m d N k*(x / s)≤1099511627776):=by
 obtain ⟨h1,h2,h3,h4,h5,h6,h7⟩:=ck_all h
 have hw:=ws_le h hN hk
 have q0:0≤x / s:=Int.ediv_nonneg hx (by omega)
 have q1:x / s≤x:=Int.ediv_le_self _ hx
 have q2:wsK m d N k*(x / s)≤s*(x / s):=Int.mul_le_mul_of_nonneg_right hw.2 q0
 have q3:s*(x / s)≤x:=by rw [Int.mul_comm]; exact Int.ediv_mul_le _ (by omega)
 exact ⟨⟨q0,by omega⟩,Int.mul_nonneg hw.1 q0,by omega⟩
theorem pCountB (m d t s c x y k:Int)(h:ckX m d t s c=0)(hx:0≤x)(hxy:x≤y)(hy:y≤1099511627776)(hk:1≤k∧k≤5):KnownR Try.prog [] 29 [.val (.agg #[.int .i64 m,.int .i64 d,.int .i64 t,.int .i64 s,.int .i64 c]),.val (.int .i64 x),.val (.int .i64 y),.val (.int .i64 k)] (.tuple #[.int .i64 (coV m d t s x y k),.int .i64 0]) []:=by
 obtain ⟨h1,h2,h3,h4,h5,h6,h7⟩:=ck_all h
 obtain ⟨N,hN⟩:∃ N:Nat,trN m t s=N:=⟨(trN m t s).toNat,by omega⟩
 have hN2:N≤16:=by omega
 have hsl:=slot_len (d:=d) hN (by omega) h3
 have hb0:=nmul (n:=N) (t:=m+d) (by omega) (by omega) (by omega)
 have w1:=w8n (n:=m+N*(m+d)+m) (by omega) (by omega)
 have w2:=w8n (n:=m+N*(m+d)+m+d) (by omega) (by omega)
 have hW:IntKind.i64.wrap (IntKind.i64.wrap (m+N*(m+d)+m)+d)=s:=by rw [w1,w2,hsl]
 have hz:(pts m d N (2*N+1)).reverse.length≤33:=by rw [List.length_reverse,pts_len]; omega
 have hk1:(ckX m d t s c != (0:Int))=false:=by rw [h]; rfl
 have hs1:1≤IntKind.i64.wrap (IntKind.i64.wrap (m+N*(m+d)+m)+d):=by rw [hW]; exact h5.1
 have hy2:y≤1099511627776:=by omega
 have ux0:=Int.emod_nonneg x (b:=s) (by omega)
 have ux1:=Int.emod_lt_of_pos x (b:=s) (by omega)
 have uy0:=Int.emod_nonneg y (b:=s) (by omega)
 have uy1:=Int.emod_lt_of_pos y (b:=s) (by omega)
 have hD:=coD_ok m d t s c x y k h h1 h2 h6 h4 (N+1) 0 _ (by rw [coD_eq m d t s c x y k 0]; exact ofD_all h1 h2 hN hN2)
 dsimp only at hD
 have hA:=coA_ok m d t s c x y k (pts m d N (2*N+1)).reverse (N:Int) (m+N*(m+d)) h h1 h2 h6 h4 hz hs1 hk hx hxy hy2 hk1 hD (2*N+3+1) 0 _ (coA_go (N:Int) h1 h2 hN2 (2*N+3) 0 (by omega))
 dsimp only at hA
 have a4:(decide (((pts m d N (2*N+1)).reverse.length+(1:Nat))*(32:Nat)<(1000000000:Nat)))=true:=decide_eq_true (by omega)
 have a7:(decide (((pts m d N (2*N+1)).reverse.length+(1:Nat)+(1:Nat))*(32:Nat)<(1000000000:Nat)))=true:=decide_eq_true (by omega)
 have a11:(decide (k≥(1:Int)))=true:=decide_eq_true hk.1
 have a14:(!decide (k≤(5:Int)))=false:=by rw [decide_eq_true hk.2]; rfl
 have a15:(decide (x<(0:Int)))=false:=decide_eq_false (by omega)
 have a19:(decide (x>y))=false:=decide_eq_false (by omega)
 have a22:(decide (y>(1099511627776:Int)))=false:=decide_eq_false (by omega)
 have hq:(IntKind.i64.wrap (IntKind.i64.wrap (m+N*(m+d)+m)+d)==(0:Int))=false:=by rw [hW]; exact beq_eq_false_iff_ne.2 (by omega)
 have hB:=coB_ok m d t s c x y k (pts m d N (2*N+1)).reverse (N:Int) (m+N*(m+d)) (wsK m d N k) ((2*N+3:Nat):Int) h h1 h2 h6 h4 hz hs1 hk hx hxy hy2 hk1 hD a4 a7 a11 a14 a15 a19 a22 hq hA (2*N+3+1) 0 _
  (coB_go (u:=y%s) (N:Int) (wsK m d N k) ((2*N+3:Nat):Int) h1 h2 hN2 hsl (Int.tmod_eq_emod_of_nonneg (by omega)) ⟨uy0,by omega⟩ (2*N+3) 0 (by omega))
 dsimp only at hB
 have hC:=coC_ok m d t s c x y k (pts m d N (2*N+1)).reverse (N:Int) (m+N*(m+d)) (wsK m d N k) ((2*N+3:Nat):Int) (bsK m d N k (y%s)) ((2*N+3:Nat):Int) h h1 h2 h6 h4 hz hs1 hk hx hxy hy2 hk1 hD a4 a7 a11 a14 a15 a19 a22 hq hA hq hB (2*N+3+1) 0 _
  (coC_go (N:Int) (wsK m d N k) ((2*N+3:Nat):Int) (bsK m d N k (y%s)) ((2*N+3:Nat):Int) h1 h2 hN2 (2*N+3) 0 (by omega))
 dsimp only at hC
 have hF:=coF_ok m d t s c x y k (pts m d N (2*N+1)).reverse (N:Int) (m+N*(m+d)) (wsK m d N k) ((2*N+3:Nat):Int) (bsK m d N k (y%s)) ((2*N+3:Nat):Int) (wsK m d N k) ((2*N+3:Nat):Int) h h1 h2 h6 h4 hz hs1 hk hx hxy hy2 hk1 hD a4 a7 a11 a14 a15 a19 a22 hq hA hq hB hq hC (2*N+3+1) 0 _
  (coF_go (u:=x%s) (N:Int) (wsK m d N k) ((2*N+3:Nat):Int) (bsK m d N k (y%s)) ((2*N+3:Nat):Int) (wsK m d N k) ((2*N+3:Nat):Int) h1 h2 hN2 hsl (Int.tmod_eq_emod_of_nonneg hx) ⟨ux0,by omega⟩ (2*N+3) 0 (by omega))
 dsimp only at hF
 have kk:=coT m d t s c x y k (pts m d N (2*N+1)).reverse (N:Int) (m+N*(m+d)) (wsK m d N k) ((2*N+3:Nat):Int) (bsK m d N k (y%s)) ((2*N+3:Nat):Int) (wsK m d N k) ((2*N+3:Nat):Int) (bsK m d N k (x%s)) ((2*N+3:Nat):Int) h h1 h2 h6 h4 hz hs1 hk hx hxy hy2 hk1 hD a4 a7 a11 a14 a15 a19 a22 hq hA hq hB hq hC hq hF
 have e0:coT_c0 m d t s c x y k (pts m d N (2*N+1)).reverse (N:Int) (m+N*(m+d)) (wsK m d N k) ((2*N+3:Nat):Int) (bsK m d N k (y%s)) ((2*N+3:Nat):Int) (wsK m d N k) ((2*N+3:Nat):Int) (bsK m d N k (x%s)) ((2*N+3:Nat):Int)=coV m d t s x y k:=by
  have iy:=cnt_in2 (k:=k) h1 h2 hN hN2 h (x:=y) (by omega) hy hk
  have ix:=cnt_in2 (k:=k) h1 h2 hN hN2 h (x:=x) hx (by omega) hk
  have by_:=bs_in (k:=k) (u:=y%s) h1 h2 N hN2
  have bx_:=bs_in (k:=k) (u:=x%s) h1 h2 N hN2
  unfold coT_c0 coV cntK
  rw [hN,Int.toNat_natCast,hW,Int.tdiv_eq_ediv_of_nonneg (show 0≤y by omega),Int.tdiv_eq_ediv_of_nonneg hx,w8n (n:=y / s) (by omega) (by omega),w8n (n:=x / s) (by omega) (by omega),w8n (n:=wsK m d N k*(y / s)) (by omega) (by omega),w8n (n:=wsK m d N k*(x / s)) (by omega) (by omega),w8n (n:=wsK m d N k*(y / s)+bsK m d N k (y%s)) (by omega) (by omega),w8n (n:=wsK m d N k*(x / s)+bsK m d N k (x%s)) (by omega) (by omega),w8n (by omega) (by omega)]
 rw [e0] at kk
 exact kk
def ctE (m d t s c x y k:Int):Int:=if ckX m d t s c=0 then (if 1≤k∧k≤5 then (if 0≤x∧x≤y∧y≤1099511627776 then 0 else 2) else 11) else ckX m d t s c
def ctV (m d t s c x y k:Int):Int:=if ctE m d t s c x y k=0 then coV m d t s x y k else 0
theorem pCountT (m d t s c x y k:Int):KnownR Try.prog [] 29 [.val (.agg #[.int .i64 m,.int .i64 d,.int .i64 t,.int .i64 s,.int .i64 c]),.val (.int .i64 x),.val (.int .i64 y),.val (.int .i64 k)] (.tuple #[.int .i64 (ctV m d t s c x y k),.int .i64 (ctE m d t s c x y k)]) []:=by
 by_cases h:ckX m d t s c=0
 ·obtain ⟨h1,h2,h3,h4,h5,h6,h7⟩:=ck_all h
  obtain ⟨N,hN⟩:∃ N:Nat,trN m t s=N:=⟨(trN m t s).toNat,by omega⟩
  have hN2:N≤16:=by omega
  have hz:(pts m d N (2*N+1)).reverse.length≤33:=by rw [List.length_reverse,pts_len]; omega
  have hk1:(ckX m d t s c != (0:Int))=false:=by rw [h]; rfl
  have hD:=coD_ok m d t s c x y k h h1 h2 h6 h4 (N+1) 0 _ (by rw [coD_eq m d t s c x y k 0]; exact ofD_all h1 h2 hN hN2)
  dsimp only at hD
  by_cases hk:1≤k∧k≤5
  ·by_cases hr:0≤x∧x≤y∧y≤1099511627776
   ·have e:ctE m d t s c x y k=0:=by unfold ctE; rw [if_pos h,if_pos hk,if_pos hr]
    unfold ctV
    rw [e,if_pos rfl]
    exact pCountB m d t s c x y k h hr.1 hr.2.1 hr.2.2 hk
   ·have e:ctE m d t s c x y k=2:=by unfold ctE; rw [if_pos h,if_pos hk,if_neg hr]
    unfold ctV
    rw [e,if_neg (by decide)]
    exact coR m d t s c x y k _ _ _ h h1 h2 h6 h4 hz hk hr hk1 hD
  ·have e:ctE m d t s c x y k=11:=by unfold ctE; rw [if_pos h,if_neg hk]
   unfold ctV
   rw [e,if_neg (by decide)]
   exact coK m d t s c x y k _ _ _ h h1 h2 h6 h4 hz hk hk1 hD
 ·have e:ctE m d t s c x y k=ckX m d t s c:=by unfold ctE; rw [if_neg h]
  unfold ctV
  rw [e,if_neg h]
  exact coE m d t s c x y k h
end Go.Proofs.Ytaogbagopdlkmaa
