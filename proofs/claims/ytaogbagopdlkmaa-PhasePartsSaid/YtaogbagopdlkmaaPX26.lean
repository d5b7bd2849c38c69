import Derived.Test.YtaogbagopdlkmaaPT26
import Derived.Test.YtaogbagopdlkmaaPV26
set_option linter.unusedVariables false
namespace Go.Proofs.Ytaogbagopdlkmaa
open Go Go.RowKit
def clI (u a l:Int):Int:=max (min (u - a) l) 0
theorem cl_in {u a l:Int}(h:0≤l∧l≤200000):0≤clI u a l∧clI u a l≤200000:=by unfold clI; omega
theorem ifs_cl {w l:Int}(h:0≤l):(if l<if (0:Int)>w then (0:Int) else w then l else if (0:Int)>w then (0:Int) else w)=max (min w l) 0:=by
 by_cases g:(0:Int)>w
 ·rw [if_pos g,if_neg (by omega)]; omega
 ·rw [if_neg g]
  by_cases g2:l<w
  ·rw [if_pos g2]; omega
  ·rw [if_neg g2]; omega
theorem bgK_of (m d:Int)(N:Nat)(k u:Int)(j:Nat):bgK m d N k u j=if (prt m d N j).1=k then clI u (fst m d j) (prt m d N j).2.2.2 else 0:=by
 unfold bgK whK clI
 by_cases h:(prt m d N j).1=k
 ·rw [if_pos h,if_pos h]
 ·rw [if_neg h,if_neg h]; omega
def trF (m d:Int)(N:Nat)(k u:Int)(j:Nat):Int:=clI u (tkB m d N k j) (tkL m d k)
theorem bs_go (m d:Int)(N:Nat)(k u:Int):∀ i,i≤N→sumN (bgK m d N k u) (2*i+1)=(if k=1 then clI u 0 m else 0)+(if k=2∨k=3 then sumN (trF m d N k u) i else 0):=by
 intro i
 induction i with
 | zero =>
  intro _
  have f0:fst m d 0=0:=by unfold fst; rw [if_pos rfl]
  show (0:Int)+bgK m d N k u 0=_
  rw [bgK_of,prt_zero,f0]
  dsimp only
  by_cases h:k=1
  ·subst h; simp
  ·simp [h,Ne.symm h,sumN]
 | succ i ih =>
  intro h
  rw [show 2*(i+1)+1=2*i+1+1+1 by omega]
  show sumN (bgK m d N k u) (2*i+1)+bgK m d N k u (2*i+1)+bgK m d N k u (2*i+2)=_
  rw [ih (by omega),bgK_of,bgK_of,prt_move m d N i (by omega),prt_door m d N i (by omega),fst_odd,fst_even]
  dsimp only
  simp only [sumN]
  by_cases h1:k=1
  ·subst h1; simp
  by_cases h2:k=2
  ·subst h2; simp [trF,tkB,tkL]
  by_cases h3:k=3
  ·subst h3; simp [trF,tkB,tkL]
  simp [h1,h2,h3,Ne.symm h2,Ne.symm h3]
theorem bs_is (m d:Int)(N:Nat)(k u:Int)(hk:1≤k∧k≤5):bsK m d N k u=if k=2∨k=3 then sumN (trF m d N k u) N else clI u (tkB m d N k 0) (tkL m d k):=by
 unfold bsK
 rw [show 2*N+3=2*N+1+1+1 by omega]
 show sumN (bgK m d N k u) (2*N+1)+bgK m d N k u (2*N+1)+bgK m d N k u (2*N+2)=_
 rw [bs_go m d N k u N (Nat.le_refl _),bgK_of,bgK_of,prt_pmove,prt_pdoor,fst_odd,fst_even]
 dsimp only
 rcases (by omega:k=1∨k=2∨k=3∨k=4∨k=5) with rfl | rfl | rfl | rfl | rfl <;> simp [tkB,tkL]
theorem ws_two (m d:Int)(N:Nat)(k:Int)(hk:k=2∨k=3):wsK m d N k=N*tkL m d k:=by
 rw [ws_is _ _ _ _ (by omega)]
 rcases hk with rfl | rfl <;> simp [tkL]
theorem ws_one (m d:Int)(N:Nat)(k:Int)(hk:1≤k∧k≤5)(hn:¬ (k=2∨k=3)):wsK m d N k=tkL m d k:=by
 rw [ws_is _ _ _ _ hk]
 rcases (by omega:k=1∨k=4∨k=5) with rfl | rfl | rfl <;> simp [tkL]
theorem tkL_in {m d:Int}(hm:1≤m∧m≤200000)(hd:1≤d∧d≤200000)(k:Int):1≤tkL m d k∧tkL m d k≤200000:=by
 unfold tkL
 split <;> omega
theorem trF_in {m d:Int}(hm:1≤m∧m≤200000)(hd:1≤d∧d≤200000)(N:Nat)(k u:Int)(i:Nat):0≤trF m d N k u i∧trF m d N k u i≤200000:=by
 unfold trF
 refine cl_in ?_
 unfold tkL
 split <;> omega
theorem tsum_in {m d:Int}(hm:1≤m∧m≤200000)(hd:1≤d∧d≤200000)(N:Nat)(k u:Int):∀ i:Nat,0≤sumN (trF m d N k u) i∧sumN (trF m d N k u) i≤i*200000
 | 0=>by simp [sumN]
 | i+1=>by
  have:=tsum_in hm hd N k u i
  have:=trF_in hm hd N k u i
  simp only [sumN]
  omega
theorem bf_go {m d t s c x k:Int}{N:Nat}(h:ckX m d t s c=0)(hN:trN m t s=N)(hx:0≤x∧x≤1099511627776)(hk:1≤k∧k≤5)(b:Int)(hb:0≤b∧b≤1099511627776):∀ (n i:Nat),i+n=N→bfA_f m d t s c x k (n+1) (b+sumN (trF m d N k (x%s)) i) (i:Int)=some (0,(b+sumN (trF m d N k (x%s)) N,(N:Int))):=by
 obtain ⟨h1,h2,h3,h4,h5,h6,h7⟩:=ck_all h
 have hxt:x.tmod s=x%s:=Int.tmod_eq_emod_of_nonneg hx.1
 have u0:=Int.emod_nonneg x (b:=s) (by omega)
 have u1:=Int.emod_lt_of_pos x (b:=s) (by omega)
 have hL:=tkL_in h1 h2 k
 intro n
 induction n with
 | zero =>
  intro i hi
  rw [bfA_f.eq_2,ht_is h hN,cond_true,bif_dF (by omega),show i=N by omega]
 | succ n ih =>
  intro i hi
  have hB:=tkB_in (k:=k) h1 h2 (N:=N) (i:=i) (by omega) (by omega)
  have hs:=tsum_in h1 h2 N k (x%s) i
  have hf:=trF_in h1 h2 N k (x%s) i
  have ef:trF m d N k (x%s) i=max (min (x%s - tkB m d N k i) (tkL m d k)) 0:=rfl
  rw [ef] at hf
  have ih':=ih (i+1) (by omega)
  simp only [sumN] at ih'
  rw [ef] at ih'
  rw [bfA_f.eq_2,ht_is h hN,cond_true,bif_dT (by omega),hb_is h hN hk i (by omega),hl_is]
  simp only [hxt]
  simp (disch:=omega) only [w8n,ifs_cl]
  rw [show b+sumN (trF m d N k (x%s)) i+max (min (x%s - tkB m d N k i) (tkL m d k)) 0=b+(sumN (trF m d N k (x%s)) i+max (min (x%s - tkB m d N k i) (tkL m d k)) 0) by omega,show (i:Int)+1=((i+1:Nat):Int) by omega]
  exact ih'
def bfV (m d t s x k:Int):Int:=cntK m d s (trN m t s).toNat k x
theorem rBefore (m d t s c x k:Int)(h:ckX m d t s c=0)(hx0:0≤x)(hx1:x≤1099511627776)(hk:1≤k∧k≤5):KnownR Try.prog [] 51 [.val (.agg #[.int .i64 m,.int .i64 d,.int .i64 t,.int .i64 s,.int .i64 c]),.val (.int .i64 x),.val (.int .i64 k)] (.int .i64 (bfV m d t s x k)) []:=by
 obtain ⟨h1,h2,h3,h4,h5,h6,h7⟩:=ck_all h
 obtain ⟨N,hN⟩:∃ N:Nat,trN m t s=N:=⟨(trN m t s).toNat,by omega⟩
 have hN2:N≤16:=by omega
 have hx:0≤x∧x≤1099511627776:=⟨hx0,hx1⟩
 have hxt:x.tmod s=x%s:=Int.tmod_eq_emod_of_nonneg hx.1
 have hxd:x.tdiv s=x / s:=Int.tdiv_eq_ediv_of_nonneg hx.1
 have u0:=Int.emod_nonneg x (b:=s) (by omega)
 have u1:=Int.emod_lt_of_pos x (b:=s) (by omega)
 have hL:=tkL_in h1 h2 k
 have hB:0≤tkB m d N k 0∧tkB m d N k 0≤8000000:=tkB_in (k:=k) h1 h2 (N:=N) (i:=0) (by omega) (by omega)
 have hb0:hbV m d t s c k 0=tkB m d N k 0:=hb_is h hN hk 0 (by omega)
 obtain ⟨⟨q0,q1⟩,w0,w1⟩:=cnt_in2 (k:=k) h1 h2 hN hN2 h hx.1 hx.2 hk
 have n0:0≤x / s*N:=Int.mul_nonneg q0 (by omega)
 have n1:x / s*N≤x / s*16:=Int.mul_le_mul_of_nonneg_left (show (N:Int)≤16 by omega) q0
 have g3:(s==(0:Int))=false:=beq_eq_false_iff_ne.2 (by omega)
 have g4:(t==(0:Int))=false:=beq_eq_false_iff_ne.2 (by omega)
 have e:bfV m d t s x k=wsK m d N k*(x / s)+bsK m d N k (x%s):=by unfold bfV cntK; rw [hN,Int.toNat_natCast]
 rw [e,bs_is _ _ _ _ _ hk]
 by_cases c2:k=2∨k=3
 ·have g6:hiV k=true:=by rw [hi_is]; exact decide_eq_true c2
  rw [ws_two _ _ _ _ c2] at w0 w1 ⊢
  rw [if_pos c2]
  have a3:x / s*N*tkL m d k=N*tkL m d k*(x / s):=by rw [Int.mul_comm (x / s) N,Int.mul_assoc,Int.mul_comm (x / s) (tkL m d k),← Int.mul_assoc]
  rw [← a3] at w0 w1 ⊢
  have g:=bf_go h hN hx hk (x / s*N*tkL m d k) ⟨w0,w1⟩ N 0 (by omega)
  rw [show x / s*N*tkL m d k+sumN (trF m d N k (x%s)) 0=x / s*N*tkL m d k from Int.add_zero _] at g
  have hl:=bfA_ok m d t s c x k g3 g4 g6 (N+1) 0 (x / s*N*tkL m d k+sumN (trF m d N k (x%s)) N,(N:Int)) (by
   rw [ht_is h hN,hl_is,hxd]
   simp (disch:=omega) only [w8n]
   exact g)
  dsimp only at hl
  exact bfT m d t s c x k _ _ g3 g4 g6 g6 g3 hl
 ·have g6:hiV k=false:=by rw [hi_is]; exact decide_eq_false c2
  rw [ws_one _ _ _ _ hk c2] at w0 w1 ⊢
  rw [if_neg c2]
  have a1:x / s*1*tkL m d k=tkL m d k*(x / s):=by rw [Int.mul_one,Int.mul_comm]
  have kk:=bfS m d t s c x k g3 g4 g6
  have e2:bfS_c0 m d t s c x k=tkL m d k*(x / s)+clI (x%s) (tkB m d N k 0) (tkL m d k):=by
   have hc:=cl_in (u:=x%s) (a:=tkB m d N k 0) (l:=tkL m d k) (by omega)
   unfold clI at hc
   unfold bfS_c0
   rw [hb0,hl_is,hxt,hxd]
   simp (disch:=omega) only [w8n,ifs_cl]
   rw [a1]; rfl
  rw [← e2]; exact kk
end Go.Proofs.Ytaogbagopdlkmaa
