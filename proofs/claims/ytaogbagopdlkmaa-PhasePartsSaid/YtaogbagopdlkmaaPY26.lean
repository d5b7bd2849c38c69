import Derived.Test.YtaogbagopdlkmaaPW26
import Derived.Test.YtaogbagopdlkmaaOgKe
set_option linter.unusedVariables false
namespace Go.Proofs.Ytaogbagopdlkmaa
open Go Go.RowKit
theorem rCountT (m d t s c x y k:Int)(hs:s≤9223372036854775807)(hcc:c≤9223372036854775807):KnownR Try.prog [] 30 [.val (.agg #[.int .i64 m,.int .i64 d,.int .i64 t,.int .i64 s,.int .i64 c]),.val (.int .i64 x),.val (.int .i64 y),.val (.int .i64 k)] (.tuple #[.int .i64 (ctV m d t s c x y k),.int .i64 (ctE m d t s c x y k)]) []:=by
 by_cases h:ckX m d t s c=0
 ·obtain ⟨h1,h2,h3,h4,h5,h6,h7⟩:=ck_all h
  obtain ⟨N,hN⟩:∃ N:Nat,trN m t s=N:=⟨(trN m t s).toNat,by omega⟩
  have hN2:N≤16:=by omega
  by_cases hk:1≤k∧k≤5
  ·by_cases hr:0≤x∧x≤y∧y≤1099511627776
   ·have e:ctE m d t s c x y k=0:=by unfold ctE; rw [if_pos h,if_pos hk,if_pos hr]
    unfold ctV
    rw [e,if_pos rfl]
    have kk:=rcT m d t s c x y k hs hcc h hk hr.1 (by omega) hr.2.1 (by omega) hr.2.2
    have e0:rcT_c0 m d t s c x y k=coV m d t s x y k:=by
     have iy:=cnt_in2 (k:=k) h1 h2 hN hN2 h (x:=y) (by omega) hr.2.2 hk
     have ix:=cnt_in2 (k:=k) h1 h2 hN hN2 h (x:=x) hr.1 (by omega) hk
     have by_:=bs_in (k:=k) (u:=y%s) h1 h2 N hN2
     have bx_:=bs_in (k:=k) (u:=x%s) h1 h2 N hN2
     unfold rcT_c0 coV bfV cntK
     rw [hN,Int.toNat_natCast,w8n (by omega) (by omega)]
    rw [e0] at kk
    exact kk
   ·have e:ctE m d t s c x y k=2:=by unfold ctE; rw [if_pos h,if_pos hk,if_neg hr]
    unfold ctV
    rw [e,if_neg (by decide)]
    exact rcR m d t s c x y k hs hcc h hk hr
  ·have e:ctE m d t s c x y k=11:=by unfold ctE; rw [if_pos h,if_neg hk]
   unfold ctV
   rw [e,if_neg (by decide)]
   exact rcK m d t s c x y k hs hcc h hk
 ·have e:ctE m d t s c x y k=ckX m d t s c:=by unfold ctE; rw [if_neg h]
  unfold ctV
  rw [e,if_neg h]
  exact rcE m d t s c x y k hs hcc h
noncomputable def lnV (m d t s c k:Int):Int:=plT_c0 m d t s c k
noncomputable def lnE (m d t s c k:Int):Int:=plT_c1 m d t s c k
theorem pLenT (m d t s c k:Int):KnownR Try.prog [] 25 [.val (.agg #[.int .i64 m,.int .i64 d,.int .i64 t,.int .i64 s,.int .i64 c]),.val (.int .i64 k)] (.tuple #[.int .i64 (lnV m d t s c k),.int .i64 (lnE m d t s c k)]) []:=plT m d t s c k
theorem rLenT (m d t s c k:Int)(hs:s≤9223372036854775807)(hcc:c≤9223372036854775807):KnownR Try.prog [] 26 [.val (.agg #[.int .i64 m,.int .i64 d,.int .i64 t,.int .i64 s,.int .i64 c]),.val (.int .i64 k)] (.tuple #[.int .i64 (lnV m d t s c k),.int .i64 (lnE m d t s c k)]) []:=by
 have kk:=rlT m d t s c k hs hcc
 have e:rlT_c0 m d t s c k=lnV m d t s c k∧rlT_c1 m d t s c k=lnE m d t s c k:=by
  unfold rlT_c0 rlT_c1 lnV lnE plT_c0 plT_c1
  by_cases h:ckX m d t s c=0
  ·rw [show (ckX m d t s c==0)=true by simpa using h,show (ckX m d t s c != 0)=false by simpa using h]
   by_cases hk:1≤k∧k≤5
   ·rcases (by omega:k=1∨k=2∨k=3∨k=4∨k=5) with rfl | rfl | rfl | rfl | rfl <;> simp
   ·have k1:(k==(1:Int))=false:=beq_eq_false_iff_ne.2 (by omega)
    have k2:(k==(2:Int))=false:=beq_eq_false_iff_ne.2 (by omega)
    have k3:(k==(3:Int))=false:=beq_eq_false_iff_ne.2 (by omega)
    have k4:(k==(4:Int))=false:=beq_eq_false_iff_ne.2 (by omega)
    have k5:(k==(5:Int))=false:=beq_eq_false_iff_ne.2 (by omega)
    by_cases g:k<1
    ·rw [show decide (k<(1:Int))=true from decide_eq_true g]; simp only [k1,k2,k3,k4,k5,cond_true,cond_false,and_self]
    ·rw [show decide (k<(1:Int))=false from decide_eq_false g,show decide (k>(5:Int))=true from decide_eq_true (by omega)]; simp only [k1,k2,k3,k4,k5,cond_true,cond_false,and_self]
  ·rw [show (ckX m d t s c==0)=false by simpa using h,show (ckX m d t s c != 0)=true by simpa using h]
   simp
 rw [e.1,e.2] at kk
 exact kk
end Go.Proofs.Ytaogbagopdlkmaa
