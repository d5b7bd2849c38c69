import Derived.Test.YtaogbagopdlkmaaPU26
import Derived.Test.YtaogbagopdlkmaaOgKh
set_option linter.unusedVariables false
namespace Go.Proofs.Ytaogbagopdlkmaa
open Go Go.RowKit
def bestN (f:Nat→Int)(x:Int):Nat→Int→Int
 | 0,b=>b
 | i+1,b=>bestN f x i (if x<f i∧f i<b then f i else b)
theorem bestN_is (f:Nat→Int)(x:Int):∀ (n:Nat) (b:Int),(bestN f x n b=b∨∃ i,i<n∧bestN f x n b=f i∧x<f i)∧bestN f x n b≤b∧∀ i,i<n→x<f i→bestN f x n b≤f i
 | 0,b=>⟨.inl rfl,Int.le_refl _,fun i h=>absurd h (by omega)⟩
 | n+1,b=>by
  have ih:=bestN_is f x n (if x<f n∧f n<b then f n else b)
  simp only [bestN]
  generalize bestN f x n (if x<f n∧f n<b then f n else b)=v at *
  obtain ⟨a1,a2,a3⟩:=ih
  by_cases h:x<f n∧f n<b
  ·rw [if_pos h] at a1 a2
   refine ⟨?_,by omega,fun i hi hx=>?_⟩
   ·rcases a1 with e | ⟨i,i1,i2,i3⟩
    ·exact .inr ⟨n,by omega,e,h.1⟩
    ·exact .inr ⟨i,by omega,i2,i3⟩
   ·rcases (by omega:i=n∨i<n) with rfl | g
    ·exact a2
    ·exact a3 i g hx
  ·rw [if_neg h] at a1 a2
   refine ⟨?_,a2,fun i hi hx=>?_⟩
   ·rcases a1 with e | ⟨i,i1,i2,i3⟩
    ·exact .inl e
    ·exact .inr ⟨i,by omega,i2,i3⟩
   ·rcases (by omega:i=n∨i<n) with rfl | g
    ·omega
    ·exact a3 i g hx
def bgF (m d s x k:Int)(N:Nat)(i:Nat):Int:=x - x%s+tkB m d N k i
def nxR' (m d s x k:Int)(N:Nat):Int:=bestN (bgF m d s x k N) x N (x - x%s+s+tkB m d N k 0)
theorem nxR_is {m d t s c x k:Int}{N:Nat}(h:ckX m d t s c=0)(hN:trN m t s=N)(hk:1≤k∧k≤5):NxT m d s N k x (x / s*s) (nxR' m d s x k N):=by
 obtain ⟨h1,h2,h3,h4,h5,h6,h7⟩:=ck_all h
 have q2:=Int.emod_add_mul_ediv x s
 have qc:s*(x / s)=x / s*s:=Int.mul_comm _ _
 have eb:x - x%s=x / s*s:=by omega
 obtain ⟨a1,a2,a3⟩:=bestN_is (bgF m d s x k N) x N (x - x%s+s+tkB m d N k 0)
 have hv:nxR' m d s x k N=bestN (bgF m d s x k N) x N (x - x%s+s+tkB m d N k 0):=rfl
 rw [← hv] at a1 a2 a3
 have g0:tkG N k 0=true:=by
  unfold tkG
  split
  ·exact decide_eq_true (by omega)
  ·rfl
 have flat:∀ p,tkG N k p=true→∃ i:Nat,i<N∧tkB m d N k p=tkB m d N k i∧tkG N k i=true∧tkB m d N k 0≤tkB m d N k p:=fun p hp=>by
  by_cases c:k=2∨k=3
  ·have hp':0≤p∧p<(N:Int):=by unfold tkG at hp; rw [if_pos c] at hp; exact of_decide_eq_true hp
   obtain ⟨i,rfl⟩:∃ i:Nat,p=i:=⟨p.toNat,by omega⟩
   refine ⟨i,by omega,rfl,hp,?_⟩
   have:=Int.mul_nonneg (show 0≤(i:Int) by omega) (show 0≤m+d by omega)
   unfold tkB
   rcases c with rfl | rfl <;> simp <;> omega
  ·have hp':p=0:=by unfold tkG at hp; rw [if_neg c] at hp; exact of_decide_eq_true hp
   subst hp'
   exact ⟨0,by omega,rfl,g0,Int.le_refl _⟩
 have flat2:∀ i:Nat,i<N→∃ p,tkG N k p=true∧tkB m d N k p=tkB m d N k i:=fun i hi=>by
  by_cases c:k=2∨k=3
  ·exact ⟨i,by unfold tkG; rw [if_pos c]; exact decide_eq_true (by omega),rfl⟩
  ·refine ⟨0,g0,?_⟩
   unfold tkB
   rcases (by omega:k=1∨k=4∨k=5) with rfl | rfl | rfl <;> rfl
 have part:∀ p,tkG N k p=true→∃ j,j<2*N+3∧(prt m d N j).1=k∧fst m d j=tkB m d N k p:=fun p hp=>by
  obtain ⟨j,j1,j2⟩:=prt_is m d N k p hk hp
  exact ⟨j,j1,by rw [j2],by rw [← prt_fst m d N j,j2]⟩
 have back:∀ j,j<2*N+3→(prt m d N j).1=k→∃ i:Nat,i<N∧fst m d j=tkB m d N k i∧tkB m d N k 0≤fst m d j:=fun j hj hkj=>by
  obtain ⟨p1,p2,p3,p4⟩:=prt_of m d N j hj
  rw [hkj] at p2 p3
  rw [prt_fst] at p3
  obtain ⟨i,i1,i2,_,i4⟩:=flat _ p2
  exact ⟨i,i1,by rw [p3,i2],by rw [p3]; exact i4⟩
 refine ⟨?_,fun j hj hkj hx=>?_,fun j hj hkj=>?_⟩
 ·rcases a1 with e | ⟨i,i1,i2,i3⟩
  ·obtain ⟨j,j1,j2,j3⟩:=part 0 g0
   exact ⟨j,j1,j2,.inr (by rw [e,j3,eb])⟩
  ·obtain ⟨p,p1,p2⟩:=flat2 i i1
   obtain ⟨j,j1,j2,j3⟩:=part p p1
   unfold bgF at i2 i3
   exact ⟨j,j1,j2,.inl ⟨by rw [i2,j3,p2,eb],by omega⟩⟩
 ·obtain ⟨i,i1,i2,i3⟩:=back j hj hkj
  have:=a3 i i1 (by unfold bgF; omega)
  unfold bgF at this
  omega
 ·obtain ⟨i,i1,i2,i3⟩:=back j hj hkj
  omega
theorem tkB_in {m d k:Int}{N i:Nat}(hm:1≤m∧m≤200000)(hd:1≤d∧d≤200000)(hN:N≤16)(hi:i≤16):0≤tkB m d N k i∧tkB m d N k i≤8000000:=by
 have h1:=nmul (n:=i) (t:=m+d) (by omega) (by omega) (by omega)
 have h2:=nmul (n:=N) (t:=m+d) (by omega) (by omega) (by omega)
 unfold tkB
 by_cases k1:k=1
 ·rw [if_pos k1]; omega
 by_cases k2:k=2
 ·rw [if_neg k1,if_pos k2]; omega
 by_cases k3:k=3
 ·rw [if_neg k1,if_neg k2,if_pos k3]; omega
 by_cases k4:k=4
 ·rw [if_neg k1,if_neg k2,if_neg k3,if_pos k4]; omega
 rw [if_neg k1,if_neg k2,if_neg k3,if_neg k4]; omega
theorem hb_is {m d t s c k:Int}{N:Nat}(h:ckX m d t s c=0)(hN:trN m t s=N)(hk:1≤k∧k≤5)(i:Nat)(hi:i≤16):hbV m d t s c k (i:Int)=tkB m d N k i:=by
 obtain ⟨h1,h2,h3,h4,h5,h6,h7⟩:=ck_all h
 have hNN:=rtr_eq h
 rw [hN] at hNN
 have hNt:=nmul (n:=N) (t:=t) (by omega) (by omega) (by omega)
 have hit:=nmul (n:=i) (t:=t) (by omega) (by omega) (by omega)
 unfold hbV hbT_c0
 simp only [hNN]
 simp (disch:=omega) only [w8n]
 rcases (by omega:k=1∨k=2∨k=3∨k=4∨k=5) with rfl | rfl | rfl | rfl | rfl <;> simp [tkB,h3]
theorem ht_is {m d t s c:Int}{N:Nat}(h:ckX m d t s c=0)(hN:trN m t s=N):htV m d t s c=N:=by
 unfold htV htT_c0
 rw [rtr_eq h,hN]
theorem hl_is (m d t s c k:Int):hlV m d t s c k=tkL m d k:=by
 unfold hlV hlT_c0 tkL
 by_cases k3:k=3
 ·subst k3; simp
 by_cases k5:k=5
 ·subst k5; simp
 rw [show (k==3)=false from beq_eq_false_iff_ne.2 k3,show (k==5)=false from beq_eq_false_iff_ne.2 k5,if_neg (by omega)]
 rfl
theorem hi_is (k:Int):hiV k=decide (k=2∨k=3):=by
 unfold hiV hiT_c0
 by_cases k2:k=2
 ·subst k2; rfl
 rw [show (k==2)=false from beq_eq_false_iff_ne.2 k2,cond_false]
 by_cases k3:k=3
 ·subst k3; rfl
 rw [show (k==3)=false from beq_eq_false_iff_ne.2 k3]
 exact (decide_eq_false (by omega)).symm
theorem rq_go {m d t s c x k:Int}{N:Nat}(h:ckX m d t s c=0)(hN:trN m t s=N)(hx:0≤x∧x≤1099511627776)(hk:1≤k∧k≤5):∀ (i:Nat) (b:Int),i≤N→rqA_f m d t s c x k (i+1) b ((i:Int) - 1)=some (0,(bestN (bgF m d s x k N) x i b,-1)):=by
 obtain ⟨h1,h2,h3,h4,h5,h6,h7⟩:=ck_all h
 have hxt:x.tmod s=x%s:=Int.tmod_eq_emod_of_nonneg hx.1
 have u0:=Int.emod_nonneg x (b:=s) (by omega)
 have u1:=Int.emod_lt_of_pos x (b:=s) (by omega)
 have q2:=Int.emod_add_mul_ediv x s
 have q0:0≤s*(x / s):=Int.mul_nonneg (by omega) (Int.ediv_nonneg hx.1 (by omega))
 intro i
 induction i with
 | zero =>
  intro b _
  rw [rqA_f.eq_2,cond_true,bif_dF (by omega)]
  rfl
 | succ i ih =>
  intro b hi
  have hB:=tkB_in (k:=k) h1 h2 (N:=N) (i:=i) (by omega) (by omega)
  have e1:(((i+1:Nat):Int) - 1)=(i:Int):=by omega
  rw [rqA_f.eq_2,e1,cond_true,bif_dT (by omega),hb_is h hN hk i (by omega)]
  simp only [hxt]
  simp (disch:=omega) only [w8n]
  have ef:bgF m d s x k N i=x - x%s+tkB m d N k i:=rfl
  have ih':=fun b=>ih b (by omega)
  simp only [bestN]
  rw [ef]
  by_cases c1:x - x%s+tkB m d N k i>x
  ·rw [bif_dT c1]
   by_cases c2:x - x%s+tkB m d N k i<b
   ·rw [bif_dT c2,if_pos ⟨c1,c2⟩]; exact ih' _
   ·rw [bif_dF c2,if_neg (fun g=>c2 g.2)]; exact ih' _
  ·rw [bif_dF c1,if_neg (fun g=>c1 g.1)]; exact ih' _
end Go.Proofs.Ytaogbagopdlkmaa
