import Derived.Test.YtokpimghaladjaaOgL1K
import Derived.Test.YtokpimghaladjaaV23g
set_option linter.unusedSimpArgs false
set_option linter.unusedVariables false
namespace Go.Proofs.Ytokpimghaladjaa
open Go Go.RowKit
theorem ms1A_go (n:Int)(ns:List Int)(x y:Int):∀ (k j:Nat),1≤j→(j:Int)+k=mC n ns+1→ms1A_f n ns x y  (k+1) (j:Int)=some (0,mC n ns+1):=by
 have hc:=mC_r n ns
 intro k
 induction k with
 | zero =>
  intro j h1 h
  refine (ms1A_fs n ns x y  0 _).trans ((bif_t (loop_inv n ns x (i:=1) (j:=(j:Int)) (.inl rfl) (by omega)) _ _).trans ?_)
  rw [bif_dF (by omega),show (j:Int)=mC n ns+1 by omega]
 | succ k ih =>
  intro j h1 h
  have hw:IntKind.i64.wrap ((j:Int)+1)=((j+1:Nat):Int):=w8n (n:=(j:Int)+1) (by omega) (by omega)
  refine (ms1A_fs n ns x y  (k+1) _).trans ((bif_t (loop_inv n ns x (i:=1) (j:=(j:Int)) (.inl rfl) (by omega)) _ _).trans ?_)
  rw [bif_dT (by omega)]
  simp only [bif_s]
  rw [hw]
  exact ih (j+1) (by omega) (by omega)
theorem ms1B_go (n:Int)(ns:List Int)(x y:Int)(z1:Int):∀ (k j:Nat),1≤j→(j:Int)+k=mC n ns+1→ms1B_f n ns x y z1 (k+1) (j:Int)=some (0,mC n ns+1):=by
 have hc:=mC_r n ns
 intro k
 induction k with
 | zero =>
  intro j h1 h
  refine (ms1B_fs n ns x y z1 0 _).trans ((bif_t (loop_inv n ns x (i:=2) (j:=(j:Int)) (.inr (.inl rfl)) (by omega)) _ _).trans ?_)
  rw [bif_dF (by omega),show (j:Int)=mC n ns+1 by omega]
 | succ k ih =>
  intro j h1 h
  have hw:IntKind.i64.wrap ((j:Int)+1)=((j+1:Nat):Int):=w8n (n:=(j:Int)+1) (by omega) (by omega)
  refine (ms1B_fs n ns x y z1 (k+1) _).trans ((bif_t (loop_inv n ns x (i:=2) (j:=(j:Int)) (.inr (.inl rfl)) (by omega)) _ _).trans ?_)
  rw [bif_dT (by omega)]
  simp only [bif_s]
  rw [hw]
  exact ih (j+1) (by omega) (by omega)
theorem ms1C_go (n:Int)(ns:List Int)(x y:Int)(z1 z2:Int):∀ (k j:Nat),1≤j→(j:Int)+k=mC n ns+1→ms1C_f n ns x y z1 z2 (k+1) (j:Int)=some (0,mC n ns+1):=by
 have hc:=mC_r n ns
 intro k
 induction k with
 | zero =>
  intro j h1 h
  refine (ms1C_fs n ns x y z1 z2 0 _).trans ((bif_t (loop_inv n ns x (i:=3) (j:=(j:Int)) (.inr (.inr rfl)) (by omega)) _ _).trans ?_)
  rw [bif_dF (by omega),show (j:Int)=mC n ns+1 by omega]
 | succ k ih =>
  intro j h1 h
  have hw:IntKind.i64.wrap ((j:Int)+1)=((j+1:Nat):Int):=w8n (n:=(j:Int)+1) (by omega) (by omega)
  refine (ms1C_fs n ns x y z1 z2 (k+1) _).trans ((bif_t (loop_inv n ns x (i:=3) (j:=(j:Int)) (.inr (.inr rfl)) (by omega)) _ _).trans ?_)
  rw [bif_dT (by omega)]
  simp only [bif_s]
  rw [hw]
  exact ih (j+1) (by omega) (by omega)
theorem law_set1 (n:Int)(ns:List Int)(x y:Int)(hv:(xd_ x != xd_ y)=true):KnownR Try.prog [] 7 [.val (.int .i64 n),.list (rowA gI ns) ns.length,.val (.int .i64 x),.val (.int .i64 y)] (.bool true) []:=by
 have hc:=mC_r n ns
 have mo:=made_ok n ns
 obtain ⟨_,_,lx,ly,lz,_⟩:=id mo
 have sx:SOk (mC n ns) (xd_ x) (xk_ n ns x) (xn_ x):=sx_ok n ns x
 have sy:SOk (mC n ns) (xd_ y) (xk_ n ns y) (xn_ y):=sx_ok n ns y
 have hC:(mC n ns==0)=false:=by rw [beq_eq_false_iff_ne]; omega
 have h1:decide (mC n ns<1)=false:=decide_eq_false (by omega)
 have hm:moB (mC n ns) (mX n ns) (mY n ns) (mZ n ns)=true:=moB_is.2 mo
 have hsx:sB (mC n ns) (xd_ x) (xk_ n ns x) (xn_ x)=true:=sB_is.2 sx
 have hsy:sB (mC n ns) (xd_ y) (xk_ n ns y) (xn_ y)=true:=sB_is.2 sy
 have ha:moB (mC n ns) (a1_ n ns x) (a2_ n ns x) (a3_ n ns x)=true:=moB_is.2 (mo_set mo sx)
 have hu:moB (mC n ns) (a1_ n ns y) (a2_ n ns y) (a3_ n ns y)=true:=moB_is.2 (mo_set mo sy)
 have hcc:(mC n ns==mC n ns)=true:=by simp
 have i9:decide (1≤mC n ns)=true:=decide_eq_true hc.1
 have hne:xd_ x≠xd_ y∨xk_ n ns x≠xk_ n ns y := .inl (by simpa using hv)
 have e1:liEq (b1_ n ns x y) (v1_ n ns x y):=st_comm hne sx.2.2.1 sy.2.2.1
 have e2:liEq (b2_ n ns x y) (v2_ n ns x y):=st_comm hne sx.2.2.1 sy.2.2.1
 have e3:liEq (b3_ n ns x y) (v3_ n ns x y):=st_comm hne sx.2.2.1 sy.2.2.1
 have l1:(b1_ n ns x y).length≤8:=by show (stL _ _ _ _ (stL _ _ _ _ _)).length≤8; rw [stL_len,stL_len]; omega
 have l2:(b2_ n ns x y).length≤8:=by show (stL _ _ _ _ (stL _ _ _ _ _)).length≤8; rw [stL_len,stL_len]; omega
 have l3:(b3_ n ns x y).length≤8:=by show (stL _ _ _ _ (stL _ _ _ _ _)).length≤8; rw [stL_len,stL_len]; omega
 obtain ⟨g1,g2,g3⟩:=st_same mo ⟨sx.1,sx.2.1⟩ ⟨sx.2.2.1,sx.2.2.2.1⟩
 have f1:gOk (mC n ns) (xd_ x) (xk_ n ns x)=true:=gOk_is.2 ⟨⟨sx.1,sx.2.1⟩,sx.2.2.1,sx.2.2.2.1⟩
 have og:0≤old_ n ns x∧old_ n ns x≤3:=gt_range mo ⟨sx.1,sx.2.1⟩ ⟨sx.2.2.1,sx.2.2.2.1⟩
 have f2:sB (mC n ns) (xd_ x) (xk_ n ns x) (old_ n ns x)=true:=sB_is.2 ⟨sx.1,sx.2.1,sx.2.2.1,sx.2.2.2.1,og⟩
 have k1:(s1_ n ns x).length≤8:=by show (stL _ _ _ _ _).length≤8; rw [stL_len]; omega
 have k2:(s2_ n ns x).length≤8:=by show (stL _ _ _ _ _).length≤8; rw [stL_len]; omega
 have k3:(s3_ n ns x).length≤8:=by show (stL _ _ _ _ _).length≤8; rw [stL_len]; omega
 obtain ⟨p11,p12,p13,p14,p15,p16,p17⟩:=inv_parts (loop_g n ns x (i:=1) (j:=1) (.inl rfl) (by omega))
 have q1:gOk (mC n ns) 1 1=true:=gOk_is.2 ⟨by omega,by omega,by omega⟩
 obtain ⟨p21,p22,p23,p24,p25,p26,p27⟩:=inv_parts (loop_g n ns x (i:=2) (j:=1) (.inr (.inl rfl)) (by omega))
 have q2:gOk (mC n ns) 2 1=true:=gOk_is.2 ⟨by omega,by omega,by omega⟩
 obtain ⟨p31,p32,p33,p34,p35,p36,p37⟩:=inv_parts (loop_g n ns x (i:=3) (j:=1) (.inr (.inr rfl)) (by omega))
 have q3:gOk (mC n ns) 3 1=true:=gOk_is.2 ⟨by omega,by omega,by omega⟩
 have lA:=ms1A_ok n ns x y hC h1 hm hsx hsy ha hu hcc hv e1 e2 e3 l1 l2 l3 q1 i9 p11 p12 p13 p14 p15 p16 p17 _ _ _ (ms1A_go n ns x y (mC n ns).toNat 1 (by omega) (by omega))
 have lB:=ms1B_ok n ns x y _ hC h1 hm hsx hsy ha hu hcc hv e1 e2 e3 l1 l2 l3 q2 i9 p21 p22 p23 p24 p25 p26 p27 h1 hC hC hv lA _ _ _ (ms1B_go n ns x y _ (mC n ns).toNat 1 (by omega) (by omega))
 have lC:=ms1C_ok n ns x y _ _ hC h1 hm hsx hsy ha hu hcc hv e1 e2 e3 l1 l2 l3 q3 i9 p31 p32 p33 p34 p35 p36 p37 h1 hC hC hv lA lB _ _ _ (ms1C_go n ns x y _ _ (mC n ns).toNat 1 (by omega) (by omega))
 exact ms1K n ns x y _ _ _ hC h1 hm hsx hsy ha hu hcc hv e1 e2 e3 l1 l2 l3 f1 f2 g1 g2 g3 k1 k2 k3 h1 hC hC hv lA lB lC
end Go.Proofs.Ytokpimghaladjaa
