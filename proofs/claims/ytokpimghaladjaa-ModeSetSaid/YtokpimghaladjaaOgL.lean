import Derived.Test.YtokpimghaladjaaV23e
import Derived.Test.YtokpimghaladjaaKnModeKnown
import Derived.ProofKit
import Derived.IntWalk
set_option linter.unnecessarySimpa false
set_option linter.unusedSimpArgs false
set_option linter.unusedVariables false
namespace Go.Proofs.Ytokpimghaladjaa
open Go Go.RowKit
set_option maxHeartbeats 8000000
set_option maxRecDepth 100000
noncomputable def gOk (c d k:Int):Bool:=decide ((1≤d∧d≤3)∧1≤k∧k≤c)
theorem gOk_is {c d k:Int}:gOk c d k=true ↔ ((1≤d∧d≤3)∧1≤k∧k≤c):=by unfold gOk; simp
def liEq (a b:List Int):Prop:=a=b
theorem mode_known:Known Try.prog [] 6 [] (.bool true):=run_res knModeKnown_mix knModeKnown_k0 modeKnown_run
attribute [local irreducible] mdV stL zeL sB moB stR zeR gOk gtV mC mX mY mZ
theorem mdD (n:Int)(ns:List Int): KnownR Try.prog [] 37 [.val (.int .i64 n),.list (rowA gI ns) ns.length] (.tuple #[.agg #[.int .i64 (mC n ns),.complex .f64 0 (mX n ns).length,.complex .f64 1 (mY n ns).length,.complex .f64 2 (mZ n ns).length],.bool true]) ([(rowA gI (mX n ns),3),(rowA gI (mY n ns),3),(rowA gI (mZ n ns),3)]):=made_v n ns
noncomputable def mdD_A (p:Int × List Int × Nat × Unit):List D:=match p with
 | (n,ns,nn0,_)=>[.val (.int .i64 n),.list (rowA gI ns) nn0]
noncomputable def mdD_C (p:Int × List Int × Nat × Unit):Prop:=match p with
 | (n,ns,nn0,_)=>(nn0=ns.length)∧True
noncomputable def mdD_R (p:Int × List Int × Nat × Unit):Value × Outs:=match p with
 | (n,ns,nn0,_)=>(.tuple #[.agg #[.int .i64 (mC n ns),.complex .f64 0 (mX n ns).length,.complex .f64 1 (mY n ns).length,.complex .f64 2 (mZ n ns).length],.bool true],[(rowA gI (mX n ns),3),(rowA gI (mY n ns),3),(rowA gI (mZ n ns),3)])
theorem mdD_inj:∀ p q,mdD_C p→mdD_C q→mdD_A p=mdD_A q→mdD_R p=mdD_R q:=by
 rintro ⟨n,ns,nn0,_⟩ ⟨n',ns',nn0',_⟩ _ _ e
 simp only [mdD_A,List.cons.injEq,D.list.injEq,D.val.injEq,D.agg.injEq,Value.int.injEq,Value.bool.injEq,Value.string.injEq,Value.agg.injEq,Array.mk.injEq,and_true,true_and,gI_inj,gB_inj] at e
 simp_all
noncomputable def mdD_k:List D→Option (Value × Outs):=fnP mdD_A mdD_C mdD_R
theorem mdD_n (n:Int)(ns:List Int)(nn0:Nat)(hn0:nn0=ns.length): KnownR Try.prog [] 37 [.val (.int .i64 n),.list (rowA gI ns) nn0] (.tuple #[.agg #[.int .i64 (mC n ns),.complex .f64 0 (mX n ns).length,.complex .f64 1 (mY n ns).length,.complex .f64 2 (mZ n ns).length],.bool true]) ([(rowA gI (mX n ns),3),(rowA gI (mY n ns),3),(rowA gI (mZ n ns),3)]):=by
 subst hn0; skip
 exact mdD _ _ 
theorem mdD_ok:∀ ds v bs,mdD_k ds=some (v,bs)→KnownR Try.prog [] 37 ds v bs:=fnP_ok (by
 rintro ⟨n,ns,nn0,_⟩ ⟨hn0,_⟩
 exact mdD_n _ _ _ hn0 )
theorem mdD_at (n:Int)(ns:List Int)(nn0:Nat)(hn0:nn0=ns.length): mdD_k [.val (.int .i64 n),.list (rowA gI ns) nn0]=some (.tuple #[.agg #[.int .i64 (mC n ns),.complex .f64 0 (mX n ns).length,.complex .f64 1 (mY n ns).length,.complex .f64 2 (mZ n ns).length],.bool true],[(rowA gI (mX n ns),3),(rowA gI (mY n ns),3),(rowA gI (mZ n ns),3)]):=fnP_at (p:=(n,ns,nn0,())) mdD_inj ⟨hn0,trivial⟩ rfl rfl
theorem stE (c d k n:Int)(xs ys zs:List Int)(hm:moB c xs ys zs=true)(hs:sB c d k n=true):KnownR Try.prog [] 20 [.agg [.val (.int .i64 c),.list (rowA gI xs) xs.length,.list (rowA gI ys) ys.length,.list (rowA gI zs) zs.length],.val (.int .i64 d),.val (.int .i64 k),.val (.int .i64 n)] (.tuple #[.agg #[.int .i64 c,.complex .f64 0 (stL d k n 1 xs).length,.complex .f64 1 (stL d k n 2 ys).length,.complex .f64 2 (stL d k n 3 zs).length],.int .i64 0]) ([(rowA gI (stL d k n 1 xs),3),(rowA gI (stL d k n 2 ys),3),(rowA gI (stL d k n 3 zs),3)]):=set_v (moB_is.1 hm) (sB_is.1 hs)
noncomputable def stE_A (p:Int × Int × Int × Int × List Int × List Int × List Int × Nat × Nat × Nat × Unit):List D:=match p with
 | (c,d,k,n,xs,ys,zs,nn0,nn1,nn2,_)=>[.agg [.val (.int .i64 c),.list (rowA gI xs) nn0,.list (rowA gI ys) nn1,.list (rowA gI zs) nn2],.val (.int .i64 d),.val (.int .i64 k),.val (.int .i64 n)]
noncomputable def stE_C (p:Int × Int × Int × Int × List Int × List Int × List Int × Nat × Nat × Nat × Unit):Prop:=match p with
 | (c,d,k,n,xs,ys,zs,nn0,nn1,nn2,_)=>(nn0=xs.length)∧(nn1=ys.length)∧(nn2=zs.length)∧(moB c xs ys zs=true)∧(sB c d k n=true)∧True
noncomputable def stE_R (p:Int × Int × Int × Int × List Int × List Int × List Int × Nat × Nat × Nat × Unit):Value × Outs:=match p with
 | (c,d,k,n,xs,ys,zs,nn0,nn1,nn2,_)=>(.tuple #[.agg #[.int .i64 c,.complex .f64 0 (stL d k n 1 xs).length,.complex .f64 1 (stL d k n 2 ys).length,.complex .f64 2 (stL d k n 3 zs).length],.int .i64 0],[(rowA gI (stL d k n 1 xs),3),(rowA gI (stL d k n 2 ys),3),(rowA gI (stL d k n 3 zs),3)])
theorem stE_inj:∀ p q,stE_C p→stE_C q→stE_A p=stE_A q→stE_R p=stE_R q:=by
 rintro ⟨c,d,k,n,xs,ys,zs,nn0,nn1,nn2,_⟩ ⟨c',d',k',n',xs',ys',zs',nn0',nn1',nn2',_⟩ _ _ e
 simp only [stE_A,List.cons.injEq,D.list.injEq,D.val.injEq,D.agg.injEq,Value.int.injEq,Value.bool.injEq,Value.string.injEq,Value.agg.injEq,Array.mk.injEq,and_true,true_and,gI_inj,gB_inj] at e
 simp_all
noncomputable def stE_k:List D→Option (Value × Outs):=fnP stE_A stE_C stE_R
theorem stE_n (c d k n:Int)(xs ys zs:List Int)(nn0:Nat)(nn1:Nat)(nn2:Nat)(hn0:nn0=xs.length)(hn1:nn1=ys.length)(hn2:nn2=zs.length)(hm:moB c xs ys zs=true)(hs:sB c d k n=true):KnownR Try.prog [] 20 [.agg [.val (.int .i64 c),.list (rowA gI xs) nn0,.list (rowA gI ys) nn1,.list (rowA gI zs) nn2],.val (.int .i64 d),.val (.int .i64 k),.val (.int .i64 n)] (.tuple #[.agg #[.int .i64 c,.complex .f64 0 (stL d k n 1 xs).length,.complex .f64 1 (stL d k n 2 ys).length,.complex .f64 2 (stL d k n 3 zs).length],.int .i64 0]) ([(rowA gI (stL d k n 1 xs),3),(rowA gI (stL d k n 2 ys),3),(rowA gI (stL d k n 3 zs),3)]):=by
 subst hn0; subst hn1; subst hn2; skip
 exact stE _ _ _ _ _ _ _ hm hs
theorem stE_ok:∀ ds v bs,stE_k ds=some (v,bs)→KnownR Try.prog [] 20 ds v bs:=fnP_ok (by
 rintro ⟨c,d,k,n,xs,ys,zs,nn0,nn1,nn2,_⟩ ⟨hn0,hn1,hn2,hm,hs,_⟩
 exact stE_n _ _ _ _ _ _ _ _ _ _ hn0 hn1 hn2 hm hs)
theorem stE_at (c d k n:Int)(xs ys zs:List Int)(nn0:Nat)(nn1:Nat)(nn2:Nat)(hn0:nn0=xs.length)(hn1:nn1=ys.length)(hn2:nn2=zs.length)(hm:moB c xs ys zs=true)(hs:sB c d k n=true):stE_k [.agg [.val (.int .i64 c),.list (rowA gI xs) nn0,.list (rowA gI ys) nn1,.list (rowA gI zs) nn2],.val (.int .i64 d),.val (.int .i64 k),.val (.int .i64 n)]=some (.tuple #[.agg #[.int .i64 c,.complex .f64 0 (stL d k n 1 xs).length,.complex .f64 1 (stL d k n 2 ys).length,.complex .f64 2 (stL d k n 3 zs).length],.int .i64 0],[(rowA gI (stL d k n 1 xs),3),(rowA gI (stL d k n 2 ys),3),(rowA gI (stL d k n 3 zs),3)]):=fnP_at (p:=(c,d,k,n,xs,ys,zs,nn0,nn1,nn2,())) stE_inj ⟨hn0,hn1,hn2,hm,hs,trivial⟩ rfl rfl
theorem gtD (c d k:Int)(xs ys zs:List Int)(hm:moB c xs ys zs=true)(hg:gOk c d k=true):KnownR Try.prog [] 18 [.agg [.val (.int .i64 c),.list (rowA gI xs) xs.length,.list (rowA gI ys) ys.length,.list (rowA gI zs) zs.length],.val (.int .i64 d),.val (.int .i64 k)] (.tuple #[.int .i64 (gtV d k xs ys zs),.int .i64 0]) ([]):=get_v (moB_is.1 hm) (gOk_is.1 hg).1 (gOk_is.1 hg).2
noncomputable def gtD_A (p:Int × Int × Int × List Int × List Int × List Int × Nat × Nat × Nat × Unit):List D:=match p with
 | (c,d,k,xs,ys,zs,nn0,nn1,nn2,_)=>[.agg [.val (.int .i64 c),.list (rowA gI xs) nn0,.list (rowA gI ys) nn1,.list (rowA gI zs) nn2],.val (.int .i64 d),.val (.int .i64 k)]
noncomputable def gtD_C (p:Int × Int × Int × List Int × List Int × List Int × Nat × Nat × Nat × Unit):Prop:=match p with
 | (c,d,k,xs,ys,zs,nn0,nn1,nn2,_)=>(nn0=xs.length)∧(nn1=ys.length)∧(nn2=zs.length)∧(moB c xs ys zs=true)∧(gOk c d k=true)∧True
noncomputable def gtD_R (p:Int × Int × Int × List Int × List Int × List Int × Nat × Nat × Nat × Unit):Value × Outs:=match p with
 | (c,d,k,xs,ys,zs,nn0,nn1,nn2,_)=>(.tuple #[.int .i64 (gtV d k xs ys zs),.int .i64 0],[])
theorem gtD_inj:∀ p q,gtD_C p→gtD_C q→gtD_A p=gtD_A q→gtD_R p=gtD_R q:=by
 rintro ⟨c,d,k,xs,ys,zs,nn0,nn1,nn2,_⟩ ⟨c',d',k',xs',ys',zs',nn0',nn1',nn2',_⟩ _ _ e
 simp only [gtD_A,List.cons.injEq,D.list.injEq,D.val.injEq,D.agg.injEq,Value.int.injEq,Value.bool.injEq,Value.string.injEq,Value.agg.injEq,Array.mk.injEq,and_true,true_and,gI_inj,gB_inj] at e
 simp_all
noncomputable def gtD_k:List D→Option (Value × Outs):=fnP gtD_A gtD_C gtD_R
theorem gtD_n (c d k:Int)(xs ys zs:List Int)(nn0:Nat)(nn1:Nat)(nn2:Nat)(hn0:nn0=xs.length)(hn1:nn1=ys.length)(hn2:nn2=zs.length)(hm:moB c xs ys zs=true)(hg:gOk c d k=true):KnownR Try.prog [] 18 [.agg [.val (.int .i64 c),.list (rowA gI xs) nn0,.list (rowA gI ys) nn1,.list (rowA gI zs) nn2],.val (.int .i64 d),.val (.int .i64 k)] (.tuple #[.int .i64 (gtV d k xs ys zs),.int .i64 0]) ([]):=by
 subst hn0; subst hn1; subst hn2; skip
 exact gtD _ _ _ _ _ _ hm hg
theorem gtD_ok:∀ ds v bs,gtD_k ds=some (v,bs)→KnownR Try.prog [] 18 ds v bs:=fnP_ok (by
 rintro ⟨c,d,k,xs,ys,zs,nn0,nn1,nn2,_⟩ ⟨hn0,hn1,hn2,hm,hg,_⟩
 exact gtD_n _ _ _ _ _ _ _ _ _ hn0 hn1 hn2 hm hg)
theorem gtD_at (c d k:Int)(xs ys zs:List Int)(nn0:Nat)(nn1:Nat)(nn2:Nat)(hn0:nn0=xs.length)(hn1:nn1=ys.length)(hn2:nn2=zs.length)(hm:moB c xs ys zs=true)(hg:gOk c d k=true):gtD_k [.agg [.val (.int .i64 c),.list (rowA gI xs) nn0,.list (rowA gI ys) nn1,.list (rowA gI zs) nn2],.val (.int .i64 d),.val (.int .i64 k)]=some (.tuple #[.int .i64 (gtV d k xs ys zs),.int .i64 0],[]):=fnP_at (p:=(c,d,k,xs,ys,zs,nn0,nn1,nn2,())) gtD_inj ⟨hn0,hn1,hn2,hm,hg,trivial⟩ rfl rfl
theorem smD (c:Int)(xs ys zs xt yt zt:List Int)(hx:liEq xs xt)(hy:liEq ys yt)(hz:liEq zs zt)(hlx:xs.length≤8)(hly:ys.length≤8)(hlz:zs.length≤8):KnownR Try.prog [] 15 [.agg [.val (.int .i64 c),.list (rowA gI xs) xs.length,.list (rowA gI ys) ys.length,.list (rowA gI zs) zs.length],.agg [.val (.int .i64 c),.list (rowA gI xt) xt.length,.list (rowA gI yt) yt.length,.list (rowA gI zt) zt.length]] (.bool true) ([]):=smP c xs ys zs xt yt zt hx hy hz hlx hly hlz
noncomputable def smD_A (p:Int × List Int × List Int × List Int × List Int × List Int × List Int × Nat × Nat × Nat × Nat × Nat × Nat × Unit):List D:=match p with
 | (c,xs,ys,zs,xt,yt,zt,nn0,nn1,nn2,nn3,nn4,nn5,_)=>[.agg [.val (.int .i64 c),.list (rowA gI xs) nn0,.list (rowA gI ys) nn1,.list (rowA gI zs) nn2],.agg [.val (.int .i64 c),.list (rowA gI xt) nn3,.list (rowA gI yt) nn4,.list (rowA gI zt) nn5]]
noncomputable def smD_C (p:Int × List Int × List Int × List Int × List Int × List Int × List Int × Nat × Nat × Nat × Nat × Nat × Nat × Unit):Prop:=match p with
 | (c,xs,ys,zs,xt,yt,zt,nn0,nn1,nn2,nn3,nn4,nn5,_)=>(nn0=xs.length)∧(nn1=ys.length)∧(nn2=zs.length)∧(nn3=xt.length)∧(nn4=yt.length)∧(nn5=zt.length)∧(liEq xs xt)∧(liEq ys yt)∧(liEq zs zt)∧(xs.length≤8)∧(ys.length≤8)∧(zs.length≤8)∧True
noncomputable def smD_R (p:Int × List Int × List Int × List Int × List Int × List Int × List Int × Nat × Nat × Nat × Nat × Nat × Nat × Unit):Value × Outs:=match p with
 | (c,xs,ys,zs,xt,yt,zt,nn0,nn1,nn2,nn3,nn4,nn5,_)=>(.bool true,[])
theorem smD_inj:∀ p q,smD_C p→smD_C q→smD_A p=smD_A q→smD_R p=smD_R q:=by
 rintro ⟨c,xs,ys,zs,xt,yt,zt,nn0,nn1,nn2,nn3,nn4,nn5,_⟩ ⟨c',xs',ys',zs',xt',yt',zt',nn0',nn1',nn2',nn3',nn4',nn5',_⟩ _ _ e
 simp only [smD_A,List.cons.injEq,D.list.injEq,D.val.injEq,D.agg.injEq,Value.int.injEq,Value.bool.injEq,Value.string.injEq,Value.agg.injEq,Array.mk.injEq,and_true,true_and,gI_inj,gB_inj] at e
 simp_all
noncomputable def smD_k:List D→Option (Value × Outs):=fnP smD_A smD_C smD_R
theorem smD_n (c:Int)(xs ys zs xt yt zt:List Int)(nn0:Nat)(nn1:Nat)(nn2:Nat)(nn3:Nat)(nn4:Nat)(nn5:Nat)(hn0:nn0=xs.length)(hn1:nn1=ys.length)(hn2:nn2=zs.length)(hn3:nn3=xt.length)(hn4:nn4=yt.length)(hn5:nn5=zt.length)(hx:liEq xs xt)(hy:liEq ys yt)(hz:liEq zs zt)(hlx:xs.length≤8)(hly:ys.length≤8)(hlz:zs.length≤8):KnownR Try.prog [] 15 [.agg [.val (.int .i64 c),.list (rowA gI xs) nn0,.list (rowA gI ys) nn1,.list (rowA gI zs) nn2],.agg [.val (.int .i64 c),.list (rowA gI xt) nn3,.list (rowA gI yt) nn4,.list (rowA gI zt) nn5]] (.bool true) ([]):=by
 subst hn0; subst hn1; subst hn2; subst hn3; subst hn4; subst hn5; skip
 exact smD _ _ _ _ _ _ _ hx hy hz hlx hly hlz
theorem smD_ok:∀ ds v bs,smD_k ds=some (v,bs)→KnownR Try.prog [] 15 ds v bs:=fnP_ok (by
 rintro ⟨c,xs,ys,zs,xt,yt,zt,nn0,nn1,nn2,nn3,nn4,nn5,_⟩ ⟨hn0,hn1,hn2,hn3,hn4,hn5,hx,hy,hz,hlx,hly,hlz,_⟩
 exact smD_n _ _ _ _ _ _ _ _ _ _ _ _ _ hn0 hn1 hn2 hn3 hn4 hn5 hx hy hz hlx hly hlz)
theorem smD_at (c:Int)(xs ys zs xt yt zt:List Int)(nn0:Nat)(nn1:Nat)(nn2:Nat)(nn3:Nat)(nn4:Nat)(nn5:Nat)(hn0:nn0=xs.length)(hn1:nn1=ys.length)(hn2:nn2=zs.length)(hn3:nn3=xt.length)(hn4:nn4=yt.length)(hn5:nn5=zt.length)(hx:liEq xs xt)(hy:liEq ys yt)(hz:liEq zs zt)(hlx:xs.length≤8)(hly:ys.length≤8)(hlz:zs.length≤8):smD_k [.agg [.val (.int .i64 c),.list (rowA gI xs) nn0,.list (rowA gI ys) nn1,.list (rowA gI zs) nn2],.agg [.val (.int .i64 c),.list (rowA gI xt) nn3,.list (rowA gI yt) nn4,.list (rowA gI zt) nn5]]=some (.bool true,[]):=fnP_at (p:=(c,xs,ys,zs,xt,yt,zt,nn0,nn1,nn2,nn3,nn4,nn5,())) smD_inj ⟨hn0,hn1,hn2,hn3,hn4,hn5,hx,hy,hz,hlx,hly,hlz,trivial⟩ rfl rfl
noncomputable def tabS5:GTab:=(GTab.fn 38 mdK_k (GTab.fnD 37 mdD_k (GTab.fnD 20 stE_k (GTab.fnD 18 gtD_k (GTab.fnD 15 smD_k (GTab.fn1 6 (fun l=>match l with | []=>some (.bool true) | _=>none) GTab.none))))))
theorem tabS5_ok:GOk Try.prog [] tabS5:=(GOk.fn mdK_ok (GOk.fnD mdD_ok (GOk.fnD stE_ok (GOk.fnD gtD_ok (GOk.fnD smD_ok (GOk.fn1 (known0 mode_known) GOk.none))))))
noncomputable abbrev xd_ (x:Int):Int:=IntKind.i64.wrap (1+(mdV x 1048576).tmod 3)
noncomputable abbrev xk_ (n:Int)(ns:List Int)(x:Int):Int:=IntKind.i64.wrap (1+(IntKind.i64.wrap ((mdV x 1048576).tdiv 3)).tmod (mC n ns))
noncomputable abbrev xn_ (x:Int):Int:=(IntKind.i64.wrap ((mdV x 1048576).tdiv 24)).tmod 4
noncomputable abbrev a1_ (n:Int)(ns:List Int)(x:Int):List Int:=(stL (xd_ x) (xk_ n ns x) (xn_ x) 1 (mX n ns))
noncomputable abbrev a2_ (n:Int)(ns:List Int)(x:Int):List Int:=(stL (xd_ x) (xk_ n ns x) (xn_ x) 2 (mY n ns))
noncomputable abbrev a3_ (n:Int)(ns:List Int)(x:Int):List Int:=(stL (xd_ x) (xk_ n ns x) (xn_ x) 3 (mZ n ns))
noncomputable abbrev b1_ (n:Int)(ns:List Int)(x y:Int):List Int:=(stL (xd_ y) (xk_ n ns y) (xn_ y) 1 (a1_ n ns x))
noncomputable abbrev v1_ (n:Int)(ns:List Int)(x y:Int):List Int:=(stL (xd_ x) (xk_ n ns x) (xn_ x) 1 (a1_ n ns y))
noncomputable abbrev b2_ (n:Int)(ns:List Int)(x y:Int):List Int:=(stL (xd_ y) (xk_ n ns y) (xn_ y) 2 (a2_ n ns x))
noncomputable abbrev v2_ (n:Int)(ns:List Int)(x y:Int):List Int:=(stL (xd_ x) (xk_ n ns x) (xn_ x) 2 (a2_ n ns y))
noncomputable abbrev b3_ (n:Int)(ns:List Int)(x y:Int):List Int:=(stL (xd_ y) (xk_ n ns y) (xn_ y) 3 (a3_ n ns x))
noncomputable abbrev v3_ (n:Int)(ns:List Int)(x y:Int):List Int:=(stL (xd_ x) (xk_ n ns x) (xn_ x) 3 (a3_ n ns y))
noncomputable abbrev old_ (n:Int)(ns:List Int)(x:Int):Int:=gtV (xd_ x) (xk_ n ns x) (mX n ns) (mY n ns) (mZ n ns)
noncomputable abbrev s1_ (n:Int)(ns:List Int)(x:Int):List Int:=stL (xd_ x) (xk_ n ns x) (old_ n ns x) 1 (mX n ns)
noncomputable abbrev s2_ (n:Int)(ns:List Int)(x:Int):List Int:=stL (xd_ x) (xk_ n ns x) (old_ n ns x) 2 (mY n ns)
noncomputable abbrev s3_ (n:Int)(ns:List Int)(x:Int):List Int:=stL (xd_ x) (xk_ n ns x) (old_ n ns x) 3 (mZ n ns)
end Go.Proofs.Ytokpimghaladjaa
