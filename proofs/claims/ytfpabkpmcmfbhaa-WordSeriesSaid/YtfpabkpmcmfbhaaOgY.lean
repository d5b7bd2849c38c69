import Derived.Test.YtfpabkpmcmfbhaaZX33
import Derived.Test.YtfpabkpmcmfbhaaZI
import Derived.Test.YtfpabkpmcmfbhaaKnWordAwake
import Derived.ProofKit
import Derived.IntWalk
set_option linter.unnecessarySimpa false
set_option linter.unusedSimpArgs false
set_option linter.unusedVariables false
namespace Go.Proofs.Ytfpabkpmcmfbhaa
open Go Go.RowKit
set_option maxHeartbeats 8000000
set_option maxRecDepth 100000
attribute [local irreducible] chX serL serE ltB
theorem wseD (m:Int)(ld:List Int)(es:List En)(sl n:Int): KnownR Try.prog [] 16 [.val (.int .i64 m),.list (rowA gI ld) ld.length,.list (rowA gE es) es.length,.val (.int .i64 sl),.val (.int .i64 n)] (.tuple #[.complex .f64 0 (serL m ld es sl n).length,.int .i64 (serE m ld es sl n)]) ([(rowA gI (serL m ld es sl n),3)]):=pser_is m ld es sl n
noncomputable def wseD_A (p:Int × List Int × List En × Int × Int × Nat × Nat × Unit):List D:=match p with
 | (m,ld,es,sl,n,nn0,nn1,_)=>[.val (.int .i64 m),.list (rowA gI ld) nn0,.list (rowA gE es) nn1,.val (.int .i64 sl),.val (.int .i64 n)]
noncomputable def wseD_C (p:Int × List Int × List En × Int × Int × Nat × Nat × Unit):Prop:=match p with
 | (m,ld,es,sl,n,nn0,nn1,_)=>(nn0=ld.length)∧(nn1=es.length)∧True
noncomputable def wseD_R (p:Int × List Int × List En × Int × Int × Nat × Nat × Unit):Value × Outs:=match p with
 | (m,ld,es,sl,n,nn0,nn1,_)=>(.tuple #[.complex .f64 0 (serL m ld es sl n).length,.int .i64 (serE m ld es sl n)],[(rowA gI (serL m ld es sl n),3)])
theorem wseD_inj:∀ p q,wseD_C p→wseD_C q→wseD_A p=wseD_A q→wseD_R p=wseD_R q:=by
 rintro ⟨m,ld,es,sl,n,nn0,nn1,_⟩ ⟨m',ld',es',sl',n',nn0',nn1',_⟩ _ _ e
 simp only [wseD_A,List.cons.injEq,D.list.injEq,D.val.injEq,D.agg.injEq,Value.int.injEq,Value.bool.injEq,Value.string.injEq,Value.agg.injEq,Array.mk.injEq,and_true,true_and,gI_inj,gB_inj,gE_inj] at e
 simp_all
noncomputable def wseD_k:List D→Option (Value × Outs):=fnP wseD_A wseD_C wseD_R
theorem wseD_n (m:Int)(ld:List Int)(es:List En)(sl n:Int)(nn0:Nat)(nn1:Nat)(hn0:nn0=ld.length)(hn1:nn1=es.length): KnownR Try.prog [] 16 [.val (.int .i64 m),.list (rowA gI ld) nn0,.list (rowA gE es) nn1,.val (.int .i64 sl),.val (.int .i64 n)] (.tuple #[.complex .f64 0 (serL m ld es sl n).length,.int .i64 (serE m ld es sl n)]) ([(rowA gI (serL m ld es sl n),3)]):=by
 subst hn0; subst hn1; skip
 exact wseD _ _ _ _ _ 
theorem wseD_ok:∀ ds v bs,wseD_k ds=some (v,bs)→KnownR Try.prog [] 16 ds v bs:=fnP_ok (by
 rintro ⟨m,ld,es,sl,n,nn0,nn1,_⟩ ⟨hn0,hn1,_⟩
 exact wseD_n _ _ _ _ _ _ _ hn0 hn1 )
theorem wseD_at (m:Int)(ld:List Int)(es:List En)(sl n:Int)(nn0:Nat)(nn1:Nat)(hn0:nn0=ld.length)(hn1:nn1=es.length): wseD_k [.val (.int .i64 m),.list (rowA gI ld) nn0,.list (rowA gE es) nn1,.val (.int .i64 sl),.val (.int .i64 n)]=some (.tuple #[.complex .f64 0 (serL m ld es sl n).length,.int .i64 (serE m ld es sl n)],[(rowA gI (serL m ld es sl n),3)]):=fnP_at (p:=(m,ld,es,sl,n,nn0,nn1,())) wseD_inj ⟨hn0,hn1,trivial⟩ rfl rfl
theorem rseD (m:Int)(ld:List Int)(es:List En)(sl n:Int): KnownR Try.prog [] 17 [.val (.int .i64 m),.list (rowA gI ld) ld.length,.list (rowA gE es) es.length,.val (.int .i64 sl),.val (.int .i64 n)] (.tuple #[.complex .f64 0 (serL m ld es sl n).length,.int .i64 (serE m ld es sl n)]) ([(rowA gI (serL m ld es sl n),3)]):=rser_is m ld es sl n
noncomputable def rseD_A (p:Int × List Int × List En × Int × Int × Nat × Nat × Unit):List D:=match p with
 | (m,ld,es,sl,n,nn0,nn1,_)=>[.val (.int .i64 m),.list (rowA gI ld) nn0,.list (rowA gE es) nn1,.val (.int .i64 sl),.val (.int .i64 n)]
noncomputable def rseD_C (p:Int × List Int × List En × Int × Int × Nat × Nat × Unit):Prop:=match p with
 | (m,ld,es,sl,n,nn0,nn1,_)=>(nn0=ld.length)∧(nn1=es.length)∧True
noncomputable def rseD_R (p:Int × List Int × List En × Int × Int × Nat × Nat × Unit):Value × Outs:=match p with
 | (m,ld,es,sl,n,nn0,nn1,_)=>(.tuple #[.complex .f64 0 (serL m ld es sl n).length,.int .i64 (serE m ld es sl n)],[(rowA gI (serL m ld es sl n),3)])
theorem rseD_inj:∀ p q,rseD_C p→rseD_C q→rseD_A p=rseD_A q→rseD_R p=rseD_R q:=by
 rintro ⟨m,ld,es,sl,n,nn0,nn1,_⟩ ⟨m',ld',es',sl',n',nn0',nn1',_⟩ _ _ e
 simp only [rseD_A,List.cons.injEq,D.list.injEq,D.val.injEq,D.agg.injEq,Value.int.injEq,Value.bool.injEq,Value.string.injEq,Value.agg.injEq,Array.mk.injEq,and_true,true_and,gI_inj,gB_inj,gE_inj] at e
 simp_all
noncomputable def rseD_k:List D→Option (Value × Outs):=fnP rseD_A rseD_C rseD_R
theorem rseD_n (m:Int)(ld:List Int)(es:List En)(sl n:Int)(nn0:Nat)(nn1:Nat)(hn0:nn0=ld.length)(hn1:nn1=es.length): KnownR Try.prog [] 17 [.val (.int .i64 m),.list (rowA gI ld) nn0,.list (rowA gE es) nn1,.val (.int .i64 sl),.val (.int .i64 n)] (.tuple #[.complex .f64 0 (serL m ld es sl n).length,.int .i64 (serE m ld es sl n)]) ([(rowA gI (serL m ld es sl n),3)]):=by
 subst hn0; subst hn1; skip
 exact rseD _ _ _ _ _ 
theorem rseD_ok:∀ ds v bs,rseD_k ds=some (v,bs)→KnownR Try.prog [] 17 ds v bs:=fnP_ok (by
 rintro ⟨m,ld,es,sl,n,nn0,nn1,_⟩ ⟨hn0,hn1,_⟩
 exact rseD_n _ _ _ _ _ _ _ hn0 hn1 )
theorem rseD_at (m:Int)(ld:List Int)(es:List En)(sl n:Int)(nn0:Nat)(nn1:Nat)(hn0:nn0=ld.length)(hn1:nn1=es.length): rseD_k [.val (.int .i64 m),.list (rowA gI ld) nn0,.list (rowA gE es) nn1,.val (.int .i64 sl),.val (.int .i64 n)]=some (.tuple #[.complex .f64 0 (serL m ld es sl n).length,.int .i64 (serE m ld es sl n)],[(rowA gI (serL m ld es sl n),3)]):=fnP_at (p:=(m,ld,es,sl,n,nn0,nn1,())) rseD_inj ⟨hn0,hn1,trivial⟩ rfl rfl
theorem liD (ld:List Int)(es:List En): KnownR Try.prog [] 8 [.list (rowA gI ld) ld.length,.list (rowA gE es) es.length] (.bool (ltB ld es)) ([]):=light_is ld es
noncomputable def liD_A (p:List Int × List En × Nat × Nat × Unit):List D:=match p with
 | (ld,es,nn0,nn1,_)=>[.list (rowA gI ld) nn0,.list (rowA gE es) nn1]
noncomputable def liD_C (p:List Int × List En × Nat × Nat × Unit):Prop:=match p with
 | (ld,es,nn0,nn1,_)=>(nn0=ld.length)∧(nn1=es.length)∧True
noncomputable def liD_R (p:List Int × List En × Nat × Nat × Unit):Value × Outs:=match p with
 | (ld,es,nn0,nn1,_)=>(.bool (ltB ld es),[])
theorem liD_inj:∀ p q,liD_C p→liD_C q→liD_A p=liD_A q→liD_R p=liD_R q:=by
 rintro ⟨ld,es,nn0,nn1,_⟩ ⟨ld',es',nn0',nn1',_⟩ _ _ e
 simp only [liD_A,List.cons.injEq,D.list.injEq,D.val.injEq,D.agg.injEq,Value.int.injEq,Value.bool.injEq,Value.string.injEq,Value.agg.injEq,Array.mk.injEq,and_true,true_and,gI_inj,gB_inj,gE_inj] at e
 simp_all
noncomputable def liD_k:List D→Option (Value × Outs):=fnP liD_A liD_C liD_R
theorem liD_n (ld:List Int)(es:List En)(nn0:Nat)(nn1:Nat)(hn0:nn0=ld.length)(hn1:nn1=es.length): KnownR Try.prog [] 8 [.list (rowA gI ld) nn0,.list (rowA gE es) nn1] (.bool (ltB ld es)) ([]):=by
 subst hn0; subst hn1; skip
 exact liD _ _ 
theorem liD_ok:∀ ds v bs,liD_k ds=some (v,bs)→KnownR Try.prog [] 8 ds v bs:=fnP_ok (by
 rintro ⟨ld,es,nn0,nn1,_⟩ ⟨hn0,hn1,_⟩
 exact liD_n _ _ _ _ hn0 hn1 )
theorem liD_at (ld:List Int)(es:List En)(nn0:Nat)(nn1:Nat)(hn0:nn0=ld.length)(hn1:nn1=es.length): liD_k [.list (rowA gI ld) nn0,.list (rowA gE es) nn1]=some (.bool (ltB ld es),[]):=fnP_at (p:=(ld,es,nn0,nn1,())) liD_inj ⟨hn0,hn1,trivial⟩ rfl rfl
theorem owID (xs:List Int)(hl:(xs.length:Int)≤40):KnownR Try.prog [] 10 [.list (rowA gI xs) xs.length] (.complex .f64 0 xs.length) ([(rowA gI xs,3)]):=owI xs hl
noncomputable def owID_A (p:List Int × Nat × Unit):List D:=match p with
 | (xs,nn0,_)=>[.list (rowA gI xs) nn0]
noncomputable def owID_C (p:List Int × Nat × Unit):Prop:=match p with
 | (xs,nn0,_)=>(nn0=xs.length)∧((xs.length:Int)≤40)∧True
noncomputable def owID_R (p:List Int × Nat × Unit):Value × Outs:=match p with
 | (xs,nn0,_)=>(.complex .f64 0 xs.length,[(rowA gI xs,3)])
theorem owID_inj:∀ p q,owID_C p→owID_C q→owID_A p=owID_A q→owID_R p=owID_R q:=by
 rintro ⟨xs,nn0,_⟩ ⟨xs',nn0',_⟩ _ _ e
 simp only [owID_A,List.cons.injEq,D.list.injEq,D.val.injEq,D.agg.injEq,Value.int.injEq,Value.bool.injEq,Value.string.injEq,Value.agg.injEq,Array.mk.injEq,and_true,true_and,gI_inj,gB_inj,gE_inj] at e
 simp_all
noncomputable def owID_k:List D→Option (Value × Outs):=fnP owID_A owID_C owID_R
theorem owID_n (xs:List Int)(nn0:Nat)(hn0:nn0=xs.length)(hl:(xs.length:Int)≤40):KnownR Try.prog [] 10 [.list (rowA gI xs) nn0] (.complex .f64 0 xs.length) ([(rowA gI xs,3)]):=by
 subst hn0; skip
 exact owID _ hl
theorem owID_ok:∀ ds v bs,owID_k ds=some (v,bs)→KnownR Try.prog [] 10 ds v bs:=fnP_ok (by
 rintro ⟨xs,nn0,_⟩ ⟨hn0,hl,_⟩
 exact owID_n _ _ hn0 hl)
theorem owID_at (xs:List Int)(nn0:Nat)(hn0:nn0=xs.length)(hl:(xs.length:Int)≤40):owID_k [.list (rowA gI xs) nn0]=some (.complex .f64 0 xs.length,[(rowA gI xs,3)]):=fnP_at (p:=(xs,nn0,())) owID_inj ⟨hn0,hl,trivial⟩ rfl rfl
theorem owED (xs:List En)(hl:(xs.length:Int)≤2010):KnownR Try.prog [] 11 [.list (rowA gE xs) xs.length] (.complex .f64 0 xs.length) ([(rowA gE xs,48)]):=owE xs hl
noncomputable def owED_A (p:List En × Nat × Unit):List D:=match p with
 | (xs,nn0,_)=>[.list (rowA gE xs) nn0]
noncomputable def owED_C (p:List En × Nat × Unit):Prop:=match p with
 | (xs,nn0,_)=>(nn0=xs.length)∧((xs.length:Int)≤2010)∧True
noncomputable def owED_R (p:List En × Nat × Unit):Value × Outs:=match p with
 | (xs,nn0,_)=>(.complex .f64 0 xs.length,[(rowA gE xs,48)])
theorem owED_inj:∀ p q,owED_C p→owED_C q→owED_A p=owED_A q→owED_R p=owED_R q:=by
 rintro ⟨xs,nn0,_⟩ ⟨xs',nn0',_⟩ _ _ e
 simp only [owED_A,List.cons.injEq,D.list.injEq,D.val.injEq,D.agg.injEq,Value.int.injEq,Value.bool.injEq,Value.string.injEq,Value.agg.injEq,Array.mk.injEq,and_true,true_and,gI_inj,gB_inj,gE_inj] at e
 simp_all
noncomputable def owED_k:List D→Option (Value × Outs):=fnP owED_A owED_C owED_R
theorem owED_n (xs:List En)(nn0:Nat)(hn0:nn0=xs.length)(hl:(xs.length:Int)≤2010):KnownR Try.prog [] 11 [.list (rowA gE xs) nn0] (.complex .f64 0 xs.length) ([(rowA gE xs,48)]):=by
 subst hn0; skip
 exact owED _ hl
theorem owED_ok:∀ ds v bs,owED_k ds=some (v,bs)→KnownR Try.prog [] 11 ds v bs:=fnP_ok (by
 rintro ⟨xs,nn0,_⟩ ⟨hn0,hl,_⟩
 exact owED_n _ _ hn0 hl)
theorem owED_at (xs:List En)(nn0:Nat)(hn0:nn0=xs.length)(hl:(xs.length:Int)≤2010):owED_k [.list (rowA gE xs) nn0]=some (.complex .f64 0 xs.length,[(rowA gE xs,48)]):=fnP_at (p:=(xs,nn0,())) owED_inj ⟨hn0,hl,trivial⟩ rfl rfl
theorem siD (l:List Int)(hl:(l.length:Int)≤100000):KnownR Try.prog [] 14 [.list (rowA gI l) l.length,.list (rowA gI l) l.length] (.bool true) ([]):=si_is l hl
noncomputable def siD_A (p:List Int × Nat × Nat × Unit):List D:=match p with
 | (l,nn0,nn1,_)=>[.list (rowA gI l) nn0,.list (rowA gI l) nn1]
noncomputable def siD_C (p:List Int × Nat × Nat × Unit):Prop:=match p with
 | (l,nn0,nn1,_)=>(nn0=l.length)∧(nn1=l.length)∧((l.length:Int)≤100000)∧True
noncomputable def siD_R (p:List Int × Nat × Nat × Unit):Value × Outs:=match p with
 | (l,nn0,nn1,_)=>(.bool true,[])
theorem siD_inj:∀ p q,siD_C p→siD_C q→siD_A p=siD_A q→siD_R p=siD_R q:=by
 rintro ⟨l,nn0,nn1,_⟩ ⟨l',nn0',nn1',_⟩ _ _ e
 simp only [siD_A,List.cons.injEq,D.list.injEq,D.val.injEq,D.agg.injEq,Value.int.injEq,Value.bool.injEq,Value.string.injEq,Value.agg.injEq,Array.mk.injEq,and_true,true_and,gI_inj,gB_inj,gE_inj] at e
 simp_all
noncomputable def siD_k:List D→Option (Value × Outs):=fnP siD_A siD_C siD_R
theorem siD_n (l:List Int)(nn0:Nat)(nn1:Nat)(hn0:nn0=l.length)(hn1:nn1=l.length)(hl:(l.length:Int)≤100000):KnownR Try.prog [] 14 [.list (rowA gI l) nn0,.list (rowA gI l) nn1] (.bool true) ([]):=by
 subst hn0; subst hn1; skip
 exact siD _ hl
theorem siD_ok:∀ ds v bs,siD_k ds=some (v,bs)→KnownR Try.prog [] 14 ds v bs:=fnP_ok (by
 rintro ⟨l,nn0,nn1,_⟩ ⟨hn0,hn1,hl,_⟩
 exact siD_n _ _ _ hn0 hn1 hl)
theorem siD_at (l:List Int)(nn0:Nat)(nn1:Nat)(hn0:nn0=l.length)(hn1:nn1=l.length)(hl:(l.length:Int)≤100000):siD_k [.list (rowA gI l) nn0,.list (rowA gI l) nn1]=some (.bool true,[]):=fnP_at (p:=(l,nn0,nn1,())) siD_inj ⟨hn0,hn1,hl,trivial⟩ rfl rfl
theorem shD (l:List En)(hl:(l.length:Int)≤100000):KnownR Try.prog [] 15 [.list (rowA gE l) l.length,.list (rowA gE l) l.length] (.bool true) ([]):=sh_is l hl
noncomputable def shD_A (p:List En × Nat × Nat × Unit):List D:=match p with
 | (l,nn0,nn1,_)=>[.list (rowA gE l) nn0,.list (rowA gE l) nn1]
noncomputable def shD_C (p:List En × Nat × Nat × Unit):Prop:=match p with
 | (l,nn0,nn1,_)=>(nn0=l.length)∧(nn1=l.length)∧((l.length:Int)≤100000)∧True
noncomputable def shD_R (p:List En × Nat × Nat × Unit):Value × Outs:=match p with
 | (l,nn0,nn1,_)=>(.bool true,[])
theorem shD_inj:∀ p q,shD_C p→shD_C q→shD_A p=shD_A q→shD_R p=shD_R q:=by
 rintro ⟨l,nn0,nn1,_⟩ ⟨l',nn0',nn1',_⟩ _ _ e
 simp only [shD_A,List.cons.injEq,D.list.injEq,D.val.injEq,D.agg.injEq,Value.int.injEq,Value.bool.injEq,Value.string.injEq,Value.agg.injEq,Array.mk.injEq,and_true,true_and,gI_inj,gB_inj,gE_inj] at e
 simp_all
noncomputable def shD_k:List D→Option (Value × Outs):=fnP shD_A shD_C shD_R
theorem shD_n (l:List En)(nn0:Nat)(nn1:Nat)(hn0:nn0=l.length)(hn1:nn1=l.length)(hl:(l.length:Int)≤100000):KnownR Try.prog [] 15 [.list (rowA gE l) nn0,.list (rowA gE l) nn1] (.bool true) ([]):=by
 subst hn0; subst hn1; skip
 exact shD _ hl
theorem shD_ok:∀ ds v bs,shD_k ds=some (v,bs)→KnownR Try.prog [] 15 ds v bs:=fnP_ok (by
 rintro ⟨l,nn0,nn1,_⟩ ⟨hn0,hn1,hl,_⟩
 exact shD_n _ _ _ hn0 hn1 hl)
theorem shD_at (l:List En)(nn0:Nat)(nn1:Nat)(hn0:nn0=l.length)(hn1:nn1=l.length)(hl:(l.length:Int)≤100000):shD_k [.list (rowA gE l) nn0,.list (rowA gE l) nn1]=some (.bool true,[]):=fnP_at (p:=(l,nn0,nn1,())) shD_inj ⟨hn0,hn1,hl,trivial⟩ rfl rfl
noncomputable def tabY:GTab:=(GTab.fnD 16 wseD_k (GTab.fnD 17 rseD_k (GTab.fnD 8 liD_k (GTab.fnD 10 owID_k (GTab.fnD 11 owED_k (GTab.fnD 14 siD_k (GTab.fnD 15 shD_k (GTab.fn1 9 (fun l=>match l with | []=>some (.bool true) | _=>none) GTab.none))))))))
theorem tabY_ok:GOk Try.prog [] tabY:=(GOk.fnD wseD_ok (GOk.fnD rseD_ok (GOk.fnD liD_ok (GOk.fnD owID_ok (GOk.fnD owED_ok (GOk.fnD siD_ok (GOk.fnD shD_ok (GOk.fn1 (known0 knWordAwake_e0) GOk.none))))))))
theorem wzA_p0 (m sl n:Int)(ld:List Int)(es:List En)(hL:ltB ld es=true)(h1:(ld.length:Int)≤12)(h2:(es.length:Int)≤2010)(h3:((serL m ld es sl n).length:Int)≤1000)(hn:¬ (100<n∧n<1000))(hq0:(!ltB ld es)=false)(hq1:(decide (n>(100:Int)))=true)(hq2:(decide (n<(1000:Int)))=false)(hq3:(serE m ld es sl n==serE m ld es sl n)=true):KnownR Try.prog [] 4 [.list (rowA gI ld) ld.length,.list (rowA gE es) es.length,.val (.agg #[.int .i64 m,.int .i64 sl,.int .i64 n])] (.bool (true)) [] :=
 knownR_eq (v:=Value.bool true) (bs:=[]) (open_resD mix tabY_ok (T:=tabY) (fuel:=3000) (es:=[]) (ans:=[(0,.outs (Value.bool (ltB ld es)) ([])),(1,.b 0),(5,.b 1),(11,.b 0),(12,.outs (Value.complex FloatKind.f64 (0:Nat) ld.length) ([(rowA gI ld,(3:TypeId))])),(13,.outs (Value.complex FloatKind.f64 (0:Nat) es.length) ([(rowA gE es,(48:TypeId))])),(14,.outs (Value.tuple #[Value.complex FloatKind.f64 (0:Nat) (serL m ld es sl n).length,Value.int IntKind.i64 (serE m ld es sl n)]) ([(rowA gI (serL m ld es sl n),(3:TypeId))])),(15,.outs (Value.tuple #[Value.complex FloatKind.f64 (0:Nat) (serL m ld es sl n).length,Value.int IntKind.i64 (serE m ld es sl n)]) ([(rowA gI (serL m ld es sl n),(3:TypeId))])),(16,.outs (Value.bool true) ([])),(21,.b 1),(24,.outs (Value.bool true) ([])),(29,.outs (Value.bool true) ([]))]) (log:=[(GTab.lookD (tabY) ((15:Nat)) ([D.list (rowA gE es) es.length,D.list (rowA gE es) es.length]))=some (Value.bool true,[]),(GTab.lookD (tabY) ((14:Nat)) ([D.list (rowA gI ld) ld.length,D.list (rowA gI ld) ld.length]))=some (Value.bool true,[]),(serE m ld es sl n==serE m ld es sl n)=true,(GTab.lookD (tabY) ((14:Nat)) ([D.list (rowA gI (serL m ld es sl n)) (serL m ld es sl n).length,D.list (rowA gI (serL m ld es sl n)) (serL m ld es sl n).length]))=some (Value.bool true,[]),(GTab.lookD (tabY) ((17:Nat)) ([D.val (Value.int IntKind.i64 m),D.list (rowA gI ld) ld.length,D.list (rowA gE es) es.length,D.val (Value.int IntKind.i64 sl),D.val (Value.int IntKind.i64 n)]))=some (Value.tuple #[Value.complex FloatKind.f64 (0:Nat) (serL m ld es sl n).length,Value.int IntKind.i64 (serE m ld es sl n)],[(rowA gI (serL m ld es sl n),(3:TypeId))]),(GTab.lookD (tabY) ((16:Nat)) ([D.val (Value.int IntKind.i64 m),D.list (rowA gI ld) ld.length,D.list (rowA gE es) es.length,D.val (Value.int IntKind.i64 sl),D.val (Value.int IntKind.i64 n)]))=some (Value.tuple #[Value.complex FloatKind.f64 (0:Nat) (serL m ld es sl n).length,Value.int IntKind.i64 (serE m ld es sl n)],[(rowA gI (serL m ld es sl n),(3:TypeId))]),(GTab.lookD (tabY) ((11:Nat)) ([D.list (rowA gE es) es.length]))=some (Value.complex FloatKind.f64 (0:Nat) es.length,[(rowA gE es,(48:TypeId))]),(GTab.lookD (tabY) ((10:Nat)) ([D.list (rowA gI ld) ld.length]))=some (Value.complex FloatKind.f64 (0:Nat) ld.length,[(rowA gI ld,(3:TypeId))]),(decide (n<(1000:Int)))=false,(decide (n>(100:Int)))=true,(!ltB ld es)=false,(GTab.lookD (tabY) ((8:Nat)) ([D.list (rowA gI ld) ld.length,D.list (rowA gE es) es.length]))=some (Value.bool (ltB ld es),[])]) (by kernel_rfl) ⟨(shD_at (es) (es.length) (es.length) (by first | rfl | assumption | omega | (simp; done) | (simp_all; done) | (simp_all; omega)) (by first | rfl | assumption | omega | (simp; done) | (simp_all; done) | (simp_all; omega)) (by first | rfl | assumption | omega | (simp; done) | (simp_all; done) | (simp_all; omega))),(siD_at (ld) (ld.length) (ld.length) (by first | rfl | assumption | omega | (simp; done) | (simp_all; done) | (simp_all; omega)) (by first | rfl | assumption | omega | (simp; done) | (simp_all; done) | (simp_all; omega)) (by first | rfl | assumption | omega | (simp; done) | (simp_all; done) | (simp_all; omega))),hq3,(siD_at (serL m ld es sl n) ((serL m ld es sl n).length) ((serL m ld es sl n).length) (by first | rfl | assumption | omega | (simp; done) | (simp_all; done) | (simp_all; omega)) (by first | rfl | assumption | omega | (simp; done) | (simp_all; done) | (simp_all; omega)) (by first | rfl | assumption | omega | (simp; done) | (simp_all; done) | (simp_all; omega))),(rseD_at (m) (ld) (es) (sl) (n) (ld.length) (es.length) (by first | rfl | assumption | omega | (simp; done) | (simp_all; done) | (simp_all; omega)) (by first | rfl | assumption | omega | (simp; done) | (simp_all; done) | (simp_all; omega))),(wseD_at (m) (ld) (es) (sl) (n) (ld.length) (es.length) (by first | rfl | assumption | omega | (simp; done) | (simp_all; done) | (simp_all; omega)) (by first | rfl | assumption | omega | (simp; done) | (simp_all; done) | (simp_all; omega))),(owED_at (es) (es.length) (by first | rfl | assumption | omega | (simp; done) | (simp_all; done) | (simp_all; omega)) (by first | rfl | assumption | omega | (simp; done) | (simp_all; done) | (simp_all; omega))),(owID_at (ld) (ld.length) (by first | rfl | assumption | omega | (simp; done) | (simp_all; done) | (simp_all; omega)) (by first | rfl | assumption | omega | (simp; done) | (simp_all; done) | (simp_all; omega))),hq2,hq1,hq0,(liD_at (ld) (es) (ld.length) (es.length) (by first | rfl | assumption | omega | (simp; done) | (simp_all; done) | (simp_all; omega)) (by first | rfl | assumption | omega | (simp; done) | (simp_all; done) | (simp_all; omega))),trivial⟩ (by kernel_rfl)) (by first | rfl | (simp; done) | (simp_all; done)) (by first | rfl | (simp [rowA_nil]; done) | (simp only [rowA_eq]; rfl) | (simp_all [rowA_nil]; done))
theorem wzA_p1 (m sl n:Int)(ld:List Int)(es:List En)(hL:ltB ld es=true)(h1:(ld.length:Int)≤12)(h2:(es.length:Int)≤2010)(h3:((serL m ld es sl n).length:Int)≤1000)(hn:¬ (100<n∧n<1000))(hq0:(!ltB ld es)=false)(hq1:(decide (n>(100:Int)))=false)(hq3:(serE m ld es sl n==serE m ld es sl n)=true):KnownR Try.prog [] 4 [.list (rowA gI ld) ld.length,.list (rowA gE es) es.length,.val (.agg #[.int .i64 m,.int .i64 sl,.int .i64 n])] (.bool (true)) [] :=
 knownR_eq (v:=Value.bool true) (bs:=[]) (open_resD mix tabY_ok (T:=tabY) (fuel:=3000) (es:=[]) (ans:=[(0,.outs (Value.bool (ltB ld es)) ([])),(1,.b 0),(5,.b 0),(12,.outs (Value.complex FloatKind.f64 (0:Nat) ld.length) ([(rowA gI ld,(3:TypeId))])),(13,.outs (Value.complex FloatKind.f64 (0:Nat) es.length) ([(rowA gE es,(48:TypeId))])),(14,.outs (Value.tuple #[Value.complex FloatKind.f64 (0:Nat) (serL m ld es sl n).length,Value.int IntKind.i64 (serE m ld es sl n)]) ([(rowA gI (serL m ld es sl n),(3:TypeId))])),(15,.outs (Value.tuple #[Value.complex FloatKind.f64 (0:Nat) (serL m ld es sl n).length,Value.int IntKind.i64 (serE m ld es sl n)]) ([(rowA gI (serL m ld es sl n),(3:TypeId))])),(16,.outs (Value.bool true) ([])),(21,.b 1),(24,.outs (Value.bool true) ([])),(29,.outs (Value.bool true) ([]))]) (log:=[(GTab.lookD (tabY) ((15:Nat)) ([D.list (rowA gE es) es.length,D.list (rowA gE es) es.length]))=some (Value.bool true,[]),(GTab.lookD (tabY) ((14:Nat)) ([D.list (rowA gI ld) ld.length,D.list (rowA gI ld) ld.length]))=some (Value.bool true,[]),(serE m ld es sl n==serE m ld es sl n)=true,(GTab.lookD (tabY) ((14:Nat)) ([D.list (rowA gI (serL m ld es sl n)) (serL m ld es sl n).length,D.list (rowA gI (serL m ld es sl n)) (serL m ld es sl n).length]))=some (Value.bool true,[]),(GTab.lookD (tabY) ((17:Nat)) ([D.val (Value.int IntKind.i64 m),D.list (rowA gI ld) ld.length,D.list (rowA gE es) es.length,D.val (Value.int IntKind.i64 sl),D.val (Value.int IntKind.i64 n)]))=some (Value.tuple #[Value.complex FloatKind.f64 (0:Nat) (serL m ld es sl n).length,Value.int IntKind.i64 (serE m ld es sl n)],[(rowA gI (serL m ld es sl n),(3:TypeId))]),(GTab.lookD (tabY) ((16:Nat)) ([D.val (Value.int IntKind.i64 m),D.list (rowA gI ld) ld.length,D.list (rowA gE es) es.length,D.val (Value.int IntKind.i64 sl),D.val (Value.int IntKind.i64 n)]))=some (Value.tuple #[Value.complex FloatKind.f64 (0:Nat) (serL m ld es sl n).length,Value.int IntKind.i64 (serE m ld es sl n)],[(rowA gI (serL m ld es sl n),(3:TypeId))]),(GTab.lookD (tabY) ((11:Nat)) ([D.list (rowA gE es) es.length]))=some (Value.complex FloatKind.f64 (0:Nat) es.length,[(rowA gE es,(48:TypeId))]),(GTab.lookD (tabY) ((10:Nat)) ([D.list (rowA gI ld) ld.length]))=some (Value.complex FloatKind.f64 (0:Nat) ld.length,[(rowA gI ld,(3:TypeId))]),(decide (n>(100:Int)))=false,(!ltB ld es)=false,(GTab.lookD (tabY) ((8:Nat)) ([D.list (rowA gI ld) ld.length,D.list (rowA gE es) es.length]))=some (Value.bool (ltB ld es),[])]) (by kernel_rfl) ⟨(shD_at (es) (es.length) (es.length) (by first | rfl | assumption | omega | (simp; done) | (simp_all; done) | (simp_all; omega)) (by first | rfl | assumption | omega | (simp; done) | (simp_all; done) | (simp_all; omega)) (by first | rfl | assumption | omega | (simp; done) | (simp_all; done) | (simp_all; omega))),(siD_at (ld) (ld.length) (ld.length) (by first | rfl | assumption | omega | (simp; done) | (simp_all; done) | (simp_all; omega)) (by first | rfl | assumption | omega | (simp; done) | (simp_all; done) | (simp_all; omega)) (by first | rfl | assumption | omega | (simp; done) | (simp_all; done) | (simp_all; omega))),hq3,(siD_at (serL m ld es sl n) ((serL m ld es sl n).length) ((serL m ld es sl n).length) (by first | rfl | assumption | omega | (simp; done) | (simp_all; done) | (simp_all; omega)) (by first | rfl | assumption | omega | (simp; done) | (simp_all; done) | (simp_all; omega)) (by first | rfl | assumption | omega | (simp; done) | (simp_all; done) | (simp_all; omega))),(rseD_at (m) (ld) (es) (sl) (n) (ld.length) (es.length) (by first | rfl | assumption | omega | (simp; done) | (simp_all; done) | (simp_all; omega)) (by first | rfl | assumption | omega | (simp; done) | (simp_all; done) | (simp_all; omega))),(wseD_at (m) (ld) (es) (sl) (n) (ld.length) (es.length) (by first | rfl | assumption | omega | (simp; done) | (simp_all; done) | (simp_all; omega)) (by first | rfl | assumption | omega | (simp; done) | (simp_all; done) | (simp_all; omega))),(owED_at (es) (es.length) (by first | rfl | assumption | omega | (simp; done) | (simp_all; done) | (simp_all; omega)) (by first | rfl | assumption | omega | (simp; done) | (simp_all; done) | (simp_all; omega))),(owID_at (ld) (ld.length) (by first | rfl | assumption | omega | (simp; done) | (simp_all; done) | (simp_all; omega)) (by first | rfl | assumption | omega | (simp; done) | (simp_all; done) | (simp_all; omega))),hq1,hq0,(liD_at (ld) (es) (ld.length) (es.length) (by first | rfl | assumption | omega | (simp; done) | (simp_all; done) | (simp_all; omega)) (by first | rfl | assumption | omega | (simp; done) | (simp_all; done) | (simp_all; omega))),trivial⟩ (by kernel_rfl)) (by first | rfl | (simp; done) | (simp_all; done)) (by first | rfl | (simp [rowA_nil]; done) | (simp only [rowA_eq]; rfl) | (simp_all [rowA_nil]; done))
set_option maxHeartbeats 8000000 in
theorem wzA (m sl n:Int)(ld:List Int)(es:List En)(hL:ltB ld es=true)(h1:(ld.length:Int)≤12)(h2:(es.length:Int)≤2010)(h3:((serL m ld es sl n).length:Int)≤1000)(hn:¬ (100<n∧n<1000)):KnownR Try.prog [] 4 [.list (rowA gI ld) ld.length,.list (rowA gE es) es.length,.val (.agg #[.int .i64 m,.int .i64 sl,.int .i64 n])] (.bool (true)) []:=by
 have hq0:(!ltB ld es)=false:=by
  rcases Bool.eq_false_or_eq_true (!ltB ld es) with h | h
  ·exfalso; (first | (simp_all only [Bool.and_eq_true,Bool.not_eq_true',Bool.false_eq_true,Bool.true_eq_false,reduceCtorEq]; done) | (simp_all only [Bool.and_eq_true,Bool.not_true,Bool.not_false,Bool.false_or,Bool.true_or,Bool.false_eq_true,and_false,false_and]; done) | (simp only [sx,sy,eq_self,ne_eq,IntKind.wrap_i64,wrapU64,Int.reduceLT] at * <;> first | with_reducible contradiction | omega) | omega | ((try simp only [sx,sy,eq_self,ne_eq,IntKind.wrap_i64,wrapU64,Int.reduceLT] at *) <;> omega) | (simp_all; done))
  ·exact h
 rcases Bool.eq_false_or_eq_true (decide (n>(100:Int))) with hq1 | hq1
 ·
  have hq2:(decide (n<(1000:Int)))=false:=by
   rcases Bool.eq_false_or_eq_true (decide (n<(1000:Int))) with h | h
   ·exfalso; (first | (simp_all only [Bool.and_eq_true,Bool.not_eq_true',Bool.false_eq_true,Bool.true_eq_false,reduceCtorEq]; done) | (simp_all only [Bool.and_eq_true,Bool.not_true,Bool.not_false,Bool.false_or,Bool.true_or,Bool.false_eq_true,and_false,false_and]; done) | (simp only [sx,sy,eq_self,ne_eq,IntKind.wrap_i64,wrapU64,Int.reduceLT] at * <;> first | with_reducible contradiction | omega) | omega | ((try simp only [sx,sy,eq_self,ne_eq,IntKind.wrap_i64,wrapU64,Int.reduceLT] at *) <;> omega) | (simp_all; done))
   ·exact h
  have hq3:(serE m ld es sl n==serE m ld es sl n)=true:=by
   rcases Bool.eq_false_or_eq_true (serE m ld es sl n==serE m ld es sl n) with h | h
   ·exact h
   ·exfalso; (first | (simp_all only [Bool.and_eq_true,Bool.not_eq_true',Bool.false_eq_true,Bool.true_eq_false,reduceCtorEq]; done) | (simp_all only [Bool.and_eq_true,Bool.not_true,Bool.not_false,Bool.false_or,Bool.true_or,Bool.false_eq_true,and_false,false_and]; done) | (simp only [sx,sy,eq_self,ne_eq,IntKind.wrap_i64,wrapU64,Int.reduceLT] at * <;> first | with_reducible contradiction | omega) | omega | ((try simp only [sx,sy,eq_self,ne_eq,IntKind.wrap_i64,wrapU64,Int.reduceLT] at *) <;> omega) | (simp_all; done))
  exact wzA_p0 m sl n ld es hL h1 h2 h3 hn hq0 hq1 hq2 hq3
 ·
  have hq3:(serE m ld es sl n==serE m ld es sl n)=true:=by
   rcases Bool.eq_false_or_eq_true (serE m ld es sl n==serE m ld es sl n) with h | h
   ·exact h
   ·exfalso; (first | (simp_all only [Bool.and_eq_true,Bool.not_eq_true',Bool.false_eq_true,Bool.true_eq_false,reduceCtorEq]; done) | (simp_all only [Bool.and_eq_true,Bool.not_true,Bool.not_false,Bool.false_or,Bool.true_or,Bool.false_eq_true,and_false,false_and]; done) | (simp only [sx,sy,eq_self,ne_eq,IntKind.wrap_i64,wrapU64,Int.reduceLT] at * <;> first | with_reducible contradiction | omega) | omega | ((try simp only [sx,sy,eq_self,ne_eq,IntKind.wrap_i64,wrapU64,Int.reduceLT] at *) <;> omega) | (simp_all; done))
  exact wzA_p1 m sl n ld es hL h1 h2 h3 hn hq0 hq1 hq3
theorem wzE_p0 (m sl n:Int)(ld:List Int)(es:List En)(hL:ltB ld es=false)(hq0:(!ltB ld es)=true):KnownR Try.prog [] 4 [.list (rowA gI ld) ld.length,.list (rowA gE es) es.length,.val (.agg #[.int .i64 m,.int .i64 sl,.int .i64 n])] (.bool (true)) [] :=
 knownR_eq (v:=Value.bool true) (bs:=[]) (open_resD mix tabY_ok (T:=tabY) (fuel:=3000) (es:=[]) (ans:=[(0,.outs (Value.bool (ltB ld es)) ([])),(1,.b 1)]) (log:=[(!ltB ld es)=true,(GTab.lookD (tabY) ((8:Nat)) ([D.list (rowA gI ld) ld.length,D.list (rowA gE es) es.length]))=some (Value.bool (ltB ld es),[])]) (by kernel_rfl) ⟨hq0,(liD_at (ld) (es) (ld.length) (es.length) (by first | rfl | assumption | omega | (simp; done) | (simp_all; done) | (simp_all; omega)) (by first | rfl | assumption | omega | (simp; done) | (simp_all; done) | (simp_all; omega))),trivial⟩ (by kernel_rfl)) (by first | rfl | (simp; done) | (simp_all; done)) (by first | rfl | (simp [rowA_nil]; done) | (simp only [rowA_eq]; rfl) | (simp_all [rowA_nil]; done))
set_option maxHeartbeats 8000000 in
theorem wzE (m sl n:Int)(ld:List Int)(es:List En)(hL:ltB ld es=false):KnownR Try.prog [] 4 [.list (rowA gI ld) ld.length,.list (rowA gE es) es.length,.val (.agg #[.int .i64 m,.int .i64 sl,.int .i64 n])] (.bool (true)) []:=by
 have hq0:(!ltB ld es)=true:=by
  rcases Bool.eq_false_or_eq_true (!ltB ld es) with h | h
  ·exact h
  ·exfalso; (first | (simp_all only [Bool.and_eq_true,Bool.not_eq_true',Bool.false_eq_true,Bool.true_eq_false,reduceCtorEq]; done) | (simp_all only [Bool.and_eq_true,Bool.not_true,Bool.not_false,Bool.false_or,Bool.true_or,Bool.false_eq_true,and_false,false_and]; done) | (simp only [sx,sy,eq_self,ne_eq,IntKind.wrap_i64,wrapU64,Int.reduceLT] at * <;> first | with_reducible contradiction | omega) | omega | ((try simp only [sx,sy,eq_self,ne_eq,IntKind.wrap_i64,wrapU64,Int.reduceLT] at *) <;> omega) | (simp_all; done))
 exact wzE_p0 m sl n ld es hL hq0
theorem wzN_p0 (m sl n:Int)(ld:List Int)(es:List En)(hL:ltB ld es=true)(hn:100<n∧n<1000)(hq0:(!ltB ld es)=false)(hq1:(decide (n>(100:Int)))=true)(hq2:(decide (n<(1000:Int)))=true):KnownR Try.prog [] 4 [.list (rowA gI ld) ld.length,.list (rowA gE es) es.length,.val (.agg #[.int .i64 m,.int .i64 sl,.int .i64 n])] (.bool (true)) [] :=
 knownR_eq (v:=Value.bool true) (bs:=[]) (open_resD mix tabY_ok (T:=tabY) (fuel:=3000) (es:=[]) (ans:=[(0,.outs (Value.bool (ltB ld es)) ([])),(1,.b 0),(5,.b 1),(11,.b 1)]) (log:=[(decide (n<(1000:Int)))=true,(decide (n>(100:Int)))=true,(!ltB ld es)=false,(GTab.lookD (tabY) ((8:Nat)) ([D.list (rowA gI ld) ld.length,D.list (rowA gE es) es.length]))=some (Value.bool (ltB ld es),[])]) (by kernel_rfl) ⟨hq2,hq1,hq0,(liD_at (ld) (es) (ld.length) (es.length) (by first | rfl | assumption | omega | (simp; done) | (simp_all; done) | (simp_all; omega)) (by first | rfl | assumption | omega | (simp; done) | (simp_all; done) | (simp_all; omega))),trivial⟩ (by kernel_rfl)) (by first | rfl | (simp; done) | (simp_all; done)) (by first | rfl | (simp [rowA_nil]; done) | (simp only [rowA_eq]; rfl) | (simp_all [rowA_nil]; done))
set_option maxHeartbeats 8000000 in
theorem wzN (m sl n:Int)(ld:List Int)(es:List En)(hL:ltB ld es=true)(hn:100<n∧n<1000):KnownR Try.prog [] 4 [.list (rowA gI ld) ld.length,.list (rowA gE es) es.length,.val (.agg #[.int .i64 m,.int .i64 sl,.int .i64 n])] (.bool (true)) []:=by
 have hq0:(!ltB ld es)=false:=by
  rcases Bool.eq_false_or_eq_true (!ltB ld es) with h | h
  ·exfalso; (first | (simp_all only [Bool.and_eq_true,Bool.not_eq_true',Bool.false_eq_true,Bool.true_eq_false,reduceCtorEq]; done) | (simp_all only [Bool.and_eq_true,Bool.not_true,Bool.not_false,Bool.false_or,Bool.true_or,Bool.false_eq_true,and_false,false_and]; done) | (simp only [sx,sy,eq_self,ne_eq,IntKind.wrap_i64,wrapU64,Int.reduceLT] at * <;> first | with_reducible contradiction | omega) | omega | ((try simp only [sx,sy,eq_self,ne_eq,IntKind.wrap_i64,wrapU64,Int.reduceLT] at *) <;> omega) | (simp_all; done))
  ·exact h
 have hq1:(decide (n>(100:Int)))=true:=by
  rcases Bool.eq_false_or_eq_true (decide (n>(100:Int))) with h | h
  ·exact h
  ·exfalso; (first | (simp_all only [Bool.and_eq_true,Bool.not_eq_true',Bool.false_eq_true,Bool.true_eq_false,reduceCtorEq]; done) | (simp_all only [Bool.and_eq_true,Bool.not_true,Bool.not_false,Bool.false_or,Bool.true_or,Bool.false_eq_true,and_false,false_and]; done) | (simp only [sx,sy,eq_self,ne_eq,IntKind.wrap_i64,wrapU64,Int.reduceLT] at * <;> first | with_reducible contradiction | omega) | omega | ((try simp only [sx,sy,eq_self,ne_eq,IntKind.wrap_i64,wrapU64,Int.reduceLT] at *) <;> omega) | (simp_all; done))
 have hq2:(decide (n<(1000:Int)))=true:=by
  rcases Bool.eq_false_or_eq_true (decide (n<(1000:Int))) with h | h
  ·exact h
  ·exfalso; (first | (simp_all only [Bool.and_eq_true,Bool.not_eq_true',Bool.false_eq_true,Bool.true_eq_false,reduceCtorEq]; done) | (simp_all only [Bool.and_eq_true,Bool.not_true,Bool.not_false,Bool.false_or,Bool.true_or,Bool.false_eq_true,and_false,false_and]; done) | (simp only [sx,sy,eq_self,ne_eq,IntKind.wrap_i64,wrapU64,Int.reduceLT] at * <;> first | with_reducible contradiction | omega) | omega | ((try simp only [sx,sy,eq_self,ne_eq,IntKind.wrap_i64,wrapU64,Int.reduceLT] at *) <;> omega) | (simp_all; done))
 exact wzN_p0 m sl n ld es hL hn hq0 hq1 hq2
end Go.Proofs.Ytfpabkpmcmfbhaa
