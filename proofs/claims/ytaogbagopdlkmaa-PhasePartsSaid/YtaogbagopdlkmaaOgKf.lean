import Derived.Test.YtaogbagopdlkmaaPY26
import Derived.Test.YtaogbagopdlkmaaKnPhaseKnown
import Derived.Test.YtaogbagopdlkmaaFrL
import Derived.ProofKit
import Derived.IntWalk
set_option linter.unnecessarySimpa false
set_option linter.unusedSimpArgs false
set_option linter.unusedVariables false
namespace Go.Proofs.Ytaogbagopdlkmaa
open Go Go.RowKit
set_option maxHeartbeats 8000000
set_option maxRecDepth 100000
attribute [local irreducible] ckX trN slN ctV ctE ntV ntE lnV lnE
theorem xcD (m d t s c x y k:Int): KnownR Try.prog [] 29 [.val (.agg #[.int .i64 m,.int .i64 d,.int .i64 t,.int .i64 s,.int .i64 c]),.val (.int .i64 x),.val (.int .i64 y),.val (.int .i64 k)] (.tuple #[.int .i64 (ctV m d t s c x y k),.int .i64 (ctE m d t s c x y k)]) ([]):=pCountT m d t s c x y k
noncomputable def xcD_A (p:Int × Int × Int × Int × Int × Int × Int × Int × Unit):List D:=match p with
 | (m,d,t,s,c,x,y,k,_)=>[.val (.agg #[.int .i64 m,.int .i64 d,.int .i64 t,.int .i64 s,.int .i64 c]),.val (.int .i64 x),.val (.int .i64 y),.val (.int .i64 k)]
noncomputable def xcD_C (p:Int × Int × Int × Int × Int × Int × Int × Int × Unit):Prop:=match p with
 | (m,d,t,s,c,x,y,k,_)=>True
noncomputable def xcD_R (p:Int × Int × Int × Int × Int × Int × Int × Int × Unit):Value × Outs:=match p with
 | (m,d,t,s,c,x,y,k,_)=>(.tuple #[.int .i64 (ctV m d t s c x y k),.int .i64 (ctE m d t s c x y k)],[])
theorem xcD_inj:∀ p q,xcD_C p→xcD_C q→xcD_A p=xcD_A q→xcD_R p=xcD_R q:=by
 rintro ⟨m,d,t,s,c,x,y,k,_⟩ ⟨m',d',t',s',c',x',y',k',_⟩ _ _ e
 simp only [xcD_A,List.cons.injEq,D.list.injEq,D.val.injEq,D.agg.injEq,Value.int.injEq,Value.bool.injEq,Value.string.injEq,Value.agg.injEq,Array.mk.injEq,and_true,true_and,gI_inj,gB_inj,gQ_inj] at e
 simp_all
noncomputable def xcD_k:List D→Option (Value × Outs):=fnP xcD_A xcD_C xcD_R
theorem xcD_n (m d t s c x y k:Int): KnownR Try.prog [] 29 [.val (.agg #[.int .i64 m,.int .i64 d,.int .i64 t,.int .i64 s,.int .i64 c]),.val (.int .i64 x),.val (.int .i64 y),.val (.int .i64 k)] (.tuple #[.int .i64 (ctV m d t s c x y k),.int .i64 (ctE m d t s c x y k)]) ([]):=by
 skip
 exact xcD _ _ _ _ _ _ _ _ 
theorem xcD_ok:∀ ds v bs,xcD_k ds=some (v,bs)→KnownR Try.prog [] 29 ds v bs:=fnP_ok (by
 rintro ⟨m,d,t,s,c,x,y,k,_⟩ _
 exact xcD_n _ _ _ _ _ _ _ _  )
theorem xcD_at (m d t s c x y k:Int): xcD_k [.val (.agg #[.int .i64 m,.int .i64 d,.int .i64 t,.int .i64 s,.int .i64 c]),.val (.int .i64 x),.val (.int .i64 y),.val (.int .i64 k)]=some (.tuple #[.int .i64 (ctV m d t s c x y k),.int .i64 (ctE m d t s c x y k)],[]):=fnP_at (p:=(m,d,t,s,c,x,y,k,())) xcD_inj trivial rfl rfl
theorem ycD (m d t s c x y k:Int)(hs:s≤9223372036854775807)(hcc:c≤9223372036854775807):KnownR Try.prog [] 30 [.val (.agg #[.int .i64 m,.int .i64 d,.int .i64 t,.int .i64 s,.int .i64 c]),.val (.int .i64 x),.val (.int .i64 y),.val (.int .i64 k)] (.tuple #[.int .i64 (ctV m d t s c x y k),.int .i64 (ctE m d t s c x y k)]) ([]):=rCountT m d t s c x y k hs hcc
noncomputable def ycD_A (p:Int × Int × Int × Int × Int × Int × Int × Int × Unit):List D:=match p with
 | (m,d,t,s,c,x,y,k,_)=>[.val (.agg #[.int .i64 m,.int .i64 d,.int .i64 t,.int .i64 s,.int .i64 c]),.val (.int .i64 x),.val (.int .i64 y),.val (.int .i64 k)]
noncomputable def ycD_C (p:Int × Int × Int × Int × Int × Int × Int × Int × Unit):Prop:=match p with
 | (m,d,t,s,c,x,y,k,_)=>(s≤9223372036854775807)∧(c≤9223372036854775807)∧True
noncomputable def ycD_R (p:Int × Int × Int × Int × Int × Int × Int × Int × Unit):Value × Outs:=match p with
 | (m,d,t,s,c,x,y,k,_)=>(.tuple #[.int .i64 (ctV m d t s c x y k),.int .i64 (ctE m d t s c x y k)],[])
theorem ycD_inj:∀ p q,ycD_C p→ycD_C q→ycD_A p=ycD_A q→ycD_R p=ycD_R q:=by
 rintro ⟨m,d,t,s,c,x,y,k,_⟩ ⟨m',d',t',s',c',x',y',k',_⟩ _ _ e
 simp only [ycD_A,List.cons.injEq,D.list.injEq,D.val.injEq,D.agg.injEq,Value.int.injEq,Value.bool.injEq,Value.string.injEq,Value.agg.injEq,Array.mk.injEq,and_true,true_and,gI_inj,gB_inj,gQ_inj] at e
 simp_all
noncomputable def ycD_k:List D→Option (Value × Outs):=fnP ycD_A ycD_C ycD_R
theorem ycD_n (m d t s c x y k:Int)(hs:s≤9223372036854775807)(hcc:c≤9223372036854775807):KnownR Try.prog [] 30 [.val (.agg #[.int .i64 m,.int .i64 d,.int .i64 t,.int .i64 s,.int .i64 c]),.val (.int .i64 x),.val (.int .i64 y),.val (.int .i64 k)] (.tuple #[.int .i64 (ctV m d t s c x y k),.int .i64 (ctE m d t s c x y k)]) ([]):=by
 skip
 exact ycD _ _ _ _ _ _ _ _ hs hcc
theorem ycD_ok:∀ ds v bs,ycD_k ds=some (v,bs)→KnownR Try.prog [] 30 ds v bs:=fnP_ok (by
 rintro ⟨m,d,t,s,c,x,y,k,_⟩ ⟨hs,hcc,_⟩
 exact ycD_n _ _ _ _ _ _ _ _  hs hcc)
theorem ycD_at (m d t s c x y k:Int)(hs:s≤9223372036854775807)(hcc:c≤9223372036854775807):ycD_k [.val (.agg #[.int .i64 m,.int .i64 d,.int .i64 t,.int .i64 s,.int .i64 c]),.val (.int .i64 x),.val (.int .i64 y),.val (.int .i64 k)]=some (.tuple #[.int .i64 (ctV m d t s c x y k),.int .i64 (ctE m d t s c x y k)],[]):=fnP_at (p:=(m,d,t,s,c,x,y,k,())) ycD_inj ⟨hs,hcc,trivial⟩ rfl rfl
theorem xnD (m d t s c x k:Int): KnownR Try.prog [] 27 [.val (.agg #[.int .i64 m,.int .i64 d,.int .i64 t,.int .i64 s,.int .i64 c]),.val (.int .i64 x),.val (.int .i64 k)] (.tuple #[.int .i64 (ntV m d t s c x k),.int .i64 (ntE m d t s c x k)]) ([]):=pNextT m d t s c x k
noncomputable def xnD_A (p:Int × Int × Int × Int × Int × Int × Int × Unit):List D:=match p with
 | (m,d,t,s,c,x,k,_)=>[.val (.agg #[.int .i64 m,.int .i64 d,.int .i64 t,.int .i64 s,.int .i64 c]),.val (.int .i64 x),.val (.int .i64 k)]
noncomputable def xnD_C (p:Int × Int × Int × Int × Int × Int × Int × Unit):Prop:=match p with
 | (m,d,t,s,c,x,k,_)=>True
noncomputable def xnD_R (p:Int × Int × Int × Int × Int × Int × Int × Unit):Value × Outs:=match p with
 | (m,d,t,s,c,x,k,_)=>(.tuple #[.int .i64 (ntV m d t s c x k),.int .i64 (ntE m d t s c x k)],[])
theorem xnD_inj:∀ p q,xnD_C p→xnD_C q→xnD_A p=xnD_A q→xnD_R p=xnD_R q:=by
 rintro ⟨m,d,t,s,c,x,k,_⟩ ⟨m',d',t',s',c',x',k',_⟩ _ _ e
 simp only [xnD_A,List.cons.injEq,D.list.injEq,D.val.injEq,D.agg.injEq,Value.int.injEq,Value.bool.injEq,Value.string.injEq,Value.agg.injEq,Array.mk.injEq,and_true,true_and,gI_inj,gB_inj,gQ_inj] at e
 simp_all
noncomputable def xnD_k:List D→Option (Value × Outs):=fnP xnD_A xnD_C xnD_R
theorem xnD_n (m d t s c x k:Int): KnownR Try.prog [] 27 [.val (.agg #[.int .i64 m,.int .i64 d,.int .i64 t,.int .i64 s,.int .i64 c]),.val (.int .i64 x),.val (.int .i64 k)] (.tuple #[.int .i64 (ntV m d t s c x k),.int .i64 (ntE m d t s c x k)]) ([]):=by
 skip
 exact xnD _ _ _ _ _ _ _ 
theorem xnD_ok:∀ ds v bs,xnD_k ds=some (v,bs)→KnownR Try.prog [] 27 ds v bs:=fnP_ok (by
 rintro ⟨m,d,t,s,c,x,k,_⟩ _
 exact xnD_n _ _ _ _ _ _ _  )
theorem xnD_at (m d t s c x k:Int): xnD_k [.val (.agg #[.int .i64 m,.int .i64 d,.int .i64 t,.int .i64 s,.int .i64 c]),.val (.int .i64 x),.val (.int .i64 k)]=some (.tuple #[.int .i64 (ntV m d t s c x k),.int .i64 (ntE m d t s c x k)],[]):=fnP_at (p:=(m,d,t,s,c,x,k,())) xnD_inj trivial rfl rfl
theorem ynD (m d t s c x k:Int)(hs:s≤9223372036854775807)(hcc:c≤9223372036854775807):KnownR Try.prog [] 28 [.val (.agg #[.int .i64 m,.int .i64 d,.int .i64 t,.int .i64 s,.int .i64 c]),.val (.int .i64 x),.val (.int .i64 k)] (.tuple #[.int .i64 (ntV m d t s c x k),.int .i64 (ntE m d t s c x k)]) ([]):=rNextT m d t s c x k hs hcc
noncomputable def ynD_A (p:Int × Int × Int × Int × Int × Int × Int × Unit):List D:=match p with
 | (m,d,t,s,c,x,k,_)=>[.val (.agg #[.int .i64 m,.int .i64 d,.int .i64 t,.int .i64 s,.int .i64 c]),.val (.int .i64 x),.val (.int .i64 k)]
noncomputable def ynD_C (p:Int × Int × Int × Int × Int × Int × Int × Unit):Prop:=match p with
 | (m,d,t,s,c,x,k,_)=>(s≤9223372036854775807)∧(c≤9223372036854775807)∧True
noncomputable def ynD_R (p:Int × Int × Int × Int × Int × Int × Int × Unit):Value × Outs:=match p with
 | (m,d,t,s,c,x,k,_)=>(.tuple #[.int .i64 (ntV m d t s c x k),.int .i64 (ntE m d t s c x k)],[])
theorem ynD_inj:∀ p q,ynD_C p→ynD_C q→ynD_A p=ynD_A q→ynD_R p=ynD_R q:=by
 rintro ⟨m,d,t,s,c,x,k,_⟩ ⟨m',d',t',s',c',x',k',_⟩ _ _ e
 simp only [ynD_A,List.cons.injEq,D.list.injEq,D.val.injEq,D.agg.injEq,Value.int.injEq,Value.bool.injEq,Value.string.injEq,Value.agg.injEq,Array.mk.injEq,and_true,true_and,gI_inj,gB_inj,gQ_inj] at e
 simp_all
noncomputable def ynD_k:List D→Option (Value × Outs):=fnP ynD_A ynD_C ynD_R
theorem ynD_n (m d t s c x k:Int)(hs:s≤9223372036854775807)(hcc:c≤9223372036854775807):KnownR Try.prog [] 28 [.val (.agg #[.int .i64 m,.int .i64 d,.int .i64 t,.int .i64 s,.int .i64 c]),.val (.int .i64 x),.val (.int .i64 k)] (.tuple #[.int .i64 (ntV m d t s c x k),.int .i64 (ntE m d t s c x k)]) ([]):=by
 skip
 exact ynD _ _ _ _ _ _ _ hs hcc
theorem ynD_ok:∀ ds v bs,ynD_k ds=some (v,bs)→KnownR Try.prog [] 28 ds v bs:=fnP_ok (by
 rintro ⟨m,d,t,s,c,x,k,_⟩ ⟨hs,hcc,_⟩
 exact ynD_n _ _ _ _ _ _ _  hs hcc)
theorem ynD_at (m d t s c x k:Int)(hs:s≤9223372036854775807)(hcc:c≤9223372036854775807):ynD_k [.val (.agg #[.int .i64 m,.int .i64 d,.int .i64 t,.int .i64 s,.int .i64 c]),.val (.int .i64 x),.val (.int .i64 k)]=some (.tuple #[.int .i64 (ntV m d t s c x k),.int .i64 (ntE m d t s c x k)],[]):=fnP_at (p:=(m,d,t,s,c,x,k,())) ynD_inj ⟨hs,hcc,trivial⟩ rfl rfl
theorem xlD (m d t s c k:Int): KnownR Try.prog [] 25 [.val (.agg #[.int .i64 m,.int .i64 d,.int .i64 t,.int .i64 s,.int .i64 c]),.val (.int .i64 k)] (.tuple #[.int .i64 (lnV m d t s c k),.int .i64 (lnE m d t s c k)]) ([]):=pLenT m d t s c k
noncomputable def xlD_A (p:Int × Int × Int × Int × Int × Int × Unit):List D:=match p with
 | (m,d,t,s,c,k,_)=>[.val (.agg #[.int .i64 m,.int .i64 d,.int .i64 t,.int .i64 s,.int .i64 c]),.val (.int .i64 k)]
noncomputable def xlD_C (p:Int × Int × Int × Int × Int × Int × Unit):Prop:=match p with
 | (m,d,t,s,c,k,_)=>True
noncomputable def xlD_R (p:Int × Int × Int × Int × Int × Int × Unit):Value × Outs:=match p with
 | (m,d,t,s,c,k,_)=>(.tuple #[.int .i64 (lnV m d t s c k),.int .i64 (lnE m d t s c k)],[])
theorem xlD_inj:∀ p q,xlD_C p→xlD_C q→xlD_A p=xlD_A q→xlD_R p=xlD_R q:=by
 rintro ⟨m,d,t,s,c,k,_⟩ ⟨m',d',t',s',c',k',_⟩ _ _ e
 simp only [xlD_A,List.cons.injEq,D.list.injEq,D.val.injEq,D.agg.injEq,Value.int.injEq,Value.bool.injEq,Value.string.injEq,Value.agg.injEq,Array.mk.injEq,and_true,true_and,gI_inj,gB_inj,gQ_inj] at e
 simp_all
noncomputable def xlD_k:List D→Option (Value × Outs):=fnP xlD_A xlD_C xlD_R
theorem xlD_n (m d t s c k:Int): KnownR Try.prog [] 25 [.val (.agg #[.int .i64 m,.int .i64 d,.int .i64 t,.int .i64 s,.int .i64 c]),.val (.int .i64 k)] (.tuple #[.int .i64 (lnV m d t s c k),.int .i64 (lnE m d t s c k)]) ([]):=by
 skip
 exact xlD _ _ _ _ _ _ 
theorem xlD_ok:∀ ds v bs,xlD_k ds=some (v,bs)→KnownR Try.prog [] 25 ds v bs:=fnP_ok (by
 rintro ⟨m,d,t,s,c,k,_⟩ _
 exact xlD_n _ _ _ _ _ _  )
theorem xlD_at (m d t s c k:Int): xlD_k [.val (.agg #[.int .i64 m,.int .i64 d,.int .i64 t,.int .i64 s,.int .i64 c]),.val (.int .i64 k)]=some (.tuple #[.int .i64 (lnV m d t s c k),.int .i64 (lnE m d t s c k)],[]):=fnP_at (p:=(m,d,t,s,c,k,())) xlD_inj trivial rfl rfl
theorem ylD (m d t s c k:Int)(hs:s≤9223372036854775807)(hcc:c≤9223372036854775807):KnownR Try.prog [] 26 [.val (.agg #[.int .i64 m,.int .i64 d,.int .i64 t,.int .i64 s,.int .i64 c]),.val (.int .i64 k)] (.tuple #[.int .i64 (lnV m d t s c k),.int .i64 (lnE m d t s c k)]) ([]):=rLenT m d t s c k hs hcc
noncomputable def ylD_A (p:Int × Int × Int × Int × Int × Int × Unit):List D:=match p with
 | (m,d,t,s,c,k,_)=>[.val (.agg #[.int .i64 m,.int .i64 d,.int .i64 t,.int .i64 s,.int .i64 c]),.val (.int .i64 k)]
noncomputable def ylD_C (p:Int × Int × Int × Int × Int × Int × Unit):Prop:=match p with
 | (m,d,t,s,c,k,_)=>(s≤9223372036854775807)∧(c≤9223372036854775807)∧True
noncomputable def ylD_R (p:Int × Int × Int × Int × Int × Int × Unit):Value × Outs:=match p with
 | (m,d,t,s,c,k,_)=>(.tuple #[.int .i64 (lnV m d t s c k),.int .i64 (lnE m d t s c k)],[])
theorem ylD_inj:∀ p q,ylD_C p→ylD_C q→ylD_A p=ylD_A q→ylD_R p=ylD_R q:=by
 rintro ⟨m,d,t,s,c,k,_⟩ ⟨m',d',t',s',c',k',_⟩ _ _ e
 simp only [ylD_A,List.cons.injEq,D.list.injEq,D.val.injEq,D.agg.injEq,Value.int.injEq,Value.bool.injEq,Value.string.injEq,Value.agg.injEq,Array.mk.injEq,and_true,true_and,gI_inj,gB_inj,gQ_inj] at e
 simp_all
noncomputable def ylD_k:List D→Option (Value × Outs):=fnP ylD_A ylD_C ylD_R
theorem ylD_n (m d t s c k:Int)(hs:s≤9223372036854775807)(hcc:c≤9223372036854775807):KnownR Try.prog [] 26 [.val (.agg #[.int .i64 m,.int .i64 d,.int .i64 t,.int .i64 s,.int .i64 c]),.val (.int .i64 k)] (.tuple #[.int .i64 (lnV m d t s c k),.int .i64 (lnE m d t s c k)]) ([]):=by
 skip
 exact ylD _ _ _ _ _ _ hs hcc
theorem ylD_ok:∀ ds v bs,ylD_k ds=some (v,bs)→KnownR Try.prog [] 26 ds v bs:=fnP_ok (by
 rintro ⟨m,d,t,s,c,k,_⟩ ⟨hs,hcc,_⟩
 exact ylD_n _ _ _ _ _ _  hs hcc)
theorem ylD_at (m d t s c k:Int)(hs:s≤9223372036854775807)(hcc:c≤9223372036854775807):ylD_k [.val (.agg #[.int .i64 m,.int .i64 d,.int .i64 t,.int .i64 s,.int .i64 c]),.val (.int .i64 k)]=some (.tuple #[.int .i64 (lnV m d t s c k),.int .i64 (lnE m d t s c k)],[]):=fnP_at (p:=(m,d,t,s,c,k,())) ylD_inj ⟨hs,hcc,trivial⟩ rfl rfl
noncomputable def tabPts:GTab:=(GTab.fnD 29 xcD_k (GTab.fnD 30 ycD_k (GTab.fnD 27 xnD_k (GTab.fnD 28 ynD_k (GTab.fnD 25 xlD_k (GTab.fnD 26 ylD_k (GTab.fn1 22 (fun l=>match l with | []=>some (.bool true) | _=>none) GTab.none)))))))
theorem tabPts_ok:GOk Try.prog [] tabPts:=(GOk.fnD xcD_ok (GOk.fnD ycD_ok (GOk.fnD xnD_ok (GOk.fnD ynD_ok (GOk.fnD xlD_ok (GOk.fnD ylD_ok (GOk.fn1 (known0 knPhaseKnown_e0) GOk.none)))))))
theorem lawPts_p0 (m d t s c x y k:Int)(hs:s≤9223372036854775807)(hcc:c≤9223372036854775807)(hq0:(lnV m d t s c k != lnV m d t s c k)=false)(hq1:(lnE m d t s c k != lnE m d t s c k)=false)(hq2:(ntV m d t s c x k != ntV m d t s c x k)=false)(hq3:(ntE m d t s c x k != ntE m d t s c x k)=false)(hq4:(ctV m d t s c x y k==ctV m d t s c x y k)=true)(hq5:(ctE m d t s c x y k==ctE m d t s c x y k)=true):KnownR Try.prog [] 5 [.val (.agg #[.int .i64 m,.int .i64 d,.int .i64 t,.int .i64 s,.int .i64 c]),.val (.agg #[.int .i64 x,.int .i64 y,.int .i64 k])] (.bool (true)) [] :=
 knownR_eq (v:=Value.bool true) (bs:=[]) (open_resD mix tabPts_ok (T:=tabPts) (fuel:=3000) (es:=[]) (ans:=[(0,.outs (Value.tuple #[Value.int IntKind.i64 (lnV m d t s c k),Value.int IntKind.i64 (lnE m d t s c k)]) ([])),(1,.outs (Value.tuple #[Value.int IntKind.i64 (lnV m d t s c k),Value.int IntKind.i64 (lnE m d t s c k)]) ([])),(2,.outs (Value.tuple #[Value.int IntKind.i64 (ntV m d t s c x k),Value.int IntKind.i64 (ntE m d t s c x k)]) ([])),(3,.outs (Value.tuple #[Value.int IntKind.i64 (ntV m d t s c x k),Value.int IntKind.i64 (ntE m d t s c x k)]) ([])),(4,.b 0),(8,.b 0),(12,.b 0),(16,.b 0),(17,.outs (Value.tuple #[Value.int IntKind.i64 (ctV m d t s c x y k),Value.int IntKind.i64 (ctE m d t s c x y k)]) ([])),(18,.outs (Value.tuple #[Value.int IntKind.i64 (ctV m d t s c x y k),Value.int IntKind.i64 (ctE m d t s c x y k)]) ([])),(19,.b 1),(23,.b 1)]) (log:=[(ctE m d t s c x y k==ctE m d t s c x y k)=true,(ctV m d t s c x y k==ctV m d t s c x y k)=true,(GTab.lookD (tabPts) ((30:Nat)) ([D.val (Value.agg { toList:=[Value.int IntKind.i64 m,Value.int IntKind.i64 d,Value.int IntKind.i64 t,Value.int IntKind.i64 s,Value.int IntKind.i64 c] }),D.val (Value.int IntKind.i64 x),D.val (Value.int IntKind.i64 y),D.val (Value.int IntKind.i64 k)]))=some (Value.tuple #[Value.int IntKind.i64 (ctV m d t s c x y k),Value.int IntKind.i64 (ctE m d t s c x y k)],[]),(GTab.lookD (tabPts) ((29:Nat)) ([D.val (Value.agg { toList:=[Value.int IntKind.i64 m,Value.int IntKind.i64 d,Value.int IntKind.i64 t,Value.int IntKind.i64 s,Value.int IntKind.i64 c] }),D.val (Value.int IntKind.i64 x),D.val (Value.int IntKind.i64 y),D.val (Value.int IntKind.i64 k)]))=some (Value.tuple #[Value.int IntKind.i64 (ctV m d t s c x y k),Value.int IntKind.i64 (ctE m d t s c x y k)],[]),(ntE m d t s c x k != ntE m d t s c x k)=false,(ntV m d t s c x k != ntV m d t s c x k)=false,(lnE m d t s c k != lnE m d t s c k)=false,(lnV m d t s c k != lnV m d t s c k)=false,(GTab.lookD (tabPts) ((28:Nat)) ([D.val (Value.agg { toList:=[Value.int IntKind.i64 m,Value.int IntKind.i64 d,Value.int IntKind.i64 t,Value.int IntKind.i64 s,Value.int IntKind.i64 c] }),D.val (Value.int IntKind.i64 x),D.val (Value.int IntKind.i64 k)]))=some (Value.tuple #[Value.int IntKind.i64 (ntV m d t s c x k),Value.int IntKind.i64 (ntE m d t s c x k)],[]),(GTab.lookD (tabPts) ((27:Nat)) ([D.val (Value.agg { toList:=[Value.int IntKind.i64 m,Value.int IntKind.i64 d,Value.int IntKind.i64 t,Value.int IntKind.i64 s,Value.int IntKind.i64 c] }),D.val (Value.int IntKind.i64 x),D.val (Value.int IntKind.i64 k)]))=some (Value.tuple #[Value.int IntKind.i64 (ntV m d t s c x k),Value.int IntKind.i64 (ntE m d t s c x k)],[]),(GTab.lookD (tabPts) ((26:Nat)) ([D.val (Value.agg { toList:=[Value.int IntKind.i64 m,Value.int IntKind.i64 d,Value.int IntKind.i64 t,Value.int IntKind.i64 s,Value.int IntKind.i64 c] }),D.val (Value.int IntKind.i64 k)]))=some (Value.tuple #[Value.int IntKind.i64 (lnV m d t s c k),Value.int IntKind.i64 (lnE m d t s c k)],[]),(GTab.lookD (tabPts) ((25:Nat)) ([D.val (Value.agg { toList:=[Value.int IntKind.i64 m,Value.int IntKind.i64 d,Value.int IntKind.i64 t,Value.int IntKind.i64 s,Value.int IntKind.i64 c] }),D.val (Value.int IntKind.i64 k)]))=some (Value.tuple #[Value.int IntKind.i64 (lnV m d t s c k),Value.int IntKind.i64 (lnE m d t s c k)],[])]) (by kernel_rfl) ⟨hq5,hq4,(ycD_at (m) (d) (t) (s) (c) (x) (y) (k) (by first | rfl | assumption | omega | (simp; done) | (simp_all; done) | (simp_all; omega)) (by first | rfl | assumption | omega | (simp; done) | (simp_all; done) | (simp_all; omega))),(xcD_at (m) (d) (t) (s) (c) (x) (y) (k)),hq3,hq2,hq1,hq0,(ynD_at (m) (d) (t) (s) (c) (x) (k) (by first | rfl | assumption | omega | (simp; done) | (simp_all; done) | (simp_all; omega)) (by first | rfl | assumption | omega | (simp; done) | (simp_all; done) | (simp_all; omega))),(xnD_at (m) (d) (t) (s) (c) (x) (k)),(ylD_at (m) (d) (t) (s) (c) (k) (by first | rfl | assumption | omega | (simp; done) | (simp_all; done) | (simp_all; omega)) (by first | rfl | assumption | omega | (simp; done) | (simp_all; done) | (simp_all; omega))),(xlD_at (m) (d) (t) (s) (c) (k)),trivial⟩ (by kernel_rfl)) (by first | rfl | (simp; done) | (simp_all; done)) (by first | rfl | (simp [rowA_nil]; done) | (simp only [rowA_eq]; rfl) | (simp_all [rowA_nil]; done))
set_option maxHeartbeats 8000000 in
theorem lawPts (m d t s c x y k:Int)(hs:s≤9223372036854775807)(hcc:c≤9223372036854775807):KnownR Try.prog [] 5 [.val (.agg #[.int .i64 m,.int .i64 d,.int .i64 t,.int .i64 s,.int .i64 c]),.val (.agg #[.int .i64 x,.int .i64 y,.int .i64 k])] (.bool (true)) []:=by
 have hq0:(lnV m d t s c k != lnV m d t s c k)=false:=by
  rcases Bool.eq_false_or_eq_true (lnV m d t s c k != lnV m d t s c k) with h | h
  ·exfalso; (first | (simp_all only [Bool.and_eq_true,Bool.not_eq_true',Bool.false_eq_true,Bool.true_eq_false,reduceCtorEq]; done) | (simp only [sx,sy,eq_self,ne_eq,IntKind.wrap_i64,wrapU64,Int.reduceLT] at * <;> first | with_reducible contradiction | omega) | omega | ((try simp only [sx,sy,eq_self,ne_eq,IntKind.wrap_i64,wrapU64,Int.reduceLT] at *) <;> omega) | (simp_all; done))
  ·exact h
 have hq1:(lnE m d t s c k != lnE m d t s c k)=false:=by
  rcases Bool.eq_false_or_eq_true (lnE m d t s c k != lnE m d t s c k) with h | h
  ·exfalso; (first | (simp_all only [Bool.and_eq_true,Bool.not_eq_true',Bool.false_eq_true,Bool.true_eq_false,reduceCtorEq]; done) | (simp only [sx,sy,eq_self,ne_eq,IntKind.wrap_i64,wrapU64,Int.reduceLT] at * <;> first | with_reducible contradiction | omega) | omega | ((try simp only [sx,sy,eq_self,ne_eq,IntKind.wrap_i64,wrapU64,Int.reduceLT] at *) <;> omega) | (simp_all; done))
  ·exact h
 have hq2:(ntV m d t s c x k != ntV m d t s c x k)=false:=by
  rcases Bool.eq_false_or_eq_true (ntV m d t s c x k != ntV m d t s c x k) with h | h
  ·exfalso; (first | (simp_all only [Bool.and_eq_true,Bool.not_eq_true',Bool.false_eq_true,Bool.true_eq_false,reduceCtorEq]; done) | (simp only [sx,sy,eq_self,ne_eq,IntKind.wrap_i64,wrapU64,Int.reduceLT] at * <;> first | with_reducible contradiction | omega) | omega | ((try simp only [sx,sy,eq_self,ne_eq,IntKind.wrap_i64,wrapU64,Int.reduceLT] at *) <;> omega) | (simp_all; done))
  ·exact h
 have hq3:(ntE m d t s c x k != ntE m d t s c x k)=false:=by
  rcases Bool.eq_false_or_eq_true (ntE m d t s c x k != ntE m d t s c x k) with h | h
  ·exfalso; (first | (simp_all only [Bool.and_eq_true,Bool.not_eq_true',Bool.false_eq_true,Bool.true_eq_false,reduceCtorEq]; done) | (simp only [sx,sy,eq_self,ne_eq,IntKind.wrap_i64,wrapU64,Int.reduceLT] at * <;> first | with_reducible contradiction | omega) | omega | ((try simp only [sx,sy,eq_self,ne_eq,IntKind.wrap_i64,wrapU64,Int.reduceLT] at *) <;> omega) | (simp_all; done))
  ·exact h
 have hq4:(ctV m d t s c x y k==ctV m d t s c x y k)=true:=by
  rcases Bool.eq_false_or_eq_true (ctV m d t s c x y k==ctV m d t s c x y k) with h | h
  ·exact h
  ·exfalso; (first | (simp_all only [Bool.and_eq_true,Bool.not_eq_true',Bool.false_eq_true,Bool.true_eq_false,reduceCtorEq]; done) | (simp only [sx,sy,eq_self,ne_eq,IntKind.wrap_i64,wrapU64,Int.reduceLT] at * <;> first | with_reducible contradiction | omega) | omega | ((try simp only [sx,sy,eq_self,ne_eq,IntKind.wrap_i64,wrapU64,Int.reduceLT] at *) <;> omega) | (simp_all; done))
 have hq5:(ctE m d t s c x y k==ctE m d t s c x y k)=true:=by
  rcases Bool.eq_false_or_eq_true (ctE m d t s c x y k==ctE m d t s c x y k) with h | h
  ·exact h
  ·exfalso; (first | (simp_all only [Bool.and_eq_true,Bool.not_eq_true',Bool.false_eq_true,Bool.true_eq_false,reduceCtorEq]; done) | (simp only [sx,sy,eq_self,ne_eq,IntKind.wrap_i64,wrapU64,Int.reduceLT] at * <;> first | with_reducible contradiction | omega) | omega | ((try simp only [sx,sy,eq_self,ne_eq,IntKind.wrap_i64,wrapU64,Int.reduceLT] at *) <;> omega) | (simp_all; done))
 exact lawPts_p0 m d t s c x y k hs hcc hq0 hq1 hq2 hq3 hq4 hq5
theorem phaseParts_true (m d t s c x y k:Int)(w:World)(_:In64 m)(_:In64 d)(_:In64 t)(h3:In64 s)(h4:In64 c)(_:In64 x)(_:In64 y)(_:In64 k):
  Calls Try.prog 5 #[.agg #[.int .i64 m,.int .i64 d,.int .i64 t,.int .i64 s,.int .i64 c],.agg #[.int .i64 x,.int .i64 y,.int .i64 k]] w fun e w'=>e = .returned (.bool true)∧Below w.heap.size w w' :=
 knownR_law (lawPts m d t s c x y k h3.2 h4.2) (LaidL.nil w) (.cons (.val rfl) (.cons (.val rfl) .nil))
end Go.Proofs.Ytaogbagopdlkmaa
