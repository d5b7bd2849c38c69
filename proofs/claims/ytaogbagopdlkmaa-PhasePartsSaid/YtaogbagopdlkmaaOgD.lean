import Derived.Test.YtaogbagopdlkmaaPB
import Derived.ProofKit
import Derived.IntWalk
set_option linter.unnecessarySimpa false
set_option linter.unusedSimpArgs false
set_option linter.unusedVariables false
namespace Go.Proofs.Ytaogbagopdlkmaa
open Go Go.RowKit
set_option maxHeartbeats 8000000
set_option maxRecDepth 100000
attribute [local irreducible] ckX trN slN
theorem pkD (m d t s c:Int): KnownR Try.prog [] 14 [.val (.agg #[.int .i64 m,.int .i64 d,.int .i64 t,.int .i64 s,.int .i64 c])] (.int .i64 (ckX m d t s c)) ([]):=pcheck_is m d t s c
noncomputable def pkD_A (p:Int × Int × Int × Int × Int × Unit):List D:=match p with
 | (m,d,t,s,c,_)=>[.val (.agg #[.int .i64 m,.int .i64 d,.int .i64 t,.int .i64 s,.int .i64 c])]
noncomputable def pkD_C (p:Int × Int × Int × Int × Int × Unit):Prop:=match p with
 | (m,d,t,s,c,_)=>True
noncomputable def pkD_R (p:Int × Int × Int × Int × Int × Unit):Value × Outs:=match p with
 | (m,d,t,s,c,_)=>(.int .i64 (ckX m d t s c),[])
theorem pkD_inj:∀ p q,pkD_C p→pkD_C q→pkD_A p=pkD_A q→pkD_R p=pkD_R q:=by
 rintro ⟨m,d,t,s,c,_⟩ ⟨m',d',t',s',c',_⟩ _ _ e
 simp only [pkD_A,List.cons.injEq,D.list.injEq,D.val.injEq,D.agg.injEq,Value.int.injEq,Value.bool.injEq,Value.string.injEq,Value.agg.injEq,Array.mk.injEq,and_true,true_and,gI_inj,gB_inj,gQ_inj] at e
 simp_all
noncomputable def pkD_k:List D→Option (Value × Outs):=fnP pkD_A pkD_C pkD_R
theorem pkD_n (m d t s c:Int): KnownR Try.prog [] 14 [.val (.agg #[.int .i64 m,.int .i64 d,.int .i64 t,.int .i64 s,.int .i64 c])] (.int .i64 (ckX m d t s c)) ([]):=by
 skip
 exact pkD _ _ _ _ _ 
theorem pkD_ok:∀ ds v bs,pkD_k ds=some (v,bs)→KnownR Try.prog [] 14 ds v bs:=fnP_ok (by
 rintro ⟨m,d,t,s,c,_⟩ _
 exact pkD_n _ _ _ _ _  )
theorem pkD_at (m d t s c:Int): pkD_k [.val (.agg #[.int .i64 m,.int .i64 d,.int .i64 t,.int .i64 s,.int .i64 c])]=some (.int .i64 (ckX m d t s c),[]):=fnP_at (p:=(m,d,t,s,c,())) pkD_inj trivial rfl rfl
noncomputable def tabC2:GTab:=(GTab.fnD 14 pkD_k (GTab.fnD 37 ptD_k GTab.none))
theorem tabC2_ok:GOk Try.prog [] tabC2:=(GOk.fnD pkD_ok (GOk.fnD ptD_ok GOk.none))
noncomputable def ofD_f (m d t s c x:Int):Nat→List (Int×Int×Int×Int)→Int→Int→Option (Nat × (List (Int×Int×Int×Int) × Int × Int))
 | 0,_,_,_=>none
 | fu+1,y0,y1,y2=>(bif (decide (0≤y1∧y1≤trN m t s∧(y0.length:Int)=1+2*y1)&&decide ((y0.length+1)*32<1000000000)&&decide ((y0.length+1+1)*32<1000000000)) then (bif (decide (y1<trN m t s)) then ofD_f m d t s c x fu (((3:Int),y1,IntKind.i64.wrap (y2+m),d)::((2:Int),y1,y2,m)::y0) (IntKind.i64.wrap (y1+(1:Int))) (IntKind.i64.wrap (IntKind.i64.wrap (y2+m)+d)) else some (0,((y0),(y1),(y2)))) else none)
end Go.Proofs.Ytaogbagopdlkmaa
