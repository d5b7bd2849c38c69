import Derived.Test.YtfpabkpmcmfbhaaZB
import Derived.ProofKit
import Derived.IntWalk
set_option linter.unnecessarySimpa false
set_option linter.unusedSimpArgs false
set_option linter.unusedVariables false
namespace Go.Proofs.Ytfpabkpmcmfbhaa
open Go Go.RowKit
set_option maxHeartbeats 8000000
set_option maxRecDepth 100000
theorem pkD (m:Int)(ld:List Int)(es:List En): KnownR Try.prog [] 27 [.val (.int .i64 m),.list (rowA gI ld) ld.length,.list (rowA gE es) es.length] (.int .i64 (chX m ld es)) ([]):=pcheck_is m ld es
noncomputable def pkD_A (p:Int × List Int × List En × Nat × Nat × Unit):List D:=match p with
 | (m,ld,es,nn0,nn1,_)=>[.val (.int .i64 m),.list (rowA gI ld) nn0,.list (rowA gE es) nn1]
noncomputable def pkD_C (p:Int × List Int × List En × Nat × Nat × Unit):Prop:=match p with
 | (m,ld,es,nn0,nn1,_)=>(nn0=ld.length)∧(nn1=es.length)∧True
noncomputable def pkD_R (p:Int × List Int × List En × Nat × Nat × Unit):Value × Outs:=match p with
 | (m,ld,es,nn0,nn1,_)=>(.int .i64 (chX m ld es),[])
theorem pkD_inj:∀ p q,pkD_C p→pkD_C q→pkD_A p=pkD_A q→pkD_R p=pkD_R q:=by
 rintro ⟨m,ld,es,nn0,nn1,_⟩ ⟨m',ld',es',nn0',nn1',_⟩ _ _ e
 simp only [pkD_A,List.cons.injEq,D.list.injEq,D.val.injEq,D.agg.injEq,Value.int.injEq,Value.bool.injEq,Value.string.injEq,Value.agg.injEq,Array.mk.injEq,and_true,true_and,gI_inj,gB_inj,gE_inj] at e
 simp_all
noncomputable def pkD_k:List D→Option (Value × Outs):=fnP pkD_A pkD_C pkD_R
theorem pkD_n (m:Int)(ld:List Int)(es:List En)(nn0:Nat)(nn1:Nat)(hn0:nn0=ld.length)(hn1:nn1=es.length): KnownR Try.prog [] 27 [.val (.int .i64 m),.list (rowA gI ld) nn0,.list (rowA gE es) nn1] (.int .i64 (chX m ld es)) ([]):=by
 subst hn0; subst hn1; skip
 exact pkD _ _ _ 
theorem pkD_ok:∀ ds v bs,pkD_k ds=some (v,bs)→KnownR Try.prog [] 27 ds v bs:=fnP_ok (by
 rintro ⟨m,ld,es,nn0,nn1,_⟩ ⟨hn0,hn1,_⟩
 exact pkD_n _ _ _ _ _ hn0 hn1 )
theorem pkD_at (m:Int)(ld:List Int)(es:List En)(nn0:Nat)(nn1:Nat)(hn0:nn0=ld.length)(hn1:nn1=es.length): pkD_k [.val (.int .i64 m),.list (rowA gI ld) nn0,.list (rowA gE es) nn1]=some (.int .i64 (chX m ld es),[]):=fnP_at (p:=(m,ld,es,nn0,nn1,())) pkD_inj ⟨hn0,hn1,trivial⟩ rfl rfl
attribute [local irreducible] chX
noncomputable def tabP1:GTab:=(GTab.fnD 27 pkD_k GTab.none)
theorem tabP1_ok:GOk Try.prog [] tabP1:=(GOk.fnD pkD_ok GOk.none)
end Go.Proofs.Ytfpabkpmcmfbhaa
