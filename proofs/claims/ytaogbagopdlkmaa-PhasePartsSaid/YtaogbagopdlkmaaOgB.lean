import Derived.Test.YtaogbagopdlkmaaPA
import Derived.ProofKit
import Derived.IntWalk
set_option linter.unnecessarySimpa false
set_option linter.unusedSimpArgs false
set_option linter.unusedVariables false
namespace Go.Proofs.Ytaogbagopdlkmaa
open Go Go.RowKit
set_option maxHeartbeats 8000000
set_option maxRecDepth 100000
theorem ptD (m d t s c:Int)(hm:1≤m∧m≤200000)(ht:2≤t∧t≤400000):KnownR Try.prog [] 37 [.val (.agg #[.int .i64 m,.int .i64 d,.int .i64 t,.int .i64 s,.int .i64 c])] (.int .i64 (trN m t s)) ([]):=ptr_is m d t s c hm ht
noncomputable def ptD_A (p:Int × Int × Int × Int × Int × Unit):List D:=match p with
 | (m,d,t,s,c,_)=>[.val (.agg #[.int .i64 m,.int .i64 d,.int .i64 t,.int .i64 s,.int .i64 c])]
noncomputable def ptD_C (p:Int × Int × Int × Int × Int × Unit):Prop:=match p with
 | (m,d,t,s,c,_)=>(1≤m∧m≤200000)∧(2≤t∧t≤400000)∧True
noncomputable def ptD_R (p:Int × Int × Int × Int × Int × Unit):Value × Outs:=match p with
 | (m,d,t,s,c,_)=>(.int .i64 (trN m t s),[])
theorem ptD_inj:∀ p q,ptD_C p→ptD_C q→ptD_A p=ptD_A q→ptD_R p=ptD_R q:=by
 rintro ⟨m,d,t,s,c,_⟩ ⟨m',d',t',s',c',_⟩ _ _ e
 simp only [ptD_A,List.cons.injEq,D.list.injEq,D.val.injEq,D.agg.injEq,Value.int.injEq,Value.bool.injEq,Value.string.injEq,Value.agg.injEq,Array.mk.injEq,and_true,true_and,gI_inj,gB_inj,gI_inj] at e
 simp_all
noncomputable def ptD_k:List D→Option (Value × Outs):=fnP ptD_A ptD_C ptD_R
theorem ptD_n (m d t s c:Int)(hm:1≤m∧m≤200000)(ht:2≤t∧t≤400000):KnownR Try.prog [] 37 [.val (.agg #[.int .i64 m,.int .i64 d,.int .i64 t,.int .i64 s,.int .i64 c])] (.int .i64 (trN m t s)) ([]):=by
 skip
 exact ptD _ _ _ _ _ hm ht
theorem ptD_ok:∀ ds v bs,ptD_k ds=some (v,bs)→KnownR Try.prog [] 37 ds v bs:=fnP_ok (by
 rintro ⟨m,d,t,s,c,_⟩ ⟨hm,ht,_⟩
 exact ptD_n _ _ _ _ _  hm ht)
theorem ptD_at (m d t s c:Int)(hm:1≤m∧m≤200000)(ht:2≤t∧t≤400000):ptD_k [.val (.agg #[.int .i64 m,.int .i64 d,.int .i64 t,.int .i64 s,.int .i64 c])]=some (.int .i64 (trN m t s),[]):=fnP_at (p:=(m,d,t,s,c,())) ptD_inj ⟨hm,ht,trivial⟩ rfl rfl
theorem psD (m d t s c:Int)(hs:1≤s∧s≤10000000):KnownR Try.prog [] 39 [.val (.agg #[.int .i64 m,.int .i64 d,.int .i64 t,.int .i64 s,.int .i64 c])] (.int .i64 (slN s c)) ([]):=psl_is m d t s c hs
noncomputable def psD_A (p:Int × Int × Int × Int × Int × Unit):List D:=match p with
 | (m,d,t,s,c,_)=>[.val (.agg #[.int .i64 m,.int .i64 d,.int .i64 t,.int .i64 s,.int .i64 c])]
noncomputable def psD_C (p:Int × Int × Int × Int × Int × Unit):Prop:=match p with
 | (m,d,t,s,c,_)=>(1≤s∧s≤10000000)∧True
noncomputable def psD_R (p:Int × Int × Int × Int × Int × Unit):Value × Outs:=match p with
 | (m,d,t,s,c,_)=>(.int .i64 (slN s c),[])
theorem psD_inj:∀ p q,psD_C p→psD_C q→psD_A p=psD_A q→psD_R p=psD_R q:=by
 rintro ⟨m,d,t,s,c,_⟩ ⟨m',d',t',s',c',_⟩ _ _ e
 simp only [psD_A,List.cons.injEq,D.list.injEq,D.val.injEq,D.agg.injEq,Value.int.injEq,Value.bool.injEq,Value.string.injEq,Value.agg.injEq,Array.mk.injEq,and_true,true_and,gI_inj,gB_inj,gI_inj] at e
 simp_all
noncomputable def psD_k:List D→Option (Value × Outs):=fnP psD_A psD_C psD_R
theorem psD_n (m d t s c:Int)(hs:1≤s∧s≤10000000):KnownR Try.prog [] 39 [.val (.agg #[.int .i64 m,.int .i64 d,.int .i64 t,.int .i64 s,.int .i64 c])] (.int .i64 (slN s c)) ([]):=by
 skip
 exact psD _ _ _ _ _ hs
theorem psD_ok:∀ ds v bs,psD_k ds=some (v,bs)→KnownR Try.prog [] 39 ds v bs:=fnP_ok (by
 rintro ⟨m,d,t,s,c,_⟩ ⟨hs,_⟩
 exact psD_n _ _ _ _ _  hs)
theorem psD_at (m d t s c:Int)(hs:1≤s∧s≤10000000):psD_k [.val (.agg #[.int .i64 m,.int .i64 d,.int .i64 t,.int .i64 s,.int .i64 c])]=some (.int .i64 (slN s c),[]):=fnP_at (p:=(m,d,t,s,c,())) psD_inj ⟨hs,trivial⟩ rfl rfl
noncomputable def tabC1:GTab:=(GTab.fnD 37 ptD_k (GTab.fnD 39 psD_k GTab.none))
theorem tabC1_ok:GOk Try.prog [] tabC1:=(GOk.fnD ptD_ok (GOk.fnD psD_ok GOk.none))
noncomputable def pkE_c0 (m d t s c:Int):Int:=(bif (decide (m<(1:Int))) then ((2:Int)) else (bif (decide (m>(200000:Int))) then ((2:Int)) else (bif (decide (d<(1:Int))) then ((2:Int)) else (bif (decide (d>(200000:Int))) then ((2:Int)) else ((3:Int))))))
theorem pkE_p0 (m d t s c:Int)(hE:¬ (1≤m∧m≤200000∧1≤d∧d≤200000∧t=IntKind.i64.wrap (m+d)))(hq0:(decide (m<(1:Int)))=true):KnownR Try.prog [] 14 [.val (.agg #[.int .i64 m,.int .i64 d,.int .i64 t,.int .i64 s,.int .i64 c])] (.int .i64 ((2:Int))) [] :=
 knownR_eq (v:=Value.int IntKind.i64 (2:Int)) (bs:=[]) (open_resD mix tabC1_ok (T:=tabC1) (fuel:=3000) (es:=[]) (ans:=[(0,.b 1)]) (log:=[(decide (m<(1:Int)))=true]) (by kernel_rfl) ⟨hq0,trivial⟩ (by kernel_rfl)) (by first | rfl | (simp; done) | (simp_all; done)) (by first | rfl | (simp [rowA_nil]; done) | (simp only [rowA_eq]; rfl) | (simp_all [rowA_nil]; done))
theorem pkE_p1 (m d t s c:Int)(hE:¬ (1≤m∧m≤200000∧1≤d∧d≤200000∧t=IntKind.i64.wrap (m+d)))(hq0:(decide (m<(1:Int)))=false)(hq1:(decide (m>(200000:Int)))=true):KnownR Try.prog [] 14 [.val (.agg #[.int .i64 m,.int .i64 d,.int .i64 t,.int .i64 s,.int .i64 c])] (.int .i64 ((2:Int))) [] :=
 knownR_eq (v:=Value.int IntKind.i64 (2:Int)) (bs:=[]) (open_resD mix tabC1_ok (T:=tabC1) (fuel:=3000) (es:=[]) (ans:=[(0,.b 0),(4,.b 1)]) (log:=[(decide (m>(200000:Int)))=true,(decide (m<(1:Int)))=false]) (by kernel_rfl) ⟨hq1,hq0,trivial⟩ (by kernel_rfl)) (by first | rfl | (simp; done) | (simp_all; done)) (by first | rfl | (simp [rowA_nil]; done) | (simp only [rowA_eq]; rfl) | (simp_all [rowA_nil]; done))
theorem pkE_p2 (m d t s c:Int)(hE:¬ (1≤m∧m≤200000∧1≤d∧d≤200000∧t=IntKind.i64.wrap (m+d)))(hq0:(decide (m<(1:Int)))=false)(hq1:(decide (m>(200000:Int)))=false)(hq2:(decide (d<(1:Int)))=true):KnownR Try.prog [] 14 [.val (.agg #[.int .i64 m,.int .i64 d,.int .i64 t,.int .i64 s,.int .i64 c])] (.int .i64 ((2:Int))) [] :=
 knownR_eq (v:=Value.int IntKind.i64 (2:Int)) (bs:=[]) (open_resD mix tabC1_ok (T:=tabC1) (fuel:=3000) (es:=[]) (ans:=[(0,.b 0),(4,.b 0),(8,.b 1)]) (log:=[(decide (d<(1:Int)))=true,(decide (m>(200000:Int)))=false,(decide (m<(1:Int)))=false]) (by kernel_rfl) ⟨hq2,hq1,hq0,trivial⟩ (by kernel_rfl)) (by first | rfl | (simp; done) | (simp_all; done)) (by first | rfl | (simp [rowA_nil]; done) | (simp only [rowA_eq]; rfl) | (simp_all [rowA_nil]; done))
theorem pkE_p3 (m d t s c:Int)(hE:¬ (1≤m∧m≤200000∧1≤d∧d≤200000∧t=IntKind.i64.wrap (m+d)))(hq0:(decide (m<(1:Int)))=false)(hq1:(decide (m>(200000:Int)))=false)(hq2:(decide (d<(1:Int)))=false)(hq3:(decide (d>(200000:Int)))=true):KnownR Try.prog [] 14 [.val (.agg #[.int .i64 m,.int .i64 d,.int .i64 t,.int .i64 s,.int .i64 c])] (.int .i64 ((2:Int))) [] :=
 knownR_eq (v:=Value.int IntKind.i64 (2:Int)) (bs:=[]) (open_resD mix tabC1_ok (T:=tabC1) (fuel:=3000) (es:=[]) (ans:=[(0,.b 0),(4,.b 0),(8,.b 0),(12,.b 1)]) (log:=[(decide (d>(200000:Int)))=true,(decide (d<(1:Int)))=false,(decide (m>(200000:Int)))=false,(decide (m<(1:Int)))=false]) (by kernel_rfl) ⟨hq3,hq2,hq1,hq0,trivial⟩ (by kernel_rfl)) (by first | rfl | (simp; done) | (simp_all; done)) (by first | rfl | (simp [rowA_nil]; done) | (simp only [rowA_eq]; rfl) | (simp_all [rowA_nil]; done))
theorem pkE_p4 (m d t s c:Int)(hE:¬ (1≤m∧m≤200000∧1≤d∧d≤200000∧t=IntKind.i64.wrap (m+d)))(hq0:(decide (m<(1:Int)))=false)(hq1:(decide (m>(200000:Int)))=false)(hq2:(decide (d<(1:Int)))=false)(hq3:(decide (d>(200000:Int)))=false)(hq4:(t != IntKind.i64.wrap (m+d))=true):KnownR Try.prog [] 14 [.val (.agg #[.int .i64 m,.int .i64 d,.int .i64 t,.int .i64 s,.int .i64 c])] (.int .i64 ((3:Int))) [] :=
 knownR_eq (v:=Value.int IntKind.i64 (3:Int)) (bs:=[]) (open_resD mix tabC1_ok (T:=tabC1) (fuel:=3000) (es:=[]) (ans:=[(0,.b 0),(4,.b 0),(8,.b 0),(12,.b 0),(13,.b 1)]) (log:=[(t != IntKind.i64.wrap (m+d))=true,(decide (d>(200000:Int)))=false,(decide (d<(1:Int)))=false,(decide (m>(200000:Int)))=false,(decide (m<(1:Int)))=false]) (by kernel_rfl) ⟨hq4,hq3,hq2,hq1,hq0,trivial⟩ (by kernel_rfl)) (by first | rfl | (simp; done) | (simp_all; done)) (by first | rfl | (simp [rowA_nil]; done) | (simp only [rowA_eq]; rfl) | (simp_all [rowA_nil]; done))
set_option maxHeartbeats 8000000 in
theorem pkE (m d t s c:Int)(hE:¬ (1≤m∧m≤200000∧1≤d∧d≤200000∧t=IntKind.i64.wrap (m+d))):KnownR Try.prog [] 14 [.val (.agg #[.int .i64 m,.int .i64 d,.int .i64 t,.int .i64 s,.int .i64 c])] (.int .i64 (pkE_c0 m d t s c)) []:=by
 rcases Bool.eq_false_or_eq_true (decide (m<(1:Int))) with hq0 | hq0
 ·
  have e0:pkE_c0 m d t s c=((2:Int)):=((bif_t hq0 _ _).trans rfl); rw [e0]; exact pkE_p0 m d t s c hE hq0
 ·
  rcases Bool.eq_false_or_eq_true (decide (m>(200000:Int))) with hq1 | hq1
  ·
   have e0:pkE_c0 m d t s c=((2:Int)):=((bif_f hq0 _ _).trans ((bif_t hq1 _ _).trans rfl)); rw [e0]; exact pkE_p1 m d t s c hE hq0 hq1
  ·
   rcases Bool.eq_false_or_eq_true (decide (d<(1:Int))) with hq2 | hq2
   ·
    have e0:pkE_c0 m d t s c=((2:Int)):=((bif_f hq0 _ _).trans ((bif_f hq1 _ _).trans ((bif_t hq2 _ _).trans rfl))); rw [e0]; exact pkE_p2 m d t s c hE hq0 hq1 hq2
   ·
    rcases Bool.eq_false_or_eq_true (decide (d>(200000:Int))) with hq3 | hq3
    ·
     have e0:pkE_c0 m d t s c=((2:Int)):=((bif_f hq0 _ _).trans ((bif_f hq1 _ _).trans ((bif_f hq2 _ _).trans ((bif_t hq3 _ _).trans rfl)))); rw [e0]; exact pkE_p3 m d t s c hE hq0 hq1 hq2 hq3
    ·
     have hq4:(t != IntKind.i64.wrap (m+d))=true:=by
      rcases Bool.eq_false_or_eq_true (t != IntKind.i64.wrap (m+d)) with h | h
      ·exact h
      ·exfalso; (first | (simp_all only [Bool.and_eq_true,Bool.not_eq_true',Bool.false_eq_true,Bool.true_eq_false,reduceCtorEq]; done) | (simp only [sx,sy,eq_self,ne_eq,IntKind.wrap_i64,wrapU64,Int.reduceLT] at * <;> first | with_reducible contradiction | omega) | omega | ((try simp only [sx,sy,eq_self,ne_eq,IntKind.wrap_i64,wrapU64,Int.reduceLT] at *) <;> omega) | (simp_all; done))
     have e0:pkE_c0 m d t s c=((3:Int)):=((bif_f hq0 _ _).trans ((bif_f hq1 _ _).trans ((bif_f hq2 _ _).trans ((bif_f hq3 _ _).trans rfl)))); rw [e0]; exact pkE_p4 m d t s c hE hq0 hq1 hq2 hq3 hq4
theorem pkF_p0 (m d t s c:Int)(hm:1≤m∧m≤200000)(hd:1≤d∧d≤200000)(hw:t=IntKind.i64.wrap (m+d))(ht:2≤t∧t≤400000)(hn:trN m t s=0)(hq0:(decide (m<(1:Int)))=false)(hq1:(decide (m>(200000:Int)))=false)(hq2:(decide (d<(1:Int)))=false)(hq3:(decide (d>(200000:Int)))=false)(hq4:(t != IntKind.i64.wrap (m+d))=false)(hq5:(trN m t s==(0:Int))=true):KnownR Try.prog [] 14 [.val (.agg #[.int .i64 m,.int .i64 d,.int .i64 t,.int .i64 s,.int .i64 c])] (.int .i64 ((3:Int))) [] :=
 knownR_eq (v:=Value.int IntKind.i64 (3:Int)) (bs:=[]) (open_resD mix tabC1_ok (T:=tabC1) (fuel:=3000) (es:=[]) (ans:=[(0,.b 0),(4,.b 0),(8,.b 0),(12,.b 0),(13,.b 0),(15,.outs (Value.int IntKind.i64 (trN m t s)) ([])),(18,.b 1)]) (log:=[(trN m t s==(0:Int))=true,(GTab.lookD (tabC1) ((37:Nat)) ([D.val (Value.agg { toList:=[Value.int IntKind.i64 m,Value.int IntKind.i64 d,Value.int IntKind.i64 t,Value.int IntKind.i64 s,Value.int IntKind.i64 c] })]))=some (Value.int IntKind.i64 (trN m t s),[]),(t != IntKind.i64.wrap (m+d))=false,(decide (d>(200000:Int)))=false,(decide (d<(1:Int)))=false,(decide (m>(200000:Int)))=false,(decide (m<(1:Int)))=false]) (by kernel_rfl) ⟨hq5,(ptD_at (m) (d) (t) (s) (c) (by first | rfl | assumption | omega | (simp; done) | (simp_all; done) | (simp_all; omega)) (by first | rfl | assumption | omega | (simp; done) | (simp_all; done) | (simp_all; omega))),hq4,hq3,hq2,hq1,hq0,trivial⟩ (by kernel_rfl)) (by first | rfl | (simp; done) | (simp_all; done)) (by first | rfl | (simp [rowA_nil]; done) | (simp only [rowA_eq]; rfl) | (simp_all [rowA_nil]; done))
set_option maxHeartbeats 8000000 in
theorem pkF (m d t s c:Int)(hm:1≤m∧m≤200000)(hd:1≤d∧d≤200000)(hw:t=IntKind.i64.wrap (m+d))(ht:2≤t∧t≤400000)(hn:trN m t s=0):KnownR Try.prog [] 14 [.val (.agg #[.int .i64 m,.int .i64 d,.int .i64 t,.int .i64 s,.int .i64 c])] (.int .i64 ((3:Int))) []:=by
 have hq0:(decide (m<(1:Int)))=false:=by
  rcases Bool.eq_false_or_eq_true (decide (m<(1:Int))) with h | h
  ·exfalso; (first | (simp_all only [Bool.and_eq_true,Bool.not_eq_true',Bool.false_eq_true,Bool.true_eq_false,reduceCtorEq]; done) | (simp only [sx,sy,eq_self,ne_eq,IntKind.wrap_i64,wrapU64,Int.reduceLT] at * <;> first | with_reducible contradiction | omega) | omega | ((try simp only [sx,sy,eq_self,ne_eq,IntKind.wrap_i64,wrapU64,Int.reduceLT] at *) <;> omega) | (simp_all; done))
  ·exact h
 have hq1:(decide (m>(200000:Int)))=false:=by
  rcases Bool.eq_false_or_eq_true (decide (m>(200000:Int))) with h | h
  ·exfalso; (first | (simp_all only [Bool.and_eq_true,Bool.not_eq_true',Bool.false_eq_true,Bool.true_eq_false,reduceCtorEq]; done) | (simp only [sx,sy,eq_self,ne_eq,IntKind.wrap_i64,wrapU64,Int.reduceLT] at * <;> first | with_reducible contradiction | omega) | omega | ((try simp only [sx,sy,eq_self,ne_eq,IntKind.wrap_i64,wrapU64,Int.reduceLT] at *) <;> omega) | (simp_all; done))
  ·exact h
 have hq2:(decide (d<(1:Int)))=false:=by
  rcases Bool.eq_false_or_eq_true (decide (d<(1:Int))) with h | h
  ·exfalso; (first | (simp_all only [Bool.and_eq_true,Bool.not_eq_true',Bool.false_eq_true,Bool.true_eq_false,reduceCtorEq]; done) | (simp only [sx,sy,eq_self,ne_eq,IntKind.wrap_i64,wrapU64,Int.reduceLT] at * <;> first | with_reducible contradiction | omega) | omega | ((try simp only [sx,sy,eq_self,ne_eq,IntKind.wrap_i64,wrapU64,Int.reduceLT] at *) <;> omega) | (simp_all; done))
  ·exact h
 have hq3:(decide (d>(200000:Int)))=false:=by
  rcases Bool.eq_false_or_eq_true (decide (d>(200000:Int))) with h | h
  ·exfalso; (first | (simp_all only [Bool.and_eq_true,Bool.not_eq_true',Bool.false_eq_true,Bool.true_eq_false,reduceCtorEq]; done) | (simp only [sx,sy,eq_self,ne_eq,IntKind.wrap_i64,wrapU64,Int.reduceLT] at * <;> first | with_reducible contradiction | omega) | omega | ((try simp only [sx,sy,eq_self,ne_eq,IntKind.wrap_i64,wrapU64,Int.reduceLT] at *) <;> omega) | (simp_all; done))
  ·exact h
 have hq4:(t != IntKind.i64.wrap (m+d))=false:=by
  rcases Bool.eq_false_or_eq_true (t != IntKind.i64.wrap (m+d)) with h | h
  ·exfalso; (first | (simp_all only [Bool.and_eq_true,Bool.not_eq_true',Bool.false_eq_true,Bool.true_eq_false,reduceCtorEq]; done) | (simp only [sx,sy,eq_self,ne_eq,IntKind.wrap_i64,wrapU64,Int.reduceLT] at * <;> first | with_reducible contradiction | omega) | omega | ((try simp only [sx,sy,eq_self,ne_eq,IntKind.wrap_i64,wrapU64,Int.reduceLT] at *) <;> omega) | (simp_all; done))
  ·exact h
 have hq5:(trN m t s==(0:Int))=true:=by
  rcases Bool.eq_false_or_eq_true (trN m t s==(0:Int)) with h | h
  ·exact h
  ·exfalso; (first | (simp_all only [Bool.and_eq_true,Bool.not_eq_true',Bool.false_eq_true,Bool.true_eq_false,reduceCtorEq]; done) | (simp only [sx,sy,eq_self,ne_eq,IntKind.wrap_i64,wrapU64,Int.reduceLT] at * <;> first | with_reducible contradiction | omega) | omega | ((try simp only [sx,sy,eq_self,ne_eq,IntKind.wrap_i64,wrapU64,Int.reduceLT] at *) <;> omega) | (simp_all; done))
 exact pkF_p0 m d t s c hm hd hw ht hn hq0 hq1 hq2 hq3 hq4 hq5
noncomputable def pkT_c0 (m d t s c:Int):Int:=(bif (slN s c==(0:Int)) then ((3:Int)) else ((0:Int)))
theorem pkT_p0 (m d t s c:Int)(hm:1≤m∧m≤200000)(hd:1≤d∧d≤200000)(hw:t=IntKind.i64.wrap (m+d))(ht:2≤t∧t≤400000)(hn:¬ trN m t s=0)(hs:1≤s∧s≤10000000)(hq0:(decide (m<(1:Int)))=false)(hq1:(decide (m>(200000:Int)))=false)(hq2:(decide (d<(1:Int)))=false)(hq3:(decide (d>(200000:Int)))=false)(hq4:(t != IntKind.i64.wrap (m+d))=false)(hq5:(trN m t s==(0:Int))=false)(hq6:(slN s c==(0:Int))=true):KnownR Try.prog [] 14 [.val (.agg #[.int .i64 m,.int .i64 d,.int .i64 t,.int .i64 s,.int .i64 c])] (.int .i64 ((3:Int))) [] :=
 knownR_eq (v:=Value.int IntKind.i64 (3:Int)) (bs:=[]) (open_resD mix tabC1_ok (T:=tabC1) (fuel:=3000) (es:=[]) (ans:=[(0,.b 0),(4,.b 0),(8,.b 0),(12,.b 0),(13,.b 0),(15,.outs (Value.int IntKind.i64 (trN m t s)) ([])),(18,.b 0),(20,.outs (Value.int IntKind.i64 (slN s c)) ([])),(23,.b 1)]) (log:=[(slN s c==(0:Int))=true,(GTab.lookD (tabC1) ((39:Nat)) ([D.val (Value.agg { toList:=[Value.int IntKind.i64 m,Value.int IntKind.i64 d,Value.int IntKind.i64 t,Value.int IntKind.i64 s,Value.int IntKind.i64 c] })]))=some (Value.int IntKind.i64 (slN s c),[]),(trN m t s==(0:Int))=false,(GTab.lookD (tabC1) ((37:Nat)) ([D.val (Value.agg { toList:=[Value.int IntKind.i64 m,Value.int IntKind.i64 d,Value.int IntKind.i64 t,Value.int IntKind.i64 s,Value.int IntKind.i64 c] })]))=some (Value.int IntKind.i64 (trN m t s),[]),(t != IntKind.i64.wrap (m+d))=false,(decide (d>(200000:Int)))=false,(decide (d<(1:Int)))=false,(decide (m>(200000:Int)))=false,(decide (m<(1:Int)))=false]) (by kernel_rfl) ⟨hq6,(psD_at (m) (d) (t) (s) (c) (by first | rfl | assumption | omega | (simp; done) | (simp_all; done) | (simp_all; omega))),hq5,(ptD_at (m) (d) (t) (s) (c) (by first | rfl | assumption | omega | (simp; done) | (simp_all; done) | (simp_all; omega)) (by first | rfl | assumption | omega | (simp; done) | (simp_all; done) | (simp_all; omega))),hq4,hq3,hq2,hq1,hq0,trivial⟩ (by kernel_rfl)) (by first | rfl | (simp; done) | (simp_all; done)) (by first | rfl | (simp [rowA_nil]; done) | (simp only [rowA_eq]; rfl) | (simp_all [rowA_nil]; done))
theorem pkT_p1 (m d t s c:Int)(hm:1≤m∧m≤200000)(hd:1≤d∧d≤200000)(hw:t=IntKind.i64.wrap (m+d))(ht:2≤t∧t≤400000)(hn:¬ trN m t s=0)(hs:1≤s∧s≤10000000)(hq0:(decide (m<(1:Int)))=false)(hq1:(decide (m>(200000:Int)))=false)(hq2:(decide (d<(1:Int)))=false)(hq3:(decide (d>(200000:Int)))=false)(hq4:(t != IntKind.i64.wrap (m+d))=false)(hq5:(trN m t s==(0:Int))=false)(hq6:(slN s c==(0:Int))=false):KnownR Try.prog [] 14 [.val (.agg #[.int .i64 m,.int .i64 d,.int .i64 t,.int .i64 s,.int .i64 c])] (.int .i64 ((0:Int))) [] :=
 knownR_eq (v:=Value.int IntKind.i64 (0:Int)) (bs:=[]) (open_resD mix tabC1_ok (T:=tabC1) (fuel:=3000) (es:=[]) (ans:=[(0,.b 0),(4,.b 0),(8,.b 0),(12,.b 0),(13,.b 0),(15,.outs (Value.int IntKind.i64 (trN m t s)) ([])),(18,.b 0),(20,.outs (Value.int IntKind.i64 (slN s c)) ([])),(23,.b 0)]) (log:=[(slN s c==(0:Int))=false,(GTab.lookD (tabC1) ((39:Nat)) ([D.val (Value.agg { toList:=[Value.int IntKind.i64 m,Value.int IntKind.i64 d,Value.int IntKind.i64 t,Value.int IntKind.i64 s,Value.int IntKind.i64 c] })]))=some (Value.int IntKind.i64 (slN s c),[]),(trN m t s==(0:Int))=false,(GTab.lookD (tabC1) ((37:Nat)) ([D.val (Value.agg { toList:=[Value.int IntKind.i64 m,Value.int IntKind.i64 d,Value.int IntKind.i64 t,Value.int IntKind.i64 s,Value.int IntKind.i64 c] })]))=some (Value.int IntKind.i64 (trN m t s),[]),(t != IntKind.i64.wrap (m+d))=false,(decide (d>(200000:Int)))=false,(decide (d<(1:Int)))=false,(decide (m>(200000:Int)))=false,(decide (m<(1:Int)))=false]) (by kernel_rfl) ⟨hq6,(psD_at (m) (d) (t) (s) (c) (by first | rfl | assumption | omega | (simp; done) | (simp_all; done) | (simp_all; omega))),hq5,(ptD_at (m) (d) (t) (s) (c) (by first | rfl | assumption | omega | (simp; done) | (simp_all; done) | (simp_all; omega)) (by first | rfl | assumption | omega | (simp; done) | (simp_all; done) | (simp_all; omega))),hq4,hq3,hq2,hq1,hq0,trivial⟩ (by kernel_rfl)) (by first | rfl | (simp; done) | (simp_all; done)) (by first | rfl | (simp [rowA_nil]; done) | (simp only [rowA_eq]; rfl) | (simp_all [rowA_nil]; done))
set_option maxHeartbeats 8000000 in
theorem pkT (m d t s c:Int)(hm:1≤m∧m≤200000)(hd:1≤d∧d≤200000)(hw:t=IntKind.i64.wrap (m+d))(ht:2≤t∧t≤400000)(hn:¬ trN m t s=0)(hs:1≤s∧s≤10000000):KnownR Try.prog [] 14 [.val (.agg #[.int .i64 m,.int .i64 d,.int .i64 t,.int .i64 s,.int .i64 c])] (.int .i64 (pkT_c0 m d t s c)) []:=by
 have hq0:(decide (m<(1:Int)))=false:=by
  rcases Bool.eq_false_or_eq_true (decide (m<(1:Int))) with h | h
  ·exfalso; (first | (simp_all only [Bool.and_eq_true,Bool.not_eq_true',Bool.false_eq_true,Bool.true_eq_false,reduceCtorEq]; done) | (simp only [sx,sy,eq_self,ne_eq,IntKind.wrap_i64,wrapU64,Int.reduceLT] at * <;> first | with_reducible contradiction | omega) | omega | ((try simp only [sx,sy,eq_self,ne_eq,IntKind.wrap_i64,wrapU64,Int.reduceLT] at *) <;> omega) | (simp_all; done))
  ·exact h
 have hq1:(decide (m>(200000:Int)))=false:=by
  rcases Bool.eq_false_or_eq_true (decide (m>(200000:Int))) with h | h
  ·exfalso; (first | (simp_all only [Bool.and_eq_true,Bool.not_eq_true',Bool.false_eq_true,Bool.true_eq_false,reduceCtorEq]; done) | (simp only [sx,sy,eq_self,ne_eq,IntKind.wrap_i64,wrapU64,Int.reduceLT] at * <;> first | with_reducible contradiction | omega) | omega | ((try simp only [sx,sy,eq_self,ne_eq,IntKind.wrap_i64,wrapU64,Int.reduceLT] at *) <;> omega) | (simp_all; done))
  ·exact h
 have hq2:(decide (d<(1:Int)))=false:=by
  rcases Bool.eq_false_or_eq_true (decide (d<(1:Int))) with h | h
  ·exfalso; (first | (simp_all only [Bool.and_eq_true,Bool.not_eq_true',Bool.false_eq_true,Bool.true_eq_false,reduceCtorEq]; done) | (simp only [sx,sy,eq_self,ne_eq,IntKind.wrap_i64,wrapU64,Int.reduceLT] at * <;> first | with_reducible contradiction | omega) | omega | ((try simp only [sx,sy,eq_self,ne_eq,IntKind.wrap_i64,wrapU64,Int.reduceLT] at *) <;> omega) | (simp_all; done))
  ·exact h
 have hq3:(decide (d>(200000:Int)))=false:=by
  rcases Bool.eq_false_or_eq_true (decide (d>(200000:Int))) with h | h
  ·exfalso; (first | (simp_all only [Bool.and_eq_true,Bool.not_eq_true',Bool.false_eq_true,Bool.true_eq_false,reduceCtorEq]; done) | (simp only [sx,sy,eq_self,ne_eq,IntKind.wrap_i64,wrapU64,Int.reduceLT] at * <;> first | with_reducible contradiction | omega) | omega | ((try simp only [sx,sy,eq_self,ne_eq,IntKind.wrap_i64,wrapU64,Int.reduceLT] at *) <;> omega) | (simp_all; done))
  ·exact h
 have hq4:(t != IntKind.i64.wrap (m+d))=false:=by
  rcases Bool.eq_false_or_eq_true (t != IntKind.i64.wrap (m+d)) with h | h
  ·exfalso; (first | (simp_all only [Bool.and_eq_true,Bool.not_eq_true',Bool.false_eq_true,Bool.true_eq_false,reduceCtorEq]; done) | (simp only [sx,sy,eq_self,ne_eq,IntKind.wrap_i64,wrapU64,Int.reduceLT] at * <;> first | with_reducible contradiction | omega) | omega | ((try simp only [sx,sy,eq_self,ne_eq,IntKind.wrap_i64,wrapU64,Int.reduceLT] at *) <;> omega) | (simp_all; done))
  ·exact h
 have hq5:(trN m t s==(0:Int))=false:=by
  rcases Bool.eq_false_or_eq_true (trN m t s==(0:Int)) with h | h
  ·exfalso; (first | (simp_all only [Bool.and_eq_true,Bool.not_eq_true',Bool.false_eq_true,Bool.true_eq_false,reduceCtorEq]; done) | (simp only [sx,sy,eq_self,ne_eq,IntKind.wrap_i64,wrapU64,Int.reduceLT] at * <;> first | with_reducible contradiction | omega) | omega | ((try simp only [sx,sy,eq_self,ne_eq,IntKind.wrap_i64,wrapU64,Int.reduceLT] at *) <;> omega) | (simp_all; done))
  ·exact h
 rcases Bool.eq_false_or_eq_true (slN s c==(0:Int)) with hq6 | hq6
 ·
  have e0:pkT_c0 m d t s c=((3:Int)):=((bif_t hq6 _ _).trans rfl); rw [e0]; exact pkT_p0 m d t s c hm hd hw ht hn hs hq0 hq1 hq2 hq3 hq4 hq5 hq6
 ·
  have e0:pkT_c0 m d t s c=((0:Int)):=((bif_f hq6 _ _).trans rfl); rw [e0]; exact pkT_p1 m d t s c hm hd hw ht hn hs hq0 hq1 hq2 hq3 hq4 hq5 hq6
end Go.Proofs.Ytaogbagopdlkmaa
