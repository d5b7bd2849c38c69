import Derived.Test.YtokpimghaladjaaV23c
import Derived.ProofKit
import Derived.IntWalk
set_option linter.unnecessarySimpa false
set_option linter.unusedSimpArgs false
set_option linter.unusedVariables false
namespace Go.Proofs.Ytokpimghaladjaa
open Go Go.RowKit
set_option maxHeartbeats 8000000
set_option maxRecDepth 100000
noncomputable def moB (c:Int)(xs ys zs:List Int):Bool:=by classical exact decide (MoV c xs ys zs)
theorem moB_is {c:Int}{xs ys zs:List Int}:moB c xs ys zs=true ↔ MoV c xs ys zs:=by unfold moB; simp
theorem clD (xs:List Int)(hp:0<xs.length)(hx:xs.length≤20000):KnownR Try.prog [] 49 [.list (rowA gI xs) xs.length] (.complex .f64 0 xs.length) ([(rowA gI xs,3)]):=clP xs hp hx
noncomputable def clD_A (p:List Int × Nat × Unit):List D:=match p with
 | (xs,nn0,_)=>[.list (rowA gI xs) nn0]
noncomputable def clD_C (p:List Int × Nat × Unit):Prop:=match p with
 | (xs,nn0,_)=>(nn0=xs.length)∧(0<xs.length)∧(xs.length≤20000)∧True
noncomputable def clD_R (p:List Int × Nat × Unit):Value × Outs:=match p with
 | (xs,nn0,_)=>(.complex .f64 0 xs.length,[(rowA gI xs,3)])
theorem clD_inj:∀ p q,clD_C p→clD_C q→clD_A p=clD_A q→clD_R p=clD_R q:=by
 rintro ⟨xs,nn0,_⟩ ⟨xs',nn0',_⟩ _ _ e
 simp only [clD_A,List.cons.injEq,D.list.injEq,D.val.injEq,D.agg.injEq,Value.int.injEq,Value.bool.injEq,Value.string.injEq,Value.agg.injEq,Array.mk.injEq,and_true,true_and,gI_inj,gB_inj] at e
 simp_all
noncomputable def clD_k:List D→Option (Value × Outs):=fnP clD_A clD_C clD_R
theorem clD_n (xs:List Int)(nn0:Nat)(hn0:nn0=xs.length)(hp:0<xs.length)(hx:xs.length≤20000):KnownR Try.prog [] 49 [.list (rowA gI xs) nn0] (.complex .f64 0 xs.length) ([(rowA gI xs,3)]):=by
 subst hn0; skip
 exact clD _ hp hx
theorem clD_ok:∀ ds v bs,clD_k ds=some (v,bs)→KnownR Try.prog [] 49 ds v bs:=fnP_ok (by
 rintro ⟨xs,nn0,_⟩ ⟨hn0,hp,hx,_⟩
 exact clD_n _ _ hn0 hp hx)
theorem clD_at (xs:List Int)(nn0:Nat)(hn0:nn0=xs.length)(hp:0<xs.length)(hx:xs.length≤20000):clD_k [.list (rowA gI xs) nn0]=some (.complex .f64 0 xs.length,[(rowA gI xs,3)]):=fnP_at (p:=(xs,nn0,())) clD_inj ⟨hn0,hp,hx,trivial⟩ rfl rfl
theorem chD (c:Int)(xs ys zs:List Int)(hm:moB c xs ys zs=true):KnownR Try.prog [] 16 [.agg [.val (.int .i64 c),.list (rowA gI xs) xs.length,.list (rowA gI ys) ys.length,.list (rowA gI zs) zs.length]] (.int .i64 0) ([]):=check_v (moB_is.1 hm)
noncomputable def chD_A (p:Int × List Int × List Int × List Int × Nat × Nat × Nat × Unit):List D:=match p with
 | (c,xs,ys,zs,nn0,nn1,nn2,_)=>[.agg [.val (.int .i64 c),.list (rowA gI xs) nn0,.list (rowA gI ys) nn1,.list (rowA gI zs) nn2]]
noncomputable def chD_C (p:Int × List Int × List Int × List Int × Nat × Nat × Nat × Unit):Prop:=match p with
 | (c,xs,ys,zs,nn0,nn1,nn2,_)=>(nn0=xs.length)∧(nn1=ys.length)∧(nn2=zs.length)∧(moB c xs ys zs=true)∧True
noncomputable def chD_R (p:Int × List Int × List Int × List Int × Nat × Nat × Nat × Unit):Value × Outs:=match p with
 | (c,xs,ys,zs,nn0,nn1,nn2,_)=>(.int .i64 0,[])
theorem chD_inj:∀ p q,chD_C p→chD_C q→chD_A p=chD_A q→chD_R p=chD_R q:=by
 rintro ⟨c,xs,ys,zs,nn0,nn1,nn2,_⟩ ⟨c',xs',ys',zs',nn0',nn1',nn2',_⟩ _ _ e
 simp only [chD_A,List.cons.injEq,D.list.injEq,D.val.injEq,D.agg.injEq,Value.int.injEq,Value.bool.injEq,Value.string.injEq,Value.agg.injEq,Array.mk.injEq,and_true,true_and,gI_inj,gB_inj] at e
 simp_all
noncomputable def chD_k:List D→Option (Value × Outs):=fnP chD_A chD_C chD_R
theorem chD_n (c:Int)(xs ys zs:List Int)(nn0:Nat)(nn1:Nat)(nn2:Nat)(hn0:nn0=xs.length)(hn1:nn1=ys.length)(hn2:nn2=zs.length)(hm:moB c xs ys zs=true):KnownR Try.prog [] 16 [.agg [.val (.int .i64 c),.list (rowA gI xs) nn0,.list (rowA gI ys) nn1,.list (rowA gI zs) nn2]] (.int .i64 0) ([]):=by
 subst hn0; subst hn1; subst hn2; skip
 exact chD _ _ _ _ hm
theorem chD_ok:∀ ds v bs,chD_k ds=some (v,bs)→KnownR Try.prog [] 16 ds v bs:=fnP_ok (by
 rintro ⟨c,xs,ys,zs,nn0,nn1,nn2,_⟩ ⟨hn0,hn1,hn2,hm,_⟩
 exact chD_n _ _ _ _ _ _ _ hn0 hn1 hn2 hm)
theorem chD_at (c:Int)(xs ys zs:List Int)(nn0:Nat)(nn1:Nat)(nn2:Nat)(hn0:nn0=xs.length)(hn1:nn1=ys.length)(hn2:nn2=zs.length)(hm:moB c xs ys zs=true):chD_k [.agg [.val (.int .i64 c),.list (rowA gI xs) nn0,.list (rowA gI ys) nn1,.list (rowA gI zs) nn2]]=some (.int .i64 0,[]):=fnP_at (p:=(c,xs,ys,zs,nn0,nn1,nn2,())) chD_inj ⟨hn0,hn1,hn2,hm,trivial⟩ rfl rfl
noncomputable def tabS:GTab:=(GTab.fnD 49 clD_k (GTab.fnD 16 chD_k GTab.none))
theorem tabS_ok:GOk Try.prog [] tabS:=(GOk.fnD clD_ok (GOk.fnD chD_ok GOk.none))
noncomputable def gt1_c0 (c k:Int)(xs ys zs:List Int):Int:=(el xs (IntKind.i64.wrap (k - (1:Int))))
theorem gt1_p0 (c k:Int)(xs ys zs:List Int)(hm:moB c xs ys zs=true)(hk:1≤k∧k≤c)(hx:(xs.length:Int)=c∧c≤8)(hq0:(decide (k<(1:Int)))=false)(hq1:(decide (k>c))=false)(hq2:(decide ((0:Int)≤IntKind.i64.wrap (k - (1:Int))))=true)(hq3:(decide (IntKind.i64.wrap (k - (1:Int))<(↑xs.length:Int)))=true):KnownR Try.prog [] 18 [.agg [.val (.int .i64 c),.list (rowA gI xs) xs.length,.list (rowA gI ys) ys.length,.list (rowA gI zs) zs.length],.val (.int .i64 1),.val (.int .i64 k)] (.tuple #[(.int .i64 (el xs (IntKind.i64.wrap (k - (1:Int))))),(.int .i64 ((0:Int)))]) [] :=
 knownR_eq (v:=Value.tuple { toList:=[Value.int IntKind.i64 (el xs (IntKind.i64.wrap (k - (1:Int)))),Value.int IntKind.i64 (0:Int)] }) (bs:=[]) (open_resD mix tabS_ok (T:=tabS) (fuel:=3000) (es:=[]) (ans:=[(0,.outs (Value.int IntKind.i64 (0:Int)) ([])),(8,.b 0),(13,.b 0),(16,.b 1),(17,.b 1),(18,.vals ([Value.int IntKind.i64 (el xs (IntKind.i64.wrap (k - (1:Int))))]))]) (log:=[segC (rowA (gI) (xs)) (((IntKind.i64.wrap (k - (1:Int))).toNat)*1+0) 1=some ([Value.int IntKind.i64 (el xs (IntKind.i64.wrap (k - (1:Int))))]),(decide (IntKind.i64.wrap (k - (1:Int))<(↑xs.length:Int)))=true,(decide ((0:Int)≤IntKind.i64.wrap (k - (1:Int))))=true,(decide (k>c))=false,(decide (k<(1:Int)))=false,(GTab.lookD (tabS) ((16:Nat)) ([D.agg [D.val (Value.int IntKind.i64 c),D.list (rowA gI xs) xs.length,D.list (rowA gI ys) ys.length,D.list (rowA gI zs) zs.length]]))=some (Value.int IntKind.i64 (0:Int),[])]) (by kernel_rfl) ⟨(seg_row (g:=(gI)) (k:=1) (fun _=>rfl) (by first | exact of_decide_eq_true hq2 | simpa using of_decide_eq_true hq2) (by first | exact of_decide_eq_true hq3 | (simpa using of_decide_eq_true hq3; done) | (have hx1:=of_decide_eq_true hq3; simp only [List.length_reverse,List.length_cons]; exact hx1) | (have hx1:=of_decide_eq_true hq3; have hx2:=of_decide_eq_true hi; simp only [List.length_reverse,List.length_set] at *; omega)) (by decide) rfl),hq3,hq2,hq1,hq0,(chD_at (c) (xs) (ys) (zs) (xs.length) (ys.length) (zs.length) (by first | rfl | assumption | omega | (simp; done) | (simp_all; done) | (simp_all; omega)) (by first | rfl | assumption | omega | (simp; done) | (simp_all; done) | (simp_all; omega)) (by first | rfl | assumption | omega | (simp; done) | (simp_all; done) | (simp_all; omega)) (by first | rfl | assumption | omega | (simp; done) | (simp_all; done) | (simp_all; omega))),trivial⟩ (by kernel_rfl)) (by first | rfl | (simp; done) | (simp_all; done)) (by first | rfl | (simp [rowA_nil]; done) | (simp only [rowA_eq]; rfl) | (simp_all [rowA_nil]; done))
set_option maxHeartbeats 8000000 in
theorem gt1 (c k:Int)(xs ys zs:List Int)(hm:moB c xs ys zs=true)(hk:1≤k∧k≤c)(hx:(xs.length:Int)=c∧c≤8):KnownR Try.prog [] 18 [.agg [.val (.int .i64 c),.list (rowA gI xs) xs.length,.list (rowA gI ys) ys.length,.list (rowA gI zs) zs.length],.val (.int .i64 1),.val (.int .i64 k)] (.tuple #[(.int .i64 (gt1_c0 c k xs ys zs)),(.int .i64 ((0:Int)))]) []:=by
 have hq0:(decide (k<(1:Int)))=false:=by
  rcases Bool.eq_false_or_eq_true (decide (k<(1:Int))) with h | h
  ·exfalso; (first | (simp_all only [Bool.and_eq_true,Bool.not_eq_true',Bool.false_eq_true,Bool.true_eq_false,reduceCtorEq]; done) | (simp only [sx,sy,eq_self,ne_eq,IntKind.wrap_i64,wrapU64,Int.reduceLT] at * <;> first | with_reducible contradiction | omega) | omega | ((try simp only [sx,sy,eq_self,ne_eq,IntKind.wrap_i64,wrapU64,Int.reduceLT] at *) <;> omega) | (simp_all; done))
  ·exact h
 have hq1:(decide (k>c))=false:=by
  rcases Bool.eq_false_or_eq_true (decide (k>c)) with h | h
  ·exfalso; (first | (simp_all only [Bool.and_eq_true,Bool.not_eq_true',Bool.false_eq_true,Bool.true_eq_false,reduceCtorEq]; done) | (simp only [sx,sy,eq_self,ne_eq,IntKind.wrap_i64,wrapU64,Int.reduceLT] at * <;> first | with_reducible contradiction | omega) | omega | ((try simp only [sx,sy,eq_self,ne_eq,IntKind.wrap_i64,wrapU64,Int.reduceLT] at *) <;> omega) | (simp_all; done))
  ·exact h
 have hq2:(decide ((0:Int)≤IntKind.i64.wrap (k - (1:Int))))=true:=by
  rcases Bool.eq_false_or_eq_true (decide ((0:Int)≤IntKind.i64.wrap (k - (1:Int)))) with h | h
  ·exact h
  ·exfalso; (first | (simp_all only [Bool.and_eq_true,Bool.not_eq_true',Bool.false_eq_true,Bool.true_eq_false,reduceCtorEq]; done) | (simp only [sx,sy,eq_self,ne_eq,IntKind.wrap_i64,wrapU64,Int.reduceLT] at * <;> first | with_reducible contradiction | omega) | omega | ((try simp only [sx,sy,eq_self,ne_eq,IntKind.wrap_i64,wrapU64,Int.reduceLT] at *) <;> omega) | (simp_all; done))
 have hq3:(decide (IntKind.i64.wrap (k - (1:Int))<(↑xs.length:Int)))=true:=by
  rcases Bool.eq_false_or_eq_true (decide (IntKind.i64.wrap (k - (1:Int))<(↑xs.length:Int))) with h | h
  ·exact h
  ·exfalso; (first | (simp_all only [Bool.and_eq_true,Bool.not_eq_true',Bool.false_eq_true,Bool.true_eq_false,reduceCtorEq]; done) | (simp only [sx,sy,eq_self,ne_eq,IntKind.wrap_i64,wrapU64,Int.reduceLT] at * <;> first | with_reducible contradiction | omega) | omega | ((try simp only [sx,sy,eq_self,ne_eq,IntKind.wrap_i64,wrapU64,Int.reduceLT] at *) <;> omega) | (simp_all; done))
 have e0:gt1_c0 c k xs ys zs=(el xs (IntKind.i64.wrap (k - (1:Int)))):=rfl; rw [e0]; exact gt1_p0 c k xs ys zs hm hk hx hq0 hq1 hq2 hq3
noncomputable def gt2_c0 (c k:Int)(xs ys zs:List Int):Int:=(el ys (IntKind.i64.wrap (k - (1:Int))))
theorem gt2_p0 (c k:Int)(xs ys zs:List Int)(hm:moB c xs ys zs=true)(hk:1≤k∧k≤c)(hx:(ys.length:Int)=c∧c≤8)(hq0:(decide (k<(1:Int)))=false)(hq1:(decide (k>c))=false)(hq2:(decide ((0:Int)≤IntKind.i64.wrap (k - (1:Int))))=true)(hq3:(decide (IntKind.i64.wrap (k - (1:Int))<(↑ys.length:Int)))=true):KnownR Try.prog [] 18 [.agg [.val (.int .i64 c),.list (rowA gI xs) xs.length,.list (rowA gI ys) ys.length,.list (rowA gI zs) zs.length],.val (.int .i64 2),.val (.int .i64 k)] (.tuple #[(.int .i64 (el ys (IntKind.i64.wrap (k - (1:Int))))),(.int .i64 ((0:Int)))]) [] :=
 knownR_eq (v:=Value.tuple { toList:=[Value.int IntKind.i64 (el ys (IntKind.i64.wrap (k - (1:Int)))),Value.int IntKind.i64 (0:Int)] }) (bs:=[]) (open_resD mix tabS_ok (T:=tabS) (fuel:=3000) (es:=[]) (ans:=[(0,.outs (Value.int IntKind.i64 (0:Int)) ([])),(8,.b 0),(13,.b 0),(16,.b 1),(17,.b 1),(18,.vals ([Value.int IntKind.i64 (el ys (IntKind.i64.wrap (k - (1:Int))))]))]) (log:=[segC (rowA (gI) (ys)) (((IntKind.i64.wrap (k - (1:Int))).toNat)*1+0) 1=some ([Value.int IntKind.i64 (el ys (IntKind.i64.wrap (k - (1:Int))))]),(decide (IntKind.i64.wrap (k - (1:Int))<(↑ys.length:Int)))=true,(decide ((0:Int)≤IntKind.i64.wrap (k - (1:Int))))=true,(decide (k>c))=false,(decide (k<(1:Int)))=false,(GTab.lookD (tabS) ((16:Nat)) ([D.agg [D.val (Value.int IntKind.i64 c),D.list (rowA gI xs) xs.length,D.list (rowA gI ys) ys.length,D.list (rowA gI zs) zs.length]]))=some (Value.int IntKind.i64 (0:Int),[])]) (by kernel_rfl) ⟨(seg_row (g:=(gI)) (k:=1) (fun _=>rfl) (by first | exact of_decide_eq_true hq2 | simpa using of_decide_eq_true hq2) (by first | exact of_decide_eq_true hq3 | (simpa using of_decide_eq_true hq3; done) | (have hx1:=of_decide_eq_true hq3; simp only [List.length_reverse,List.length_cons]; exact hx1) | (have hx1:=of_decide_eq_true hq3; have hx2:=of_decide_eq_true hi; simp only [List.length_reverse,List.length_set] at *; omega)) (by decide) rfl),hq3,hq2,hq1,hq0,(chD_at (c) (xs) (ys) (zs) (xs.length) (ys.length) (zs.length) (by first | rfl | assumption | omega | (simp; done) | (simp_all; done) | (simp_all; omega)) (by first | rfl | assumption | omega | (simp; done) | (simp_all; done) | (simp_all; omega)) (by first | rfl | assumption | omega | (simp; done) | (simp_all; done) | (simp_all; omega)) (by first | rfl | assumption | omega | (simp; done) | (simp_all; done) | (simp_all; omega))),trivial⟩ (by kernel_rfl)) (by first | rfl | (simp; done) | (simp_all; done)) (by first | rfl | (simp [rowA_nil]; done) | (simp only [rowA_eq]; rfl) | (simp_all [rowA_nil]; done))
set_option maxHeartbeats 8000000 in
theorem gt2 (c k:Int)(xs ys zs:List Int)(hm:moB c xs ys zs=true)(hk:1≤k∧k≤c)(hx:(ys.length:Int)=c∧c≤8):KnownR Try.prog [] 18 [.agg [.val (.int .i64 c),.list (rowA gI xs) xs.length,.list (rowA gI ys) ys.length,.list (rowA gI zs) zs.length],.val (.int .i64 2),.val (.int .i64 k)] (.tuple #[(.int .i64 (gt2_c0 c k xs ys zs)),(.int .i64 ((0:Int)))]) []:=by
 have hq0:(decide (k<(1:Int)))=false:=by
  rcases Bool.eq_false_or_eq_true (decide (k<(1:Int))) with h | h
  ·exfalso; (first | (simp_all only [Bool.and_eq_true,Bool.not_eq_true',Bool.false_eq_true,Bool.true_eq_false,reduceCtorEq]; done) | (simp only [sx,sy,eq_self,ne_eq,IntKind.wrap_i64,wrapU64,Int.reduceLT] at * <;> first | with_reducible contradiction | omega) | omega | ((try simp only [sx,sy,eq_self,ne_eq,IntKind.wrap_i64,wrapU64,Int.reduceLT] at *) <;> omega) | (simp_all; done))
  ·exact h
 have hq1:(decide (k>c))=false:=by
  rcases Bool.eq_false_or_eq_true (decide (k>c)) with h | h
  ·exfalso; (first | (simp_all only [Bool.and_eq_true,Bool.not_eq_true',Bool.false_eq_true,Bool.true_eq_false,reduceCtorEq]; done) | (simp only [sx,sy,eq_self,ne_eq,IntKind.wrap_i64,wrapU64,Int.reduceLT] at * <;> first | with_reducible contradiction | omega) | omega | ((try simp only [sx,sy,eq_self,ne_eq,IntKind.wrap_i64,wrapU64,Int.reduceLT] at *) <;> omega) | (simp_all; done))
  ·exact h
 have hq2:(decide ((0:Int)≤IntKind.i64.wrap (k - (1:Int))))=true:=by
  rcases Bool.eq_false_or_eq_true (decide ((0:Int)≤IntKind.i64.wrap (k - (1:Int)))) with h | h
  ·exact h
  ·exfalso; (first | (simp_all only [Bool.and_eq_true,Bool.not_eq_true',Bool.false_eq_true,Bool.true_eq_false,reduceCtorEq]; done) | (simp only [sx,sy,eq_self,ne_eq,IntKind.wrap_i64,wrapU64,Int.reduceLT] at * <;> first | with_reducible contradiction | omega) | omega | ((try simp only [sx,sy,eq_self,ne_eq,IntKind.wrap_i64,wrapU64,Int.reduceLT] at *) <;> omega) | (simp_all; done))
 have hq3:(decide (IntKind.i64.wrap (k - (1:Int))<(↑ys.length:Int)))=true:=by
  rcases Bool.eq_false_or_eq_true (decide (IntKind.i64.wrap (k - (1:Int))<(↑ys.length:Int))) with h | h
  ·exact h
  ·exfalso; (first | (simp_all only [Bool.and_eq_true,Bool.not_eq_true',Bool.false_eq_true,Bool.true_eq_false,reduceCtorEq]; done) | (simp only [sx,sy,eq_self,ne_eq,IntKind.wrap_i64,wrapU64,Int.reduceLT] at * <;> first | with_reducible contradiction | omega) | omega | ((try simp only [sx,sy,eq_self,ne_eq,IntKind.wrap_i64,wrapU64,Int.reduceLT] at *) <;> omega) | (simp_all; done))
 have e0:gt2_c0 c k xs ys zs=(el ys (IntKind.i64.wrap (k - (1:Int)))):=rfl; rw [e0]; exact gt2_p0 c k xs ys zs hm hk hx hq0 hq1 hq2 hq3
noncomputable def gt3_c0 (c k:Int)(xs ys zs:List Int):Int:=(el zs (IntKind.i64.wrap (k - (1:Int))))
theorem gt3_p0 (c k:Int)(xs ys zs:List Int)(hm:moB c xs ys zs=true)(hk:1≤k∧k≤c)(hx:(zs.length:Int)=c∧c≤8)(hq0:(decide (k<(1:Int)))=false)(hq1:(decide (k>c))=false)(hq2:(decide ((0:Int)≤IntKind.i64.wrap (k - (1:Int))))=true)(hq3:(decide (IntKind.i64.wrap (k - (1:Int))<(↑zs.length:Int)))=true):KnownR Try.prog [] 18 [.agg [.val (.int .i64 c),.list (rowA gI xs) xs.length,.list (rowA gI ys) ys.length,.list (rowA gI zs) zs.length],.val (.int .i64 3),.val (.int .i64 k)] (.tuple #[(.int .i64 (el zs (IntKind.i64.wrap (k - (1:Int))))),(.int .i64 ((0:Int)))]) [] :=
 knownR_eq (v:=Value.tuple { toList:=[Value.int IntKind.i64 (el zs (IntKind.i64.wrap (k - (1:Int)))),Value.int IntKind.i64 (0:Int)] }) (bs:=[]) (open_resD mix tabS_ok (T:=tabS) (fuel:=3000) (es:=[]) (ans:=[(0,.outs (Value.int IntKind.i64 (0:Int)) ([])),(8,.b 0),(13,.b 0),(16,.b 1),(17,.b 1),(18,.vals ([Value.int IntKind.i64 (el zs (IntKind.i64.wrap (k - (1:Int))))]))]) (log:=[segC (rowA (gI) (zs)) (((IntKind.i64.wrap (k - (1:Int))).toNat)*1+0) 1=some ([Value.int IntKind.i64 (el zs (IntKind.i64.wrap (k - (1:Int))))]),(decide (IntKind.i64.wrap (k - (1:Int))<(↑zs.length:Int)))=true,(decide ((0:Int)≤IntKind.i64.wrap (k - (1:Int))))=true,(decide (k>c))=false,(decide (k<(1:Int)))=false,(GTab.lookD (tabS) ((16:Nat)) ([D.agg [D.val (Value.int IntKind.i64 c),D.list (rowA gI xs) xs.length,D.list (rowA gI ys) ys.length,D.list (rowA gI zs) zs.length]]))=some (Value.int IntKind.i64 (0:Int),[])]) (by kernel_rfl) ⟨(seg_row (g:=(gI)) (k:=1) (fun _=>rfl) (by first | exact of_decide_eq_true hq2 | simpa using of_decide_eq_true hq2) (by first | exact of_decide_eq_true hq3 | (simpa using of_decide_eq_true hq3; done) | (have hx1:=of_decide_eq_true hq3; simp only [List.length_reverse,List.length_cons]; exact hx1) | (have hx1:=of_decide_eq_true hq3; have hx2:=of_decide_eq_true hi; simp only [List.length_reverse,List.length_set] at *; omega)) (by decide) rfl),hq3,hq2,hq1,hq0,(chD_at (c) (xs) (ys) (zs) (xs.length) (ys.length) (zs.length) (by first | rfl | assumption | omega | (simp; done) | (simp_all; done) | (simp_all; omega)) (by first | rfl | assumption | omega | (simp; done) | (simp_all; done) | (simp_all; omega)) (by first | rfl | assumption | omega | (simp; done) | (simp_all; done) | (simp_all; omega)) (by first | rfl | assumption | omega | (simp; done) | (simp_all; done) | (simp_all; omega))),trivial⟩ (by kernel_rfl)) (by first | rfl | (simp; done) | (simp_all; done)) (by first | rfl | (simp [rowA_nil]; done) | (simp only [rowA_eq]; rfl) | (simp_all [rowA_nil]; done))
set_option maxHeartbeats 8000000 in
theorem gt3 (c k:Int)(xs ys zs:List Int)(hm:moB c xs ys zs=true)(hk:1≤k∧k≤c)(hx:(zs.length:Int)=c∧c≤8):KnownR Try.prog [] 18 [.agg [.val (.int .i64 c),.list (rowA gI xs) xs.length,.list (rowA gI ys) ys.length,.list (rowA gI zs) zs.length],.val (.int .i64 3),.val (.int .i64 k)] (.tuple #[(.int .i64 (gt3_c0 c k xs ys zs)),(.int .i64 ((0:Int)))]) []:=by
 have hq0:(decide (k<(1:Int)))=false:=by
  rcases Bool.eq_false_or_eq_true (decide (k<(1:Int))) with h | h
  ·exfalso; (first | (simp_all only [Bool.and_eq_true,Bool.not_eq_true',Bool.false_eq_true,Bool.true_eq_false,reduceCtorEq]; done) | (simp only [sx,sy,eq_self,ne_eq,IntKind.wrap_i64,wrapU64,Int.reduceLT] at * <;> first | with_reducible contradiction | omega) | omega | ((try simp only [sx,sy,eq_self,ne_eq,IntKind.wrap_i64,wrapU64,Int.reduceLT] at *) <;> omega) | (simp_all; done))
  ·exact h
 have hq1:(decide (k>c))=false:=by
  rcases Bool.eq_false_or_eq_true (decide (k>c)) with h | h
  ·exfalso; (first | (simp_all only [Bool.and_eq_true,Bool.not_eq_true',Bool.false_eq_true,Bool.true_eq_false,reduceCtorEq]; done) | (simp only [sx,sy,eq_self,ne_eq,IntKind.wrap_i64,wrapU64,Int.reduceLT] at * <;> first | with_reducible contradiction | omega) | omega | ((try simp only [sx,sy,eq_self,ne_eq,IntKind.wrap_i64,wrapU64,Int.reduceLT] at *) <;> omega) | (simp_all; done))
  ·exact h
 have hq2:(decide ((0:Int)≤IntKind.i64.wrap (k - (1:Int))))=true:=by
  rcases Bool.eq_false_or_eq_true (decide ((0:Int)≤IntKind.i64.wrap (k - (1:Int)))) with h | h
  ·exact h
  ·exfalso; (first | (simp_all only [Bool.and_eq_true,Bool.not_eq_true',Bool.false_eq_true,Bool.true_eq_false,reduceCtorEq]; done) | (simp only [sx,sy,eq_self,ne_eq,IntKind.wrap_i64,wrapU64,Int.reduceLT] at * <;> first | with_reducible contradiction | omega) | omega | ((try simp only [sx,sy,eq_self,ne_eq,IntKind.wrap_i64,wrapU64,Int.reduceLT] at *) <;> omega) | (simp_all; done))
 have hq3:(decide (IntKind.i64.wrap (k - (1:Int))<(↑zs.length:Int)))=true:=by
  rcases Bool.eq_false_or_eq_true (decide (IntKind.i64.wrap (k - (1:Int))<(↑zs.length:Int))) with h | h
  ·exact h
  ·exfalso; (first | (simp_all only [Bool.and_eq_true,Bool.not_eq_true',Bool.false_eq_true,Bool.true_eq_false,reduceCtorEq]; done) | (simp only [sx,sy,eq_self,ne_eq,IntKind.wrap_i64,wrapU64,Int.reduceLT] at * <;> first | with_reducible contradiction | omega) | omega | ((try simp only [sx,sy,eq_self,ne_eq,IntKind.wrap_i64,wrapU64,Int.reduceLT] at *) <;> omega) | (simp_all; done))
 have e0:gt3_c0 c k xs ys zs=(el zs (IntKind.i64.wrap (k - (1:Int)))):=rfl; rw [e0]; exact gt3_p0 c k xs ys zs hm hk hx hq0 hq1 hq2 hq3
noncomputable def st1_c0 (c k n:Int)(xs ys zs:List Int):Int:=(c)
noncomputable def st1_c1 (c k n:Int)(xs ys zs:List Int):List Int:=(xs.set (IntKind.i64.wrap (k - (1:Int))).toNat n)
noncomputable def st1_c2 (c k n:Int)(xs ys zs:List Int):List Int:=(ys)
noncomputable def st1_c3 (c k n:Int)(xs ys zs:List Int):List Int:=(zs)
theorem st1_p0 (c k n:Int)(xs ys zs:List Int)(hm:moB c xs ys zs=true)(hk:1≤k∧k≤c)(hx:(xs.length:Int)=c∧(ys.length:Int)=c∧(zs.length:Int)=c∧c≤8)(hn:0≤n∧n≤3)(hq0:(decide (k<(1:Int)))=false)(hq1:(decide (k>c))=false)(hq2:(decide (n≥(0:Int)))=true)(hq3:(!decide (n≤(3:Int)))=false)(hq4:(decide ((0:Int)≤IntKind.i64.wrap (k - (1:Int))))=true)(hq5:(decide (IntKind.i64.wrap (k - (1:Int))<(↑xs.length:Int)))=true):KnownR Try.prog [] 20 [.agg [.val (.int .i64 c),.list (rowA gI xs) xs.length,.list (rowA gI ys) ys.length,.list (rowA gI zs) zs.length],.val (.int .i64 1),.val (.int .i64 k),.val (.int .i64 n)] (.tuple #[(.agg #[(.int .i64 (c)),(.complex .f64 0 ((xs.set (IntKind.i64.wrap (k - (1:Int))).toNat n)).length),(.complex .f64 1 ((ys)).length),(.complex .f64 2 ((zs)).length)]),(.int .i64 ((0:Int)))]) [(rowA gI ((xs.set (IntKind.i64.wrap (k - (1:Int))).toNat n)),3),(rowA gI ((ys)),3),(rowA gI ((zs)),3)] :=
 knownR_eq (v:=Value.tuple { toList:=[Value.agg { toList:=[Value.int IntKind.i64 c,Value.complex FloatKind.f64 (nat_lit 0) xs.length,Value.complex FloatKind.f64 (nat_lit 1) ys.length,Value.complex FloatKind.f64 (nat_lit 2) zs.length] },Value.int IntKind.i64 (0:Int)] }) (bs:=[(rowA gI (xs.set (IntKind.i64.wrap (k - (1:Int))).toNat n),nat_lit 3),(rowA gI ys,nat_lit 3),(rowA gI zs,nat_lit 3)]) (open_resD mix tabS_ok (T:=tabS) (fuel:=3000) (es:=[3,3,3]) (ans:=[(0,.outs (Value.int IntKind.i64 (0:Int)) ([])),(8,.b 0),(13,.b 0),(15,.b 1),(18,.b 0),(22,.outs (Value.complex FloatKind.f64 (0:Nat) xs.length) ([(rowA gI xs,(3:TypeId))])),(27,.outs (Value.complex FloatKind.f64 (0:Nat) ys.length) ([(rowA gI ys,(3:TypeId))])),(32,.outs (Value.complex FloatKind.f64 (0:Nat) zs.length) ([(rowA gI zs,(3:TypeId))])),(37,.b 1),(38,.b 1),(39,.yes),(40,.arr (rowA (gI) (xs.set (IntKind.i64.wrap (k - (1:Int))).toNat n)))]) (log:=[spliceC (rowA (gI) (xs)) (((IntKind.i64.wrap (k - (1:Int))).toNat)*1+0) ([Value.int IntKind.i64 n])=rowA (gI) (xs.set (IntKind.i64.wrap (k - (1:Int))).toNat n),(Nat.ble (Nat.add (((IntKind.i64.wrap (k - (1:Int))).toNat)*1+0) 1) (rowA (gI) (xs)).size)=true,(decide (IntKind.i64.wrap (k - (1:Int))<(↑xs.length:Int)))=true,(decide ((0:Int)≤IntKind.i64.wrap (k - (1:Int))))=true,(GTab.lookD (tabS) ((49:Nat)) ([D.list (rowA gI zs) zs.length]))=some (Value.complex FloatKind.f64 (0:Nat) zs.length,[(rowA gI zs,(3:TypeId))]),(GTab.lookD (tabS) ((49:Nat)) ([D.list (rowA gI ys) ys.length]))=some (Value.complex FloatKind.f64 (0:Nat) ys.length,[(rowA gI ys,(3:TypeId))]),(GTab.lookD (tabS) ((49:Nat)) ([D.list (rowA gI xs) xs.length]))=some (Value.complex FloatKind.f64 (0:Nat) xs.length,[(rowA gI xs,(3:TypeId))]),(!decide (n≤(3:Int)))=false,(decide (n≥(0:Int)))=true,(decide (k>c))=false,(decide (k<(1:Int)))=false,(GTab.lookD (tabS) ((16:Nat)) ([D.agg [D.val (Value.int IntKind.i64 c),D.list (rowA gI xs) xs.length,D.list (rowA gI ys) ys.length,D.list (rowA gI zs) zs.length]]))=some (Value.int IntKind.i64 (0:Int),[])]) (by kernel_rfl) ⟨(row_set (g:=(gI)) (k:=1) (x:=n) (fun _=>rfl) (by first | exact of_decide_eq_true hq4 | simpa using of_decide_eq_true hq4) (by first | exact of_decide_eq_true hq5 | (simpa using of_decide_eq_true hq5; done) | (have hx1:=of_decide_eq_true hq5; simp only [List.length_reverse,List.length_cons]; exact hx1) | (have hx1:=of_decide_eq_true hq5; have hx2:=of_decide_eq_true hi; simp only [List.length_reverse,List.length_set] at *; omega)) (by first | decide | (simp; done)) rfl),(fact_room (g:=(gI)) (fun _=>rfl) (by first | exact of_decide_eq_true hq4 | simpa using of_decide_eq_true hq4) (by first | exact of_decide_eq_true hq5 | (simpa using of_decide_eq_true hq5; done) | (have hx1:=of_decide_eq_true hq5; simp only [List.length_reverse,List.length_cons]; exact hx1) | (have hx1:=of_decide_eq_true hq5; have hx2:=of_decide_eq_true hi; simp only [List.length_reverse,List.length_set] at *; omega)) (by decide)),hq5,hq4,(clD_at (zs) (zs.length) (by first | rfl | assumption | omega | (simp; done) | (simp_all; done) | (simp_all; omega)) (by first | rfl | assumption | omega | (simp; done) | (simp_all; done) | (simp_all; omega)) (by first | rfl | assumption | omega | (simp; done) | (simp_all; done) | (simp_all; omega))),(clD_at (ys) (ys.length) (by first | rfl | assumption | omega | (simp; done) | (simp_all; done) | (simp_all; omega)) (by first | rfl | assumption | omega | (simp; done) | (simp_all; done) | (simp_all; omega)) (by first | rfl | assumption | omega | (simp; done) | (simp_all; done) | (simp_all; omega))),(clD_at (xs) (xs.length) (by first | rfl | assumption | omega | (simp; done) | (simp_all; done) | (simp_all; omega)) (by first | rfl | assumption | omega | (simp; done) | (simp_all; done) | (simp_all; omega)) (by first | rfl | assumption | omega | (simp; done) | (simp_all; done) | (simp_all; omega))),hq3,hq2,hq1,hq0,(chD_at (c) (xs) (ys) (zs) (xs.length) (ys.length) (zs.length) (by first | rfl | assumption | omega | (simp; done) | (simp_all; done) | (simp_all; omega)) (by first | rfl | assumption | omega | (simp; done) | (simp_all; done) | (simp_all; omega)) (by first | rfl | assumption | omega | (simp; done) | (simp_all; done) | (simp_all; omega)) (by first | rfl | assumption | omega | (simp; done) | (simp_all; done) | (simp_all; omega))),trivial⟩ (by kernel_rfl)) (by first | rfl | (simp; done) | (simp_all; done)) (by first | rfl | (simp [rowA_nil]; done) | (simp only [rowA_eq]; rfl) | (simp_all [rowA_nil]; done))
set_option maxHeartbeats 8000000 in
theorem st1 (c k n:Int)(xs ys zs:List Int)(hm:moB c xs ys zs=true)(hk:1≤k∧k≤c)(hx:(xs.length:Int)=c∧(ys.length:Int)=c∧(zs.length:Int)=c∧c≤8)(hn:0≤n∧n≤3):KnownR Try.prog [] 20 [.agg [.val (.int .i64 c),.list (rowA gI xs) xs.length,.list (rowA gI ys) ys.length,.list (rowA gI zs) zs.length],.val (.int .i64 1),.val (.int .i64 k),.val (.int .i64 n)] (.tuple #[(.agg #[(.int .i64 (st1_c0 c k n xs ys zs)),(.complex .f64 0 ((st1_c1 c k n xs ys zs)).length),(.complex .f64 1 ((st1_c2 c k n xs ys zs)).length),(.complex .f64 2 ((st1_c3 c k n xs ys zs)).length)]),(.int .i64 ((0:Int)))]) [(rowA gI ((st1_c1 c k n xs ys zs)),3),(rowA gI ((st1_c2 c k n xs ys zs)),3),(rowA gI ((st1_c3 c k n xs ys zs)),3)]:=by
 have hq0:(decide (k<(1:Int)))=false:=by
  rcases Bool.eq_false_or_eq_true (decide (k<(1:Int))) with h | h
  ·exfalso; (first | (simp_all only [Bool.and_eq_true,Bool.not_eq_true',Bool.false_eq_true,Bool.true_eq_false,reduceCtorEq]; done) | (simp only [sx,sy,eq_self,ne_eq,IntKind.wrap_i64,wrapU64,Int.reduceLT] at * <;> first | with_reducible contradiction | omega) | omega | ((try simp only [sx,sy,eq_self,ne_eq,IntKind.wrap_i64,wrapU64,Int.reduceLT] at *) <;> omega) | (simp_all; done))
  ·exact h
 have hq1:(decide (k>c))=false:=by
  rcases Bool.eq_false_or_eq_true (decide (k>c)) with h | h
  ·exfalso; (first | (simp_all only [Bool.and_eq_true,Bool.not_eq_true',Bool.false_eq_true,Bool.true_eq_false,reduceCtorEq]; done) | (simp only [sx,sy,eq_self,ne_eq,IntKind.wrap_i64,wrapU64,Int.reduceLT] at * <;> first | with_reducible contradiction | omega) | omega | ((try simp only [sx,sy,eq_self,ne_eq,IntKind.wrap_i64,wrapU64,Int.reduceLT] at *) <;> omega) | (simp_all; done))
  ·exact h
 have hq2:(decide (n≥(0:Int)))=true:=by
  rcases Bool.eq_false_or_eq_true (decide (n≥(0:Int))) with h | h
  ·exact h
  ·exfalso; (first | (simp_all only [Bool.and_eq_true,Bool.not_eq_true',Bool.false_eq_true,Bool.true_eq_false,reduceCtorEq]; done) | (simp only [sx,sy,eq_self,ne_eq,IntKind.wrap_i64,wrapU64,Int.reduceLT] at * <;> first | with_reducible contradiction | omega) | omega | ((try simp only [sx,sy,eq_self,ne_eq,IntKind.wrap_i64,wrapU64,Int.reduceLT] at *) <;> omega) | (simp_all; done))
 have hq3:(!decide (n≤(3:Int)))=false:=by
  rcases Bool.eq_false_or_eq_true (!decide (n≤(3:Int))) with h | h
  ·exfalso; (first | (simp_all only [Bool.and_eq_true,Bool.not_eq_true',Bool.false_eq_true,Bool.true_eq_false,reduceCtorEq]; done) | (simp only [sx,sy,eq_self,ne_eq,IntKind.wrap_i64,wrapU64,Int.reduceLT] at * <;> first | with_reducible contradiction | omega) | omega | ((try simp only [sx,sy,eq_self,ne_eq,IntKind.wrap_i64,wrapU64,Int.reduceLT] at *) <;> omega) | (simp_all; done))
  ·exact h
 have hq4:(decide ((0:Int)≤IntKind.i64.wrap (k - (1:Int))))=true:=by
  rcases Bool.eq_false_or_eq_true (decide ((0:Int)≤IntKind.i64.wrap (k - (1:Int)))) with h | h
  ·exact h
  ·exfalso; (first | (simp_all only [Bool.and_eq_true,Bool.not_eq_true',Bool.false_eq_true,Bool.true_eq_false,reduceCtorEq]; done) | (simp only [sx,sy,eq_self,ne_eq,IntKind.wrap_i64,wrapU64,Int.reduceLT] at * <;> first | with_reducible contradiction | omega) | omega | ((try simp only [sx,sy,eq_self,ne_eq,IntKind.wrap_i64,wrapU64,Int.reduceLT] at *) <;> omega) | (simp_all; done))
 have hq5:(decide (IntKind.i64.wrap (k - (1:Int))<(↑xs.length:Int)))=true:=by
  rcases Bool.eq_false_or_eq_true (decide (IntKind.i64.wrap (k - (1:Int))<(↑xs.length:Int))) with h | h
  ·exact h
  ·exfalso; (first | (simp_all only [Bool.and_eq_true,Bool.not_eq_true',Bool.false_eq_true,Bool.true_eq_false,reduceCtorEq]; done) | (simp only [sx,sy,eq_self,ne_eq,IntKind.wrap_i64,wrapU64,Int.reduceLT] at * <;> first | with_reducible contradiction | omega) | omega | ((try simp only [sx,sy,eq_self,ne_eq,IntKind.wrap_i64,wrapU64,Int.reduceLT] at *) <;> omega) | (simp_all; done))
 have e0:st1_c0 c k n xs ys zs=(c):=rfl; rw [e0]; have e1:st1_c1 c k n xs ys zs=(xs.set (IntKind.i64.wrap (k - (1:Int))).toNat n):=rfl; rw [e1]; have e2:st1_c2 c k n xs ys zs=(ys):=rfl; rw [e2]; have e3:st1_c3 c k n xs ys zs=(zs):=rfl; rw [e3]; exact st1_p0 c k n xs ys zs hm hk hx hn hq0 hq1 hq2 hq3 hq4 hq5
end Go.Proofs.Ytokpimghaladjaa
