import Derived.Test.YtaogbagopdlkmaaPX26
import Derived.ProofKit
import Derived.IntWalk
set_option linter.unnecessarySimpa false
set_option linter.unusedSimpArgs false
set_option linter.unusedVariables false
namespace Go.Proofs.Ytaogbagopdlkmaa
open Go Go.RowKit
set_option maxHeartbeats 8000000
set_option maxRecDepth 100000
attribute [local irreducible] ckX trN slN bfV
theorem bfD (m d t s c x k:Int)(h:ckX m d t s c=0)(hx0:0≤x)(hx1:x≤1099511627776)(hk:1≤k∧k≤5):KnownR Try.prog [] 51 [.val (.agg #[.int .i64 m,.int .i64 d,.int .i64 t,.int .i64 s,.int .i64 c]),.val (.int .i64 x),.val (.int .i64 k)] (.int .i64 (bfV m d t s x k)) ([]):=rBefore m d t s c x k h hx0 hx1 hk
noncomputable def bfD_A (p:Int × Int × Int × Int × Int × Int × Int × Unit):List D:=match p with
 | (m,d,t,s,c,x,k,_)=>[.val (.agg #[.int .i64 m,.int .i64 d,.int .i64 t,.int .i64 s,.int .i64 c]),.val (.int .i64 x),.val (.int .i64 k)]
noncomputable def bfD_C (p:Int × Int × Int × Int × Int × Int × Int × Unit):Prop:=match p with
 | (m,d,t,s,c,x,k,_)=>(ckX m d t s c=0)∧(0≤x)∧(x≤1099511627776)∧(1≤k∧k≤5)∧True
noncomputable def bfD_R (p:Int × Int × Int × Int × Int × Int × Int × Unit):Value × Outs:=match p with
 | (m,d,t,s,c,x,k,_)=>(.int .i64 (bfV m d t s x k),[])
theorem bfD_inj:∀ p q,bfD_C p→bfD_C q→bfD_A p=bfD_A q→bfD_R p=bfD_R q:=by
 rintro ⟨m,d,t,s,c,x,k,_⟩ ⟨m',d',t',s',c',x',k',_⟩ _ _ e
 simp only [bfD_A,List.cons.injEq,D.list.injEq,D.val.injEq,D.agg.injEq,Value.int.injEq,Value.bool.injEq,Value.string.injEq,Value.agg.injEq,Array.mk.injEq,and_true,true_and,gI_inj,gB_inj,gQ_inj] at e
 simp_all
noncomputable def bfD_k:List D→Option (Value × Outs):=fnP bfD_A bfD_C bfD_R
theorem bfD_n (m d t s c x k:Int)(h:ckX m d t s c=0)(hx0:0≤x)(hx1:x≤1099511627776)(hk:1≤k∧k≤5):KnownR Try.prog [] 51 [.val (.agg #[.int .i64 m,.int .i64 d,.int .i64 t,.int .i64 s,.int .i64 c]),.val (.int .i64 x),.val (.int .i64 k)] (.int .i64 (bfV m d t s x k)) ([]):=by
 skip
 exact bfD _ _ _ _ _ _ _ h hx0 hx1 hk
theorem bfD_ok:∀ ds v bs,bfD_k ds=some (v,bs)→KnownR Try.prog [] 51 ds v bs:=fnP_ok (by
 rintro ⟨m,d,t,s,c,x,k,_⟩ ⟨h,hx0,hx1,hk,_⟩
 exact bfD_n _ _ _ _ _ _ _  h hx0 hx1 hk)
theorem bfD_at (m d t s c x k:Int)(h:ckX m d t s c=0)(hx0:0≤x)(hx1:x≤1099511627776)(hk:1≤k∧k≤5):bfD_k [.val (.agg #[.int .i64 m,.int .i64 d,.int .i64 t,.int .i64 s,.int .i64 c]),.val (.int .i64 x),.val (.int .i64 k)]=some (.int .i64 (bfV m d t s x k),[]):=fnP_at (p:=(m,d,t,s,c,x,k,())) bfD_inj ⟨h,hx0,hx1,hk,trivial⟩ rfl rfl
noncomputable def tabCb:GTab:=(GTab.fnD 15 rkD_k (GTab.fnD 51 bfD_k GTab.none))
theorem tabCb_ok:GOk Try.prog [] tabCb:=(GOk.fnD rkD_ok (GOk.fnD bfD_ok GOk.none))
noncomputable def rcE_c1 (m d t s c x y k:Int):Int:=(ckX m d t s c)
theorem rcE_p0 (m d t s c x y k:Int)(hs:s≤9223372036854775807)(hcc:c≤9223372036854775807)(hE:¬ ckX m d t s c=0)(hq0:(ckX m d t s c==(0:Int))=false)(hq1:(ckX m d t s c != (0:Int))=true):KnownR Try.prog [] 30 [.val (.agg #[.int .i64 m,.int .i64 d,.int .i64 t,.int .i64 s,.int .i64 c]),.val (.int .i64 x),.val (.int .i64 y),.val (.int .i64 k)] (.tuple #[(.int .i64 ((0:Int))),(.int .i64 (ckX m d t s c))]) [] :=
 knownR_eq (v:=Value.tuple { toList:=[Value.int IntKind.i64 (0:Int),Value.int IntKind.i64 (ckX m d t s c)] }) (bs:=[]) (open_resD mix tabCb_ok (T:=tabCb) (fuel:=3000) (es:=[]) (ans:=[(0,.outs (Value.int IntKind.i64 (ckX m d t s c)) ([])),(1,.b 0),(2,.b 0),(10,.b 1)]) (log:=[(ckX m d t s c != (0:Int))=true,(ckX m d t s c==(0:Int))=false,(ckX m d t s c==(0:Int))=false,(GTab.lookD (tabCb) ((15:Nat)) ([D.val (Value.agg { toList:=[Value.int IntKind.i64 m,Value.int IntKind.i64 d,Value.int IntKind.i64 t,Value.int IntKind.i64 s,Value.int IntKind.i64 c] })]))=some (Value.int IntKind.i64 (ckX m d t s c),[])]) (by kernel_rfl) ⟨hq1,hq0,hq0,(rkD_at (m) (d) (t) (s) (c) (by first | rfl | assumption | omega | (simp; done) | (simp_all; done) | (simp_all; omega)) (by first | rfl | assumption | omega | (simp; done) | (simp_all; done) | (simp_all; omega))),trivial⟩ (by kernel_rfl)) (by first | rfl | (simp; done) | (simp_all; done)) (by first | rfl | (simp [rowA_nil]; done) | (simp only [rowA_eq]; rfl) | (simp_all [rowA_nil]; done))
set_option maxHeartbeats 8000000 in
theorem rcE (m d t s c x y k:Int)(hs:s≤9223372036854775807)(hcc:c≤9223372036854775807)(hE:¬ ckX m d t s c=0):KnownR Try.prog [] 30 [.val (.agg #[.int .i64 m,.int .i64 d,.int .i64 t,.int .i64 s,.int .i64 c]),.val (.int .i64 x),.val (.int .i64 y),.val (.int .i64 k)] (.tuple #[(.int .i64 ((0:Int))),(.int .i64 (rcE_c1 m d t s c x y k))]) []:=by
 have hq0:(ckX m d t s c==(0:Int))=false:=by
  rcases Bool.eq_false_or_eq_true (ckX m d t s c==(0:Int)) with h | h
  ·exfalso; (first | (simp_all only [Bool.and_eq_true,Bool.not_eq_true',Bool.false_eq_true,Bool.true_eq_false,reduceCtorEq]; done) | (simp only [sx,sy,eq_self,ne_eq,IntKind.wrap_i64,wrapU64,Int.reduceLT] at * <;> first | with_reducible contradiction | omega) | omega | ((try simp only [sx,sy,eq_self,ne_eq,IntKind.wrap_i64,wrapU64,Int.reduceLT] at *) <;> omega) | (simp_all; done))
  ·exact h
 have hq1:(ckX m d t s c != (0:Int))=true:=by
  rcases Bool.eq_false_or_eq_true (ckX m d t s c != (0:Int)) with h | h
  ·exact h
  ·exfalso; (first | (simp_all only [Bool.and_eq_true,Bool.not_eq_true',Bool.false_eq_true,Bool.true_eq_false,reduceCtorEq]; done) | (simp only [sx,sy,eq_self,ne_eq,IntKind.wrap_i64,wrapU64,Int.reduceLT] at * <;> first | with_reducible contradiction | omega) | omega | ((try simp only [sx,sy,eq_self,ne_eq,IntKind.wrap_i64,wrapU64,Int.reduceLT] at *) <;> omega) | (simp_all; done))
 have e1:rcE_c1 m d t s c x y k=(ckX m d t s c):=rfl; rw [e1]; exact rcE_p0 m d t s c x y k hs hcc hE hq0 hq1
theorem rcK_p0 (m d t s c x y k:Int)(hs:s≤9223372036854775807)(hcc:c≤9223372036854775807)(hc:ckX m d t s c=0)(hk:¬ (1≤k∧k≤5))(hq0:(ckX m d t s c==(0:Int))=true)(hq1:(decide (k<(1:Int)))=true):KnownR Try.prog [] 30 [.val (.agg #[.int .i64 m,.int .i64 d,.int .i64 t,.int .i64 s,.int .i64 c]),.val (.int .i64 x),.val (.int .i64 y),.val (.int .i64 k)] (.tuple #[(.int .i64 ((0:Int))),(.int .i64 ((11:Int)))]) [] :=
 knownR_eq (v:=Value.tuple { toList:=[Value.int IntKind.i64 (0:Int),Value.int IntKind.i64 (11:Int)] }) (bs:=[]) (open_resD mix tabCb_ok (T:=tabCb) (fuel:=3000) (es:=[]) (ans:=[(0,.outs (Value.int IntKind.i64 (ckX m d t s c)) ([])),(1,.b 1),(2,.b 1)]) (log:=[(decide (k<(1:Int)))=true,(ckX m d t s c==(0:Int))=true,(GTab.lookD (tabCb) ((15:Nat)) ([D.val (Value.agg { toList:=[Value.int IntKind.i64 m,Value.int IntKind.i64 d,Value.int IntKind.i64 t,Value.int IntKind.i64 s,Value.int IntKind.i64 c] })]))=some (Value.int IntKind.i64 (ckX m d t s c),[])]) (by kernel_rfl) ⟨hq1,hq0,(rkD_at (m) (d) (t) (s) (c) (by first | rfl | assumption | omega | (simp; done) | (simp_all; done) | (simp_all; omega)) (by first | rfl | assumption | omega | (simp; done) | (simp_all; done) | (simp_all; omega))),trivial⟩ (by kernel_rfl)) (by first | rfl | (simp; done) | (simp_all; done)) (by first | rfl | (simp [rowA_nil]; done) | (simp only [rowA_eq]; rfl) | (simp_all [rowA_nil]; done))
theorem rcK_p1 (m d t s c x y k:Int)(hs:s≤9223372036854775807)(hcc:c≤9223372036854775807)(hc:ckX m d t s c=0)(hk:¬ (1≤k∧k≤5))(hq0:(ckX m d t s c==(0:Int))=true)(hq1:(decide (k<(1:Int)))=false)(hq2:(decide (k>(5:Int)))=true):KnownR Try.prog [] 30 [.val (.agg #[.int .i64 m,.int .i64 d,.int .i64 t,.int .i64 s,.int .i64 c]),.val (.int .i64 x),.val (.int .i64 y),.val (.int .i64 k)] (.tuple #[(.int .i64 ((0:Int))),(.int .i64 ((11:Int)))]) [] :=
 knownR_eq (v:=Value.tuple { toList:=[Value.int IntKind.i64 (0:Int),Value.int IntKind.i64 (11:Int)] }) (bs:=[]) (open_resD mix tabCb_ok (T:=tabCb) (fuel:=3000) (es:=[]) (ans:=[(0,.outs (Value.int IntKind.i64 (ckX m d t s c)) ([])),(1,.b 1),(2,.b 0),(5,.b 1)]) (log:=[(decide (k>(5:Int)))=true,(decide (k<(1:Int)))=false,(ckX m d t s c==(0:Int))=true,(GTab.lookD (tabCb) ((15:Nat)) ([D.val (Value.agg { toList:=[Value.int IntKind.i64 m,Value.int IntKind.i64 d,Value.int IntKind.i64 t,Value.int IntKind.i64 s,Value.int IntKind.i64 c] })]))=some (Value.int IntKind.i64 (ckX m d t s c),[])]) (by kernel_rfl) ⟨hq2,hq1,hq0,(rkD_at (m) (d) (t) (s) (c) (by first | rfl | assumption | omega | (simp; done) | (simp_all; done) | (simp_all; omega)) (by first | rfl | assumption | omega | (simp; done) | (simp_all; done) | (simp_all; omega))),trivial⟩ (by kernel_rfl)) (by first | rfl | (simp; done) | (simp_all; done)) (by first | rfl | (simp [rowA_nil]; done) | (simp only [rowA_eq]; rfl) | (simp_all [rowA_nil]; done))
set_option maxHeartbeats 8000000 in
theorem rcK (m d t s c x y k:Int)(hs:s≤9223372036854775807)(hcc:c≤9223372036854775807)(hc:ckX m d t s c=0)(hk:¬ (1≤k∧k≤5)):KnownR Try.prog [] 30 [.val (.agg #[.int .i64 m,.int .i64 d,.int .i64 t,.int .i64 s,.int .i64 c]),.val (.int .i64 x),.val (.int .i64 y),.val (.int .i64 k)] (.tuple #[(.int .i64 ((0:Int))),(.int .i64 ((11:Int)))]) []:=by
 have hq0:(ckX m d t s c==(0:Int))=true:=by
  rcases Bool.eq_false_or_eq_true (ckX m d t s c==(0:Int)) with h | h
  ·exact h
  ·exfalso; (first | (simp_all only [Bool.and_eq_true,Bool.not_eq_true',Bool.false_eq_true,Bool.true_eq_false,reduceCtorEq]; done) | (simp only [sx,sy,eq_self,ne_eq,IntKind.wrap_i64,wrapU64,Int.reduceLT] at * <;> first | with_reducible contradiction | omega) | omega | ((try simp only [sx,sy,eq_self,ne_eq,IntKind.wrap_i64,wrapU64,Int.reduceLT] at *) <;> omega) | (simp_all; done))
 rcases Bool.eq_false_or_eq_true (decide (k<(1:Int))) with hq1 | hq1
 ·
  exact rcK_p0 m d t s c x y k hs hcc hc hk hq0 hq1
 ·
  have hq2:(decide (k>(5:Int)))=true:=by
   rcases Bool.eq_false_or_eq_true (decide (k>(5:Int))) with h | h
   ·exact h
   ·exfalso; (first | (simp_all only [Bool.and_eq_true,Bool.not_eq_true',Bool.false_eq_true,Bool.true_eq_false,reduceCtorEq]; done) | (simp only [sx,sy,eq_self,ne_eq,IntKind.wrap_i64,wrapU64,Int.reduceLT] at * <;> first | with_reducible contradiction | omega) | omega | ((try simp only [sx,sy,eq_self,ne_eq,IntKind.wrap_i64,wrapU64,Int.reduceLT] at *) <;> omega) | (simp_all; done))
  exact rcK_p1 m d t s c x y k hs hcc hc hk hq0 hq1 hq2
theorem rcR_p0 (m d t s c x y k:Int)(hs:s≤9223372036854775807)(hcc:c≤9223372036854775807)(hc:ckX m d t s c=0)(hk:1≤k∧k≤5)(hr:¬ (0≤x∧x≤y∧y≤1099511627776))(hq0:(ckX m d t s c==(0:Int))=true)(hq1:(decide (k<(1:Int)))=false)(hq2:(decide (k>(5:Int)))=false)(hq3:(decide (x<(0:Int)))=true):KnownR Try.prog [] 30 [.val (.agg #[.int .i64 m,.int .i64 d,.int .i64 t,.int .i64 s,.int .i64 c]),.val (.int .i64 x),.val (.int .i64 y),.val (.int .i64 k)] (.tuple #[(.int .i64 ((0:Int))),(.int .i64 ((2:Int)))]) [] :=
 knownR_eq (v:=Value.tuple { toList:=[Value.int IntKind.i64 (0:Int),Value.int IntKind.i64 (2:Int)] }) (bs:=[]) (open_resD mix tabCb_ok (T:=tabCb) (fuel:=3000) (es:=[]) (ans:=[(0,.outs (Value.int IntKind.i64 (ckX m d t s c)) ([])),(1,.b 1),(2,.b 0),(5,.b 0),(9,.b 1)]) (log:=[(decide (x<(0:Int)))=true,(decide (k>(5:Int)))=false,(decide (k<(1:Int)))=false,(ckX m d t s c==(0:Int))=true,(GTab.lookD (tabCb) ((15:Nat)) ([D.val (Value.agg { toList:=[Value.int IntKind.i64 m,Value.int IntKind.i64 d,Value.int IntKind.i64 t,Value.int IntKind.i64 s,Value.int IntKind.i64 c] })]))=some (Value.int IntKind.i64 (ckX m d t s c),[])]) (by kernel_rfl) ⟨hq3,hq2,hq1,hq0,(rkD_at (m) (d) (t) (s) (c) (by first | rfl | assumption | omega | (simp; done) | (simp_all; done) | (simp_all; omega)) (by first | rfl | assumption | omega | (simp; done) | (simp_all; done) | (simp_all; omega))),trivial⟩ (by kernel_rfl)) (by first | rfl | (simp; done) | (simp_all; done)) (by first | rfl | (simp [rowA_nil]; done) | (simp only [rowA_eq]; rfl) | (simp_all [rowA_nil]; done))
theorem rcR_p1 (m d t s c x y k:Int)(hs:s≤9223372036854775807)(hcc:c≤9223372036854775807)(hc:ckX m d t s c=0)(hk:1≤k∧k≤5)(hr:¬ (0≤x∧x≤y∧y≤1099511627776))(hq0:(ckX m d t s c==(0:Int))=true)(hq1:(decide (k<(1:Int)))=false)(hq2:(decide (k>(5:Int)))=false)(hq3:(decide (x<(0:Int)))=false)(hq4:(decide (y<x))=true):KnownR Try.prog [] 30 [.val (.agg #[.int .i64 m,.int .i64 d,.int .i64 t,.int .i64 s,.int .i64 c]),.val (.int .i64 x),.val (.int .i64 y),.val (.int .i64 k)] (.tuple #[(.int .i64 ((0:Int))),(.int .i64 ((2:Int)))]) [] :=
 knownR_eq (v:=Value.tuple { toList:=[Value.int IntKind.i64 (0:Int),Value.int IntKind.i64 (2:Int)] }) (bs:=[]) (open_resD mix tabCb_ok (T:=tabCb) (fuel:=3000) (es:=[]) (ans:=[(0,.outs (Value.int IntKind.i64 (ckX m d t s c)) ([])),(1,.b 1),(2,.b 0),(5,.b 0),(9,.b 0),(15,.b 1)]) (log:=[(decide (y<x))=true,(decide (x<(0:Int)))=false,(decide (k>(5:Int)))=false,(decide (k<(1:Int)))=false,(ckX m d t s c==(0:Int))=true,(GTab.lookD (tabCb) ((15:Nat)) ([D.val (Value.agg { toList:=[Value.int IntKind.i64 m,Value.int IntKind.i64 d,Value.int IntKind.i64 t,Value.int IntKind.i64 s,Value.int IntKind.i64 c] })]))=some (Value.int IntKind.i64 (ckX m d t s c),[])]) (by kernel_rfl) ⟨hq4,hq3,hq2,hq1,hq0,(rkD_at (m) (d) (t) (s) (c) (by first | rfl | assumption | omega | (simp; done) | (simp_all; done) | (simp_all; omega)) (by first | rfl | assumption | omega | (simp; done) | (simp_all; done) | (simp_all; omega))),trivial⟩ (by kernel_rfl)) (by first | rfl | (simp; done) | (simp_all; done)) (by first | rfl | (simp [rowA_nil]; done) | (simp only [rowA_eq]; rfl) | (simp_all [rowA_nil]; done))
theorem rcR_p2 (m d t s c x y k:Int)(hs:s≤9223372036854775807)(hcc:c≤9223372036854775807)(hc:ckX m d t s c=0)(hk:1≤k∧k≤5)(hr:¬ (0≤x∧x≤y∧y≤1099511627776))(hq0:(ckX m d t s c==(0:Int))=true)(hq1:(decide (k<(1:Int)))=false)(hq2:(decide (k>(5:Int)))=false)(hq3:(decide (x<(0:Int)))=false)(hq4:(decide (y<x))=false)(hq5:(decide (y>(1099511627776:Int)))=true):KnownR Try.prog [] 30 [.val (.agg #[.int .i64 m,.int .i64 d,.int .i64 t,.int .i64 s,.int .i64 c]),.val (.int .i64 x),.val (.int .i64 y),.val (.int .i64 k)] (.tuple #[(.int .i64 ((0:Int))),(.int .i64 ((2:Int)))]) [] :=
 knownR_eq (v:=Value.tuple { toList:=[Value.int IntKind.i64 (0:Int),Value.int IntKind.i64 (2:Int)] }) (bs:=[]) (open_resD mix tabCb_ok (T:=tabCb) (fuel:=3000) (es:=[]) (ans:=[(0,.outs (Value.int IntKind.i64 (ckX m d t s c)) ([])),(1,.b 1),(2,.b 0),(5,.b 0),(9,.b 0),(15,.b 0),(20,.b 1)]) (log:=[(decide (y>(1099511627776:Int)))=true,(decide (y<x))=false,(decide (x<(0:Int)))=false,(decide (k>(5:Int)))=false,(decide (k<(1:Int)))=false,(ckX m d t s c==(0:Int))=true,(GTab.lookD (tabCb) ((15:Nat)) ([D.val (Value.agg { toList:=[Value.int IntKind.i64 m,Value.int IntKind.i64 d,Value.int IntKind.i64 t,Value.int IntKind.i64 s,Value.int IntKind.i64 c] })]))=some (Value.int IntKind.i64 (ckX m d t s c),[])]) (by kernel_rfl) ⟨hq5,hq4,hq3,hq2,hq1,hq0,(rkD_at (m) (d) (t) (s) (c) (by first | rfl | assumption | omega | (simp; done) | (simp_all; done) | (simp_all; omega)) (by first | rfl | assumption | omega | (simp; done) | (simp_all; done) | (simp_all; omega))),trivial⟩ (by kernel_rfl)) (by first | rfl | (simp; done) | (simp_all; done)) (by first | rfl | (simp [rowA_nil]; done) | (simp only [rowA_eq]; rfl) | (simp_all [rowA_nil]; done))
set_option maxHeartbeats 8000000 in
theorem rcR (m d t s c x y k:Int)(hs:s≤9223372036854775807)(hcc:c≤9223372036854775807)(hc:ckX m d t s c=0)(hk:1≤k∧k≤5)(hr:¬ (0≤x∧x≤y∧y≤1099511627776)):KnownR Try.prog [] 30 [.val (.agg #[.int .i64 m,.int .i64 d,.int .i64 t,.int .i64 s,.int .i64 c]),.val (.int .i64 x),.val (.int .i64 y),.val (.int .i64 k)] (.tuple #[(.int .i64 ((0:Int))),(.int .i64 ((2:Int)))]) []:=by
 have hq0:(ckX m d t s c==(0:Int))=true:=by
  rcases Bool.eq_false_or_eq_true (ckX m d t s c==(0:Int)) with h | h
  ·exact h
  ·exfalso; (first | (simp_all only [Bool.and_eq_true,Bool.not_eq_true',Bool.false_eq_true,Bool.true_eq_false,reduceCtorEq]; done) | (simp only [sx,sy,eq_self,ne_eq,IntKind.wrap_i64,wrapU64,Int.reduceLT] at * <;> first | with_reducible contradiction | omega) | omega | ((try simp only [sx,sy,eq_self,ne_eq,IntKind.wrap_i64,wrapU64,Int.reduceLT] at *) <;> omega) | (simp_all; done))
 have hq1:(decide (k<(1:Int)))=false:=by
  rcases Bool.eq_false_or_eq_true (decide (k<(1:Int))) with h | h
  ·exfalso; (first | (simp_all only [Bool.and_eq_true,Bool.not_eq_true',Bool.false_eq_true,Bool.true_eq_false,reduceCtorEq]; done) | (simp only [sx,sy,eq_self,ne_eq,IntKind.wrap_i64,wrapU64,Int.reduceLT] at * <;> first | with_reducible contradiction | omega) | omega | ((try simp only [sx,sy,eq_self,ne_eq,IntKind.wrap_i64,wrapU64,Int.reduceLT] at *) <;> omega) | (simp_all; done))
  ·exact h
 have hq2:(decide (k>(5:Int)))=false:=by
  rcases Bool.eq_false_or_eq_true (decide (k>(5:Int))) with h | h
  ·exfalso; (first | (simp_all only [Bool.and_eq_true,Bool.not_eq_true',Bool.false_eq_true,Bool.true_eq_false,reduceCtorEq]; done) | (simp only [sx,sy,eq_self,ne_eq,IntKind.wrap_i64,wrapU64,Int.reduceLT] at * <;> first | with_reducible contradiction | omega) | omega | ((try simp only [sx,sy,eq_self,ne_eq,IntKind.wrap_i64,wrapU64,Int.reduceLT] at *) <;> omega) | (simp_all; done))
  ·exact h
 rcases Bool.eq_false_or_eq_true (decide (x<(0:Int))) with hq3 | hq3
 ·
  exact rcR_p0 m d t s c x y k hs hcc hc hk hr hq0 hq1 hq2 hq3
 ·
  rcases Bool.eq_false_or_eq_true (decide (y<x)) with hq4 | hq4
  ·
   exact rcR_p1 m d t s c x y k hs hcc hc hk hr hq0 hq1 hq2 hq3 hq4
  ·
   have hq5:(decide (y>(1099511627776:Int)))=true:=by
    rcases Bool.eq_false_or_eq_true (decide (y>(1099511627776:Int))) with h | h
    ·exact h
    ·exfalso; (first | (simp_all only [Bool.and_eq_true,Bool.not_eq_true',Bool.false_eq_true,Bool.true_eq_false,reduceCtorEq]; done) | (simp only [sx,sy,eq_self,ne_eq,IntKind.wrap_i64,wrapU64,Int.reduceLT] at * <;> first | with_reducible contradiction | omega) | omega | ((try simp only [sx,sy,eq_self,ne_eq,IntKind.wrap_i64,wrapU64,Int.reduceLT] at *) <;> omega) | (simp_all; done))
   exact rcR_p2 m d t s c x y k hs hcc hc hk hr hq0 hq1 hq2 hq3 hq4 hq5
noncomputable def rcT_c0 (m d t s c x y k:Int):Int:=(IntKind.i64.wrap (bfV m d t s y k - bfV m d t s x k))
theorem rcT_p0 (m d t s c x y k:Int)(hs:s≤9223372036854775807)(hcc:c≤9223372036854775807)(hc:ckX m d t s c=0)(hk:1≤k∧k≤5)(h0:0≤x)(h1:x≤1099511627776)(h2:x≤y)(h3:0≤y)(h4:y≤1099511627776)(hq0:(ckX m d t s c==(0:Int))=true)(hq1:(decide (k<(1:Int)))=false)(hq2:(decide (k>(5:Int)))=false)(hq3:(decide (x<(0:Int)))=false)(hq4:(decide (y<x))=false)(hq5:(decide (y>(1099511627776:Int)))=false):KnownR Try.prog [] 30 [.val (.agg #[.int .i64 m,.int .i64 d,.int .i64 t,.int .i64 s,.int .i64 c]),.val (.int .i64 x),.val (.int .i64 y),.val (.int .i64 k)] (.tuple #[(.int .i64 (IntKind.i64.wrap (bfV m d t s y k - bfV m d t s x k))),(.int .i64 ((0:Int)))]) [] :=
 knownR_eq (v:=Value.tuple { toList:=[Value.int IntKind.i64 (IntKind.i64.wrap (bfV m d t s y k - bfV m d t s x k)),Value.int IntKind.i64 (0:Int)] }) (bs:=[]) (open_resD mix tabCb_ok (T:=tabCb) (fuel:=3000) (es:=[]) (ans:=[(0,.outs (Value.int IntKind.i64 (ckX m d t s c)) ([])),(1,.b 1),(2,.b 0),(5,.b 0),(9,.b 0),(15,.b 0),(20,.b 0),(22,.outs (Value.int IntKind.i64 (bfV m d t s y k)) ([])),(23,.outs (Value.int IntKind.i64 (bfV m d t s x k)) ([]))]) (log:=[(GTab.lookD (tabCb) ((51:Nat)) ([D.val (Value.agg { toList:=[Value.int IntKind.i64 m,Value.int IntKind.i64 d,Value.int IntKind.i64 t,Value.int IntKind.i64 s,Value.int IntKind.i64 c] }),D.val (Value.int IntKind.i64 x),D.val (Value.int IntKind.i64 k)]))=some (Value.int IntKind.i64 (bfV m d t s x k),[]),(GTab.lookD (tabCb) ((51:Nat)) ([D.val (Value.agg { toList:=[Value.int IntKind.i64 m,Value.int IntKind.i64 d,Value.int IntKind.i64 t,Value.int IntKind.i64 s,Value.int IntKind.i64 c] }),D.val (Value.int IntKind.i64 y),D.val (Value.int IntKind.i64 k)]))=some (Value.int IntKind.i64 (bfV m d t s y k),[]),(decide (y>(1099511627776:Int)))=false,(decide (y<x))=false,(decide (x<(0:Int)))=false,(decide (k>(5:Int)))=false,(decide (k<(1:Int)))=false,(ckX m d t s c==(0:Int))=true,(GTab.lookD (tabCb) ((15:Nat)) ([D.val (Value.agg { toList:=[Value.int IntKind.i64 m,Value.int IntKind.i64 d,Value.int IntKind.i64 t,Value.int IntKind.i64 s,Value.int IntKind.i64 c] })]))=some (Value.int IntKind.i64 (ckX m d t s c),[])]) (by kernel_rfl) ⟨(bfD_at (m) (d) (t) (s) (c) (x) (k) (by first | rfl | assumption | omega | (simp; done) | (simp_all; done) | (simp_all; omega)) (by first | rfl | assumption | omega | (simp; done) | (simp_all; done) | (simp_all; omega)) (by first | rfl | assumption | omega | (simp; done) | (simp_all; done) | (simp_all; omega)) (by first | rfl | assumption | omega | (simp; done) | (simp_all; done) | (simp_all; omega))),(bfD_at (m) (d) (t) (s) (c) (y) (k) (by first | rfl | assumption | omega | (simp; done) | (simp_all; done) | (simp_all; omega)) (by first | rfl | assumption | omega | (simp; done) | (simp_all; done) | (simp_all; omega)) (by first | rfl | assumption | omega | (simp; done) | (simp_all; done) | (simp_all; omega)) (by first | rfl | assumption | omega | (simp; done) | (simp_all; done) | (simp_all; omega))),hq5,hq4,hq3,hq2,hq1,hq0,(rkD_at (m) (d) (t) (s) (c) (by first | rfl | assumption | omega | (simp; done) | (simp_all; done) | (simp_all; omega)) (by first | rfl | assumption | omega | (simp; done) | (simp_all; done) | (simp_all; omega))),trivial⟩ (by kernel_rfl)) (by first | rfl | (simp; done) | (simp_all; done)) (by first | rfl | (simp [rowA_nil]; done) | (simp only [rowA_eq]; rfl) | (simp_all [rowA_nil]; done))
set_option maxHeartbeats 8000000 in
theorem rcT (m d t s c x y k:Int)(hs:s≤9223372036854775807)(hcc:c≤9223372036854775807)(hc:ckX m d t s c=0)(hk:1≤k∧k≤5)(h0:0≤x)(h1:x≤1099511627776)(h2:x≤y)(h3:0≤y)(h4:y≤1099511627776):KnownR Try.prog [] 30 [.val (.agg #[.int .i64 m,.int .i64 d,.int .i64 t,.int .i64 s,.int .i64 c]),.val (.int .i64 x),.val (.int .i64 y),.val (.int .i64 k)] (.tuple #[(.int .i64 (rcT_c0 m d t s c x y k)),(.int .i64 ((0:Int)))]) []:=by
 have hq0:(ckX m d t s c==(0:Int))=true:=by
  rcases Bool.eq_false_or_eq_true (ckX m d t s c==(0:Int)) with h | h
  ·exact h
  ·exfalso; (first | (simp_all only [Bool.and_eq_true,Bool.not_eq_true',Bool.false_eq_true,Bool.true_eq_false,reduceCtorEq]; done) | (simp only [sx,sy,eq_self,ne_eq,IntKind.wrap_i64,wrapU64,Int.reduceLT] at * <;> first | with_reducible contradiction | omega) | omega | ((try simp only [sx,sy,eq_self,ne_eq,IntKind.wrap_i64,wrapU64,Int.reduceLT] at *) <;> omega) | (simp_all; done))
 have hq1:(decide (k<(1:Int)))=false:=by
  rcases Bool.eq_false_or_eq_true (decide (k<(1:Int))) with h | h
  ·exfalso; (first | (simp_all only [Bool.and_eq_true,Bool.not_eq_true',Bool.false_eq_true,Bool.true_eq_false,reduceCtorEq]; done) | (simp only [sx,sy,eq_self,ne_eq,IntKind.wrap_i64,wrapU64,Int.reduceLT] at * <;> first | with_reducible contradiction | omega) | omega | ((try simp only [sx,sy,eq_self,ne_eq,IntKind.wrap_i64,wrapU64,Int.reduceLT] at *) <;> omega) | (simp_all; done))
  ·exact h
 have hq2:(decide (k>(5:Int)))=false:=by
  rcases Bool.eq_false_or_eq_true (decide (k>(5:Int))) with h | h
  ·exfalso; (first | (simp_all only [Bool.and_eq_true,Bool.not_eq_true',Bool.false_eq_true,Bool.true_eq_false,reduceCtorEq]; done) | (simp only [sx,sy,eq_self,ne_eq,IntKind.wrap_i64,wrapU64,Int.reduceLT] at * <;> first | with_reducible contradiction | omega) | omega | ((try simp only [sx,sy,eq_self,ne_eq,IntKind.wrap_i64,wrapU64,Int.reduceLT] at *) <;> omega) | (simp_all; done))
  ·exact h
 have hq3:(decide (x<(0:Int)))=false:=by
  rcases Bool.eq_false_or_eq_true (decide (x<(0:Int))) with h | h
  ·exfalso; (first | (simp_all only [Bool.and_eq_true,Bool.not_eq_true',Bool.false_eq_true,Bool.true_eq_false,reduceCtorEq]; done) | (simp only [sx,sy,eq_self,ne_eq,IntKind.wrap_i64,wrapU64,Int.reduceLT] at * <;> first | with_reducible contradiction | omega) | omega | ((try simp only [sx,sy,eq_self,ne_eq,IntKind.wrap_i64,wrapU64,Int.reduceLT] at *) <;> omega) | (simp_all; done))
  ·exact h
 have hq4:(decide (y<x))=false:=by
  rcases Bool.eq_false_or_eq_true (decide (y<x)) with h | h
  ·exfalso; (first | (simp_all only [Bool.and_eq_true,Bool.not_eq_true',Bool.false_eq_true,Bool.true_eq_false,reduceCtorEq]; done) | (simp only [sx,sy,eq_self,ne_eq,IntKind.wrap_i64,wrapU64,Int.reduceLT] at * <;> first | with_reducible contradiction | omega) | omega | ((try simp only [sx,sy,eq_self,ne_eq,IntKind.wrap_i64,wrapU64,Int.reduceLT] at *) <;> omega) | (simp_all; done))
  ·exact h
 have hq5:(decide (y>(1099511627776:Int)))=false:=by
  rcases Bool.eq_false_or_eq_true (decide (y>(1099511627776:Int))) with h | h
  ·exfalso; (first | (simp_all only [Bool.and_eq_true,Bool.not_eq_true',Bool.false_eq_true,Bool.true_eq_false,reduceCtorEq]; done) | (simp only [sx,sy,eq_self,ne_eq,IntKind.wrap_i64,wrapU64,Int.reduceLT] at * <;> first | with_reducible contradiction | omega) | omega | ((try simp only [sx,sy,eq_self,ne_eq,IntKind.wrap_i64,wrapU64,Int.reduceLT] at *) <;> omega) | (simp_all; done))
  ·exact h
 have e0:rcT_c0 m d t s c x y k=(IntKind.i64.wrap (bfV m d t s y k - bfV m d t s x k)):=rfl; rw [e0]; exact rcT_p0 m d t s c x y k hs hcc hc hk h0 h1 h2 h3 h4 hq0 hq1 hq2 hq3 hq4 hq5
end Go.Proofs.Ytaogbagopdlkmaa
