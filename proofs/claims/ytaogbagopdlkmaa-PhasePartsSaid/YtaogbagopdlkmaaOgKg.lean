import Derived.Test.YtaogbagopdlkmaaOgI
import Derived.ProofKit
import Derived.IntWalk
set_option linter.unnecessarySimpa false
set_option linter.unusedSimpArgs false
set_option linter.unusedVariables false
namespace Go.Proofs.Ytaogbagopdlkmaa
open Go Go.RowKit
set_option maxHeartbeats 8000000
set_option maxRecDepth 100000
attribute [local irreducible] ckX trN slN
noncomputable def hbT_c0 (m d t s c k i:Int):Int:=(bif (k==(1:Int)) then ((0:Int)) else (bif (k==(2:Int)) then (IntKind.i64.wrap (m+IntKind.i64.wrap (i*t))) else (bif (k==(3:Int)) then (IntKind.i64.wrap (IntKind.i64.wrap (m+IntKind.i64.wrap (i*t))+m)) else (bif (k==(4:Int)) then (IntKind.i64.wrap (m+IntKind.i64.wrap (IntKind.i64.wrap (IntKind.i64.wrap ((IntKind.i64.wrap (s - m)).tdiv t) - (1:Int))*t))) else (IntKind.i64.wrap (IntKind.i64.wrap (m+IntKind.i64.wrap (IntKind.i64.wrap (IntKind.i64.wrap ((IntKind.i64.wrap (s - m)).tdiv t) - (1:Int))*t))+m))))))
theorem hbT_p0 (m d t s c k i:Int)(g4:(t==(0:Int))=false)(hq0:(k==(1:Int))=true):KnownR Try.prog [] 49 [.val (.agg #[.int .i64 m,.int .i64 d,.int .i64 t,.int .i64 s,.int .i64 c]),.val (.int .i64 k),.val (.int .i64 i)] (.int .i64 ((0:Int))) [] :=
 knownR_eq (v:=Value.int IntKind.i64 (0:Int)) (bs:=[]) (open_resD mix GOk.none (T:=GTab.none) (fuel:=3000) (es:=[]) (ans:=[(0,.b 1)]) (log:=[(k==(1:Int))=true]) (by kernel_rfl) ⟨hq0,trivial⟩ (by kernel_rfl)) (by first | rfl | (simp; done) | (simp_all; done)) (by first | rfl | (simp [rowA_nil]; done) | (simp only [rowA_eq]; rfl) | (simp_all [rowA_nil]; done))
theorem hbT_p1 (m d t s c k i:Int)(g4:(t==(0:Int))=false)(hq0:(k==(1:Int))=false)(hq1:(k==(2:Int))=true):KnownR Try.prog [] 49 [.val (.agg #[.int .i64 m,.int .i64 d,.int .i64 t,.int .i64 s,.int .i64 c]),.val (.int .i64 k),.val (.int .i64 i)] (.int .i64 (IntKind.i64.wrap (m+IntKind.i64.wrap (i*t)))) [] :=
 knownR_eq (v:=Value.int IntKind.i64 (IntKind.i64.wrap (m+IntKind.i64.wrap (i*t)))) (bs:=[]) (open_resD mix GOk.none (T:=GTab.none) (fuel:=3000) (es:=[]) (ans:=[(0,.b 0),(1,.b 1)]) (log:=[(k==(2:Int))=true,(k==(1:Int))=false]) (by kernel_rfl) ⟨hq1,hq0,trivial⟩ (by kernel_rfl)) (by first | rfl | (simp; done) | (simp_all; done)) (by first | rfl | (simp [rowA_nil]; done) | (simp only [rowA_eq]; rfl) | (simp_all [rowA_nil]; done))
theorem hbT_p2 (m d t s c k i:Int)(g4:(t==(0:Int))=false)(hq0:(k==(1:Int))=false)(hq1:(k==(2:Int))=false)(hq2:(k==(3:Int))=true):KnownR Try.prog [] 49 [.val (.agg #[.int .i64 m,.int .i64 d,.int .i64 t,.int .i64 s,.int .i64 c]),.val (.int .i64 k),.val (.int .i64 i)] (.int .i64 (IntKind.i64.wrap (IntKind.i64.wrap (m+IntKind.i64.wrap (i*t))+m))) [] :=
 knownR_eq (v:=Value.int IntKind.i64 (IntKind.i64.wrap (IntKind.i64.wrap (m+IntKind.i64.wrap (i*t))+m))) (bs:=[]) (open_resD mix GOk.none (T:=GTab.none) (fuel:=3000) (es:=[]) (ans:=[(0,.b 0),(1,.b 0),(2,.b 1)]) (log:=[(k==(3:Int))=true,(k==(2:Int))=false,(k==(1:Int))=false]) (by kernel_rfl) ⟨hq2,hq1,hq0,trivial⟩ (by kernel_rfl)) (by first | rfl | (simp; done) | (simp_all; done)) (by first | rfl | (simp [rowA_nil]; done) | (simp only [rowA_eq]; rfl) | (simp_all [rowA_nil]; done))
theorem hbT_p3 (m d t s c k i:Int)(g4:(t==(0:Int))=false)(hq0:(k==(1:Int))=false)(hq1:(k==(2:Int))=false)(hq2:(k==(3:Int))=false)(hq3:(k==(4:Int))=true)(hq4:(t==(0:Int))=false):KnownR Try.prog [] 49 [.val (.agg #[.int .i64 m,.int .i64 d,.int .i64 t,.int .i64 s,.int .i64 c]),.val (.int .i64 k),.val (.int .i64 i)] (.int .i64 (IntKind.i64.wrap (m+IntKind.i64.wrap (IntKind.i64.wrap (IntKind.i64.wrap ((IntKind.i64.wrap (s - m)).tdiv t) - (1:Int))*t)))) [] :=
 knownR_eq (v:=Value.int IntKind.i64 (IntKind.i64.wrap (m+IntKind.i64.wrap (IntKind.i64.wrap (IntKind.i64.wrap ((IntKind.i64.wrap (s - m)).tdiv t) - (1:Int))*t)))) (bs:=[]) (open_resD mix GOk.none (T:=GTab.none) (fuel:=3000) (es:=[]) (ans:=[(0,.b 0),(1,.b 0),(2,.b 0),(3,.b 1),(4,.b 0)]) (log:=[(t==(0:Int))=false,(k==(4:Int))=true,(k==(3:Int))=false,(k==(2:Int))=false,(k==(1:Int))=false]) (by kernel_rfl) ⟨hq4,hq3,hq2,hq1,hq0,trivial⟩ (by kernel_rfl)) (by first | rfl | (simp; done) | (simp_all; done)) (by first | rfl | (simp [rowA_nil]; done) | (simp only [rowA_eq]; rfl) | (simp_all [rowA_nil]; done))
theorem hbT_p4 (m d t s c k i:Int)(g4:(t==(0:Int))=false)(hq0:(k==(1:Int))=false)(hq1:(k==(2:Int))=false)(hq2:(k==(3:Int))=false)(hq3:(k==(4:Int))=false)(hq4:(t==(0:Int))=false):KnownR Try.prog [] 49 [.val (.agg #[.int .i64 m,.int .i64 d,.int .i64 t,.int .i64 s,.int .i64 c]),.val (.int .i64 k),.val (.int .i64 i)] (.int .i64 (IntKind.i64.wrap (IntKind.i64.wrap (m+IntKind.i64.wrap (IntKind.i64.wrap (IntKind.i64.wrap ((IntKind.i64.wrap (s - m)).tdiv t) - (1:Int))*t))+m))) [] :=
 knownR_eq (v:=Value.int IntKind.i64 (IntKind.i64.wrap (IntKind.i64.wrap (m+IntKind.i64.wrap (IntKind.i64.wrap (IntKind.i64.wrap ((IntKind.i64.wrap (s - m)).tdiv t) - (1:Int))*t))+m))) (bs:=[]) (open_resD mix GOk.none (T:=GTab.none) (fuel:=3000) (es:=[]) (ans:=[(0,.b 0),(1,.b 0),(2,.b 0),(3,.b 0),(4,.b 0)]) (log:=[(t==(0:Int))=false,(k==(4:Int))=false,(k==(3:Int))=false,(k==(2:Int))=false,(k==(1:Int))=false]) (by kernel_rfl) ⟨hq4,hq3,hq2,hq1,hq0,trivial⟩ (by kernel_rfl)) (by first | rfl | (simp; done) | (simp_all; done)) (by first | rfl | (simp [rowA_nil]; done) | (simp only [rowA_eq]; rfl) | (simp_all [rowA_nil]; done))
set_option maxHeartbeats 8000000 in
theorem hbT (m d t s c k i:Int)(g4:(t==(0:Int))=false):KnownR Try.prog [] 49 [.val (.agg #[.int .i64 m,.int .i64 d,.int .i64 t,.int .i64 s,.int .i64 c]),.val (.int .i64 k),.val (.int .i64 i)] (.int .i64 (hbT_c0 m d t s c k i)) []:=by
 rcases Bool.eq_false_or_eq_true (k==(1:Int)) with hq0 | hq0
 ·
  have e0:hbT_c0 m d t s c k i=((0:Int)):=((bif_t hq0 _ _).trans rfl); rw [e0]; exact hbT_p0 m d t s c k i g4 hq0
 ·
  rcases Bool.eq_false_or_eq_true (k==(2:Int)) with hq1 | hq1
  ·
   have e0:hbT_c0 m d t s c k i=(IntKind.i64.wrap (m+IntKind.i64.wrap (i*t))):=((bif_f hq0 _ _).trans ((bif_t hq1 _ _).trans rfl)); rw [e0]; exact hbT_p1 m d t s c k i g4 hq0 hq1
  ·
   rcases Bool.eq_false_or_eq_true (k==(3:Int)) with hq2 | hq2
   ·
    have e0:hbT_c0 m d t s c k i=(IntKind.i64.wrap (IntKind.i64.wrap (m+IntKind.i64.wrap (i*t))+m)):=((bif_f hq0 _ _).trans ((bif_f hq1 _ _).trans ((bif_t hq2 _ _).trans rfl))); rw [e0]; exact hbT_p2 m d t s c k i g4 hq0 hq1 hq2
   ·
    rcases Bool.eq_false_or_eq_true (k==(4:Int)) with hq3 | hq3
    ·
     have hq4:(t==(0:Int))=false:=by
      rcases Bool.eq_false_or_eq_true (t==(0:Int)) with h | h
      ·exfalso; (first | (simp_all only [Bool.and_eq_true,Bool.not_eq_true',Bool.false_eq_true,Bool.true_eq_false,reduceCtorEq]; done) | (simp only [sx,sy,eq_self,ne_eq,IntKind.wrap_i64,wrapU64,Int.reduceLT] at * <;> first | with_reducible contradiction | omega) | omega | ((try simp only [sx,sy,eq_self,ne_eq,IntKind.wrap_i64,wrapU64,Int.reduceLT] at *) <;> omega) | (simp_all; done))
      ·exact h
     have e0:hbT_c0 m d t s c k i=(IntKind.i64.wrap (m+IntKind.i64.wrap (IntKind.i64.wrap (IntKind.i64.wrap ((IntKind.i64.wrap (s - m)).tdiv t) - (1:Int))*t))):=((bif_f hq0 _ _).trans ((bif_f hq1 _ _).trans ((bif_f hq2 _ _).trans ((bif_t hq3 _ _).trans rfl)))); rw [e0]; exact hbT_p3 m d t s c k i g4 hq0 hq1 hq2 hq3 hq4
    ·
     have hq4:(t==(0:Int))=false:=by
      rcases Bool.eq_false_or_eq_true (t==(0:Int)) with h | h
      ·exfalso; (first | (simp_all only [Bool.and_eq_true,Bool.not_eq_true',Bool.false_eq_true,Bool.true_eq_false,reduceCtorEq]; done) | (simp only [sx,sy,eq_self,ne_eq,IntKind.wrap_i64,wrapU64,Int.reduceLT] at * <;> first | with_reducible contradiction | omega) | omega | ((try simp only [sx,sy,eq_self,ne_eq,IntKind.wrap_i64,wrapU64,Int.reduceLT] at *) <;> omega) | (simp_all; done))
      ·exact h
     have e0:hbT_c0 m d t s c k i=(IntKind.i64.wrap (IntKind.i64.wrap (m+IntKind.i64.wrap (IntKind.i64.wrap (IntKind.i64.wrap ((IntKind.i64.wrap (s - m)).tdiv t) - (1:Int))*t))+m)):=((bif_f hq0 _ _).trans ((bif_f hq1 _ _).trans ((bif_f hq2 _ _).trans ((bif_f hq3 _ _).trans rfl)))); rw [e0]; exact hbT_p4 m d t s c k i g4 hq0 hq1 hq2 hq3 hq4
noncomputable def htT_c0 (m d t s c:Int):Int:=(IntKind.i64.wrap (IntKind.i64.wrap ((IntKind.i64.wrap (s - m)).tdiv t) - (1:Int)))
theorem htT_p0 (m d t s c:Int)(g4:(t==(0:Int))=false)(hq0:(t==(0:Int))=false):KnownR Try.prog [] 38 [.val (.agg #[.int .i64 m,.int .i64 d,.int .i64 t,.int .i64 s,.int .i64 c])] (.int .i64 (IntKind.i64.wrap (IntKind.i64.wrap ((IntKind.i64.wrap (s - m)).tdiv t) - (1:Int)))) [] :=
 knownR_eq (v:=Value.int IntKind.i64 (IntKind.i64.wrap (IntKind.i64.wrap ((IntKind.i64.wrap (s - m)).tdiv t) - (1:Int)))) (bs:=[]) (open_resD mix GOk.none (T:=GTab.none) (fuel:=3000) (es:=[]) (ans:=[(0,.b 0)]) (log:=[(t==(0:Int))=false]) (by kernel_rfl) ⟨hq0,trivial⟩ (by kernel_rfl)) (by first | rfl | (simp; done) | (simp_all; done)) (by first | rfl | (simp [rowA_nil]; done) | (simp only [rowA_eq]; rfl) | (simp_all [rowA_nil]; done))
set_option maxHeartbeats 8000000 in
theorem htT (m d t s c:Int)(g4:(t==(0:Int))=false):KnownR Try.prog [] 38 [.val (.agg #[.int .i64 m,.int .i64 d,.int .i64 t,.int .i64 s,.int .i64 c])] (.int .i64 (htT_c0 m d t s c)) []:=by
 have hq0:(t==(0:Int))=false:=by
  rcases Bool.eq_false_or_eq_true (t==(0:Int)) with h | h
  ·exfalso; (first | (simp_all only [Bool.and_eq_true,Bool.not_eq_true',Bool.false_eq_true,Bool.true_eq_false,reduceCtorEq]; done) | (simp only [sx,sy,eq_self,ne_eq,IntKind.wrap_i64,wrapU64,Int.reduceLT] at * <;> first | with_reducible contradiction | omega) | omega | ((try simp only [sx,sy,eq_self,ne_eq,IntKind.wrap_i64,wrapU64,Int.reduceLT] at *) <;> omega) | (simp_all; done))
  ·exact h
 have e0:htT_c0 m d t s c=(IntKind.i64.wrap (IntKind.i64.wrap ((IntKind.i64.wrap (s - m)).tdiv t) - (1:Int))):=rfl; rw [e0]; exact htT_p0 m d t s c g4 hq0
noncomputable def hlT_c0 (m d t s c k:Int):Int:=(bif (k==(3:Int)) then (d) else (bif (k==(5:Int)) then (d) else (m)))
theorem hlT_p0 (m d t s c k:Int)(hq0:(k==(3:Int))=true):KnownR Try.prog [] 48 [.val (.agg #[.int .i64 m,.int .i64 d,.int .i64 t,.int .i64 s,.int .i64 c]),.val (.int .i64 k)] (.int .i64 (d)) [] :=
 knownR_eq (v:=Value.int IntKind.i64 d) (bs:=[]) (open_resD mix GOk.none (T:=GTab.none) (fuel:=3000) (es:=[]) (ans:=[(0,.b 1)]) (log:=[(k==(3:Int))=true]) (by kernel_rfl) ⟨hq0,trivial⟩ (by kernel_rfl)) (by first | rfl | (simp; done) | (simp_all; done)) (by first | rfl | (simp [rowA_nil]; done) | (simp only [rowA_eq]; rfl) | (simp_all [rowA_nil]; done))
theorem hlT_p1 (m d t s c k:Int)(hq0:(k==(3:Int))=false)(hq1:(k==(5:Int))=true):KnownR Try.prog [] 48 [.val (.agg #[.int .i64 m,.int .i64 d,.int .i64 t,.int .i64 s,.int .i64 c]),.val (.int .i64 k)] (.int .i64 (d)) [] :=
 knownR_eq (v:=Value.int IntKind.i64 d) (bs:=[]) (open_resD mix GOk.none (T:=GTab.none) (fuel:=3000) (es:=[]) (ans:=[(0,.b 0),(3,.b 1)]) (log:=[(k==(5:Int))=true,(k==(3:Int))=false]) (by kernel_rfl) ⟨hq1,hq0,trivial⟩ (by kernel_rfl)) (by first | rfl | (simp; done) | (simp_all; done)) (by first | rfl | (simp [rowA_nil]; done) | (simp only [rowA_eq]; rfl) | (simp_all [rowA_nil]; done))
theorem hlT_p2 (m d t s c k:Int)(hq0:(k==(3:Int))=false)(hq1:(k==(5:Int))=false):KnownR Try.prog [] 48 [.val (.agg #[.int .i64 m,.int .i64 d,.int .i64 t,.int .i64 s,.int .i64 c]),.val (.int .i64 k)] (.int .i64 (m)) [] :=
 knownR_eq (v:=Value.int IntKind.i64 m) (bs:=[]) (open_resD mix GOk.none (T:=GTab.none) (fuel:=3000) (es:=[]) (ans:=[(0,.b 0),(3,.b 0)]) (log:=[(k==(5:Int))=false,(k==(3:Int))=false]) (by kernel_rfl) ⟨hq1,hq0,trivial⟩ (by kernel_rfl)) (by first | rfl | (simp; done) | (simp_all; done)) (by first | rfl | (simp [rowA_nil]; done) | (simp only [rowA_eq]; rfl) | (simp_all [rowA_nil]; done))
set_option maxHeartbeats 8000000 in
theorem hlT (m d t s c k:Int): KnownR Try.prog [] 48 [.val (.agg #[.int .i64 m,.int .i64 d,.int .i64 t,.int .i64 s,.int .i64 c]),.val (.int .i64 k)] (.int .i64 (hlT_c0 m d t s c k)) []:=by
 rcases Bool.eq_false_or_eq_true (k==(3:Int)) with hq0 | hq0
 ·
  have e0:hlT_c0 m d t s c k=(d):=((bif_t hq0 _ _).trans rfl); rw [e0]; exact hlT_p0 m d t s c k hq0
 ·
  rcases Bool.eq_false_or_eq_true (k==(5:Int)) with hq1 | hq1
  ·
   have e0:hlT_c0 m d t s c k=(d):=((bif_f hq0 _ _).trans ((bif_t hq1 _ _).trans rfl)); rw [e0]; exact hlT_p1 m d t s c k hq0 hq1
  ·
   have e0:hlT_c0 m d t s c k=(m):=((bif_f hq0 _ _).trans ((bif_f hq1 _ _).trans rfl)); rw [e0]; exact hlT_p2 m d t s c k hq0 hq1
noncomputable def hiT_c0 (k:Int):Bool:=(bif (k==(2:Int)) then (true) else (k==(3:Int)))
theorem hiT_p0 (k:Int)(hq0:(k==(2:Int))=true):KnownR Try.prog [] 47 [.val (.int .i64 k)] (.bool (true)) [] :=
 knownR_eq (v:=Value.bool true) (bs:=[]) (open_resD mix GOk.none (T:=GTab.none) (fuel:=3000) (es:=[]) (ans:=[(0,.b 1)]) (log:=[(k==(2:Int))=true]) (by kernel_rfl) ⟨hq0,trivial⟩ (by kernel_rfl)) (by first | rfl | (simp; done) | (simp_all; done)) (by first | rfl | (simp [rowA_nil]; done) | (simp only [rowA_eq]; rfl) | (simp_all [rowA_nil]; done))
theorem hiT_p1 (k:Int)(hq0:(k==(2:Int))=false):KnownR Try.prog [] 47 [.val (.int .i64 k)] (.bool (k==(3:Int))) [] :=
 knownR_eq (v:=Value.bool (k==(3:Int))) (bs:=[]) (open_resD mix GOk.none (T:=GTab.none) (fuel:=3000) (es:=[]) (ans:=[(0,.b 0)]) (log:=[(k==(2:Int))=false]) (by kernel_rfl) ⟨hq0,trivial⟩ (by kernel_rfl)) (by first | rfl | (simp; done) | (simp_all; done)) (by first | rfl | (simp [rowA_nil]; done) | (simp only [rowA_eq]; rfl) | (simp_all [rowA_nil]; done))
set_option maxHeartbeats 8000000 in
theorem hiT (k:Int): KnownR Try.prog [] 47 [.val (.int .i64 k)] (.bool (hiT_c0 k)) []:=by
 rcases Bool.eq_false_or_eq_true (k==(2:Int)) with hq0 | hq0
 ·
  have e0:hiT_c0 k=(true):=((bif_t hq0 _ _).trans rfl); rw [e0]; exact hiT_p0 k hq0
 ·
  have e0:hiT_c0 k=(k==(3:Int)):=((bif_f hq0 _ _).trans rfl); rw [e0]; exact hiT_p1 k hq0
noncomputable def hbV (m d t s c k i:Int):Int:=hbT_c0 m d t s c k i
noncomputable def htV (m d t s c:Int):Int:=htT_c0 m d t s c
noncomputable def hlV (m d t s c k:Int):Int:=hlT_c0 m d t s c k
noncomputable def hiV (k:Int):Bool:=hiT_c0 k
theorem hbK (m d t s c k i:Int)(g4:(t==(0:Int))=false):KnownR Try.prog [] 49 [.val (.agg #[.int .i64 m,.int .i64 d,.int .i64 t,.int .i64 s,.int .i64 c]),.val (.int .i64 k),.val (.int .i64 i)] (.int .i64 (hbV m d t s c k i)) []:=hbT m d t s c k i g4
theorem htK (m d t s c:Int)(g4:(t==(0:Int))=false):KnownR Try.prog [] 38 [.val (.agg #[.int .i64 m,.int .i64 d,.int .i64 t,.int .i64 s,.int .i64 c])] (.int .i64 (htV m d t s c)) []:=htT m d t s c g4
theorem hlK (m d t s c k:Int):KnownR Try.prog [] 48 [.val (.agg #[.int .i64 m,.int .i64 d,.int .i64 t,.int .i64 s,.int .i64 c]),.val (.int .i64 k)] (.int .i64 (hlV m d t s c k)) []:=hlT m d t s c k
theorem hiK (k:Int):KnownR Try.prog [] 47 [.val (.int .i64 k)] (.bool (hiV k)) []:=hiT k
end Go.Proofs.Ytaogbagopdlkmaa
