import Derived.Test.YtokpimghaladjaaLU
import Derived.ProofKit
import Derived.IntWalk
set_option linter.unnecessarySimpa false
set_option linter.unusedSimpArgs false
set_option linter.unusedVariables false
namespace Go.Proofs.Ytokpimghaladjaa
open Go Go.RowKit
set_option maxHeartbeats 8000000
set_option maxRecDepth 100000
noncomputable def mod_c0 (n m:Int):Int:=(bif (decide (m<(1:Int))) then ((0:Int)) else (bif (decide (n.tmod m<(0:Int))) then (IntKind.i64.wrap (n.tmod m+m)) else (n.tmod m)))
theorem mod_p0 (n m:Int)(hq0:(decide (m<(1:Int)))=true):Known Try.prog [] 38 [.int .i64 n,.int .i64 m] (.int .i64 ((0:Int))) :=
 open_res mix GOk.none (T:=GTab.none) (fuel:=3000) (ans:=[(0,.b 1)]) (log:=[(decide (m<(1:Int)))=true]) (by kernel_rfl) ⟨hq0,trivial⟩ (by kernel_rfl)
theorem mod_p1 (n m:Int)(hq0:(decide (m<(1:Int)))=false)(hq1:(m==(0:Int))=false)(hq2:(decide (n.tmod m<(0:Int)))=true):Known Try.prog [] 38 [.int .i64 n,.int .i64 m] (.int .i64 (IntKind.i64.wrap (n.tmod m+m))) :=
 open_res mix GOk.none (T:=GTab.none) (fuel:=3000) (ans:=[(0,.b 0),(1,.b 0),(2,.b 1)]) (log:=[(decide (n.tmod m<(0:Int)))=true,(m==(0:Int))=false,(decide (m<(1:Int)))=false]) (by kernel_rfl) ⟨hq2,hq1,hq0,trivial⟩ (by kernel_rfl)
theorem mod_p2 (n m:Int)(hq0:(decide (m<(1:Int)))=false)(hq1:(m==(0:Int))=false)(hq2:(decide (n.tmod m<(0:Int)))=false):Known Try.prog [] 38 [.int .i64 n,.int .i64 m] (.int .i64 (n.tmod m)) :=
 open_res mix GOk.none (T:=GTab.none) (fuel:=3000) (ans:=[(0,.b 0),(1,.b 0),(2,.b 0)]) (log:=[(decide (n.tmod m<(0:Int)))=false,(m==(0:Int))=false,(decide (m<(1:Int)))=false]) (by kernel_rfl) ⟨hq2,hq1,hq0,trivial⟩ (by kernel_rfl)
set_option maxHeartbeats 8000000 in
theorem mod (n m:Int): Known Try.prog [] 38 [.int .i64 n,.int .i64 m] (.int .i64 (mod_c0 n m)):=by
 rcases Bool.eq_false_or_eq_true (decide (m<(1:Int))) with hq0 | hq0
 ·
  have e0:mod_c0 n m=((0:Int)):=((bif_t hq0 _ _).trans rfl); rw [e0]; exact mod_p0 n m hq0
 ·
  have hq1:(m==(0:Int))=false:=by
   rcases Bool.eq_false_or_eq_true (m==(0:Int)) with h | h
   ·exfalso; (first | (simp_all only [Bool.and_eq_true,Bool.not_eq_true',Bool.false_eq_true,Bool.true_eq_false,reduceCtorEq]; done) | (simp only [sx,sy,eq_self,ne_eq,IntKind.wrap_i64,wrapU64,Int.reduceLT] at * <;> first | with_reducible contradiction | omega) | omega | ((try simp only [sx,sy,eq_self,ne_eq,IntKind.wrap_i64,wrapU64,Int.reduceLT] at *) <;> omega) | (simp_all; done))
   ·exact h
  rcases Bool.eq_false_or_eq_true (decide (n.tmod m<(0:Int))) with hq2 | hq2
  ·
   have e0:mod_c0 n m=(IntKind.i64.wrap (n.tmod m+m)):=((bif_f hq0 _ _).trans ((bif_t hq2 _ _).trans rfl)); rw [e0]; exact mod_p1 n m hq0 hq1 hq2
  ·
   have e0:mod_c0 n m=(n.tmod m):=((bif_f hq0 _ _).trans ((bif_f hq2 _ _).trans rfl)); rw [e0]; exact mod_p2 n m hq0 hq1 hq2
end Go.Proofs.Ytokpimghaladjaa
