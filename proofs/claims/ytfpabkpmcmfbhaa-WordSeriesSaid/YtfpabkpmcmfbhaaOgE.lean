import Derived.Test.YtfpabkpmcmfbhaaLU
import Derived.ProofKit
import Derived.IntWalk
set_option linter.unnecessarySimpa false
set_option linter.unusedSimpArgs false
set_option linter.unusedVariables false
namespace Go.Proofs.Ytfpabkpmcmfbhaa
open Go Go.RowKit
set_option maxHeartbeats 8000000
set_option maxRecDepth 100000
noncomputable def pe_c0 (a b c:Int)(d:ByteArray)(e f g k:Int):Int:=(bif (b != (1:Int)) then (bif (b != (2:Int)) then ((11:Int)) else (bif (f==(1:Int)) then (bif (decide (e≥(1:Int))) then (bif (!decide (e≤k)) then ((2:Int)) else (bif (decide (g≥(0:Int))) then (bif (!decide (g≤(10000:Int))) then ((2:Int)) else ((0:Int))) else ((2:Int)))) else ((2:Int))) else (bif (decide (e≥(1:Int))) then (bif (!decide (e≤k)) then ((2:Int)) else (bif (decide (f≥(1:Int))) then (bif (!decide (f≤(6:Int))) then ((2:Int)) else (bif (decide (g≥(0:Int))) then (bif (!decide (g≤(0:Int))) then ((2:Int)) else ((0:Int))) else ((2:Int)))) else ((2:Int)))) else ((2:Int))))) else ((0:Int)))
theorem pe_p0 (a b c:Int)(d:ByteArray)(e f g k:Int)(hq0:(b != (1:Int))=true)(hq1:(b != (2:Int))=true):Known Try.prog [] 42 [.agg #[.int .i64 a,.int .i64 b,.int .i64 c,.string d,.int .i64 e,.int .i64 f,.int .i64 g],.int .i64 k] (.int .i64 ((11:Int))) :=
 open_res mix GOk.none (T:=GTab.none) (fuel:=3000) (ans:=[(0,.b 1),(4,.b 1)]) (log:=[(b != (2:Int))=true,(b != (1:Int))=true]) (by kernel_rfl) ⟨hq1,hq0,trivial⟩ (by kernel_rfl)
theorem pe_p1 (a b c:Int)(d:ByteArray)(e f g k:Int)(hq0:(b != (1:Int))=true)(hq1:(b != (2:Int))=false)(hq2:(f==(1:Int))=true)(hq3:(b==(2:Int))=true)(hq4:(decide (e≥(1:Int)))=true)(hq5:(!decide (e≤k))=true):Known Try.prog [] 42 [.agg #[.int .i64 a,.int .i64 b,.int .i64 c,.string d,.int .i64 e,.int .i64 f,.int .i64 g],.int .i64 k] (.int .i64 ((2:Int))) :=
 open_res mix GOk.none (T:=GTab.none) (fuel:=3000) (ans:=[(0,.b 1),(4,.b 0),(5,.b 1),(6,.b 1),(10,.b 1),(16,.b 1)]) (log:=[(!decide (e≤k))=true,(decide (e≥(1:Int)))=true,(b==(2:Int))=true,(f==(1:Int))=true,(b != (2:Int))=false,(b != (1:Int))=true]) (by kernel_rfl) ⟨hq5,hq4,hq3,hq2,hq1,hq0,trivial⟩ (by kernel_rfl)
theorem pe_p2 (a b c:Int)(d:ByteArray)(e f g k:Int)(hq0:(b != (1:Int))=true)(hq1:(b != (2:Int))=false)(hq2:(f==(1:Int))=true)(hq3:(b==(2:Int))=true)(hq4:(decide (e≥(1:Int)))=true)(hq5:(!decide (e≤k))=false)(hq6:(decide (f≥(1:Int)))=true)(hq7:(!decide (f≤(6:Int)))=false)(hq8:(decide (g≥(0:Int)))=true)(hq9:(!decide (g≤(10000:Int)))=true):Known Try.prog [] 42 [.agg #[.int .i64 a,.int .i64 b,.int .i64 c,.string d,.int .i64 e,.int .i64 f,.int .i64 g],.int .i64 k] (.int .i64 ((2:Int))) :=
 open_res mix GOk.none (T:=GTab.none) (fuel:=3000) (ans:=[(0,.b 1),(4,.b 0),(5,.b 1),(6,.b 1),(10,.b 1),(16,.b 0),(19,.b 1),(27,.b 0),(31,.b 1),(39,.b 1)]) (log:=[(!decide (g≤(10000:Int)))=true,(decide (g≥(0:Int)))=true,(!decide (f≤(6:Int)))=false,(decide (f≥(1:Int)))=true,(!decide (e≤k))=false,(decide (e≥(1:Int)))=true,(b==(2:Int))=true,(f==(1:Int))=true,(b != (2:Int))=false,(b != (1:Int))=true]) (by kernel_rfl) ⟨hq9,hq8,hq7,hq6,hq5,hq4,hq3,hq2,hq1,hq0,trivial⟩ (by kernel_rfl)
theorem pe_p3 (a b c:Int)(d:ByteArray)(e f g k:Int)(hq0:(b != (1:Int))=true)(hq1:(b != (2:Int))=false)(hq2:(f==(1:Int))=true)(hq3:(b==(2:Int))=true)(hq4:(decide (e≥(1:Int)))=true)(hq5:(!decide (e≤k))=false)(hq6:(decide (f≥(1:Int)))=true)(hq7:(!decide (f≤(6:Int)))=false)(hq8:(decide (g≥(0:Int)))=true)(hq9:(!decide (g≤(10000:Int)))=false):Known Try.prog [] 42 [.agg #[.int .i64 a,.int .i64 b,.int .i64 c,.string d,.int .i64 e,.int .i64 f,.int .i64 g],.int .i64 k] (.int .i64 ((0:Int))) :=
 open_res mix GOk.none (T:=GTab.none) (fuel:=3000) (ans:=[(0,.b 1),(4,.b 0),(5,.b 1),(6,.b 1),(10,.b 1),(16,.b 0),(19,.b 1),(27,.b 0),(31,.b 1),(39,.b 0)]) (log:=[(!decide (g≤(10000:Int)))=false,(decide (g≥(0:Int)))=true,(!decide (f≤(6:Int)))=false,(decide (f≥(1:Int)))=true,(!decide (e≤k))=false,(decide (e≥(1:Int)))=true,(b==(2:Int))=true,(f==(1:Int))=true,(b != (2:Int))=false,(b != (1:Int))=true]) (by kernel_rfl) ⟨hq9,hq8,hq7,hq6,hq5,hq4,hq3,hq2,hq1,hq0,trivial⟩ (by kernel_rfl)
theorem pe_p4 (a b c:Int)(d:ByteArray)(e f g k:Int)(hq0:(b != (1:Int))=true)(hq1:(b != (2:Int))=false)(hq2:(f==(1:Int))=true)(hq3:(b==(2:Int))=true)(hq4:(decide (e≥(1:Int)))=true)(hq5:(!decide (e≤k))=false)(hq6:(decide (f≥(1:Int)))=true)(hq7:(!decide (f≤(6:Int)))=false)(hq8:(decide (g≥(0:Int)))=false):Known Try.prog [] 42 [.agg #[.int .i64 a,.int .i64 b,.int .i64 c,.string d,.int .i64 e,.int .i64 f,.int .i64 g],.int .i64 k] (.int .i64 ((2:Int))) :=
 open_res mix GOk.none (T:=GTab.none) (fuel:=3000) (ans:=[(0,.b 1),(4,.b 0),(5,.b 1),(6,.b 1),(10,.b 1),(16,.b 0),(19,.b 1),(27,.b 0),(31,.b 0)]) (log:=[(decide (g≥(0:Int)))=false,(!decide (f≤(6:Int)))=false,(decide (f≥(1:Int)))=true,(!decide (e≤k))=false,(decide (e≥(1:Int)))=true,(b==(2:Int))=true,(f==(1:Int))=true,(b != (2:Int))=false,(b != (1:Int))=true]) (by kernel_rfl) ⟨hq8,hq7,hq6,hq5,hq4,hq3,hq2,hq1,hq0,trivial⟩ (by kernel_rfl)
theorem pe_p5 (a b c:Int)(d:ByteArray)(e f g k:Int)(hq0:(b != (1:Int))=true)(hq1:(b != (2:Int))=false)(hq2:(f==(1:Int))=true)(hq3:(b==(2:Int))=true)(hq4:(decide (e≥(1:Int)))=false):Known Try.prog [] 42 [.agg #[.int .i64 a,.int .i64 b,.int .i64 c,.string d,.int .i64 e,.int .i64 f,.int .i64 g],.int .i64 k] (.int .i64 ((2:Int))) :=
 open_res mix GOk.none (T:=GTab.none) (fuel:=3000) (ans:=[(0,.b 1),(4,.b 0),(5,.b 1),(6,.b 1),(10,.b 0)]) (log:=[(decide (e≥(1:Int)))=false,(b==(2:Int))=true,(f==(1:Int))=true,(b != (2:Int))=false,(b != (1:Int))=true]) (by kernel_rfl) ⟨hq4,hq3,hq2,hq1,hq0,trivial⟩ (by kernel_rfl)
theorem pe_p6 (a b c:Int)(d:ByteArray)(e f g k:Int)(hq0:(b != (1:Int))=true)(hq1:(b != (2:Int))=false)(hq2:(f==(1:Int))=false)(hq3:(b==(2:Int))=true)(hq4:(decide (e≥(1:Int)))=true)(hq5:(!decide (e≤k))=true):Known Try.prog [] 42 [.agg #[.int .i64 a,.int .i64 b,.int .i64 c,.string d,.int .i64 e,.int .i64 f,.int .i64 g],.int .i64 k] (.int .i64 ((2:Int))) :=
 open_res mix GOk.none (T:=GTab.none) (fuel:=3000) (ans:=[(0,.b 1),(4,.b 0),(5,.b 0),(6,.b 1),(10,.b 1),(16,.b 1)]) (log:=[(!decide (e≤k))=true,(decide (e≥(1:Int)))=true,(b==(2:Int))=true,(f==(1:Int))=false,(b != (2:Int))=false,(b != (1:Int))=true]) (by kernel_rfl) ⟨hq5,hq4,hq3,hq2,hq1,hq0,trivial⟩ (by kernel_rfl)
theorem pe_p7 (a b c:Int)(d:ByteArray)(e f g k:Int)(hq0:(b != (1:Int))=true)(hq1:(b != (2:Int))=false)(hq2:(f==(1:Int))=false)(hq3:(b==(2:Int))=true)(hq4:(decide (e≥(1:Int)))=true)(hq5:(!decide (e≤k))=false)(hq6:(decide (f≥(1:Int)))=true)(hq7:(!decide (f≤(6:Int)))=true):Known Try.prog [] 42 [.agg #[.int .i64 a,.int .i64 b,.int .i64 c,.string d,.int .i64 e,.int .i64 f,.int .i64 g],.int .i64 k] (.int .i64 ((2:Int))) :=
 open_res mix GOk.none (T:=GTab.none) (fuel:=3000) (ans:=[(0,.b 1),(4,.b 0),(5,.b 0),(6,.b 1),(10,.b 1),(16,.b 0),(19,.b 1),(27,.b 1)]) (log:=[(!decide (f≤(6:Int)))=true,(decide (f≥(1:Int)))=true,(!decide (e≤k))=false,(decide (e≥(1:Int)))=true,(b==(2:Int))=true,(f==(1:Int))=false,(b != (2:Int))=false,(b != (1:Int))=true]) (by kernel_rfl) ⟨hq7,hq6,hq5,hq4,hq3,hq2,hq1,hq0,trivial⟩ (by kernel_rfl)
theorem pe_p8 (a b c:Int)(d:ByteArray)(e f g k:Int)(hq0:(b != (1:Int))=true)(hq1:(b != (2:Int))=false)(hq2:(f==(1:Int))=false)(hq3:(b==(2:Int))=true)(hq4:(decide (e≥(1:Int)))=true)(hq5:(!decide (e≤k))=false)(hq6:(decide (f≥(1:Int)))=true)(hq7:(!decide (f≤(6:Int)))=false)(hq8:(decide (g≥(0:Int)))=true)(hq10:(!decide (g≤(0:Int)))=true):Known Try.prog [] 42 [.agg #[.int .i64 a,.int .i64 b,.int .i64 c,.string d,.int .i64 e,.int .i64 f,.int .i64 g],.int .i64 k] (.int .i64 ((2:Int))) :=
 open_res mix GOk.none (T:=GTab.none) (fuel:=3000) (ans:=[(0,.b 1),(4,.b 0),(5,.b 0),(6,.b 1),(10,.b 1),(16,.b 0),(19,.b 1),(27,.b 0),(31,.b 1),(39,.b 1)]) (log:=[(!decide (g≤(0:Int)))=true,(decide (g≥(0:Int)))=true,(!decide (f≤(6:Int)))=false,(decide (f≥(1:Int)))=true,(!decide (e≤k))=false,(decide (e≥(1:Int)))=true,(b==(2:Int))=true,(f==(1:Int))=false,(b != (2:Int))=false,(b != (1:Int))=true]) (by kernel_rfl) ⟨hq10,hq8,hq7,hq6,hq5,hq4,hq3,hq2,hq1,hq0,trivial⟩ (by kernel_rfl)
theorem pe_p9 (a b c:Int)(d:ByteArray)(e f g k:Int)(hq0:(b != (1:Int))=true)(hq1:(b != (2:Int))=false)(hq2:(f==(1:Int))=false)(hq3:(b==(2:Int))=true)(hq4:(decide (e≥(1:Int)))=true)(hq5:(!decide (e≤k))=false)(hq6:(decide (f≥(1:Int)))=true)(hq7:(!decide (f≤(6:Int)))=false)(hq8:(decide (g≥(0:Int)))=true)(hq10:(!decide (g≤(0:Int)))=false):Known Try.prog [] 42 [.agg #[.int .i64 a,.int .i64 b,.int .i64 c,.string d,.int .i64 e,.int .i64 f,.int .i64 g],.int .i64 k] (.int .i64 ((0:Int))) :=
 open_res mix GOk.none (T:=GTab.none) (fuel:=3000) (ans:=[(0,.b 1),(4,.b 0),(5,.b 0),(6,.b 1),(10,.b 1),(16,.b 0),(19,.b 1),(27,.b 0),(31,.b 1),(39,.b 0)]) (log:=[(!decide (g≤(0:Int)))=false,(decide (g≥(0:Int)))=true,(!decide (f≤(6:Int)))=false,(decide (f≥(1:Int)))=true,(!decide (e≤k))=false,(decide (e≥(1:Int)))=true,(b==(2:Int))=true,(f==(1:Int))=false,(b != (2:Int))=false,(b != (1:Int))=true]) (by kernel_rfl) ⟨hq10,hq8,hq7,hq6,hq5,hq4,hq3,hq2,hq1,hq0,trivial⟩ (by kernel_rfl)
theorem pe_p10 (a b c:Int)(d:ByteArray)(e f g k:Int)(hq0:(b != (1:Int))=true)(hq1:(b != (2:Int))=false)(hq2:(f==(1:Int))=false)(hq3:(b==(2:Int))=true)(hq4:(decide (e≥(1:Int)))=true)(hq5:(!decide (e≤k))=false)(hq6:(decide (f≥(1:Int)))=true)(hq7:(!decide (f≤(6:Int)))=false)(hq8:(decide (g≥(0:Int)))=false):Known Try.prog [] 42 [.agg #[.int .i64 a,.int .i64 b,.int .i64 c,.string d,.int .i64 e,.int .i64 f,.int .i64 g],.int .i64 k] (.int .i64 ((2:Int))) :=
 open_res mix GOk.none (T:=GTab.none) (fuel:=3000) (ans:=[(0,.b 1),(4,.b 0),(5,.b 0),(6,.b 1),(10,.b 1),(16,.b 0),(19,.b 1),(27,.b 0),(31,.b 0)]) (log:=[(decide (g≥(0:Int)))=false,(!decide (f≤(6:Int)))=false,(decide (f≥(1:Int)))=true,(!decide (e≤k))=false,(decide (e≥(1:Int)))=true,(b==(2:Int))=true,(f==(1:Int))=false,(b != (2:Int))=false,(b != (1:Int))=true]) (by kernel_rfl) ⟨hq8,hq7,hq6,hq5,hq4,hq3,hq2,hq1,hq0,trivial⟩ (by kernel_rfl)
theorem pe_p11 (a b c:Int)(d:ByteArray)(e f g k:Int)(hq0:(b != (1:Int))=true)(hq1:(b != (2:Int))=false)(hq2:(f==(1:Int))=false)(hq3:(b==(2:Int))=true)(hq4:(decide (e≥(1:Int)))=true)(hq5:(!decide (e≤k))=false)(hq6:(decide (f≥(1:Int)))=false):Known Try.prog [] 42 [.agg #[.int .i64 a,.int .i64 b,.int .i64 c,.string d,.int .i64 e,.int .i64 f,.int .i64 g],.int .i64 k] (.int .i64 ((2:Int))) :=
 open_res mix GOk.none (T:=GTab.none) (fuel:=3000) (ans:=[(0,.b 1),(4,.b 0),(5,.b 0),(6,.b 1),(10,.b 1),(16,.b 0),(19,.b 0)]) (log:=[(decide (f≥(1:Int)))=false,(!decide (e≤k))=false,(decide (e≥(1:Int)))=true,(b==(2:Int))=true,(f==(1:Int))=false,(b != (2:Int))=false,(b != (1:Int))=true]) (by kernel_rfl) ⟨hq6,hq5,hq4,hq3,hq2,hq1,hq0,trivial⟩ (by kernel_rfl)
theorem pe_p12 (a b c:Int)(d:ByteArray)(e f g k:Int)(hq0:(b != (1:Int))=true)(hq1:(b != (2:Int))=false)(hq2:(f==(1:Int))=false)(hq3:(b==(2:Int))=true)(hq4:(decide (e≥(1:Int)))=false):Known Try.prog [] 42 [.agg #[.int .i64 a,.int .i64 b,.int .i64 c,.string d,.int .i64 e,.int .i64 f,.int .i64 g],.int .i64 k] (.int .i64 ((2:Int))) :=
 open_res mix GOk.none (T:=GTab.none) (fuel:=3000) (ans:=[(0,.b 1),(4,.b 0),(5,.b 0),(6,.b 1),(10,.b 0)]) (log:=[(decide (e≥(1:Int)))=false,(b==(2:Int))=true,(f==(1:Int))=false,(b != (2:Int))=false,(b != (1:Int))=true]) (by kernel_rfl) ⟨hq4,hq3,hq2,hq1,hq0,trivial⟩ (by kernel_rfl)
theorem pe_p13 (a b c:Int)(d:ByteArray)(e f g k:Int)(hq0:(b != (1:Int))=false)(hq2:(f==(1:Int))=true)(hq3:(b==(2:Int))=false):Known Try.prog [] 42 [.agg #[.int .i64 a,.int .i64 b,.int .i64 c,.string d,.int .i64 e,.int .i64 f,.int .i64 g],.int .i64 k] (.int .i64 ((0:Int))) :=
 open_res mix GOk.none (T:=GTab.none) (fuel:=3000) (ans:=[(0,.b 0),(5,.b 1),(6,.b 0)]) (log:=[(b==(2:Int))=false,(f==(1:Int))=true,(b != (1:Int))=false]) (by kernel_rfl) ⟨hq3,hq2,hq0,trivial⟩ (by kernel_rfl)
theorem pe_p14 (a b c:Int)(d:ByteArray)(e f g k:Int)(hq0:(b != (1:Int))=false)(hq2:(f==(1:Int))=false)(hq3:(b==(2:Int))=false):Known Try.prog [] 42 [.agg #[.int .i64 a,.int .i64 b,.int .i64 c,.string d,.int .i64 e,.int .i64 f,.int .i64 g],.int .i64 k] (.int .i64 ((0:Int))) :=
 open_res mix GOk.none (T:=GTab.none) (fuel:=3000) (ans:=[(0,.b 0),(5,.b 0),(6,.b 0)]) (log:=[(b==(2:Int))=false,(f==(1:Int))=false,(b != (1:Int))=false]) (by kernel_rfl) ⟨hq3,hq2,hq0,trivial⟩ (by kernel_rfl)
set_option maxHeartbeats 8000000 in
theorem pe (a b c:Int)(d:ByteArray)(e f g k:Int): Known Try.prog [] 42 [.agg #[.int .i64 a,.int .i64 b,.int .i64 c,.string d,.int .i64 e,.int .i64 f,.int .i64 g],.int .i64 k] (.int .i64 (pe_c0 a b c d e f g k)):=by
 rcases Bool.eq_false_or_eq_true (b != (1:Int)) with hq0 | hq0
 ·
  rcases Bool.eq_false_or_eq_true (b != (2:Int)) with hq1 | hq1
  ·
   have e0:pe_c0 a b c d e f g k=((11:Int)):=((bif_t hq0 _ _).trans ((bif_t hq1 _ _).trans rfl)); rw [e0]; exact pe_p0 a b c d e f g k hq0 hq1
  ·
   rcases Bool.eq_false_or_eq_true (f==(1:Int)) with hq2 | hq2
   ·
    have hq3:(b==(2:Int))=true:=by
     rcases Bool.eq_false_or_eq_true (b==(2:Int)) with h | h
     ·exact h
     ·exfalso; (first | (simp_all only [Bool.and_eq_true,Bool.not_eq_true',Bool.false_eq_true,Bool.true_eq_false,reduceCtorEq]; done) | (simp_all only [Bool.and_eq_true,Bool.not_true,Bool.not_false,Bool.false_or,Bool.true_or,Bool.false_eq_true,and_false,false_and]; done) | (simp only [sx,sy,eq_self,ne_eq,IntKind.wrap_i64,wrapU64,Int.reduceLT] at * <;> first | with_reducible contradiction | omega) | omega | ((try simp only [sx,sy,eq_self,ne_eq,IntKind.wrap_i64,wrapU64,Int.reduceLT] at *) <;> omega) | (simp_all; done))
    rcases Bool.eq_false_or_eq_true (decide (e≥(1:Int))) with hq4 | hq4
    ·
     rcases Bool.eq_false_or_eq_true (!decide (e≤k)) with hq5 | hq5
     ·
      have e0:pe_c0 a b c d e f g k=((2:Int)):=((bif_t hq0 _ _).trans ((bif_f hq1 _ _).trans ((bif_t hq2 _ _).trans ((bif_t hq4 _ _).trans ((bif_t hq5 _ _).trans rfl))))); rw [e0]; exact pe_p1 a b c d e f g k hq0 hq1 hq2 hq3 hq4 hq5
     ·
      have hq6:(decide (f≥(1:Int)))=true:=by
       rcases Bool.eq_false_or_eq_true (decide (f≥(1:Int))) with h | h
       ·exact h
       ·exfalso; (first | (simp_all only [Bool.and_eq_true,Bool.not_eq_true',Bool.false_eq_true,Bool.true_eq_false,reduceCtorEq]; done) | (simp_all only [Bool.and_eq_true,Bool.not_true,Bool.not_false,Bool.false_or,Bool.true_or,Bool.false_eq_true,and_false,false_and]; done) | (simp only [sx,sy,eq_self,ne_eq,IntKind.wrap_i64,wrapU64,Int.reduceLT] at * <;> first | with_reducible contradiction | omega) | omega | ((try simp only [sx,sy,eq_self,ne_eq,IntKind.wrap_i64,wrapU64,Int.reduceLT] at *) <;> omega) | (simp_all; done))
      have hq7:(!decide (f≤(6:Int)))=false:=by
       rcases Bool.eq_false_or_eq_true (!decide (f≤(6:Int))) with h | h
       ·exfalso; (first | (simp_all only [Bool.and_eq_true,Bool.not_eq_true',Bool.false_eq_true,Bool.true_eq_false,reduceCtorEq]; done) | (simp_all only [Bool.and_eq_true,Bool.not_true,Bool.not_false,Bool.false_or,Bool.true_or,Bool.false_eq_true,and_false,false_and]; done) | (simp only [sx,sy,eq_self,ne_eq,IntKind.wrap_i64,wrapU64,Int.reduceLT] at * <;> first | with_reducible contradiction | omega) | omega | ((try simp only [sx,sy,eq_self,ne_eq,IntKind.wrap_i64,wrapU64,Int.reduceLT] at *) <;> omega) | (simp_all; done))
       ·exact h
      rcases Bool.eq_false_or_eq_true (decide (g≥(0:Int))) with hq8 | hq8
      ·
       rcases Bool.eq_false_or_eq_true (!decide (g≤(10000:Int))) with hq9 | hq9
       ·
        have e0:pe_c0 a b c d e f g k=((2:Int)):=((bif_t hq0 _ _).trans ((bif_f hq1 _ _).trans ((bif_t hq2 _ _).trans ((bif_t hq4 _ _).trans ((bif_f hq5 _ _).trans ((bif_t hq8 _ _).trans ((bif_t hq9 _ _).trans rfl))))))); rw [e0]; exact pe_p2 a b c d e f g k hq0 hq1 hq2 hq3 hq4 hq5 hq6 hq7 hq8 hq9
       ·
        have e0:pe_c0 a b c d e f g k=((0:Int)):=((bif_t hq0 _ _).trans ((bif_f hq1 _ _).trans ((bif_t hq2 _ _).trans ((bif_t hq4 _ _).trans ((bif_f hq5 _ _).trans ((bif_t hq8 _ _).trans ((bif_f hq9 _ _).trans rfl))))))); rw [e0]; exact pe_p3 a b c d e f g k hq0 hq1 hq2 hq3 hq4 hq5 hq6 hq7 hq8 hq9
      ·
       have e0:pe_c0 a b c d e f g k=((2:Int)):=((bif_t hq0 _ _).trans ((bif_f hq1 _ _).trans ((bif_t hq2 _ _).trans ((bif_t hq4 _ _).trans ((bif_f hq5 _ _).trans ((bif_f hq8 _ _).trans rfl)))))); rw [e0]; exact pe_p4 a b c d e f g k hq0 hq1 hq2 hq3 hq4 hq5 hq6 hq7 hq8
    ·
     have e0:pe_c0 a b c d e f g k=((2:Int)):=((bif_t hq0 _ _).trans ((bif_f hq1 _ _).trans ((bif_t hq2 _ _).trans ((bif_f hq4 _ _).trans rfl)))); rw [e0]; exact pe_p5 a b c d e f g k hq0 hq1 hq2 hq3 hq4
   ·
    have hq3:(b==(2:Int))=true:=by
     rcases Bool.eq_false_or_eq_true (b==(2:Int)) with h | h
     ·exact h
     ·exfalso; (first | (simp_all only [Bool.and_eq_true,Bool.not_eq_true',Bool.false_eq_true,Bool.true_eq_false,reduceCtorEq]; done) | (simp_all only [Bool.and_eq_true,Bool.not_true,Bool.not_false,Bool.false_or,Bool.true_or,Bool.false_eq_true,and_false,false_and]; done) | (simp only [sx,sy,eq_self,ne_eq,IntKind.wrap_i64,wrapU64,Int.reduceLT] at * <;> first | with_reducible contradiction | omega) | omega | ((try simp only [sx,sy,eq_self,ne_eq,IntKind.wrap_i64,wrapU64,Int.reduceLT] at *) <;> omega) | (simp_all; done))
    rcases Bool.eq_false_or_eq_true (decide (e≥(1:Int))) with hq4 | hq4
    ·
     rcases Bool.eq_false_or_eq_true (!decide (e≤k)) with hq5 | hq5
     ·
      have e0:pe_c0 a b c d e f g k=((2:Int)):=((bif_t hq0 _ _).trans ((bif_f hq1 _ _).trans ((bif_f hq2 _ _).trans ((bif_t hq4 _ _).trans ((bif_t hq5 _ _).trans rfl))))); rw [e0]; exact pe_p6 a b c d e f g k hq0 hq1 hq2 hq3 hq4 hq5
     ·
      rcases Bool.eq_false_or_eq_true (decide (f≥(1:Int))) with hq6 | hq6
      ·
       rcases Bool.eq_false_or_eq_true (!decide (f≤(6:Int))) with hq7 | hq7
       ·
        have e0:pe_c0 a b c d e f g k=((2:Int)):=((bif_t hq0 _ _).trans ((bif_f hq1 _ _).trans ((bif_f hq2 _ _).trans ((bif_t hq4 _ _).trans ((bif_f hq5 _ _).trans ((bif_t hq6 _ _).trans ((bif_t hq7 _ _).trans rfl))))))); rw [e0]; exact pe_p7 a b c d e f g k hq0 hq1 hq2 hq3 hq4 hq5 hq6 hq7
       ·
        rcases Bool.eq_false_or_eq_true (decide (g≥(0:Int))) with hq8 | hq8
        ·
         rcases Bool.eq_false_or_eq_true (!decide (g≤(0:Int))) with hq10 | hq10
         ·
          have e0:pe_c0 a b c d e f g k=((2:Int)):=((bif_t hq0 _ _).trans ((bif_f hq1 _ _).trans ((bif_f hq2 _ _).trans ((bif_t hq4 _ _).trans ((bif_f hq5 _ _).trans ((bif_t hq6 _ _).trans ((bif_f hq7 _ _).trans ((bif_t hq8 _ _).trans ((bif_t hq10 _ _).trans rfl))))))))); rw [e0]; exact pe_p8 a b c d e f g k hq0 hq1 hq2 hq3 hq4 hq5 hq6 hq7 hq8 hq10
         ·
          have e0:pe_c0 a b c d e f g k=((0:Int)):=((bif_t hq0 _ _).trans ((bif_f hq1 _ _).trans ((bif_f hq2 _ _).trans ((bif_t hq4 _ _).trans ((bif_f hq5 _ _).trans ((bif_t hq6 _ _).trans ((bif_f hq7 _ _).trans ((bif_t hq8 _ _).trans ((bif_f hq10 _ _).trans rfl))))))))); rw [e0]; exact pe_p9 a b c d e f g k hq0 hq1 hq2 hq3 hq4 hq5 hq6 hq7 hq8 hq10
        ·
         have e0:pe_c0 a b c d e f g k=((2:Int)):=((bif_t hq0 _ _).trans ((bif_f hq1 _ _).trans ((bif_f hq2 _ _).trans ((bif_t hq4 _ _).trans ((bif_f hq5 _ _).trans ((bif_t hq6 _ _).trans ((bif_f hq7 _ _).trans ((bif_f hq8 _ _).trans rfl)))))))); rw [e0]; exact pe_p10 a b c d e f g k hq0 hq1 hq2 hq3 hq4 hq5 hq6 hq7 hq8
      ·
       have e0:pe_c0 a b c d e f g k=((2:Int)):=((bif_t hq0 _ _).trans ((bif_f hq1 _ _).trans ((bif_f hq2 _ _).trans ((bif_t hq4 _ _).trans ((bif_f hq5 _ _).trans ((bif_f hq6 _ _).trans rfl)))))); rw [e0]; exact pe_p11 a b c d e f g k hq0 hq1 hq2 hq3 hq4 hq5 hq6
    ·
     have e0:pe_c0 a b c d e f g k=((2:Int)):=((bif_t hq0 _ _).trans ((bif_f hq1 _ _).trans ((bif_f hq2 _ _).trans ((bif_f hq4 _ _).trans rfl)))); rw [e0]; exact pe_p12 a b c d e f g k hq0 hq1 hq2 hq3 hq4
 ·
  rcases Bool.eq_false_or_eq_true (f==(1:Int)) with hq2 | hq2
  ·
   have hq3:(b==(2:Int))=false:=by
    rcases Bool.eq_false_or_eq_true (b==(2:Int)) with h | h
    ·exfalso; (first | (simp_all only [Bool.and_eq_true,Bool.not_eq_true',Bool.false_eq_true,Bool.true_eq_false,reduceCtorEq]; done) | (simp_all only [Bool.and_eq_true,Bool.not_true,Bool.not_false,Bool.false_or,Bool.true_or,Bool.false_eq_true,and_false,false_and]; done) | (simp only [sx,sy,eq_self,ne_eq,IntKind.wrap_i64,wrapU64,Int.reduceLT] at * <;> first | with_reducible contradiction | omega) | omega | ((try simp only [sx,sy,eq_self,ne_eq,IntKind.wrap_i64,wrapU64,Int.reduceLT] at *) <;> omega) | (simp_all; done))
    ·exact h
   have e0:pe_c0 a b c d e f g k=((0:Int)):=((bif_f hq0 _ _).trans rfl); rw [e0]; exact pe_p13 a b c d e f g k hq0 hq2 hq3
  ·
   have hq3:(b==(2:Int))=false:=by
    rcases Bool.eq_false_or_eq_true (b==(2:Int)) with h | h
    ·exfalso; (first | (simp_all only [Bool.and_eq_true,Bool.not_eq_true',Bool.false_eq_true,Bool.true_eq_false,reduceCtorEq]; done) | (simp_all only [Bool.and_eq_true,Bool.not_true,Bool.not_false,Bool.false_or,Bool.true_or,Bool.false_eq_true,and_false,false_and]; done) | (simp only [sx,sy,eq_self,ne_eq,IntKind.wrap_i64,wrapU64,Int.reduceLT] at * <;> first | with_reducible contradiction | omega) | omega | ((try simp only [sx,sy,eq_self,ne_eq,IntKind.wrap_i64,wrapU64,Int.reduceLT] at *) <;> omega) | (simp_all; done))
    ·exact h
   have e0:pe_c0 a b c d e f g k=((0:Int)):=((bif_f hq0 _ _).trans rfl); rw [e0]; exact pe_p14 a b c d e f g k hq0 hq2 hq3
noncomputable def re_c0 (a b c:Int)(d:ByteArray)(e f g k:Int):Int:=(bif (b==(1:Int)) then ((0:Int)) else (bif (b != (2:Int)) then ((11:Int)) else (bif (decide (e<(1:Int))) then ((2:Int)) else (bif (decide (e>k)) then ((2:Int)) else (bif (decide (f<(1:Int))) then ((2:Int)) else (bif (decide (f>(6:Int))) then ((2:Int)) else (bif (decide (g≥(0:Int))) then (bif (!decide (g≤(10000:Int))) then ((2:Int)) else (bif (f != (1:Int)) then (bif (g != (0:Int)) then ((2:Int)) else ((0:Int))) else ((0:Int)))) else ((2:Int)))))))))
theorem re_p0 (a b c:Int)(d:ByteArray)(e f g k:Int)(hq0:(b==(1:Int))=true):Known Try.prog [] 47 [.agg #[.int .i64 a,.int .i64 b,.int .i64 c,.string d,.int .i64 e,.int .i64 f,.int .i64 g],.int .i64 k] (.int .i64 ((0:Int))) :=
 open_res mix GOk.none (T:=GTab.none) (fuel:=3000) (ans:=[(0,.b 1)]) (log:=[(b==(1:Int))=true]) (by kernel_rfl) ⟨hq0,trivial⟩ (by kernel_rfl)
theorem re_p1 (a b c:Int)(d:ByteArray)(e f g k:Int)(hq0:(b==(1:Int))=false)(hq1:(b != (2:Int))=true):Known Try.prog [] 47 [.agg #[.int .i64 a,.int .i64 b,.int .i64 c,.string d,.int .i64 e,.int .i64 f,.int .i64 g],.int .i64 k] (.int .i64 ((11:Int))) :=
 open_res mix GOk.none (T:=GTab.none) (fuel:=3000) (ans:=[(0,.b 0),(1,.b 1)]) (log:=[(b != (2:Int))=true,(b==(1:Int))=false]) (by kernel_rfl) ⟨hq1,hq0,trivial⟩ (by kernel_rfl)
theorem re_p2 (a b c:Int)(d:ByteArray)(e f g k:Int)(hq0:(b==(1:Int))=false)(hq1:(b != (2:Int))=false)(hq2:(decide (e<(1:Int)))=true):Known Try.prog [] 47 [.agg #[.int .i64 a,.int .i64 b,.int .i64 c,.string d,.int .i64 e,.int .i64 f,.int .i64 g],.int .i64 k] (.int .i64 ((2:Int))) :=
 open_res mix GOk.none (T:=GTab.none) (fuel:=3000) (ans:=[(0,.b 0),(1,.b 0),(2,.b 1)]) (log:=[(decide (e<(1:Int)))=true,(b != (2:Int))=false,(b==(1:Int))=false]) (by kernel_rfl) ⟨hq2,hq1,hq0,trivial⟩ (by kernel_rfl)
theorem re_p3 (a b c:Int)(d:ByteArray)(e f g k:Int)(hq0:(b==(1:Int))=false)(hq1:(b != (2:Int))=false)(hq2:(decide (e<(1:Int)))=false)(hq3:(decide (e>k))=true):Known Try.prog [] 47 [.agg #[.int .i64 a,.int .i64 b,.int .i64 c,.string d,.int .i64 e,.int .i64 f,.int .i64 g],.int .i64 k] (.int .i64 ((2:Int))) :=
 open_res mix GOk.none (T:=GTab.none) (fuel:=3000) (ans:=[(0,.b 0),(1,.b 0),(2,.b 0),(7,.b 1)]) (log:=[(decide (e>k))=true,(decide (e<(1:Int)))=false,(b != (2:Int))=false,(b==(1:Int))=false]) (by kernel_rfl) ⟨hq3,hq2,hq1,hq0,trivial⟩ (by kernel_rfl)
theorem re_p4 (a b c:Int)(d:ByteArray)(e f g k:Int)(hq0:(b==(1:Int))=false)(hq1:(b != (2:Int))=false)(hq2:(decide (e<(1:Int)))=false)(hq3:(decide (e>k))=false)(hq4:(decide (f<(1:Int)))=true):Known Try.prog [] 47 [.agg #[.int .i64 a,.int .i64 b,.int .i64 c,.string d,.int .i64 e,.int .i64 f,.int .i64 g],.int .i64 k] (.int .i64 ((2:Int))) :=
 open_res mix GOk.none (T:=GTab.none) (fuel:=3000) (ans:=[(0,.b 0),(1,.b 0),(2,.b 0),(7,.b 0),(11,.b 1)]) (log:=[(decide (f<(1:Int)))=true,(decide (e>k))=false,(decide (e<(1:Int)))=false,(b != (2:Int))=false,(b==(1:Int))=false]) (by kernel_rfl) ⟨hq4,hq3,hq2,hq1,hq0,trivial⟩ (by kernel_rfl)
theorem re_p5 (a b c:Int)(d:ByteArray)(e f g k:Int)(hq0:(b==(1:Int))=false)(hq1:(b != (2:Int))=false)(hq2:(decide (e<(1:Int)))=false)(hq3:(decide (e>k))=false)(hq4:(decide (f<(1:Int)))=false)(hq5:(decide (f>(6:Int)))=true):Known Try.prog [] 47 [.agg #[.int .i64 a,.int .i64 b,.int .i64 c,.string d,.int .i64 e,.int .i64 f,.int .i64 g],.int .i64 k] (.int .i64 ((2:Int))) :=
 open_res mix GOk.none (T:=GTab.none) (fuel:=3000) (ans:=[(0,.b 0),(1,.b 0),(2,.b 0),(7,.b 0),(11,.b 0),(15,.b 1)]) (log:=[(decide (f>(6:Int)))=true,(decide (f<(1:Int)))=false,(decide (e>k))=false,(decide (e<(1:Int)))=false,(b != (2:Int))=false,(b==(1:Int))=false]) (by kernel_rfl) ⟨hq5,hq4,hq3,hq2,hq1,hq0,trivial⟩ (by kernel_rfl)
theorem re_p6 (a b c:Int)(d:ByteArray)(e f g k:Int)(hq0:(b==(1:Int))=false)(hq1:(b != (2:Int))=false)(hq2:(decide (e<(1:Int)))=false)(hq3:(decide (e>k))=false)(hq4:(decide (f<(1:Int)))=false)(hq5:(decide (f>(6:Int)))=false)(hq6:(decide (g≥(0:Int)))=true)(hq7:(!decide (g≤(10000:Int)))=true):Known Try.prog [] 47 [.agg #[.int .i64 a,.int .i64 b,.int .i64 c,.string d,.int .i64 e,.int .i64 f,.int .i64 g],.int .i64 k] (.int .i64 ((2:Int))) :=
 open_res mix GOk.none (T:=GTab.none) (fuel:=3000) (ans:=[(0,.b 0),(1,.b 0),(2,.b 0),(7,.b 0),(11,.b 0),(15,.b 0),(18,.b 1),(23,.b 1)]) (log:=[(!decide (g≤(10000:Int)))=true,(decide (g≥(0:Int)))=true,(decide (f>(6:Int)))=false,(decide (f<(1:Int)))=false,(decide (e>k))=false,(decide (e<(1:Int)))=false,(b != (2:Int))=false,(b==(1:Int))=false]) (by kernel_rfl) ⟨hq7,hq6,hq5,hq4,hq3,hq2,hq1,hq0,trivial⟩ (by kernel_rfl)
theorem re_p7 (a b c:Int)(d:ByteArray)(e f g k:Int)(hq0:(b==(1:Int))=false)(hq1:(b != (2:Int))=false)(hq2:(decide (e<(1:Int)))=false)(hq3:(decide (e>k))=false)(hq4:(decide (f<(1:Int)))=false)(hq5:(decide (f>(6:Int)))=false)(hq6:(decide (g≥(0:Int)))=true)(hq7:(!decide (g≤(10000:Int)))=false)(hq8:(f != (1:Int))=true)(hq9:(g != (0:Int))=true):Known Try.prog [] 47 [.agg #[.int .i64 a,.int .i64 b,.int .i64 c,.string d,.int .i64 e,.int .i64 f,.int .i64 g],.int .i64 k] (.int .i64 ((2:Int))) :=
 open_res mix GOk.none (T:=GTab.none) (fuel:=3000) (ans:=[(0,.b 0),(1,.b 0),(2,.b 0),(7,.b 0),(11,.b 0),(15,.b 0),(18,.b 1),(23,.b 0),(27,.b 1),(33,.b 1)]) (log:=[(g != (0:Int))=true,(f != (1:Int))=true,(!decide (g≤(10000:Int)))=false,(decide (g≥(0:Int)))=true,(decide (f>(6:Int)))=false,(decide (f<(1:Int)))=false,(decide (e>k))=false,(decide (e<(1:Int)))=false,(b != (2:Int))=false,(b==(1:Int))=false]) (by kernel_rfl) ⟨hq9,hq8,hq7,hq6,hq5,hq4,hq3,hq2,hq1,hq0,trivial⟩ (by kernel_rfl)
theorem re_p8 (a b c:Int)(d:ByteArray)(e f g k:Int)(hq0:(b==(1:Int))=false)(hq1:(b != (2:Int))=false)(hq2:(decide (e<(1:Int)))=false)(hq3:(decide (e>k))=false)(hq4:(decide (f<(1:Int)))=false)(hq5:(decide (f>(6:Int)))=false)(hq6:(decide (g≥(0:Int)))=true)(hq7:(!decide (g≤(10000:Int)))=false)(hq8:(f != (1:Int))=true)(hq9:(g != (0:Int))=false):Known Try.prog [] 47 [.agg #[.int .i64 a,.int .i64 b,.int .i64 c,.string d,.int .i64 e,.int .i64 f,.int .i64 g],.int .i64 k] (.int .i64 ((0:Int))) :=
 open_res mix GOk.none (T:=GTab.none) (fuel:=3000) (ans:=[(0,.b 0),(1,.b 0),(2,.b 0),(7,.b 0),(11,.b 0),(15,.b 0),(18,.b 1),(23,.b 0),(27,.b 1),(33,.b 0)]) (log:=[(g != (0:Int))=false,(f != (1:Int))=true,(!decide (g≤(10000:Int)))=false,(decide (g≥(0:Int)))=true,(decide (f>(6:Int)))=false,(decide (f<(1:Int)))=false,(decide (e>k))=false,(decide (e<(1:Int)))=false,(b != (2:Int))=false,(b==(1:Int))=false]) (by kernel_rfl) ⟨hq9,hq8,hq7,hq6,hq5,hq4,hq3,hq2,hq1,hq0,trivial⟩ (by kernel_rfl)
theorem re_p9 (a b c:Int)(d:ByteArray)(e f g k:Int)(hq0:(b==(1:Int))=false)(hq1:(b != (2:Int))=false)(hq2:(decide (e<(1:Int)))=false)(hq3:(decide (e>k))=false)(hq4:(decide (f<(1:Int)))=false)(hq5:(decide (f>(6:Int)))=false)(hq6:(decide (g≥(0:Int)))=true)(hq7:(!decide (g≤(10000:Int)))=false)(hq8:(f != (1:Int))=false):Known Try.prog [] 47 [.agg #[.int .i64 a,.int .i64 b,.int .i64 c,.string d,.int .i64 e,.int .i64 f,.int .i64 g],.int .i64 k] (.int .i64 ((0:Int))) :=
 open_res mix GOk.none (T:=GTab.none) (fuel:=3000) (ans:=[(0,.b 0),(1,.b 0),(2,.b 0),(7,.b 0),(11,.b 0),(15,.b 0),(18,.b 1),(23,.b 0),(27,.b 0)]) (log:=[(f != (1:Int))=false,(!decide (g≤(10000:Int)))=false,(decide (g≥(0:Int)))=true,(decide (f>(6:Int)))=false,(decide (f<(1:Int)))=false,(decide (e>k))=false,(decide (e<(1:Int)))=false,(b != (2:Int))=false,(b==(1:Int))=false]) (by kernel_rfl) ⟨hq8,hq7,hq6,hq5,hq4,hq3,hq2,hq1,hq0,trivial⟩ (by kernel_rfl)
theorem re_p10 (a b c:Int)(d:ByteArray)(e f g k:Int)(hq0:(b==(1:Int))=false)(hq1:(b != (2:Int))=false)(hq2:(decide (e<(1:Int)))=false)(hq3:(decide (e>k))=false)(hq4:(decide (f<(1:Int)))=false)(hq5:(decide (f>(6:Int)))=false)(hq6:(decide (g≥(0:Int)))=false):Known Try.prog [] 47 [.agg #[.int .i64 a,.int .i64 b,.int .i64 c,.string d,.int .i64 e,.int .i64 f,.int .i64 g],.int .i64 k] (.int .i64 ((2:Int))) :=
 open_res mix GOk.none (T:=GTab.none) (fuel:=3000) (ans:=[(0,.b 0),(1,.b 0),(2,.b 0),(7,.b 0),(11,.b 0),(15,.b 0),(18,.b 0)]) (log:=[(decide (g≥(0:Int)))=false,(decide (f>(6:Int)))=false,(decide (f<(1:Int)))=false,(decide (e>k))=false,(decide (e<(1:Int)))=false,(b != (2:Int))=false,(b==(1:Int))=false]) (by kernel_rfl) ⟨hq6,hq5,hq4,hq3,hq2,hq1,hq0,trivial⟩ (by kernel_rfl)
set_option maxHeartbeats 8000000 in
theorem re (a b c:Int)(d:ByteArray)(e f g k:Int): Known Try.prog [] 47 [.agg #[.int .i64 a,.int .i64 b,.int .i64 c,.string d,.int .i64 e,.int .i64 f,.int .i64 g],.int .i64 k] (.int .i64 (re_c0 a b c d e f g k)):=by
 rcases Bool.eq_false_or_eq_true (b==(1:Int)) with hq0 | hq0
 ·
  have e0:re_c0 a b c d e f g k=((0:Int)):=((bif_t hq0 _ _).trans rfl); rw [e0]; exact re_p0 a b c d e f g k hq0
 ·
  rcases Bool.eq_false_or_eq_true (b != (2:Int)) with hq1 | hq1
  ·
   have e0:re_c0 a b c d e f g k=((11:Int)):=((bif_f hq0 _ _).trans ((bif_t hq1 _ _).trans rfl)); rw [e0]; exact re_p1 a b c d e f g k hq0 hq1
  ·
   rcases Bool.eq_false_or_eq_true (decide (e<(1:Int))) with hq2 | hq2
   ·
    have e0:re_c0 a b c d e f g k=((2:Int)):=((bif_f hq0 _ _).trans ((bif_f hq1 _ _).trans ((bif_t hq2 _ _).trans rfl))); rw [e0]; exact re_p2 a b c d e f g k hq0 hq1 hq2
   ·
    rcases Bool.eq_false_or_eq_true (decide (e>k)) with hq3 | hq3
    ·
     have e0:re_c0 a b c d e f g k=((2:Int)):=((bif_f hq0 _ _).trans ((bif_f hq1 _ _).trans ((bif_f hq2 _ _).trans ((bif_t hq3 _ _).trans rfl)))); rw [e0]; exact re_p3 a b c d e f g k hq0 hq1 hq2 hq3
    ·
     rcases Bool.eq_false_or_eq_true (decide (f<(1:Int))) with hq4 | hq4
     ·
      have e0:re_c0 a b c d e f g k=((2:Int)):=((bif_f hq0 _ _).trans ((bif_f hq1 _ _).trans ((bif_f hq2 _ _).trans ((bif_f hq3 _ _).trans ((bif_t hq4 _ _).trans rfl))))); rw [e0]; exact re_p4 a b c d e f g k hq0 hq1 hq2 hq3 hq4
     ·
      rcases Bool.eq_false_or_eq_true (decide (f>(6:Int))) with hq5 | hq5
      ·
       have e0:re_c0 a b c d e f g k=((2:Int)):=((bif_f hq0 _ _).trans ((bif_f hq1 _ _).trans ((bif_f hq2 _ _).trans ((bif_f hq3 _ _).trans ((bif_f hq4 _ _).trans ((bif_t hq5 _ _).trans rfl)))))); rw [e0]; exact re_p5 a b c d e f g k hq0 hq1 hq2 hq3 hq4 hq5
      ·
       rcases Bool.eq_false_or_eq_true (decide (g≥(0:Int))) with hq6 | hq6
       ·
        rcases Bool.eq_false_or_eq_true (!decide (g≤(10000:Int))) with hq7 | hq7
        ·
         have e0:re_c0 a b c d e f g k=((2:Int)):=((bif_f hq0 _ _).trans ((bif_f hq1 _ _).trans ((bif_f hq2 _ _).trans ((bif_f hq3 _ _).trans ((bif_f hq4 _ _).trans ((bif_f hq5 _ _).trans ((bif_t hq6 _ _).trans ((bif_t hq7 _ _).trans rfl)))))))); rw [e0]; exact re_p6 a b c d e f g k hq0 hq1 hq2 hq3 hq4 hq5 hq6 hq7
        ·
         rcases Bool.eq_false_or_eq_true (f != (1:Int)) with hq8 | hq8
         ·
          rcases Bool.eq_false_or_eq_true (g != (0:Int)) with hq9 | hq9
          ·
           have e0:re_c0 a b c d e f g k=((2:Int)):=((bif_f hq0 _ _).trans ((bif_f hq1 _ _).trans ((bif_f hq2 _ _).trans ((bif_f hq3 _ _).trans ((bif_f hq4 _ _).trans ((bif_f hq5 _ _).trans ((bif_t hq6 _ _).trans ((bif_f hq7 _ _).trans ((bif_t hq8 _ _).trans ((bif_t hq9 _ _).trans rfl)))))))))); rw [e0]; exact re_p7 a b c d e f g k hq0 hq1 hq2 hq3 hq4 hq5 hq6 hq7 hq8 hq9
          ·
           have e0:re_c0 a b c d e f g k=((0:Int)):=((bif_f hq0 _ _).trans ((bif_f hq1 _ _).trans ((bif_f hq2 _ _).trans ((bif_f hq3 _ _).trans ((bif_f hq4 _ _).trans ((bif_f hq5 _ _).trans ((bif_t hq6 _ _).trans ((bif_f hq7 _ _).trans ((bif_t hq8 _ _).trans ((bif_f hq9 _ _).trans rfl)))))))))); rw [e0]; exact re_p8 a b c d e f g k hq0 hq1 hq2 hq3 hq4 hq5 hq6 hq7 hq8 hq9
         ·
          have e0:re_c0 a b c d e f g k=((0:Int)):=((bif_f hq0 _ _).trans ((bif_f hq1 _ _).trans ((bif_f hq2 _ _).trans ((bif_f hq3 _ _).trans ((bif_f hq4 _ _).trans ((bif_f hq5 _ _).trans ((bif_t hq6 _ _).trans ((bif_f hq7 _ _).trans ((bif_f hq8 _ _).trans rfl))))))))); rw [e0]; exact re_p9 a b c d e f g k hq0 hq1 hq2 hq3 hq4 hq5 hq6 hq7 hq8
       ·
        have e0:re_c0 a b c d e f g k=((2:Int)):=((bif_f hq0 _ _).trans ((bif_f hq1 _ _).trans ((bif_f hq2 _ _).trans ((bif_f hq3 _ _).trans ((bif_f hq4 _ _).trans ((bif_f hq5 _ _).trans ((bif_f hq6 _ _).trans rfl))))))); rw [e0]; exact re_p10 a b c d e f g k hq0 hq1 hq2 hq3 hq4 hq5 hq6
end Go.Proofs.Ytfpabkpmcmfbhaa
