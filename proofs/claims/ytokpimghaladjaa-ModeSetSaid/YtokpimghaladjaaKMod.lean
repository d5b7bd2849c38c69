import Derived.Test.YtokpimghaladjaaLU
import Derived.Test.YtokpimghaladjaaOgMod
set_option linter.unusedVariables false
namespace Go.Proofs.Ytokpimghaladjaa
open Go Go.RowKit
theorem kmod_t {n m:Int}(h:0<m):n.tmod m=if 0≤n then n%m else -((-n)%m):=by
 split
 ·rename_i hn
  exact Int.tmod_eq_emod_of_nonneg hn
 ·rename_i hn
  have e:n = -(-n):=by omega
  conv=>lhs; rw [e]
  rw [Int.neg_tmod,Int.tmod_eq_emod_of_nonneg (by omega)]
theorem kMod {n m:Int}(h:0<m∧m≤4611686018427387904):Known Try.prog [] 38 [.int .i64 n,.int .i64 m] (.int .i64 (n%m)):=by
 have k:=mod n m
 have e:mod_c0 n m=n%m:=by
  unfold mod_c0
  have b0:=Int.emod_nonneg n (by omega:m≠0)
  have b1:=Int.emod_lt_of_pos n h.1
  have c0:decide (m<1)=false:=decide_eq_false (by omega)
  rw [c0,cond_false]
  by_cases hn:0≤n
  ·rw [Int.tmod_eq_emod_of_nonneg hn,decide_eq_false (by omega),cond_false]
  ·have t1:n.tmod m = -((-n)%m):=by rw [kmod_t h.1,if_neg hn]
   have d0:=Int.emod_nonneg (-n) (by omega:m≠0)
   have d1:=Int.emod_lt_of_pos (-n) h.1
   have key:n%m=if (-n)%m=0 then 0 else m - (-n)%m:=by
    split
    ·rename_i z
     have:=Int.dvd_of_emod_eq_zero z
     exact Int.emod_eq_zero_of_dvd (Int.dvd_neg.1 this)
    ·rename_i z
     have e1:n=m - (-n)%m+m*(-((-n) / m) - 1):=by
      have:=Int.emod_add_mul_ediv (-n) m
      rw [Int.mul_sub,Int.mul_neg,Int.mul_one]; omega
     rw [e1,Int.add_mul_emod_self_left,Int.emod_eq_of_lt (by omega) (by omega)]
     rw [← e1]
   rw [t1,key]
   split
   ·rename_i z
    rw [z]; simp
   ·rename_i z
    rw [decide_eq_true (by omega),cond_true,IntKind.wrap_i64]
    omega
 rw [e] at k
 exact k
end Go.Proofs.Ytokpimghaladjaa
