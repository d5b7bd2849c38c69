import Derived.Test.YtaogbagopdlkmaaOgD
import Derived.ProofKit
import Derived.IntWalk
import Derived.Test.YtaogbagopdlkmaaPC
set_option linter.unusedVariables false
namespace Go.Proofs.Ytaogbagopdlkmaa
open Go Go.RowKit
theorem nmul {n:Nat}{t:Int}(h:n≤17)(h0:0≤t)(h1:t≤400000):0≤(n:Int)*t∧(n:Int)*t≤6800000:=by
 have:=mul_low (n:=(n:Int)) (t:=t) (a:=17) (b:=400000) (by omega) (by omega) h0 h1
 omega
theorem nsucc (n:Nat)(t:Int):((n+1:Nat):Int)*t=n*t+t:=by rw [Int.natCast_add,Int.add_mul]; simp
theorem ofD_go {m d t s c x:Int}{N:Nat}(hm:1≤m∧m≤200000)(hd:1≤d∧d≤200000)(hN:trN m t s=N)(hN2:N≤16):∀ (k i:Nat),i+k=N →
  ofD_f m d t s c x (k+1) (pts m d N (2*i+1)).reverse (i:Int) (m+i*(m+d))=some (0,((pts m d N (2*N+1)).reverse,(N:Int),m+N*(m+d))):=by
 intro k
 induction k with
 | zero =>
  intro i h
  rw [ofD_f.eq_2,hN,bif_dF (show ¬ (i:Int)<(N:Int) by omega)]
  rw [show i=N by omega]
  simp only [List.length_reverse,pts_len]
  rw [decide_eq_true (show (0:Int)≤(N:Int)∧(N:Int)≤(N:Int)∧((2*N+1:Nat):Int)=1+2*(N:Int) by omega),decide_eq_true (show (2*N+1+1)*32<1000000000 by omega),decide_eq_true (show (2*N+1+1+1)*32<1000000000 by omega)]
  rfl
 | succ k ih =>
  intro i h
  rw [ofD_f.eq_2,hN,bif_dT (show (i:Int)<(N:Int) by omega)]
  have hb:=nmul (n:=i) (t:=m+d) (by omega) (by omega) (by omega)
  rw [w8n (n:=m+i*(m+d)+m) (by omega) (by omega),w8n (n:=m+i*(m+d)+m+d) (by omega) (by omega),w8n (n:=(i:Int)+1) (by omega) (by omega)]
  have e1:(3,(i:Int),m+i*(m+d)+m,d)::(2,(i:Int),m+i*(m+d),m)::(pts m d N (2*i+1)).reverse=(pts m d N (2*(i+1)+1)).reverse:=by
   rw [show 2*(i+1)+1=2*i+1+1+1 by omega,pts_succ m d N (2*i+1+1),pts_succ m d N (2*i+1),List.reverse_append,List.reverse_append,prt_move m d N i (by omega),show 2*i+1+1=2*i+2 from rfl,prt_door m d N i (by omega)]
   rfl
  have e2:m+i*(m+d)+m+d=m+((i+1:Nat):Int)*(m+d):=by rw [nsucc]; omega
  rw [e1,e2,show (i:Int)+1=((i+1:Nat):Int) by omega]
  simp only [List.length_reverse,pts_len]
  rw [decide_eq_true (show (0:Int)≤(i:Int)∧(i:Int)≤(N:Int)∧((2*i+1:Nat):Int)=1+2*(i:Int) by omega),decide_eq_true (show (2*i+1+1)*32<1000000000 by omega),decide_eq_true (show (2*i+1+1+1)*32<1000000000 by omega)]
  exact ih (i+1) (by omega)
theorem ofD_all {m d t s c x:Int}{N:Nat}(hm:1≤m∧m≤200000)(hd:1≤d∧d≤200000)(hN:trN m t s=N)(hN2:N≤16):
  ofD_f m d t s c x (N+1) [((1:Int),(0:Int),(0:Int),m)] (0:Int) (IntKind.i64.wrap ((0:Int)+m))=some (0,((pts m d N (2*N+1)).reverse,(N:Int),m+N*(m+d))):=by
 have h:=ofD_go (m:=m) (d:=d) (t:=t) (s:=s) (c:=c) (x:=x) hm hd hN hN2 N 0 (by omega)
 rw [w8n (n:=(0:Int)+m) (by omega) (by omega)]
 have e:(pts m d N (2*0+1)).reverse=[((1:Int),(0:Int),(0:Int),m)]:=by
  show [prt m d N 0].reverse=_
  rw [prt_zero]; rfl
 rw [e] at h
 simpa using h
theorem ptL_eq (m d:Int)(N:Nat):((5,(0:Int),m+N*(m+d)+m,d)::(4,(0:Int),m+N*(m+d),m)::(pts m d N (2*N+1)).reverse).reverse=ptL m d N:=by
 unfold ptL
 rw [show 2*N+3=2*N+1+1+1 by omega,pts_succ m d N (2*N+1+1),pts_succ m d N (2*N+1),prt_pmove,show 2*N+1+1=2*N+2 from rfl,prt_pdoor]
 simp
theorem ptL_el (m d:Int)(N k:Nat)(h:k<2*N+3):el (ptL m d N) (k:Int)=prt m d N k:=pts_el m d N _ k h
theorem slot_len {m d t s:Int}{N:Nat}(hN:trN m t s=N)(h0:trN m t s≠0)(ht:t=m+d):m+N*(m+d)+m+d=s:=by
 have h:=(trN_eq h0).1
 rw [hN,ht] at h
 have e:((N:Int)+1)*(m+d)=N*(m+d)+(m+d):=by rw [Int.add_mul]; simp
 omega
end Go.Proofs.Ytaogbagopdlkmaa
