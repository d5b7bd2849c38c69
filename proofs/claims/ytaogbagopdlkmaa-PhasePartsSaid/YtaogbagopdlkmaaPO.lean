import Derived.Test.YtaogbagopdlkmaaPK
set_option linter.unusedVariables false
namespace Go.Proofs.Ytaogbagopdlkmaa
open Go Go.RowKit
def sumN (f:Nat→Int):Nat→Int
 | 0=>0
 | n+1=>sumN f n+f n
def whK (m d:Int)(N:Nat)(k:Int)(j:Nat):Int:=if (prt m d N j).1=k then (prt m d N j).2.2.2 else 0
def bgK (m d:Int)(N:Nat)(k u:Int)(j:Nat):Int:=max (min (u - fst m d j) (whK m d N k j)) 0
def wsK (m d:Int)(N:Nat)(k:Int):Int:=sumN (whK m d N k) (2*N+3)
def bsK (m d:Int)(N:Nat)(k u:Int):Int:=sumN (bgK m d N k u) (2*N+3)
def cntK (m d s:Int)(N:Nat)(k x:Int):Int:=wsK m d N k*(x / s)+bsK m d N k (x%s)
theorem len_pos {m d:Int}(hm:1≤m)(hd:1≤d)(N j:Nat)(h:j<2*N+3):1≤(prt m d N j).2.2.2:=by
 have:=prt_next (m:=m) (d:=d) h
 have:=fst_step hm hd j
 omega
theorem ws_go (m d:Int)(N:Nat)(k:Int):∀ i,i≤N→sumN (whK m d N k) (2*i+1)=(if k=1 then m else 0)+(if k=2 then i*m else 0)+(if k=3 then i*d else 0):=by
 intro i
 induction i with
 | zero =>
  intro _
  show (0:Int)+whK m d N k 0=_
  unfold whK
  rw [prt_zero]
  by_cases h:k=1
  ·subst h; simp
  ·simp [h,Ne.symm h]
 | succ i ih =>
  intro h
  rw [show 2*(i+1)+1=2*i+1+1+1 by omega]
  show sumN (whK m d N k) (2*i+1)+whK m d N k (2*i+1)+whK m d N k (2*i+2)=_
  rw [ih (by omega)]
  unfold whK
  rw [prt_move m d N i (by omega),prt_door m d N i (by omega)]
  have e1:((i+1:Nat):Int)*m=i*m+m:=nsucc i m
  have e2:((i+1:Nat):Int)*d=i*d+d:=nsucc i d
  rw [e1,e2]
  dsimp only
  by_cases h1:k=1
  ·subst h1; simp
  by_cases h2:k=2
  ·subst h2; simp
  by_cases h3:k=3
  ·subst h3; simp
  simp [h1,h2,h3,Ne.symm h2,Ne.symm h3]
theorem ws_is (m d:Int)(N:Nat)(k:Int)(hk:1≤k∧k≤5):wsK m d N k=if k=2 then N*m else if k=3 then N*d else if k=5 then d else m:=by
 unfold wsK
 rw [show 2*N+3=2*N+1+1+1 by omega]
 show sumN (whK m d N k) (2*N+1)+whK m d N k (2*N+1)+whK m d N k (2*N+2)=_
 rw [ws_go m d N k N (Nat.le_refl _)]
 unfold whK
 rw [prt_pmove,prt_pdoor]
 dsimp only
 rcases (by omega:k=1∨k=2∨k=3∨k=4∨k=5) with rfl | rfl | rfl | rfl | rfl <;> simp
end Go.Proofs.Ytaogbagopdlkmaa
