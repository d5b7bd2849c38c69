import Derived.Test.YtaogbagopdlkmaaPB
set_option linter.unusedVariables false
namespace Go.Proofs.Ytaogbagopdlkmaa
open Go Go.RowKit
def prt (m d:Int)(n k:Nat):Prt :=
 if k=0 then (1,0,0,m)
 else if k%2=1 then (if (k - 1) / 2=n then (4,0,m+((k - 1) / 2:Nat)*(m+d),m) else (2,((k - 1) / 2:Nat),m+((k - 1) / 2:Nat)*(m+d),m))
 else (if (k - 1) / 2=n then (5,0,m+((k - 1) / 2:Nat)*(m+d)+m,d) else (3,((k - 1) / 2:Nat),m+((k - 1) / 2:Nat)*(m+d)+m,d))
theorem prt_zero (m d:Int)(n:Nat):prt m d n 0=(1,0,0,m):=by unfold prt; rw [if_pos rfl]
theorem prt_move (m d:Int)(n i:Nat)(h:i≠n):prt m d n (2*i+1)=(2,(i:Int),m+i*(m+d),m):=by
 unfold prt
 rw [if_neg (by omega),if_pos (by omega),show (2*i+1 - 1) / 2=i by omega,if_neg h]
theorem prt_door (m d:Int)(n i:Nat)(h:i≠n):prt m d n (2*i+2)=(3,(i:Int),m+i*(m+d)+m,d):=by
 unfold prt
 rw [if_neg (by omega),if_neg (by omega),show (2*i+2 - 1) / 2=i by omega,if_neg h]
theorem prt_pmove (m d:Int)(n:Nat):prt m d n (2*n+1)=(4,0,m+n*(m+d),m):=by
 unfold prt
 rw [if_neg (by omega),if_pos (by omega),show (2*n+1 - 1) / 2=n by omega,if_pos rfl]
theorem prt_pdoor (m d:Int)(n:Nat):prt m d n (2*n+2)=(5,0,m+n*(m+d)+m,d):=by
 unfold prt
 rw [if_neg (by omega),if_neg (by omega),show (2*n+2 - 1) / 2=n by omega,if_pos rfl]
def pts (m d:Int)(n k:Nat):List Prt:=(List.range k).map (prt m d n)
theorem pts_succ (m d:Int)(n k:Nat):pts m d n (k+1)=pts m d n k++[prt m d n k]:=by
 unfold pts; rw [List.range_succ,List.map_append]; rfl
theorem pts_len (m d:Int)(n k:Nat):(pts m d n k).length=k:=by unfold pts; simp
theorem pts_el (m d:Int)(n k i:Nat)(h:i<k):el (pts m d n k) (i:Int)=prt m d n i:=by
 unfold el pts
 rw [List.getD_eq_getElem?_getD,Int.toNat_natCast]
 simp [h]
def ptL (m d:Int)(n:Nat):List Prt:=pts m d n (2*n+3)
theorem mul_low {n t a b:Int}(h0:0≤n)(h1:n≤a)(h2:0≤t)(h3:t≤b):0≤n*t∧n*t≤a*b :=
 ⟨Int.mul_nonneg h0 h2,Int.mul_le_mul h1 h3 h2 (by omega)⟩
def fst (m d:Int)(k:Nat):Int:=if k=0 then 0 else if k%2=1 then m+((k - 1) / 2:Nat)*(m+d) else m+((k - 1) / 2:Nat)*(m+d)+m
theorem prt_fst (m d:Int)(n k:Nat):(prt m d n k).2.2.1=fst m d k:=by
 unfold prt fst
 by_cases h0:k=0
 ·rw [if_pos h0,if_pos h0]
 rw [if_neg h0,if_neg h0]
 by_cases h1:k%2=1
 ·rw [if_pos h1,if_pos h1]; split <;> rfl
 ·rw [if_neg h1,if_neg h1]; split <;> rfl
theorem fst_odd (m d:Int)(i:Nat):fst m d (2*i+1)=m+i*(m+d):=by
 unfold fst; rw [if_neg (by omega),if_pos (by omega),show (2*i+1 - 1) / 2=i by omega]
theorem fst_even (m d:Int)(i:Nat):fst m d (2*i+2)=m+i*(m+d)+m:=by
 unfold fst; rw [if_neg (by omega),if_neg (by omega),show (2*i+2 - 1) / 2=i by omega]
theorem odd_even (k:Nat):k=0∨(∃ i,k=2*i+1)∨∃ i,k=2*i+2:=by
 rcases (by omega:k=0∨k=2*((k - 1) / 2)+1∨k=2*((k - 1) / 2)+2) with h | h | h
 ·exact .inl h
 ·exact .inr (.inl ⟨_,h⟩)
 ·exact .inr (.inr ⟨_,h⟩)
theorem fst_step {m d:Int}(hm:1≤m)(hd:1≤d)(k:Nat):fst m d k<fst m d (k+1):=by
 rcases odd_even k with rfl | ⟨i,rfl⟩ | ⟨i,rfl⟩
 ·have:=fst_odd m d 0
  rw [show 0+1=2*0+1 from rfl,this]
  unfold fst; rw [if_pos rfl]; simp; omega
 ·rw [fst_odd,show 2*i+1+1=2*i+2 from rfl,fst_even]; omega
 ·rw [fst_even,show 2*i+2+1=2*(i+1)+1 by omega,fst_odd]
  have:((i+1:Nat):Int)*(m+d)=i*(m+d)+(m+d):=by rw [Int.natCast_add,Int.add_mul]; simp
  omega
theorem fst_mono {m d:Int}(hm:1≤m)(hd:1≤d){a:Nat}:∀ {b:Nat},a≤b→fst m d a≤fst m d b:=by
 intro b
 induction b with
 | zero=>intro h; rw [show a=0 by omega]; omega
 | succ b ih =>
  intro h
  rcases (by omega:a=b+1∨a≤b) with rfl | h
  ·omega
  ·have:=ih h; have:=fst_step hm hd b; omega
theorem fst_lt {m d:Int}(hm:1≤m)(hd:1≤d){a b:Nat}(h:a<b):fst m d a<fst m d b:=by
 have:=fst_step hm hd a
 have:=fst_mono hm hd (a:=a+1) (b:=b) (by omega)
 omega
end Go.Proofs.Ytaogbagopdlkmaa
