import Derived.Test.YtaogbagopdlkmaaOgD
import Derived.ProofKit
import Derived.IntWalk
import Derived.Test.YtaogbagopdlkmaaPD
import Derived.Test.YtaogbagopdlkmaaPF
set_option linter.unusedVariables false
namespace Go.Proofs.Ytaogbagopdlkmaa
open Go Go.RowKit
def tkG (n b p:Int):Bool:=if b=2∨b=3 then decide (0≤p∧p<n) else decide (p=0)
def tkB (m d n b p:Int):Int:=if b=1 then 0 else if b=2 then m+p*(m+d) else if b=3 then m+p*(m+d)+m else if b=4 then m+n*(m+d) else m+n*(m+d)+m
def tkL (m d b:Int):Int:=if b=3∨b=5 then d else m
theorem prt_of (m d:Int)(N j:Nat)(h:j<2*N+3):(1≤(prt m d N j).1∧(prt m d N j).1≤5)∧tkG N (prt m d N j).1 (prt m d N j).2.1=true∧(prt m d N j).2.2.1=tkB m d N (prt m d N j).1 (prt m d N j).2.1∧(prt m d N j).2.2.2=tkL m d (prt m d N j).1:=by
 rcases odd_even j with rfl | ⟨i,rfl⟩ | ⟨i,rfl⟩
 ·rw [prt_zero]; simp [tkG,tkB,tkL]
 ·by_cases hi:i=N
  ·subst hi; rw [prt_pmove]; simp [tkG,tkB,tkL]
  ·rw [prt_move m d N i hi]
   have:i<N:=by omega
   simp [tkG,tkB,tkL]; omega
 ·by_cases hi:i=N
  ·subst hi; rw [prt_pdoor]; simp [tkG,tkB,tkL]
  ·rw [prt_door m d N i hi]
   have:i<N:=by omega
   simp [tkG,tkB,tkL]; omega
theorem prt_is (m d:Int)(N:Nat)(b p:Int)(hb:1≤b∧b≤5)(hp:tkG N b p=true):∃ j,j<2*N+3∧prt m d N j=(b,p,tkB m d N b p,tkL m d b):=by
 rcases (by omega:b=1∨b=2∨b=3∨b=4∨b=5) with rfl | rfl | rfl | rfl | rfl
 ·have:p=0:=by simpa [tkG] using hp
  subst this
  exact ⟨0,by omega,by rw [prt_zero]; rfl⟩
 ·have:0≤p∧p<(N:Int):=by simpa [tkG] using hp
  obtain ⟨i,rfl⟩:∃ i:Nat,p=i:=⟨p.toNat,by omega⟩
  exact ⟨2*i+1,by omega,by rw [prt_move m d N i (by omega)]; rfl⟩
 ·have:0≤p∧p<(N:Int):=by simpa [tkG] using hp
  obtain ⟨i,rfl⟩:∃ i:Nat,p=i:=⟨p.toNat,by omega⟩
  exact ⟨2*i+2,by omega,by rw [prt_door m d N i (by omega)]; rfl⟩
 ·have:p=0:=by simpa [tkG] using hp
  subst this
  exact ⟨2*N+1,by omega,by rw [prt_pmove]; rfl⟩
 ·have:p=0:=by simpa [tkG] using hp
  subst this
  exact ⟨2*N+2,by omega,by rw [prt_pdoor]; rfl⟩
end Go.Proofs.Ytaogbagopdlkmaa
