import Derived.Test.YtaogbagopdlkmaaLU
import Derived.Test.YtaogbagopdlkmaaOgMod
import Derived.ProofKit
import Derived.IntWalk
import Derived.Test.YtaogbagopdlkmaaPC
import Derived.Test.YtaogbagopdlkmaaPI
import Derived.Test.YtaogbagopdlkmaaOgD
import Derived.Test.YtaogbagopdlkmaaPD
import Derived.Test.YtaogbagopdlkmaaPF
import Derived.Test.YtaogbagopdlkmaaKnPhaseKnown
import Derived.Test.YtaogbagopdlkmaaFrL
set_option linter.unusedVariables false
namespace Go.Proofs.Ytaogbagopdlkmaa
open Go Go.RowKit
theorem prt_next {m d:Int}{N k:Nat}(h:k<2*N+3):fst m d (k+1)=fst m d k+(prt m d N k).2.2.2:=by
 rcases odd_even k with rfl | ⟨i,rfl⟩ | ⟨i,rfl⟩
 ·rw [prt_zero,show 0+1=2*0+1 from rfl,fst_odd]
  have f0:fst m d 0=0:=by unfold fst; rw [if_pos rfl]
  rw [f0]; simp
 ·rw [fst_odd,show 2*i+1+1=2*i+2 from rfl,fst_even]
  by_cases hi:i=N
  ·subst hi; rw [prt_pmove]
  ·rw [prt_move m d N i hi]
 ·rw [fst_even,show 2*i+2+1=2*(i+1)+1 by omega,fst_odd,nsucc]
  by_cases hi:i=N
  ·subst hi; rw [prt_pdoor]; dsimp only; omega
  ·rw [prt_door m d N i hi]; dsimp only; omega
def In64 (n:Int):Prop := -9223372036854775808≤n∧n≤9223372036854775807
end Go.Proofs.Ytaogbagopdlkmaa
