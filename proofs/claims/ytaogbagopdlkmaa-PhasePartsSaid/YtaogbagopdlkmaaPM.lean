import Derived.Test.YtaogbagopdlkmaaOgL
import Derived.Test.YtaogbagopdlkmaaPK
set_option linter.unusedVariables false
namespace Go.Proofs.Ytaogbagopdlkmaa
open Go Go.RowKit
theorem nxD_eq (m d t s c x k z:Int):∀ (fu:Nat) (y0:List Prt) (y1 y2:Int),nxD_f m d t s c x k fu y0 y1 y2=ofD_f m d t s c z fu y0 y1 y2:=by
 intro fu
 induction fu with
 | zero=>intros; rfl
 | succ n ih=>intro y0 y1 y2; rw [nxD_f.eq_2,ofD_f.eq_2,ih]
end Go.Proofs.Ytaogbagopdlkmaa
