import Derived.Test.YtaogbagopdlkmaaPQ
import Derived.Test.YtaogbagopdlkmaaOgI
set_option linter.unusedVariables false
namespace Go.Proofs.Ytaogbagopdlkmaa
open Go Go.RowKit
def coV (m d t s x y k:Int):Int:=cntK m d s (trN m t s).toNat k y - cntK m d s (trN m t s).toNat k x
theorem bs_in {m d k u:Int}(hm:1≤m∧m≤200000)(hd:1≤d∧d≤200000)(N:Nat)(hN:N≤16):0≤bsK m d N k u∧bsK m d N k u≤7000000:=by
 have:=bsum_in (k:=k) (u:=u) hm hd N (2*N+3) (Nat.le_refl _)
 unfold bsK; omega
end Go.Proofs.Ytaogbagopdlkmaa
