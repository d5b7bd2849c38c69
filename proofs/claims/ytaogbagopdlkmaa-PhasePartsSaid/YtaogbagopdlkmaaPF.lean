import Derived.Test.YtaogbagopdlkmaaOgI
import Derived.Test.YtaogbagopdlkmaaPC
set_option linter.unusedVariables false
namespace Go.Proofs.Ytaogbagopdlkmaa
open Go Go.RowKit
theorem ck_all {m d t s c:Int}(h:ckX m d t s c=0):(1≤m∧m≤200000)∧(1≤d∧d≤200000)∧t=m+d∧(1≤trN m t s∧trN m t s≤16)∧(1≤s∧s≤10000000)∧(2≤t∧t≤400000)∧m+(trN m t s+1)*t=s:=by
 obtain ⟨h1,h2,h3,h4,_⟩:=ck_ok h
 have ht:2≤t∧t≤400000:=by omega
 have h5:=trN_eq h4
 exact ⟨h1,h2,h3,⟨h5.2.1,h5.2.2⟩,tr_bound h1 ht h4,ht,h5.1⟩
theorem rtr_eq {m d t s c:Int}(h:ckX m d t s c=0):IntKind.i64.wrap (IntKind.i64.wrap ((IntKind.i64.wrap (s - m)).tdiv t) - (1:Int))=trN m t s:=by
 obtain ⟨h1,h2,h3,h4,h5,h6,h7⟩:=ck_all h
 have e:(s - m).tdiv t=trN m t s+1:=by
  rw [Int.tdiv_eq_ediv_of_nonneg (by
   have:=mul_in (n:=trN m t s+1) (t:=t) (a:=17) (b:=400000) (by omega) (by omega) (by omega) (by omega)
   omega),show s - m=(trN m t s+1)*t by omega]
  exact Int.mul_ediv_cancel _ (by omega)
 rw [w8n (n:=s - m) (by omega) (by omega),e,w8n (n:=trN m t s+1) (by omega) (by omega),w8n (by omega) (by omega)]
 omega
end Go.Proofs.Ytaogbagopdlkmaa
