import Derived.Test.YtaogbagopdlkmaaOgB
set_option linter.unusedVariables false
namespace Go.Proofs.Ytaogbagopdlkmaa
open Go Go.RowKit
theorem pcheck_is (m d t s c:Int):KnownR Try.prog [] 14 [.val (.agg #[.int .i64 m,.int .i64 d,.int .i64 t,.int .i64 s,.int .i64 c])] (.int .i64 (ckX m d t s c)) []:=by
 by_cases hE:1≤m∧m≤200000∧1≤d∧d≤200000∧t=IntKind.i64.wrap (m+d)
 ·obtain ⟨h1,h2,h3,h4,h5⟩:=hE
  have h6:t=m+d:=by rw [h5,w8n (by omega) (by omega)]
  unfold ckX
  rw [if_pos ⟨h1,h2,h3,h4⟩,if_pos h6]
  by_cases hn:trN m t s=0
  ·rw [if_pos hn]
   exact pkF m d t s c ⟨h1,h2⟩ ⟨h3,h4⟩ h5 (by omega) hn
  ·have k:=pkT m d t s c ⟨h1,h2⟩ ⟨h3,h4⟩ h5 (by omega) hn (tr_bound ⟨h1,h2⟩ (by omega) hn)
   have e:pkT_c0 m d t s c=if slN s c=0 then 3 else 0:=by
    unfold pkT_c0
    by_cases h:slN s c=0
    ·rw [show (slN s c==0)=true by simpa using h,if_pos h]; rfl
    ·rw [show (slN s c==0)=false by simpa using h,if_neg h]; rfl
   rw [if_neg hn,← e]
   exact k
 ·have k:=pkE m d t s c hE
  have e:pkE_c0 m d t s c=ckX m d t s c:=by
   unfold pkE_c0 ckX
   by_cases h1:m<1
   ·rw [bif_dT h1,if_neg (by omega)]
   rw [bif_dF h1]
   by_cases h2:m>200000
   ·rw [bif_dT h2,if_neg (by omega)]
   rw [bif_dF h2]
   by_cases h3:d<1
   ·rw [bif_dT h3,if_neg (by omega)]
   rw [bif_dF h3]
   by_cases h4:d>200000
   ·rw [bif_dT h4,if_neg (by omega)]
   rw [bif_dF h4,if_pos (by omega),if_neg (fun h=>hE ⟨by omega,by omega,by omega,by omega,by rw [w8n (by omega) (by omega)]; exact h⟩)]
  rw [e] at k
  exact k
theorem ck_ok {m d t s c:Int}(h:ckX m d t s c=0):(1≤m∧m≤200000)∧(1≤d∧d≤200000)∧t=m+d∧trN m t s≠0∧slN s c≠0:=by
 unfold ckX at h
 split at h
 ·split at h
  ·split at h
   ·cases h
   ·split at h
    ·cases h
    ·exact ⟨by omega,by omega,by assumption,by assumption,by assumption⟩
  ·cases h
 ·cases h
abbrev Prt:=Int × Int × Int × Int
def gQ (x:Int × Int × Int × Int):List Value:=[.int .i64 x.1,.int .i64 x.2.1,.int .i64 x.2.2.1,.int .i64 x.2.2.2]
theorem gQ_inj {l m:List (Int × Int × Int × Int)}:rowA gQ l=rowA gQ m ↔ l=m:=⟨row_inj (k:=4) (fun _=>rfl) (by decide) (fun a b h=>by simpa [gQ,Prod.ext_iff] using h),fun h=>by rw [h]⟩
end Go.Proofs.Ytaogbagopdlkmaa
