import Derived.Test.YtaogbagopdlkmaaOgA
set_option linter.unusedVariables false
namespace Go.Proofs.Ytaogbagopdlkmaa
open Go Go.RowKit
def trN (m t s:Int):Int:=if m+((s - m) / t)*t=s∧2≤(s - m) / t∧(s - m) / t≤17 then (s - m) / t - 1 else 0
def slN (s c:Int):Int:=if (c / s)*s=c∧1≤c / s∧c / s≤24 then c / s else 0
theorem trN_of {m t s n:Int}(ht:2≤t)(h:m+(n+1)*t=s)(h1:1≤n)(h2:n≤16):trN m t s=n:=by
 have e:(s - m) / t=n+1:=by
  rw [show s - m=(n+1)*t by omega]
  exact Int.mul_ediv_cancel _ (by omega)
 unfold trN
 rw [e,if_pos ⟨h,by omega,by omega⟩]
 omega
theorem trN_eq {m t s:Int}(h:trN m t s≠0):m+(trN m t s+1)*t=s∧1≤trN m t s∧trN m t s≤16:=by
 unfold trN at *
 split at h
 ·rename_i g
  rw [if_pos g]
  exact ⟨by rw [Int.sub_add_cancel]; exact g.1,by omega,by omega⟩
 ·exact absurd rfl h
theorem slN_of {s c n:Int}(hs:1≤s)(h:n*s=c)(h1:1≤n)(h2:n≤24):slN s c=n:=by
 have e:c / s=n:=by
  rw [← h]
  exact Int.mul_ediv_cancel _ (by omega)
 unfold slN
 rw [e,if_pos ⟨h,by omega,by omega⟩]
theorem slN_eq {s c:Int}(h:slN s c≠0):slN s c*s=c∧1≤slN s c∧slN s c≤24:=by
 unfold slN at *
 split at h
 ·rename_i g
  rw [if_pos g]
  exact g
 ·exact absurd rfl h
theorem mul_in {n t a b:Int}(h0:0≤n)(h1:n≤a)(h2:0≤t)(h3:t≤b):0≤n*t∧n*t≤a*b :=
 ⟨Int.mul_nonneg h0 h2,Int.mul_le_mul h1 h3 h2 (by omega)⟩
theorem ptA_go {m d t s c:Int}(hm:1≤m∧m≤200000)(ht:2≤t∧t≤400000):∀ (k:Nat) (i:Int),1≤i→i+k=17→(trN m t s≠0→i≤trN m t s) →
  ∃ z,ptA_f m d t s c (k+1) i=some (if trN m t s=0 then 1 else 0,z)∧(trN m t s≠0→z=trN m t s):=by
 intro k
 induction k with
 | zero =>
  intro i h1 h2 h3
  have e:trN m t s=0:=by
   rcases Classical.em (trN m t s=0) with e | e
   ·exact e
   ·have:=h3 e; have:=(trN_eq e).2.2; omega
  rw [ptA_fs,bif_dT (by omega),bif_dF (by omega),if_pos e]
  exact ⟨_,rfl,fun n=>absurd e n⟩
 | succ k ih =>
  intro i h1 h2 h3
  have hb:=mul_in (n:=i+1) (t:=t) (a:=18) (b:=400000) (by omega) (by omega) (by omega) (by omega)
  rw [ptA_fs,bif_dT (by omega),bif_dT (by omega),w8n (n:=i+1) (by omega) (by omega),w8n (n:=(i+1)*t) (by omega) (by omega),w8n (n:=m+(i+1)*t) (by omega) (by omega)]
  by_cases h:m+(i+1)*t=s
  ·have e:=trN_of ht.1 h h1 (by omega)
   rw [show (m+(i+1)*t==s)=true by simpa using h,cond_true,if_neg (by omega)]
   exact ⟨_,rfl,fun _=>e.symm⟩
  ·rw [show (m+(i+1)*t==s)=false by simpa using h,cond_false]
   refine ih (i+1) (by omega) (by omega) (fun n=>?_)
   have h4:=h3 n
   rcases (by omega:i=trN m t s∨i<trN m t s) with e | e
   ·exact absurd (by rw [e]; exact (trN_eq n).1) h
   ·omega
theorem ptr_is (m d t s c:Int)(hm:1≤m∧m≤200000)(ht:2≤t∧t≤400000):KnownR Try.prog [] 37 [.val (.agg #[.int .i64 m,.int .i64 d,.int .i64 t,.int .i64 s,.int .i64 c])] (.int .i64 (trN m t s)) []:=by
 obtain ⟨z,hz,h⟩:=ptA_go (m:=m) (d:=d) (t:=t) (s:=s) (c:=c) hm ht 16 1 (by omega) (by omega) (fun n=>(trN_eq n).2.1)
 have ho:=ptA_ok m d t s c _ _ _ hz
 by_cases e:trN m t s=0
 ·rw [if_pos e] at ho
  rw [e]
  exact pt1 m d t s c z ho
 ·rw [if_neg e] at ho
  have k:=pt0 m d t s c z ho
  rw [show pt0_c0 m d t s c z=trN m t s from h e] at k
  exact k
theorem psA_go {m d t s c:Int}(hs:1≤s∧s≤10000000):∀ (k:Nat) (i:Int),1≤i→i+k=25→(slN s c≠0→i≤slN s c) →
  ∃ z,psA_f m d t s c (k+1) i=some (if slN s c=0 then 1 else 0,z)∧(slN s c≠0→z=slN s c):=by
 intro k
 induction k with
 | zero =>
  intro i h1 h2 h3
  have e:slN s c=0:=by
   rcases Classical.em (slN s c=0) with e | e
   ·exact e
   ·have:=h3 e; have:=(slN_eq e).2.2; omega
  rw [psA_fs,bif_dT (by omega),bif_dF (by omega),if_pos e]
  exact ⟨_,rfl,fun n=>absurd e n⟩
 | succ k ih =>
  intro i h1 h2 h3
  have hb:=mul_in (n:=i) (t:=s) (a:=25) (b:=10000000) (by omega) (by omega) (by omega) (by omega)
  rw [psA_fs,bif_dT (by omega),bif_dT (by omega),w8n (n:=i+1) (by omega) (by omega),w8n (n:=i*s) (by omega) (by omega)]
  by_cases h:i*s=c
  ·have e:=slN_of hs.1 h h1 (by omega)
   rw [show (i*s==c)=true by simpa using h,cond_true,if_neg (by omega)]
   exact ⟨_,rfl,fun _=>e.symm⟩
  ·rw [show (i*s==c)=false by simpa using h,cond_false]
   refine ih (i+1) (by omega) (by omega) (fun n=>?_)
   have h4:=h3 n
   rcases (by omega:i=slN s c∨i<slN s c) with e | e
   ·exact absurd (by rw [e]; exact (slN_eq n).1) h
   ·omega
theorem psl_is (m d t s c:Int)(hs:1≤s∧s≤10000000):KnownR Try.prog [] 39 [.val (.agg #[.int .i64 m,.int .i64 d,.int .i64 t,.int .i64 s,.int .i64 c])] (.int .i64 (slN s c)) []:=by
 obtain ⟨z,hz,h⟩:=psA_go (m:=m) (d:=d) (t:=t) (s:=s) (c:=c) hs 24 1 (by omega) (by omega) (fun n=>(slN_eq n).2.1)
 have ho:=psA_ok m d t s c _ _ _ hz
 by_cases e:slN s c=0
 ·rw [if_pos e] at ho
  rw [e]
  exact ps1 m d t s c z ho
 ·rw [if_neg e] at ho
  have k:=ps0 m d t s c z ho
  rw [show ps0_c0 m d t s c z=slN s c from h e] at k
  exact k
def ckX (m d t s c:Int):Int:=if 1≤m∧m≤200000∧1≤d∧d≤200000 then (if t=m+d then (if trN m t s=0 then 3 else if slN s c=0 then 3 else 0) else 3) else 2
theorem tr_bound {m t s:Int}(hm:1≤m∧m≤200000)(ht:2≤t∧t≤400000)(h:trN m t s≠0):1≤s∧s≤10000000:=by
 obtain ⟨h1,h2,h3⟩:=trN_eq h
 have hb:=mul_in (n:=trN m t s+1) (t:=t) (a:=17) (b:=400000) (by omega) (by omega) (by omega) (by omega)
 omega
theorem rck_eq {m d t s c:Int}(hs:s≤9223372036854775807)(hc:c≤9223372036854775807):rck_c0 m d t s c=ckX m d t s c:=by
 unfold rck_c0 ckX
 by_cases h1:m<1
 ·rw [bif_dT h1,if_neg (by omega)]
 rw [bif_dF h1]
 by_cases h2:m>200000
 ·rw [bif_dT h2,if_neg (by omega)]
 rw [bif_dF h2]
 by_cases h3:d<1
 ·rw [bif_dT h3,if_neg (by omega)]
 rw [bif_dF h3]
 by_cases h4:d>200000
 ·rw [bif_dT h4,if_neg (by omega)]
 rw [bif_dF h4,if_pos (by omega),w8n (n:=m+d) (by omega) (by omega)]
 by_cases h5:t=m+d
 ·rw [show (t != m+d)=false by simpa using h5,cond_false,if_pos h5]
  have ht:2≤t∧t≤400000:=by omega
  have hm:1≤m∧m≤200000:=by omega
  by_cases h6:s<m
  ·have e:trN m t s=0:=by
    rcases Classical.em (trN m t s=0) with e | e
    ·exact e
    ·obtain ⟨g1,g2,g3⟩:=trN_eq e
     have hb:=mul_in (n:=trN m t s+1) (t:=t) (a:=17) (b:=400000) (by omega) (by omega) (by omega) (by omega)
     omega
   rw [bif_dT h6,if_pos e]
  ·rw [bif_dF h6]
   have q0:0≤(s - m) / t:=Int.ediv_nonneg (by omega) (by omega)
   have q1:(s - m) / t*t≤s - m:=Int.ediv_mul_le _ (by omega)
   have q2:(s - m) / t≤s - m:=Int.ediv_le_self _ (by omega)
   have q3:0≤(s - m) / t*t:=Int.mul_nonneg q0 (by omega)
   rw [w8n (n:=s - m) (by omega) (by omega),Int.tdiv_eq_ediv_of_nonneg (by omega),w8n (n:=(s - m) / t) (by omega) (by omega),w8n (n:=(s - m) / t*t) (by omega) (by omega),w8n (n:=m+(s - m) / t*t) (by omega) (by omega)]
   by_cases h7:m+(s - m) / t*t=s
   ·rw [show (s != m+(s - m) / t*t)=false by simpa using h7.symm,cond_false]
    by_cases h8:(s - m) / t<2
    ·rw [bif_dT h8,if_pos (by unfold trN; rw [if_neg (by omega)])]
    ·rw [bif_dF h8]
     by_cases h9:(s - m) / t>17
     ·rw [bif_dT h9,if_pos (by unfold trN; rw [if_neg (by omega)])]
     ·rw [bif_dF h9]
      have e:trN m t s=(s - m) / t - 1:=by unfold trN; rw [if_pos ⟨h7,by omega,by omega⟩]
      have hn:trN m t s≠0:=by omega
      have hS:=tr_bound hm ht hn
      rw [if_neg hn]
      by_cases h10:c<s
      ·rw [bif_dT h10]
       have:slN s c=0:=by
        rcases Classical.em (slN s c=0) with e | e
        ·exact e
        ·obtain ⟨g1,g2,g3⟩:=slN_eq e
         have:1*s≤slN s c*s:=Int.mul_le_mul_of_nonneg_right g2 (by omega)
         omega
       rw [if_pos this]
      ·rw [bif_dF h10,Int.tmod_eq_emod_of_nonneg (by omega),Int.tdiv_eq_ediv_of_nonneg (by omega)]
       have c0:0≤c / s:=Int.ediv_nonneg (by omega) (by omega)
       have c2:c / s≤c:=Int.ediv_le_self _ (by omega)
       have c3:c%s+s*(c / s)=c:=Int.emod_add_mul_ediv c s
       rw [Int.mul_comm] at c3
       have c4:1≤c / s:=by
        rcases (by omega:c / s=0∨1≤c / s) with e | e
        ·rw [e] at c3
         have:=Int.emod_lt_of_pos c (show 0<s by omega)
         omega
        ·exact e
       rw [w8n (n:=c / s) (by omega) (by omega)]
       by_cases h11:c%s=0
       ·rw [show (c%s != 0)=false by simpa using h11,cond_false]
        by_cases h12:c / s>24
        ·rw [bif_dT h12,if_pos (by unfold slN; rw [if_neg (by omega)])]
        ·rw [bif_dF h12,if_neg (by unfold slN; rw [if_pos ⟨by omega,by omega,by omega⟩]; omega)]
       ·rw [show (c%s != 0)=true by simpa using h11,cond_true,if_pos (by unfold slN; rw [if_neg (by omega)])]
   ·rw [show (s != m+(s - m) / t*t)=true by simpa using fun e=>h7 (Eq.symm e),cond_true,if_pos (by unfold trN; rw [if_neg (by omega)])]
 ·rw [show (t != m+d)=true by simpa using h5,cond_true,if_neg h5]
theorem rcheck_is (m d t s c:Int)(hs:s≤9223372036854775807)(hc:c≤9223372036854775807):KnownR Try.prog [] 15 [.val (.agg #[.int .i64 m,.int .i64 d,.int .i64 t,.int .i64 s,.int .i64 c])] (.int .i64 (ckX m d t s c)) []:=by
 have k:=rck m d t s c
 rw [rck_eq hs hc] at k
 exact k
end Go.Proofs.Ytaogbagopdlkmaa
