import Derived.Test.YtaogbagopdlkmaaOgZ
import Derived.Test.YtaogbagopdlkmaaPO
set_option linter.unusedVariables false
namespace Go.Proofs.Ytaogbagopdlkmaa
open Go Go.RowKit
theorem low_in {m d:Int}(hm:1≤m∧m≤200000)(hd:1≤d∧d≤200000)(N i:Nat)(hi:i<2*N+3)(hN2:N≤16):0≤fst m d i∧fst m d i≤8000000:=by
 have hb:=nmul (n:=N) (t:=m+d) (by omega) (by omega) (by omega)
 have:=fst_mono hm.1 hd.1 (a:=0) (b:=i) (by omega)
 have g:=fst_mono hm.1 hd.1 (a:=i) (b:=2*(N+1)+1) (by omega)
 rw [fst_odd,nsucc] at g
 have f0:fst m d 0=0:=by unfold fst; rw [if_pos rfl]
 omega
theorem len_in2 {m d:Int}(hm:1≤m∧m≤200000)(hd:1≤d∧d≤200000)(N j:Nat)(h:j<2*N+3):1≤(prt m d N j).2.2.2∧(prt m d N j).2.2.2≤200000:=by
 refine ⟨len_pos hm.1 hd.1 N j h,?_⟩
 rw [(prt_of m d N j h).2.2.2]
 unfold tkL
 split <;> omega
theorem sum_in {m d k:Int}(hm:1≤m∧m≤200000)(hd:1≤d∧d≤200000)(N:Nat):∀ i:Nat,i≤2*N+3→0≤sumN (whK m d N k) i∧sumN (whK m d N k) i≤i*200000
 | 0,_=>by simp [sumN]
 | i+1,h=>by
  have:=sum_in (k:=k) hm hd N i (by omega)
  have hl:=len_in2 hm hd N i (by omega)
  simp only [sumN]
  unfold whK at *
  split <;> omega
theorem bsum_in {m d k u:Int}(hm:1≤m∧m≤200000)(hd:1≤d∧d≤200000)(N:Nat):∀ i:Nat,i≤2*N+3→0≤sumN (bgK m d N k u) i∧sumN (bgK m d N k u) i≤i*200000
 | 0,_=>by simp [sumN]
 | i+1,h=>by
  have:=bsum_in (k:=k) (u:=u) hm hd N i (by omega)
  have hl:=len_in2 hm hd N i (by omega)
  simp only [sumN]
  have:0≤bgK m d N k u i∧bgK m d N k u i≤200000:=by
   unfold bgK whK
   split <;> omega
  omega
theorem coD_eq (m d t s c x y k z:Int):∀ (fu:Nat) (y0:List Prt) (y1 y2:Int),coD_f m d t s c x y k fu y0 y1 y2=ofD_f m d t s c z fu y0 y1 y2:=by
 intro fu
 induction fu with
 | zero=>intros; rfl
 | succ n ih=>intro y0 y1 y2; rw [coD_f.eq_2,ofD_f.eq_2,ih]
theorem coA_go {m d t s c x y k:Int}{N:Nat}(z1:Int)(hm:1≤m∧m≤200000)(hd:1≤d∧d≤200000)(hN2:N≤16):∀ (n i:Nat),i+n=2*N+3 →
  coA_f m d t s c x y k (pts m d N (2*N+1)).reverse z1 (m+N*(m+d)) (n+1) (sumN (whK m d N k) i) (i:Int)=some (0,(wsK m d N k,((2*N+3:Nat):Int))):=by
 have hb:=nmul (n:=N) (t:=m+d) (by omega) (by omega) (by omega)
 have w1:=w8n (n:=m+N*(m+d)+m) (by omega) (by omega)
 intro n
 induction n with
 | zero =>
  intro i h
  rw [coA_f.eq_2]
  simp only [List.length_reverse,pts_len]
  rw [bif_dT (by omega),bif_dF (by omega),show i=2*N+3 by omega]
  rfl
 | succ n ih =>
  intro i h
  have hi:i<2*N+3:=by omega
  have hs:=sum_in (k:=k) hm hd N i (by omega)
  have hs2:=sum_in (k:=k) hm hd N (i+1) (by omega)
  simp only [sumN] at hs2
  rw [coA_f.eq_2,w1,ptL_eq,ptL_el m d N i hi,w8n (n:=(i:Int)+1) (by omega) (by omega),show (i:Int)+1=((i+1:Nat):Int) by omega]
  simp only [List.length_reverse,pts_len]
  rw [bif_dT (by omega),bif_dT (by omega)]
  have hn:=ih (i+1) (by omega)
  simp only [sumN] at hn
  by_cases c:(prt m d N i).1=k
  ·have ew:whK m d N k i=(prt m d N i).2.2.2:=by unfold whK; rw [if_pos c]
   rw [show ((prt m d N i).1 != k)=false by simpa using c,cond_false]
   rw [ew] at hn hs2
   rw [w8n (by omega) (by omega)]
   exact hn
  ·have ew:whK m d N k i=0:=by unfold whK; rw [if_neg c]
   rw [show ((prt m d N i).1 != k)=true from bne_iff_ne.2 c,cond_true]
   rw [ew] at hn hs2
   rw [w8n (by omega) (by omega)]
   exact hn
theorem coB_go {m d t s c x y k u:Int}{N:Nat}(z1:Int)(a0 a1:Int)(hm:1≤m∧m≤200000)(hd:1≤d∧d≤200000)(hN2:N≤16)(hsl:m+N*(m+d)+m+d=s)(hu:y.tmod s=u)(hu0:0≤u∧u≤10000000):∀ (n i:Nat),i+n=2*N+3 →
  coB_f m d t s c x y k (pts m d N (2*N+1)).reverse z1 (m+N*(m+d)) a0 a1 (n+1) (sumN (bgK m d N k u) i) (i:Int)=some (0,(bsK m d N k u,((2*N+3:Nat):Int))):=by
 have hb:=nmul (n:=N) (t:=m+d) (by omega) (by omega) (by omega)
 have w1:=w8n (n:=m+N*(m+d)+m) (by omega) (by omega)
 have w2:=w8n (n:=m+N*(m+d)+m+d) (by omega) (by omega)
 intro n
 induction n with
 | zero =>
  intro i h
  rw [coB_f.eq_2]
  simp only [List.length_reverse,pts_len]
  rw [bif_dT (by omega),bif_dF (by omega),show i=2*N+3 by omega]
  rfl
 | succ n ih =>
  intro i h
  have hi:i<2*N+3:=by omega
  have hs:=bsum_in (k:=k) (u:=u) hm hd N i (by omega)
  have hs2:=bsum_in (k:=k) (u:=u) hm hd N (i+1) (by omega)
  simp only [sumN] at hs2
  have hl:=low_in hm hd N i hi hN2
  have hfst:(prt m d N i).2.2.1=fst m d i:=prt_fst m d N i
  rw [coB_f.eq_2,w1,w2,ptL_eq,ptL_el m d N i hi,hsl,hu,hfst,w8n (n:=u - fst m d i) (by omega) (by omega),w8n (n:=(i:Int)+1) (by omega) (by omega),show (i:Int)+1=((i+1:Nat):Int) by omega]
  simp only [List.length_reverse,pts_len]
  rw [bif_dT (by omega),bif_dT (by omega)]
  have hn:=ih (i+1) (by omega)
  simp only [sumN] at hn
  by_cases c:(prt m d N i).1=k
  ·have ew:whK m d N k i=(prt m d N i).2.2.2:=by unfold whK; rw [if_pos c]
   rw [show ((prt m d N i).1 != k)=false by simpa using c,cond_false]
   have eb:(if (0:Int)>(if (prt m d N i).2.2.2<u - fst m d i then (prt m d N i).2.2.2 else u - fst m d i) then (0:Int) else if (prt m d N i).2.2.2<u - fst m d i then (prt m d N i).2.2.2 else u - fst m d i)=bgK m d N k u i:=by
    unfold bgK; rw [ew]; split <;> split <;> omega
   rw [eb,w8n (by omega) (by omega)]
   exact hn
  ·have ew:whK m d N k i=0:=by unfold whK; rw [if_neg c]
   rw [show ((prt m d N i).1 != k)=true from bne_iff_ne.2 c,cond_true]
   have eb:(if (0:Int)>(if (0:Int)<u - fst m d i then (0:Int) else u - fst m d i) then (0:Int) else if (0:Int)<u - fst m d i then (0:Int) else u - fst m d i)=bgK m d N k u i:=by
    unfold bgK; rw [ew]; split <;> split <;> omega
   rw [eb,w8n (by omega) (by omega)]
   exact hn
theorem coC_go {m d t s c x y k:Int}{N:Nat}(z1:Int)(a0 a1 b0 b1:Int)(hm:1≤m∧m≤200000)(hd:1≤d∧d≤200000)(hN2:N≤16):∀ (n i:Nat),i+n=2*N+3 →
  coC_f m d t s c x y k (pts m d N (2*N+1)).reverse z1 (m+N*(m+d)) a0 a1 b0 b1 (n+1) (sumN (whK m d N k) i) (i:Int)=some (0,(wsK m d N k,((2*N+3:Nat):Int))):=by
 have hb:=nmul (n:=N) (t:=m+d) (by omega) (by omega) (by omega)
 have w1:=w8n (n:=m+N*(m+d)+m) (by omega) (by omega)
 intro n
 induction n with
 | zero =>
  intro i h
  rw [coC_f.eq_2]
  simp only [List.length_reverse,pts_len]
  rw [bif_dT (by omega),bif_dF (by omega),show i=2*N+3 by omega]
  rfl
 | succ n ih =>
  intro i h
  have hi:i<2*N+3:=by omega
  have hs:=sum_in (k:=k) hm hd N i (by omega)
  have hs2:=sum_in (k:=k) hm hd N (i+1) (by omega)
  simp only [sumN] at hs2
  rw [coC_f.eq_2,w1,ptL_eq,ptL_el m d N i hi,w8n (n:=(i:Int)+1) (by omega) (by omega),show (i:Int)+1=((i+1:Nat):Int) by omega]
  simp only [List.length_reverse,pts_len]
  rw [bif_dT (by omega),bif_dT (by omega)]
  have hn:=ih (i+1) (by omega)
  simp only [sumN] at hn
  by_cases c:(prt m d N i).1=k
  ·have ew:whK m d N k i=(prt m d N i).2.2.2:=by unfold whK; rw [if_pos c]
   rw [show ((prt m d N i).1 != k)=false by simpa using c,cond_false]
   rw [ew] at hn hs2
   rw [w8n (by omega) (by omega)]
   exact hn
  ·have ew:whK m d N k i=0:=by unfold whK; rw [if_neg c]
   rw [show ((prt m d N i).1 != k)=true from bne_iff_ne.2 c,cond_true]
   rw [ew] at hn hs2
   rw [w8n (by omega) (by omega)]
   exact hn
theorem coF_go {m d t s c x y k u:Int}{N:Nat}(z1:Int)(a0 a1 b0 b1 c0 c1:Int)(hm:1≤m∧m≤200000)(hd:1≤d∧d≤200000)(hN2:N≤16)(hsl:m+N*(m+d)+m+d=s)(hu:x.tmod s=u)(hu0:0≤u∧u≤10000000):∀ (n i:Nat),i+n=2*N+3 →
  coF_f m d t s c x y k (pts m d N (2*N+1)).reverse z1 (m+N*(m+d)) a0 a1 b0 b1 c0 c1 (n+1) (sumN (bgK m d N k u) i) (i:Int)=some (0,(bsK m d N k u,((2*N+3:Nat):Int))):=by
 have hb:=nmul (n:=N) (t:=m+d) (by omega) (by omega) (by omega)
 have w1:=w8n (n:=m+N*(m+d)+m) (by omega) (by omega)
 have w2:=w8n (n:=m+N*(m+d)+m+d) (by omega) (by omega)
 intro n
 induction n with
 | zero =>
  intro i h
  rw [coF_f.eq_2]
  simp only [List.length_reverse,pts_len]
  rw [bif_dT (by omega),bif_dF (by omega),show i=2*N+3 by omega]
  rfl
 | succ n ih =>
  intro i h
  have hi:i<2*N+3:=by omega
  have hs:=bsum_in (k:=k) (u:=u) hm hd N i (by omega)
  have hs2:=bsum_in (k:=k) (u:=u) hm hd N (i+1) (by omega)
  simp only [sumN] at hs2
  have hl:=low_in hm hd N i hi hN2
  have hfst:(prt m d N i).2.2.1=fst m d i:=prt_fst m d N i
  rw [coF_f.eq_2,w1,w2,ptL_eq,ptL_el m d N i hi,hsl,hu,hfst,w8n (n:=u - fst m d i) (by omega) (by omega),w8n (n:=(i:Int)+1) (by omega) (by omega),show (i:Int)+1=((i+1:Nat):Int) by omega]
  simp only [List.length_reverse,pts_len]
  rw [bif_dT (by omega),bif_dT (by omega)]
  have hn:=ih (i+1) (by omega)
  simp only [sumN] at hn
  by_cases c:(prt m d N i).1=k
  ·have ew:whK m d N k i=(prt m d N i).2.2.2:=by unfold whK; rw [if_pos c]
   rw [show ((prt m d N i).1 != k)=false by simpa using c,cond_false]
   have eb:(if (0:Int)>(if (prt m d N i).2.2.2<u - fst m d i then (prt m d N i).2.2.2 else u - fst m d i) then (0:Int) else if (prt m d N i).2.2.2<u - fst m d i then (prt m d N i).2.2.2 else u - fst m d i)=bgK m d N k u i:=by
    unfold bgK; rw [ew]; split <;> split <;> omega
   rw [eb,w8n (by omega) (by omega)]
   exact hn
  ·have ew:whK m d N k i=0:=by unfold whK; rw [if_neg c]
   rw [show ((prt m d N i).1 != k)=true from bne_iff_ne.2 c,cond_true]
   have eb:(if (0:Int)>(if (0:Int)<u - fst m d i then (0:Int) else u - fst m d i) then (0:Int) else if (0:Int)<u - fst m d i then (0:Int) else u - fst m d i)=bgK m d N k u i:=by
    unfold bgK; rw [ew]; split <;> split <;> omega
   rw [eb,w8n (by omega) (by omega)]
   exact hn
end Go.Proofs.Ytaogbagopdlkmaa
