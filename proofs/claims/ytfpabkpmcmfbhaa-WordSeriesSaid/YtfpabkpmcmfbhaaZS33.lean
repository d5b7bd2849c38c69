import Derived.Test.YtfpabkpmcmfbhaaZD
set_option linter.unusedSimpArgs false
set_option linter.unusedVariables false
namespace Go.Proofs.Ytfpabkpmcmfbhaa
open Go Go.RowKit
def stepF (lo hi2:Int)(x:En)(s:List Int × List Bool):List Int × List Bool:=if lo≤x.1∧x.1<hi2 then stepE x s else s
def endF (ld:List Int)(es:List En)(lo hi2:Int):List Int × List Bool:=es.foldl (fun s x=>stepF lo hi2 x s) (ld,List.replicate ld.length false)
def wsN (m:Int)(ld:List Int)(es:List En)(lo hi2:Int):Int:=(wdN (tgF m (endF ld es lo hi2).2 (endF ld es lo hi2).1):Int)
def wsL (ld:List Int)(es:List En)(lo hi2:Int):List Int:=(endF ld es lo hi2).1
theorem rfA_gen {ld:List Int}{es:List En}{m lo hi2:Int}(hl:ld.length≤8)(he:es.length≤2000)(ho:∀ i:Nat,i<es.length→okE (ld.length:Int) (el es (i:Int))):∀ (k i:Nat) (L:List Int) (F:List Bool),i+k=es.length→L.length=ld.length→F.length=ld.length →
  ∃ z,rfA_f ld es lo hi2 m (k+1) L.reverse F.reverse (i:Int)=some (0,(((es.drop i).foldl (fun s x=>stepF lo hi2 x s) (L,F)).1.reverse,((es.drop i).foldl (fun s x=>stepF lo hi2 x s) (L,F)).2.reverse,z))∧((es.drop i).foldl (fun s x=>stepF lo hi2 x s) (L,F)).1.length=ld.length∧((es.drop i).foldl (fun s x=>stepF lo hi2 x s) (L,F)).2.length=ld.length:=by
 intro k
 induction k with
 | zero =>
  intro i L F h hL hF
  have hk:=ok_at ho (i:=i) (by omega)
  rw [rfA_fs,bif_dT ⟨by omega,by omega,hk,by simp [hL],by simp [hF]⟩,bif_dF (by omega),List.drop_of_length_le (by omega)]
  exact ⟨_,rfl,hL,hF⟩
 | succ k ih =>
  intro i L F h hL hF
  have hk:=ok_at ho (i:=i) (by omega)
  obtain ⟨g1,g2,g3⟩:=ho i (by omega)
  rw [rfA_fs,bif_dT ⟨by omega,by omega,hk,by simp [hL],by simp [hF]⟩,bif_dT (by omega),el_drop (l:=es) (i:=i) (by omega),List.foldl_cons,w8n (n:=(i:Int)+1) (by omega) (by omega),show (i:Int)+1=((i+1:Nat):Int) by omega]
  generalize el es (i:Int)=x at *
  by_cases h1:x.2.1=2
  ·have e1:(x.2.1 != 2)=false:=by simp [h1]
   rw [e1,cond_false]
   by_cases c1:x.1<lo
   ·have e3:stepF lo hi2 x (L,F)=(L,F):=by unfold stepF; rw [if_neg (by omega)]
    rw [bif_dT c1,e3]
    exact ih (i+1) _ _ (by omega) hL hF
   rw [bif_dF c1]
   by_cases c2:x.1≥hi2
   ·have e3:stepF lo hi2 x (L,F)=(L,F):=by unfold stepF; rw [if_neg (by omega)]
    rw [bif_dT c2,e3]
    exact ih (i+1) _ _ (by omega) hL hF
   rw [bif_dF c2]
   have e4:stepF lo hi2 x (L,F)=stepE x (L,F):=by unfold stepF; rw [if_pos (by omega)]
   rw [e4]
   rcases g3 with g3 | ⟨g3,g4,g5,g6⟩
   ·exact absurd h1 g3
   ·rw [w8n (n:=x.2.2.2.2.1 - 1) (by omega) (by omega),List.reverse_reverse,List.reverse_reverse]
    by_cases h2:x.2.2.2.2.2.1=1
    ·have e2:(x.2.2.2.2.2.1==1)=true:=by simp [h2]
     have e3:stepE x (L,F)=(L.set (x.2.2.2.2.1 - 1).toNat x.2.2.2.2.2.2,F):=by unfold stepE; rw [if_pos h1,if_pos h2]
     rw [e2,cond_true,e3]
     exact ih (i+1) _ _ (by omega) (by simp [hL]) hF
    ·have e2:(x.2.2.2.2.2.1==1)=false:=by simp [h2]
     rw [e2,cond_false]
     by_cases h3:x.2.2.2.2.2.1≥3
     ·have e3:stepE x (L,F)=(L,F.set (x.2.2.2.2.1 - 1).toNat true):=by unfold stepE; rw [if_pos h1,if_neg h2,if_pos h3]
      rw [bif_dT h3,e3]
      exact ih (i+1) _ _ (by omega) hL (by simp [hF])
     ·have e3:stepE x (L,F)=(L,F):=by unfold stepE; rw [if_pos h1,if_neg h2,if_neg (by omega)]
      rw [bif_dF h3,e3]
      exact ih (i+1) _ _ (by omega) hL hF
  ·have e1:(x.2.1 != 2)=true:=by simp [h1]
   have e3:stepF lo hi2 x (L,F)=(L,F):=by unfold stepF stepE; rw [if_neg h1]; simp
   rw [e1,cond_true,e3]
   exact ih (i+1) _ _ (by omega) hL hF
theorem rof_gen {m lo hi2:Int}{ld:List Int}{es:List En}(l1:1≤(ld.length:Int))(l2:(ld.length:Int)≤8)(l3:(es.length:Int)≤2000)(ho:∀ i:Nat,i<es.length→okE (ld.length:Int) (el es (i:Int))):KnownR Try.prog [] 32 [.val (.int .i64 m),.list (rowA gI ld) ld.length,.list (rowA gE es) es.length,.val (.int .i64 lo),.val (.int .i64 hi2)] (.tuple #[.int .i64 (wsN m ld es lo hi2),.complex .f64 0 (wsL ld es lo hi2).length]) [(rowA gI (wsL ld es lo hi2),3)]:=by
 obtain ⟨z,hz,hLn,hFn⟩:=rfA_gen (lo:=lo) (hi2:=hi2) (ld:=ld) (es:=es) (m:=m) (by omega) (by omega) ho es.length 0 ld (List.replicate ld.length false) (by omega) rfl (by simp)
 rw [List.drop_zero] at hz hLn hFn
 have hLn:(endF ld es lo hi2).1.length=ld.length:=hLn
 have hFn:(endF ld es lo hi2).2.length=ld.length:=hFn
 have oa:=rfA_ok ld es lo hi2 m ⟨l1,l2⟩ _ _ _ hz
 dsimp only at oa
 obtain ⟨z1,z2,hz'⟩:=rfB_go (ld:=ld) (es:=es) (m:=m) (lo:=lo) (hi2:=hi2) (z2:=z) (L:=(endF ld es lo hi2).1) (F:=(endF ld es lo hi2).2) (by omega) hLn hFn ld.length 0 (by omega)
 rw [List.take_zero] at hz'
 have ob:=rfB_ok ld es lo hi2 m (endF ld es lo hi2).1.reverse (endF ld es lo hi2).2.reverse z ⟨l1,l2⟩ (by rw [List.length_reverse]; exact hLn.symm) (by rw [List.length_reverse]; exact hFn.symm) (decide_eq_true (by omega)) (decide_eq_true (by omega)) oa _ _ _ hz'
 have r:=rf0 ld es lo hi2 m _ _ _ _ _ _ ⟨l1,l2⟩ (by rw [List.length_reverse]; exact hLn.symm) (by rw [List.length_reverse]; exact hFn.symm) (decide_eq_true (by omega)) (decide_eq_true (by omega)) oa ob
 unfold rf0_c0 rf0_c1 at r
 rw [List.reverse_reverse] at r
 exact r
end Go.Proofs.Ytfpabkpmcmfbhaa
