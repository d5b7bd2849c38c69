import Derived.Test.YtfpabkpmcmfbhaaZU33
import Derived.Test.YtfpabkpmcmfbhaaZS33
set_option linter.unusedSimpArgs false
set_option linter.unusedVariables false
namespace Go.Proofs.Ytfpabkpmcmfbhaa
open Go Go.RowKit
def serR (m sl:Int)(es:List En):Nat→Int→List Int→List Int
 | 0,_,_=>[]
 | k+1,j,L=>wsN m L es (j*sl) ((j+1)*sl)::serR m sl es k (j+1) (wsL L es (j*sl) ((j+1)*sl))
theorem fold_low {lo hi2:Int}:∀ (A:List En) (s:List Int × List Bool),(∀ x ∈ A,x.1<lo)→A.foldl (fun s x=>stepF lo hi2 x s) s=s
 | [],s,_=>rfl
 | x::A,s,h=>by
  have hx:=h x List.mem_cons_self
  rw [List.foldl_cons,show stepF lo hi2 x s=s by unfold stepF; rw [if_neg (by omega)]]
  exact fold_low A s fun y hy=>h y (List.mem_cons_of_mem _ hy)
theorem fold_high {lo hi2:Int}:∀ (A:List En) (s:List Int × List Bool),(∀ x ∈ A,hi2≤x.1)→A.foldl (fun s x=>stepF lo hi2 x s) s=s
 | [],s,_=>rfl
 | x::A,s,h=>by
  have hx:=h x List.mem_cons_self
  rw [List.foldl_cons,show stepF lo hi2 x s=s by unfold stepF; rw [if_neg (by omega)]]
  exact fold_high A s fun y hy=>h y (List.mem_cons_of_mem _ hy)
theorem seg_fold {lo hi2:Int}:∀ (r:List En) (s:List Int × List Bool),r.Pairwise (fun a b=>a.1≤b.1)→(∀ x ∈ r,lo≤x.1)→r.foldl (fun s x=>stepF lo hi2 x s) s=(segS hi2 r s).2
 | [],s,_,_=>rfl
 | x::r,s,hp,h=>by
  have hx:=h x List.mem_cons_self
  obtain ⟨h1,h2⟩:=List.pairwise_cons.1 hp
  unfold segS
  by_cases c:x.1<hi2
  ·rw [if_pos c,List.foldl_cons,show stepF lo hi2 x s=stepE x s by unfold stepF; rw [if_pos ⟨hx,c⟩]]
   exact seg_fold r _ h2 fun y hy=>h y (List.mem_cons_of_mem _ hy)
  ·rw [if_neg c]
   refine fold_high (x::r) s fun y hy=>?_
   rcases List.mem_cons.1 hy with rfl | hy
   ·omega
   ·have:=h1 y hy; omega
theorem seg_split {B:Int}:∀ (r:List En) (s:List Int × List Bool),r.Pairwise (fun a b=>a.1≤b.1)→∃ p,r=p++(segS B r s).1∧(∀ x ∈ p,x.1<B)∧∀ x ∈ (segS B r s).1,B≤x.1
 | [],s,_=>⟨[],rfl,by simp,by intro x hx; cases hx⟩
 | x::r,s,hp=>by
  obtain ⟨h1,h2⟩:=List.pairwise_cons.1 hp
  unfold segS
  by_cases c:x.1<B
  ·rw [if_pos c]
   obtain ⟨p,e,g1,g2⟩:=seg_split r (stepE x s) h2
   refine ⟨x::p,by rw [List.cons_append,← e],fun y hy=>?_,g2⟩
   rcases List.mem_cons.1 hy with rfl | hy
   ·exact c
   ·exact g1 y hy
  ·rw [if_neg c]
   refine ⟨[],rfl,by simp,fun y hy=>?_⟩
   rcases List.mem_cons.1 hy with rfl | hy
   ·omega
   ·have:=h1 y hy; omega
theorem ser_eq {m sl:Int}{es:List En}(hs:1≤sl)(hp:es.Pairwise (fun a b=>a.1≤b.1)):∀ (k:Nat) (j:Int) (A r:List En) (L:List Int),es=A++r→(∀ x ∈ A,x.1<j*sl)→(∀ x ∈ r,j*sl≤x.1)→serR m sl es k j L=serP m sl k j r L
 | 0,_,_,_,_,_,_,_=>rfl
 | k+1,j,A,r,L,he,hA,hr=>by
  have hr2:r.Pairwise (fun a b=>a.1≤b.1):=by rw [he] at hp; exact (List.pairwise_append.1 hp).2.1
  have e:endF L es (j*sl) ((j+1)*sl)=(segS ((j+1)*sl) r (L,List.replicate L.length false)).2:=by
   unfold endF
   rw [he,List.foldl_append,fold_low A _ hA]
   exact seg_fold r _ hr2 hr
  obtain ⟨p,h1,h2,h3⟩:=seg_split (B:=(j+1)*sl) r (L,List.replicate L.length false) hr2
  have hm:(j+1)*sl=j*sl+sl:=by rw [Int.add_mul,Int.one_mul]
  unfold serR serP
  unfold wsN wsL
  rw [e]
  refine congrArg _ (ser_eq hs hp k (j+1) (A++p) _ _ (by rw [List.append_assoc,← h1]; exact he) (fun x hx=>?_) h3)
  rcases List.mem_append.1 hx with hx | hx
  ·have:=hA x hx
   omega
  ·exact h2 x hx
end Go.Proofs.Ytfpabkpmcmfbhaa
