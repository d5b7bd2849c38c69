import Derived.Test.YtfpabkpmcmfbhaaEvZ7
import Derived.ChangeArms
import Derived.ChangeSlices
import Derived.OpenShut
set_option linter.unusedVariables false
namespace Go.Proofs.Ytfpabkpmcmfbhaa
open Go Go.RowKit Go.ChangeShapes Go.WideShapes
theorem flat_get {α:Type}{g:α→List Value}{k:Nat}(hg:∀ a,(g a).length=k){l:List α}{i r:Nat}{m:α}(hi:l[i]? = some m)(hr:r<k):(l.flatMap g)[i*k+r]? = (g m)[r]? := by
 rw [← List.getElem?_drop,flat_drop hg]
 have hlt:=(List.getElem?_eq_some_iff.1 hi).1
 have hm:=(List.getElem?_eq_some_iff.1 hi).2
 rw [List.drop_eq_getElem_cons hlt,hm,List.flatMap_cons,List.getElem?_append_left (by rw [hg]; exact hr)]
theorem cells_get {w:World}{base:Nat}{a:Addr}{n:Nat}{cs:List Value}(h:w.cells? base a n=some cs):cs.length=n∧∀ r,r<n→w.cell? (a.add r)=cs[r]? := by
 unfold World.cells? at h
 split at h
 ·exact ⟨by simpa using mapM_some_length h,fun r hr=>mapM_some_get h r r (by simp [hr])⟩
 ·cases h
theorem addr_add {a:Addr}(hs:a.spot=none)(n:Nat):a.add n=⟨a.block,a.off+n,none⟩:=by
 obtain ⟨b,o,s⟩:=a
 simp only at hs
 subst hs
 unfold Addr.add
 split
 ·rename_i e; subst e; rfl
 ·rfl
theorem open_rows {P:Program}{H:Type}{enc:TypeId × Value→H}{w:World}{base:Nat}{spare:Nat→Bool}{held:Bool}{α:Type}{g:α→List Value}{k:Nat}{W:α→Prop}{t e:TypeId}{fuel:Nat}{cs:List Value}{x:DataW H × List MemPlace}
  (ht:P.underlying t=some (.slice e)) (hk:P.cellsOf e=k) (hk0:0<k) (hg:∀ a,(g a).length=k) (ho:∀ a,(g a).all okC=true)
  (dec:∀ n (cs:List Value) y,cs.length=k→DataW.trod enc P w base spare held n e cs=some y→∃ m,cs=g m∧W m) (h:DataW.trod enc P w base spare held fuel t cs=some x) :
  ∃ (A:Option Addr) (len cap:Nat) (xs:List α),cs=[.slice A len cap]∧xs.length=len∧ListIn w (rowA g xs) len A cap∧(∀ m ∈ xs,W m):=by
 rcases DataW.trod_slice ht h with ⟨rfl,_⟩ | ⟨a,len,cap,elems,rest,n,_,rfl,_,hb,hl,hm,hlen,hel,_,_⟩
 ·exact ⟨none,0,0,[],rfl,rfl,.inl ⟨by rw [rowA_size hg]; simp,rfl⟩,fun m hm=>by cases hm⟩
 rw [hk] at hel
 have get:∀ i,i<len→∃ m,w.cells? base (a.add (i*k)) k=some (g m)∧W m:=by
  intro i hi
  have:=hel i hi
  rw [List.getElem?_eq_getElem (by omega),Option.bind_eq_some_iff] at this
  obtain ⟨cs,h1,h2⟩:=this
  obtain ⟨m,rfl,hw⟩:=dec _ _ _ (cells_get h1).1 h2
  exact ⟨m,h1,hw⟩
 have build:∀ n,n≤len→∃ xs:List α,xs.length=n∧∀ i,i<n→∃ m,xs[i]? = some m∧W m∧w.cells? base (a.add (i*k)) k=some (g m):=by
  intro n
  induction n with
  | zero=>intro _; exact ⟨[],rfl,fun i hi=>by omega⟩
  | succ n ih =>
   intro hn
   obtain ⟨xs,h1,h2⟩:=ih (by omega)
   obtain ⟨m,g1,g2⟩:=get n (by omega)
   refine ⟨xs++[m],by simp [h1],fun i hi=>?_⟩
   by_cases e:i=n
   ·subst e
    exact ⟨m,by rw [← h1]; simp,g2,g1⟩
   ·obtain ⟨m',q1,q2,q3⟩:=h2 i (by omega)
    exact ⟨m',by rw [List.getElem?_append_left (by omega)]; exact q1,q2,q3⟩
 obtain ⟨xs,h1,h2⟩:=build len (Nat.le_refl _)
 refine ⟨some a,len,cap,xs,rfl,h1,?_,fun m hm=>?_⟩
 ·by_cases h0:len=0
  ·exact .inl ⟨by rw [rowA_size hg,h1,h0]; simp,h0⟩
  ·have hsz:(rowA g xs).size=len*k:=by rw [rowA_size hg,h1]
   have hpos:0<len*k:=Nat.mul_pos (by omega) hk0
   have hex:∃ c' e' fz,a.spot=none∧w.heap[a.block]? = some (.cells c' e' fz):=by
    obtain ⟨m,_,_,q3⟩:=h2 0 (by omega)
    have c:=(cells_get q3).2 0 hk0
    have e0:(a.add (0*k)).add 0=a:=by rw [Nat.zero_mul]; unfold Addr.add; simp
    rw [e0,List.getElem?_eq_getElem (by rw [hg]; exact hk0)] at c
    unfold World.cell? at c
    split at c
    ·rename_i c' e' fz hc
     split at c
     ·cases c
     ·rename_i hs
      exact ⟨c',e',fz,by simpa using hs,hc⟩
    ·cases c
   obtain ⟨c',e',fz,hs,hc⟩:=hex
   have cell':∀ j (v:Value),(rowA g xs)[j]? = some v→c'[a.off+j]? = some v:=by
    intro j v hv
    have hj:=(Array.getElem?_eq_some_iff.1 hv).1
    rw [hsz] at hj
    have hik:j / k<len:=by rw [Nat.div_lt_iff_lt_mul hk0]; exact hj
    have hr:j%k<k:=Nat.mod_lt _ hk0
    obtain ⟨m,q1,q2,q3⟩:=h2 (j / k) hik
    have e:j / k*k+j%k=j:=by rw [Nat.mul_comm]; exact Nat.div_add_mod j k
    have c:=(cells_get q3).2 (j%k) hr
    have f:=flat_get hg q1 hr
    rw [e] at f
    rw [rowA_eq] at hv
    have hv:(xs.flatMap g)[j]? = some v:=by simpa using hv
    rw [f] at hv
    rw [hv,addr_add hs,addr_add rfl] at c
    unfold World.cell? at c
    simp only [hc,Nat.add_assoc,e] at c
    exact c
   refine .inr ⟨by omega,hl,Nat.lt_of_le_of_lt hm maxLen_lt,a.block,a.off,c',e',fz,?_,hc,?_,row_okC ho xs,cell'⟩
   ·obtain ⟨b,o,s⟩:=a
    simp only at hs
    subst hs; rfl
   ·have hlast:(rowA g xs)[len*k - 1]? = some ((rowA g xs)[len*k - 1]'(by omega)):=by simp
    have:=(Array.getElem?_eq_some_iff.1 (cell' _ _ hlast)).1
    omega
 ·obtain ⟨i,hi⟩:=List.getElem?_of_mem hm
  have hlt:=(List.getElem?_eq_some_iff.1 hi).1
  obtain ⟨m',q1,q2,_⟩:=h2 i (by omega)
  rw [hi] at q1; injection q1 with q1; subst q1
  exact q2
def rowW {α:Type}(g:α→List Value)(m:α):Prop:=∀ k z,Value.int k z ∈ g m→(Lit.int k z).wf=true
theorem knownR_law {P:Program}{L:Vars}{f:FuncId}{ds:List D}(h:KnownR P L f ds (.bool true) []){w:World}(hl:LaidL L w){args:List Value}(hd:DIns w ds args):Calls P f args.toArray w fun e w'=>e = .returned (.bool true)∧Below w.heap.size w w' :=
 (h w args hl hd).mono fun e w' hx=>by
  obtain ⟨v',τ,rfl,hb,hv,_⟩:=hx
  cases hv
  exact ⟨rfl,hb⟩
end Go.Proofs.Ytfpabkpmcmfbhaa
