import Derived.Test.YtfpabkpmcmfbhaaZD
import Derived.ProofKit
import Derived.IntWalk
import Derived.Test.YtfpabkpmcmfbhaaOgH
set_option linter.unusedVariables false
namespace Go.Proofs.Ytfpabkpmcmfbhaa
open Go Go.RowKit
def smB (l:List En):Bool:=l.all fun x=>decide (x.2.2.2.1.size≤100)
def ltB (ld:List Int)(es:List En):Bool:=decide (ld.length≤12∧(es.length≤60∨(2000<es.length∧es.length≤2010)))&&smB es
theorem lt_len {ld:List Int}{es:List En}(h:ltB ld es=true):ld.length≤12∧es.length≤2010:=by
 unfold ltB at h
 rw [Bool.and_eq_true,decide_eq_true_iff] at h
 omega
theorem ltA_go {ld:List Int}{es:List En}(hl:es.length≤2010):∀ (k i:Nat),i+k=es.length→∃ z,ltA_f ld es (k+1) (i:Int)=some (bif smB (es.drop i) then 1 else 0,z):=by
 intro k
 induction k with
 | zero =>
  intro i h
  rw [ltA_fs,bif_dT (by omega),bif_dF (by omega),List.drop_of_length_le (by omega)]
  exact ⟨_,rfl⟩
 | succ k ih =>
  intro i h
  rw [ltA_fs,bif_dT (by omega),bif_dT (by omega),el_drop (l:=es) (i:=i) (by omega),w8n (n:=(i:Int)+1) (by omega) (by omega)]
  obtain ⟨z,hz⟩:=ih (i+1) (by omega)
  rw [show ((i+1:Nat):Int)=(i:Int)+1 by omega] at hz
  unfold smB at *
  rw [List.all_cons]
  generalize el es (i:Int)=e at *
  by_cases h1:(e.2.2.2.1.size:Int)>100
  ·rw [bif_dT h1,decide_eq_false (show ¬ e.2.2.2.1.size≤100 by omega),Bool.false_and]
   exact ⟨_,rfl⟩
  ·rw [bif_dF h1,decide_eq_true (show e.2.2.2.1.size≤100 by omega),Bool.true_and]
   exact ⟨z,hz⟩
theorem luA_go {ld:List Int}{es:List En}(hl:es.length≤2010):∀ (k i:Nat),i+k=es.length→∃ z,luA_f ld es (k+1) (i:Int)=some (bif smB (es.drop i) then 1 else 0,z):=by
 intro k
 induction k with
 | zero =>
  intro i h
  rw [luA_fs,bif_dT (by omega),bif_dF (by omega),List.drop_of_length_le (by omega)]
  exact ⟨_,rfl⟩
 | succ k ih =>
  intro i h
  rw [luA_fs,bif_dT (by omega),bif_dT (by omega),el_drop (l:=es) (i:=i) (by omega),w8n (n:=(i:Int)+1) (by omega) (by omega)]
  obtain ⟨z,hz⟩:=ih (i+1) (by omega)
  rw [show ((i+1:Nat):Int)=(i:Int)+1 by omega] at hz
  unfold smB at *
  rw [List.all_cons]
  generalize el es (i:Int)=e at *
  by_cases h1:(e.2.2.2.1.size:Int)>100
  ·rw [bif_dT h1,decide_eq_false (show ¬ e.2.2.2.1.size≤100 by omega),Bool.false_and]
   exact ⟨_,rfl⟩
  ·rw [bif_dF h1,decide_eq_true (show e.2.2.2.1.size≤100 by omega),Bool.true_and]
   exact ⟨z,hz⟩
theorem light_is (ld:List Int)(es:List En):KnownR Try.prog [] 8 [.list (rowA gI ld) ld.length,.list (rowA gE es) es.length] (.bool (ltB ld es)) []:=by
 by_cases hE:ld.length≤12∧(es.length≤60∨(2000<es.length∧es.length≤2010))
 ·have eB:ltB ld es=smB es:=by unfold ltB; rw [decide_eq_true hE,Bool.true_and]
  rw [eB]
  have h0:((ld.length:Int)≤12):=by omega
  by_cases hs:es.length≤60
  ·have h2:(es.length:Int)≤60:=by omega
   obtain ⟨z,hz⟩:=ltA_go (ld:=ld) (es:=es) (by omega) es.length 0 (by omega)
   rw [List.drop_zero] at hz
   have ho:=ltA_ok ld es h0 h2 _ _ _ hz
   cases e:smB es with
   | true =>
    rw [e,cond_true] at ho
    exact lt1 ld es _ h0 h2 (decide_eq_false (by omega)) (decide_eq_false (by omega)) (decide_eq_false (by omega)) ho
   | false =>
    rw [e,cond_false] at ho
    exact lt0 ld es _ h0 h2 (decide_eq_false (by omega)) (decide_eq_false (by omega)) (decide_eq_false (by omega)) ho
  ·have h2:2000<(es.length:Int)∧(es.length:Int)≤2010:=by omega
   obtain ⟨z,hz⟩:=luA_go (ld:=ld) (es:=es) (by omega) es.length 0 (by omega)
   rw [List.drop_zero] at hz
   have ho:=luA_ok ld es h0 h2 _ _ _ hz
   cases e:smB es with
   | true =>
    rw [e,cond_true] at ho
    exact lu1 ld es _ h0 h2 (decide_eq_false (by omega)) (decide_eq_true (by omega)) (decide_eq_false (by omega)) (decide_eq_false (by omega)) ho
   | false =>
    rw [e,cond_false] at ho
    exact lu0 ld es _ h0 h2 (decide_eq_false (by omega)) (decide_eq_true (by omega)) (decide_eq_false (by omega)) (decide_eq_false (by omega)) ho
 ·have eB:ltB ld es=false:=by unfold ltB; rw [decide_eq_false hE,Bool.false_and]
  rw [eB]
  exact ltE ld es (by omega)
end Go.Proofs.Ytfpabkpmcmfbhaa
