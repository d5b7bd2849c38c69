import Derived.Test.YtfpabkpmcmfbhaaOgB
set_option linter.unusedVariables false
namespace Go.Proofs.Ytfpabkpmcmfbhaa
open Go Go.RowKit
theorem notT {p:Prop}[Decidable p](h:p):(!decide p)=false:=by rw [decide_eq_true h]; rfl
def ldB (l:List Int):Bool:=l.all fun n=>decide (0≤n∧n≤10000)
theorem pcA_go {m:Int}{ld:List Int}{es:List En}(hl:ld.length≤8):∀ (k i:Nat),i+k=ld.length→∃ z,pcA_f m ld es (k+1) (i:Int)=some (bif ldB (ld.drop i) then 1 else 0,z):=by
 intro k
 induction k with
 | zero =>
  intro i h
  rw [pcA_fs,bif_dT (by omega),bif_dF (by omega),List.drop_of_length_le (by omega)]
  exact ⟨_,rfl⟩
 | succ k ih =>
  intro i h
  rw [pcA_fs,bif_dT (by omega),bif_dT (by omega),el_drop (l:=ld) (i:=i) (by omega),w8n (n:=(i:Int)+1) (by omega) (by omega)]
  obtain ⟨z,hz⟩:=ih (i+1) (by omega)
  rw [show ((i+1:Nat):Int)=(i:Int)+1 by omega] at hz
  unfold ldB at *
  rw [List.all_cons]
  generalize el ld (i:Int)=e at *
  by_cases h1:e≥0
  ·rw [bif_dT h1]
   by_cases h2:e≤10000
   ·rw [decide_eq_true h2,Bool.not_true,cond_false,decide_eq_true (show 0≤e∧e≤10000 from ⟨h1,h2⟩),Bool.true_and]
    exact ⟨z,hz⟩
   ·rw [decide_eq_false h2,Bool.not_false,cond_true,decide_eq_false (show ¬ (0≤e∧e≤10000) from fun h=>h2 h.2),Bool.false_and]
    exact ⟨_,rfl⟩
  ·rw [bif_dF h1,decide_eq_false (show ¬ (0≤e∧e≤10000) from fun h=>h1 h.1),Bool.false_and]
   exact ⟨_,rfl⟩
theorem rcA_go {m:Int}{ld:List Int}{es:List En}(hl:ld.length≤8):∀ (k i:Nat),i+k=ld.length→∃ z,rcA_f m ld es (k+1) (i:Int)=some (bif ldB (ld.drop i) then 1 else 0,z):=by
 intro k
 induction k with
 | zero =>
  intro i h
  rw [rcA_fs,bif_dT (by omega),bif_dF (by omega),List.drop_of_length_le (by omega)]
  exact ⟨_,rfl⟩
 | succ k ih =>
  intro i h
  rw [rcA_fs,bif_dT (by omega),bif_dT (by omega),el_drop (l:=ld) (i:=i) (by omega),w8n (n:=(i:Int)+1) (by omega) (by omega)]
  obtain ⟨z,hz⟩:=ih (i+1) (by omega)
  rw [show ((i+1:Nat):Int)=(i:Int)+1 by omega] at hz
  unfold ldB at *
  rw [List.all_cons]
  generalize el ld (i:Int)=e at *
  by_cases h1:e≥0
  ·rw [bif_dT h1]
   by_cases h2:e≤10000
   ·rw [decide_eq_true h2,Bool.not_true,cond_false,decide_eq_true (show 0≤e∧e≤10000 from ⟨h1,h2⟩),Bool.true_and]
    exact ⟨z,hz⟩
   ·rw [decide_eq_false h2,Bool.not_false,cond_true,decide_eq_false (show ¬ (0≤e∧e≤10000) from fun h=>h2 h.2),Bool.false_and]
    exact ⟨_,rfl⟩
  ·rw [bif_dF h1,decide_eq_false (show ¬ (0≤e∧e≤10000) from fun h=>h1 h.1),Bool.false_and]
   exact ⟨_,rfl⟩
noncomputable def enS (n:Int):List En→Int→Int
 | [],_=>0
 | x::r,p=>if x.1<0∨1099511627776<x.1 then 2 else if x.1<p then 8 else if enX x n=0 then enS n r x.1 else enX x n
def prevE (l:List En)(i:Nat):Int:=if i=0 then 0 else (el l ((i:Int) - 1)).1
def EndE (n:Int)(es:List En)(r:Int)(w:Nat)(z:Int):Prop:=(w=0∧r=2)∨(w=1∧r=8)∨(w=2∧0≤z∧z<(es.length:Int)∧r=enX (el es z) n)∨(w=3∧r=0)
theorem en_step {n:Int}{es:List En}{i:Nat}(h:i<es.length)(h1:¬ ((el es (i:Int)).1<0∨1099511627776<(el es (i:Int)).1))(h2:¬ (el es (i:Int)).1<prevE es i)(h3:enX (el es (i:Int)) n=0):enS n (es.drop i) (prevE es i)=enS n (es.drop (i+1)) (prevE es (i+1)):=by
 have hp:prevE es (i+1)=(el es (i:Int)).1:=by
  unfold prevE
  rw [if_neg (by omega),show ((i+1:Nat):Int) - 1=(i:Int) by omega]
 rw [el_drop h,hp]
 conv=>lhs; unfold enS
 rw [if_neg h1,if_neg h2,if_pos h3]
theorem pcB_go {m:Int}{ld:List Int}{es:List En}{a:Int}(hl:es.length≤2000):∀ (k i:Nat),i+k=es.length→∃ w z,pcB_f m ld es a (k+1) (i:Int)=some (w,z)∧EndE (ld.length:Int) es (enS (ld.length:Int) (es.drop i) (prevE es i)) w z:=by
 intro k
 induction k with
 | zero =>
  intro i h
  rw [pcB_fs,bif_dT (by omega),bif_dF (by omega),List.drop_of_length_le (by omega)]
  exact ⟨_,_,rfl,.inr (.inr (.inr ⟨rfl,rfl⟩))⟩
 | succ k ih =>
  intro i h
  rw [pcB_fs,bif_dT (by omega),bif_dT (by omega),w8n (n:=(i:Int)+1) (by omega) (by omega),w8n (n:=(i:Int) - 1) (by omega) (by omega)]
  obtain ⟨w,z,hz,he⟩:=ih (i+1) (by omega)
  rw [show ((i+1:Nat):Int)=(i:Int)+1 by omega] at hz
  have hd:=el_drop (l:=es) (i:=i) (by omega)
  show ∃ w z,(bif decide ((el es (i:Int)).1≥0) then (bif !decide ((el es (i:Int)).1≤1099511627776) then some (0,(i:Int)) else (bif decide ((i:Int)>0) then (bif decide ((el es (i:Int)).1<(el es ((i:Int) - 1)).1) then some (1,(i:Int)) else (bif enX (el es (i:Int)) (ld.length:Int) != 0 then some (2,(i:Int)) else pcB_f m ld es a (k+1) ((i:Int)+1))) else (bif enX (el es (i:Int)) (ld.length:Int) != 0 then some (2,(i:Int)) else pcB_f m ld es a (k+1) ((i:Int)+1)))) else some (0,(i:Int)))=some (w,z)∧_
  by_cases h1:(el es (i:Int)).1≥0
  ·rw [bif_dT h1]
   by_cases h2:(el es (i:Int)).1≤1099511627776
   ·rw [decide_eq_true h2,Bool.not_true,cond_false]
    have nr:¬ ((el es (i:Int)).1<0∨1099511627776<(el es (i:Int)).1):=by omega
    have rest:¬ (el es (i:Int)).1<prevE es i→∃ w z,(bif enX (el es (i:Int)) (ld.length:Int) != 0 then some (2,(i:Int)) else pcB_f m ld es a (k+1) ((i:Int)+1))=some (w,z)∧EndE (ld.length:Int) es (enS (ld.length:Int) (es.drop i) (prevE es i)) w z:=fun hp=>by
     by_cases h4:enX (el es (i:Int)) (ld.length:Int)=0
     ·rw [show (enX (el es (i:Int)) (ld.length:Int) != 0)=false by simp [h4],cond_false,en_step (by omega) nr hp h4]
      exact ⟨w,z,hz,he⟩
     ·rw [show (enX (el es (i:Int)) (ld.length:Int) != 0)=true by simpa using h4,cond_true]
      refine ⟨2,_,rfl,.inr (.inr (.inl ⟨rfl,by omega,by omega,?_⟩))⟩
      rw [hd]
      unfold enS
      rw [if_neg nr,if_neg hp,if_neg h4]
    by_cases h3:(i:Int)>0
    ·rw [bif_dT h3]
     have hp:prevE es i=(el es ((i:Int) - 1)).1:=by unfold prevE; rw [if_neg (by omega)]
     by_cases h5:(el es (i:Int)).1<(el es ((i:Int) - 1)).1
     ·rw [bif_dT h5]
      refine ⟨1,_,rfl,.inr (.inl ⟨rfl,?_⟩)⟩
      rw [hd]
      unfold enS
      rw [if_neg nr,if_pos (by rw [hp]; exact h5)]
     ·rw [bif_dF h5]
      exact rest (by rw [hp]; exact h5)
    ·rw [bif_dF h3]
     refine rest ?_
     have hp:prevE es i=0:=by unfold prevE; rw [if_pos (by omega)]
     rw [hp]; omega
   ·rw [decide_eq_false h2,Bool.not_false,cond_true]
    refine ⟨0,_,rfl,.inl ⟨rfl,?_⟩⟩
    rw [hd]
    unfold enS
    rw [if_pos (by omega)]
  ·rw [bif_dF h1]
   refine ⟨0,_,rfl,.inl ⟨rfl,?_⟩⟩
   rw [hd]
   unfold enS
   rw [if_pos (by omega)]
theorem rcB_eq {m:Int}{ld:List Int}{es:List En}{a b:Int}:∀ (fu:Nat) (i:Int),rcB_f m ld es a fu i=pcB_f m ld es b fu i:=by
 intro fu
 induction fu with
 | zero=>intro i; rfl
 | succ fu ih =>
  intro i
  rw [rcB_fs,pcB_fs]
  simp only [ih]
  generalize (el es i).1=t
  have e1:decide (t<0) = !decide (t≥0):=by by_cases h:t<0 <;> simp [h] <;> omega
  have e2:decide (t>1099511627776) = !decide (t≤1099511627776):=by by_cases h:t>1099511627776 <;> simp [h] <;> omega
  rw [e1,e2]
  cases decide (t≥0) <;> cases decide (t≤1099511627776) <;> rfl
noncomputable def chX (m:Int)(ld:List Int)(es:List En):Int :=
 if 0≤m∧m≤10000∧1≤(ld.length:Int)∧(ld.length:Int)≤8 then (if ldB ld=true then (if (es.length:Int)≤2000 then enS (ld.length:Int) es 0 else 4) else 2) else 2
theorem rcB_go {m:Int}{ld:List Int}{es:List En}{a:Int}(hl:es.length≤2000)(k i:Nat)(h:i+k=es.length):∃ w z,rcB_f m ld es a (k+1) (i:Int)=some (w,z)∧EndE (ld.length:Int) es (enS (ld.length:Int) (es.drop i) (prevE es i)) w z:=by
 rw [rcB_eq (b:=0)]
 exact pcB_go hl k i h
theorem pcheck_is (m:Int)(ld:List Int)(es:List En):KnownR Try.prog [] 27 [.val (.int .i64 m),.list (rowA gI ld) ld.length,.list (rowA gE es) es.length] (.int .i64 (chX m ld es)) []:=by
 unfold chX
 by_cases hE:0≤m∧m≤10000∧1≤(ld.length:Int)∧(ld.length:Int)≤8
 ·rw [if_pos hE]
  obtain ⟨h1,h2,h3,h4⟩:=hE
  obtain ⟨za,ha⟩:=pcA_go (m:=m) (ld:=ld) (es:=es) (by omega) ld.length 0 (by omega)
  rw [List.drop_zero] at ha
  have oa:=pcA_ok m ld es ⟨h1,h2⟩ ⟨h3,h4⟩ _ _ _ ha
  cases hb:ldB ld with
  | false =>
   rw [hb] at oa
   rw [if_neg (by simp)]
   exact pc0 m ld es za ⟨h1,h2⟩ ⟨h3,h4⟩ (decide_eq_true (by omega)) (notT (by omega)) (decide_eq_true (by omega)) (notT (by omega)) oa
  | true =>
   rw [hb] at oa
   rw [if_pos rfl]
   by_cases he:(es.length:Int)≤2000
   ·rw [if_pos he]
    obtain ⟨w,zb,hz,hw⟩:=pcB_go (m:=m) (ld:=ld) (es:=es) (a:=za) (by omega) es.length 0 (by omega)
    rw [List.drop_zero,show prevE es 0=0 from rfl] at hw
    have ob:=pcB_ok m ld es za ⟨h1,h2⟩ ⟨h3,h4⟩ he (decide_eq_true (by omega)) (notT (by omega)) (decide_eq_true (by omega)) (notT (by omega)) oa _ _ _ hz
    rcases hw with ⟨rfl,e⟩ | ⟨rfl,e⟩ | ⟨rfl,g1,g2,e⟩ | ⟨rfl,e⟩
    ·rw [e]; exact pcq0 m ld es za zb ⟨h1,h2⟩ ⟨h3,h4⟩ he (decide_eq_true (by omega)) (notT (by omega)) (decide_eq_true (by omega)) (notT (by omega)) oa (decide_eq_false (by omega)) ob
    ·rw [e]; exact pcq1 m ld es za zb ⟨h1,h2⟩ ⟨h3,h4⟩ he (decide_eq_true (by omega)) (notT (by omega)) (decide_eq_true (by omega)) (notT (by omega)) oa (decide_eq_false (by omega)) ob
    ·rw [e]; exact pcq2 m ld es za zb ⟨h1,h2⟩ ⟨h3,h4⟩ he ⟨g1,g2⟩ (decide_eq_true (by omega)) (notT (by omega)) (decide_eq_true (by omega)) (notT (by omega)) oa (decide_eq_false (by omega)) ob
    ·rw [e]; exact pcq3 m ld es za zb ⟨h1,h2⟩ ⟨h3,h4⟩ he (decide_eq_true (by omega)) (notT (by omega)) (decide_eq_true (by omega)) (notT (by omega)) oa (decide_eq_false (by omega)) ob
   ·rw [if_neg he]
    exact pcL m ld es za ⟨h1,h2⟩ ⟨h3,h4⟩ he (decide_eq_true (by omega)) (notT (by omega)) (decide_eq_true (by omega)) (notT (by omega)) oa
 ·rw [if_neg hE]
  exact pcE m ld es hE
theorem rcheck_is (m:Int)(ld:List Int)(es:List En):KnownR Try.prog [] 31 [.val (.int .i64 m),.list (rowA gI ld) ld.length,.list (rowA gE es) es.length] (.int .i64 (chX m ld es)) []:=by
 unfold chX
 by_cases hE:0≤m∧m≤10000∧1≤(ld.length:Int)∧(ld.length:Int)≤8
 ·rw [if_pos hE]
  obtain ⟨h1,h2,h3,h4⟩:=hE
  obtain ⟨za,ha⟩:=rcA_go (m:=m) (ld:=ld) (es:=es) (by omega) ld.length 0 (by omega)
  rw [List.drop_zero] at ha
  have oa:=rcA_ok m ld es ⟨h1,h2⟩ ⟨h3,h4⟩ _ _ _ ha
  cases hb:ldB ld with
  | false =>
   rw [hb] at oa
   rw [if_neg (by simp)]
   exact rc0 m ld es za ⟨h1,h2⟩ ⟨h3,h4⟩ (decide_eq_true (by omega)) (notT (by omega)) (decide_eq_false (by omega)) (decide_eq_false (by omega)) oa
  | true =>
   rw [hb] at oa
   rw [if_pos rfl]
   by_cases he:(es.length:Int)≤2000
   ·rw [if_pos he]
    obtain ⟨w,zb,hz,hw⟩:=rcB_go (m:=m) (ld:=ld) (es:=es) (a:=za) (by omega) es.length 0 (by omega)
    rw [List.drop_zero,show prevE es 0=0 from rfl] at hw
    have ob:=rcB_ok m ld es za ⟨h1,h2⟩ ⟨h3,h4⟩ he (decide_eq_true (by omega)) (notT (by omega)) (decide_eq_false (by omega)) (decide_eq_false (by omega)) oa _ _ _ hz
    rcases hw with ⟨rfl,e⟩ | ⟨rfl,e⟩ | ⟨rfl,g1,g2,e⟩ | ⟨rfl,e⟩
    ·rw [e]; exact rcq0 m ld es za zb ⟨h1,h2⟩ ⟨h3,h4⟩ he (decide_eq_true (by omega)) (notT (by omega)) (decide_eq_false (by omega)) (decide_eq_false (by omega)) oa (decide_eq_false (by omega)) ob
    ·rw [e]; exact rcq1 m ld es za zb ⟨h1,h2⟩ ⟨h3,h4⟩ he (decide_eq_true (by omega)) (notT (by omega)) (decide_eq_false (by omega)) (decide_eq_false (by omega)) oa (decide_eq_false (by omega)) ob
    ·rw [e]; exact rcq2 m ld es za zb ⟨h1,h2⟩ ⟨h3,h4⟩ he ⟨g1,g2⟩ (decide_eq_true (by omega)) (notT (by omega)) (decide_eq_false (by omega)) (decide_eq_false (by omega)) oa (decide_eq_false (by omega)) ob
    ·rw [e]; exact rcq3 m ld es za zb ⟨h1,h2⟩ ⟨h3,h4⟩ he (decide_eq_true (by omega)) (notT (by omega)) (decide_eq_false (by omega)) (decide_eq_false (by omega)) oa (decide_eq_false (by omega)) ob
   ·rw [if_neg he]
    exact rcL m ld es za ⟨h1,h2⟩ ⟨h3,h4⟩ he (decide_eq_true (by omega)) (notT (by omega)) (decide_eq_false (by omega)) (decide_eq_false (by omega)) oa
 ·rw [if_neg hE]
  exact rcE m ld es hE
end Go.Proofs.Ytfpabkpmcmfbhaa
