import Derived.Test.YtokpimghaladjaaOgK
set_option linter.unusedSimpArgs false
set_option linter.unusedVariables false
namespace Go.Proofs.Ytokpimghaladjaa
open Go Go.RowKit
theorem s_fact {c N:Int}(hc:1≤c∧c≤8)(h0:0≤N)(h1:N<1048576):SOk c (IntKind.i64.wrap (1+N.tmod 3)) (IntKind.i64.wrap (1+(IntKind.i64.wrap (N.tdiv 3)).tmod c)) ((IntKind.i64.wrap (N.tdiv 24)).tmod 4):=by
 have d3:N.tdiv 3=N / 3:=Int.tdiv_eq_ediv_of_nonneg h0
 have d24:N.tdiv 24=N / 24:=Int.tdiv_eq_ediv_of_nonneg h0
 rw [d3,d24,w8n (n:=N / 3) (by omega) (by omega),w8n (n:=N / 24) (by omega) (by omega),Int.tmod_eq_emod_of_nonneg h0,Int.tmod_eq_emod_of_nonneg (by omega:0≤N / 3),Int.tmod_eq_emod_of_nonneg (by omega:0≤N / 24)]
 have m0:=Int.emod_nonneg (N / 3) (by omega:c≠0)
 have m1:=Int.emod_lt_of_pos (N / 3) (by omega:0<c)
 rw [w8n (n:=1+N%3) (by omega) (by omega),w8n (n:=1+N / 3%c) (by omega) (by omega)]
 exact ⟨by omega,by omega,by omega,by omega,by omega,by omega⟩
theorem cV_range (n:Int):1≤IntKind.i64.wrap (1+mdV n 8)∧IntKind.i64.wrap (1+mdV n 8)≤8:=by
 rw [mdV_is,w8n (by omega) (by omega)]; omega
theorem mdA_go (n:Int)(ns:List Int):∀ (k i:Nat) (Y0 Y1 Y2:List Int),i+k=min ns.length 40→MoV (IntKind.i64.wrap (1+mdV n 8)) Y0.reverse Y1.reverse Y2.reverse →
  ∃ Z0 Z1 Z2 z,mdA_f n ns (k+1) Y0 Y1 Y2 Y0.length Y1.length Y2.length (i:Int)=some (0,(Z0,Z1,Z2,Z0.length,Z1.length,Z2.length,z))∧MoV (IntKind.i64.wrap (1+mdV n 8)) Z0.reverse Z1.reverse Z2.reverse:=by
 intro k
 induction k with
 | zero =>
  intro i Y0 Y1 Y2 h hm
  have sf:=s_fact (N:=mdV (el ns (i:Int)) 1048576) (cV_range n) (by rw [mdV_is]; omega) (by rw [mdV_is]; omega)
  refine ⟨Y0,Y1,Y2,(i:Int),?_,hm⟩
  rw [mdA_fs,sB_is.2 sf,moB_is.2 hm,decide_eq_true (by omega:0≤(i:Int)∧(i:Int)≤40)]
  simp only [decide_true,Bool.and_self,cond_true]
  by_cases h1:(i:Int)<ns.length
  ·rw [bif_dT h1,bif_dF (by omega)]
  ·rw [bif_dF h1]
 | succ k ih =>
  intro i Y0 Y1 Y2 h hm
  have sf:=s_fact (N:=mdV (el ns (i:Int)) 1048576) (cV_range n) (by rw [mdV_is]; omega) (by rw [mdV_is]; omega)
  have hm2:=mo_set hm sf
  obtain ⟨Z0,Z1,Z2,z,hf,hz⟩:=ih (i+1) (stR (IntKind.i64.wrap (1+(mdV (el ns (i:Int)) 1048576).tmod 3)) (IntKind.i64.wrap (1+(IntKind.i64.wrap ((mdV (el ns (i:Int)) 1048576).tdiv 3)).tmod (IntKind.i64.wrap (1+mdV n 8)))) ((IntKind.i64.wrap ((mdV (el ns (i:Int)) 1048576).tdiv 24)).tmod 4) 1 Y0.reverse) (stR (IntKind.i64.wrap (1+(mdV (el ns (i:Int)) 1048576).tmod 3)) (IntKind.i64.wrap (1+(IntKind.i64.wrap ((mdV (el ns (i:Int)) 1048576).tdiv 3)).tmod (IntKind.i64.wrap (1+mdV n 8)))) ((IntKind.i64.wrap ((mdV (el ns (i:Int)) 1048576).tdiv 24)).tmod 4) 2 Y1.reverse) (stR (IntKind.i64.wrap (1+(mdV (el ns (i:Int)) 1048576).tmod 3)) (IntKind.i64.wrap (1+(IntKind.i64.wrap ((mdV (el ns (i:Int)) 1048576).tdiv 3)).tmod (IntKind.i64.wrap (1+mdV n 8)))) ((IntKind.i64.wrap ((mdV (el ns (i:Int)) 1048576).tdiv 24)).tmod 4) 3 Y2.reverse) (by omega) (by unfold stR; simp only [List.reverse_reverse]; exact hm2)
  refine ⟨Z0,Z1,Z2,z,?_,hz⟩
  have hw:IntKind.i64.wrap ((i:Int)+1)=((i+1:Nat):Int):=w8n (n:=(i:Int)+1) (by omega) (by omega)
  rw [mdA_fs,sB_is.2 sf,moB_is.2 hm,decide_eq_true (by omega:0≤(i:Int)∧(i:Int)≤40)]
  simp only [decide_true,Bool.and_self,cond_true]
  rw [bif_dT (by omega),bif_dT (by omega),hw]
  exact hf
theorem made_ex (n:Int)(ns:List Int):∃ p:Int × List Int × List Int × List Int,MoV p.1 p.2.1 p.2.2.1 p.2.2.2∧KnownR Try.prog [] 37 [.val (.int .i64 n),.list (rowA gI ns) ns.length] (.tuple #[.agg #[.int .i64 p.1,.complex .f64 0 p.2.1.length,.complex .f64 1 p.2.2.1.length,.complex .f64 2 p.2.2.2.length],.bool true]) [(rowA gI p.2.1,3),(rowA gI p.2.2.1,3),(rowA gI p.2.2.2,3)]:=by
 have hz:MoV (IntKind.i64.wrap (1+mdV n 8)) (zeR (IntKind.i64.wrap (1+mdV n 8))).reverse (zeR (IntKind.i64.wrap (1+mdV n 8))).reverse (zeR (IntKind.i64.wrap (1+mdV n 8))).reverse:=by
  unfold zeR; rw [List.reverse_reverse]; exact mo_new (cV_range n)
 obtain ⟨Z0,Z1,Z2,z,hf,hm⟩:=mdA_go n ns (min ns.length 40) 0 _ _ _ (by omega) hz
 have r:=md1 n ns Z0 Z1 Z2 Z0.length Z1.length Z2.length z (cV_range n) (moB_is.2 hm) rfl rfl rfl (mdA_ok n ns (cV_range n) _ _ _ hf)
 refine ⟨(IntKind.i64.wrap (1+mdV n 8),Z0.reverse,Z1.reverse,Z2.reverse),hm,?_⟩
 have e:md1_c4 n ns Z0 Z1 Z2 Z0.length Z1.length Z2.length z=true:=by unfold md1_c4; simp
 rw [e] at r
 exact r
noncomputable def mdP (n:Int)(ns:List Int):Int × List Int × List Int × List Int:=Classical.choose (made_ex n ns)
noncomputable def mC (n:Int)(ns:List Int):Int:=(mdP n ns).1
noncomputable def mX (n:Int)(ns:List Int):List Int:=(mdP n ns).2.1
noncomputable def mY (n:Int)(ns:List Int):List Int:=(mdP n ns).2.2.1
noncomputable def mZ (n:Int)(ns:List Int):List Int:=(mdP n ns).2.2.2
theorem made_ok (n:Int)(ns:List Int):MoV (mC n ns) (mX n ns) (mY n ns) (mZ n ns):=(Classical.choose_spec (made_ex n ns)).1
theorem made_v (n:Int)(ns:List Int):KnownR Try.prog [] 37 [.val (.int .i64 n),.list (rowA gI ns) ns.length] (.tuple #[.agg #[.int .i64 (mC n ns),.complex .f64 0 (mX n ns).length,.complex .f64 1 (mY n ns).length,.complex .f64 2 (mZ n ns).length],.bool true]) [(rowA gI (mX n ns),3),(rowA gI (mY n ns),3),(rowA gI (mZ n ns),3)]:=(Classical.choose_spec (made_ex n ns)).2
end Go.Proofs.Ytokpimghaladjaa
