import Derived.Test.YtfpabkpmcmfbhaaOgU
set_option linter.unusedVariables false
namespace Go.Proofs.Ytfpabkpmcmfbhaa
open Go Go.RowKit
theorem body_raw {P:Program}[NoCx P]{L:Vars}{T:GTab}{fuel:Nat}{ro:Option Nat}{a:Code}{s s2:St}{x:VX}{ans:List (Nat × Ans)}{log:List Prop}(he:evO P L.length T (fun _ _ _ _=>none) (fun _=>none) fuel ro a s ⟨0,ans,[]⟩ (fun x s q=>some (x,s,q.log))=some (x,s2,log))(hl:allP log):
  Evt fun f=>evC P L.length T.hook f ro a s=some (x,s2):=by
 obtain ⟨x1,s1,q1,g1,g2,g3⟩:=evO_of (fun _ _ _ _=>rfl) (fun _=>rfl) fuel _ _ _ _ _ _ he
 try dsimp only at g1
 injection g1 with g1
 injection g1 with e1 g1
 injection g1 with e2 e3
 subst e1; subst e2; subst e3
 exact g3 hl
theorem loop_peel {P:Program}[NoCx P](hmix:P.follows .mixedOrders=true){L:Vars}{T:GTab}(hT:GOk P L T){ro:Option Nat}{a:Code}{s0 s1 F:St}{x:VX}(he:Evt fun f=>evC P L.length T.hook f ro a s0=some (.normal,s1)){B:Bd}(hB:B.L=L)(h:LoopOk P B ro a s1 x F):LoopOk P B ro a s0 x F:=by
 obtain ⟨f,hcs,hev⟩:=res_of hmix hT he hB
 obtain ⟨q1,q2⟩:=hcs _ _ _ _ _ hev
 obtain ⟨g1,k,g2⟩:=h
 refine ⟨q1.trans g1,k+1,fun σ ro' H a' w Q hro hm hs ht hd ha hBk hk=>?_⟩
 rw [roundsIn_succ]
 refine q2 σ ro' H a' w _ hro hm hs ht hd (ha.first g1) hBk fun σ' a2 w' k1 k2 k3 k4 k5=>?_
 refine g2 σ' ro' _ a2 w' Q (hro.mono k1) k2 (hs.step q1) k3 k4 (ha.last hs q1 g1) (hBk.step k5) fun σ2 a3 w2 j1 j2 j3 j4 j5=>?_
 rw [upd_upd g1] at j2
 exact hk σ2 a3 w2 (Ren.le_trans k1 j1) j2 j3 j4 (k5.trans j5)
noncomputable def rsB_hd (m:Int)(ld:List Int)(es:List En)(sl n:Int):Hd:=headD Try.prog [] tabR3 3000 17 [.val (.int .i64 m),.list (rowA gI ld) ld.length,.list (rowA gE es) es.length,.val (.int .i64 sl),.val (.int .i64 n)] [(0,.outs (Value.int IntKind.i64 (chX m ld es)) ([])),(1,.b 1),(4,.b 0),(9,.b 0),(14,.b 0),(19,.b 0),(20,.b 0),(21,.stop)]
abbrev rsB_X:Nat→VX:=rsA_X
noncomputable abbrev rsB_E:=@rsA_E
attribute [local irreducible] chX okB wsN wsR
theorem rsB_ro (m:Int)(ld:List Int)(es:List En)(sl n:Int):(rsB_hd m ld es sl n).ro=(rsA_hd m ld es sl n).ro:=by kernel_rfl
theorem rsB_a (m:Int)(ld:List Int)(es:List En)(sl n:Int):(rsB_hd m ld es sl n).a=(rsA_hd m ld es sl n).a:=by kernel_rfl
theorem rs_first (m:Int)(ld:List Int)(es:List En)(sl n:Int):evO Try.prog ([]:Vars).length tabR3 (fun _ _ _ _=>none) (fun _=>none) 3000 (rsA_hd m ld es sl n).ro (rsA_hd m ld es sl n).a (rsB_hd m ld es sl n).s ⟨0,[(0,.b 1),(1,.outs (Value.tuple #[Value.int IntKind.i64 (wsN m ld es (IntKind.i64.wrap ((0:Int)*sl)) (IntKind.i64.wrap ((1:Int)*sl))),Value.complex FloatKind.f64 (0:Nat) (wsR ld es (IntKind.i64.wrap ((0:Int)*sl)) (IntKind.i64.wrap ((1:Int)*sl))).length]) ([(rowA gI (wsR ld es (IntKind.i64.wrap ((0:Int)*sl)) (IntKind.i64.wrap ((1:Int)*sl))).reverse,(3:TypeId))]))],[]⟩ (fun x s q=>some (x,s,q.log))=some (.normal,(rsA_hd m ld es sl n).s,[(GTab.lookD (tabR3) ((32:Nat)) ([D.val (Value.int IntKind.i64 m),D.list (rowA gI ld) ld.length,D.list (rowA gE es) es.length,D.val (Value.int IntKind.i64 (IntKind.i64.wrap ((0:Int)*sl))),D.val (Value.int IntKind.i64 (IntKind.i64.wrap ((1:Int)*sl)))]))=some (Value.tuple #[Value.int IntKind.i64 (wsN m ld es (IntKind.i64.wrap ((0:Int)*sl)) (IntKind.i64.wrap ((1:Int)*sl))),Value.complex FloatKind.f64 (0:Nat) (wsR ld es (IntKind.i64.wrap ((0:Int)*sl)) (IntKind.i64.wrap ((1:Int)*sl))).length],[(rowA gI (wsR ld es (IntKind.i64.wrap ((0:Int)*sl)) (IntKind.i64.wrap ((1:Int)*sl))).reverse,(3:TypeId))]),(decide ((0:Int)<n))=true]):=by kernel_rfl
theorem rsB_ok (m:Int)(ld:List Int)(es:List En)(sl n:Int)(hc:chX m ld es=0)(hk:okB ld es=true)(hs:1≤sl∧sl≤1099511627776)(hn:1≤n∧n≤1000)(fu kk:Nat)(zz:List Int × List Int × Nat × Int × Int × Int × Int × Int × Int × Int × Int × Int × Int × Int × Int)(hf:rsA_f m ld es sl n fu [wsN m ld es (IntKind.i64.wrap ((0:Int)*sl)) (IntKind.i64.wrap ((1:Int)*sl))] (wsR ld es (IntKind.i64.wrap ((0:Int)*sl)) (IntKind.i64.wrap ((1:Int)*sl))) ((wsR ld es (IntKind.i64.wrap ((0:Int)*sl)) (IntKind.i64.wrap ((1:Int)*sl))).length) ((1:Int)) (wsN m ld es (IntKind.i64.wrap ((0:Int)*sl)) (IntKind.i64.wrap ((1:Int)*sl))) ((0:Int)) ((0:Int)) ((1:Int)) ((0:Int)) (IntKind.i64.wrap ((0:Int)*sl)) ((0:Int)) ((1:Int)) (IntKind.i64.wrap ((1:Int)*sl)) (wsN m ld es (IntKind.i64.wrap ((0:Int)*sl)) (IntKind.i64.wrap ((1:Int)*sl))) (wsN m ld es (IntKind.i64.wrap ((0:Int)*sl)) (IntKind.i64.wrap ((1:Int)*sl)))=some (kk,zz)):∀ B:Bd,B.L=[]→LoopOk Try.prog B (rsB_hd m ld es sl n).ro (rsB_hd m ld es sl n).a (rsB_hd m ld es sl n).s (rsB_X kk) (rsB_E kk m ld es sl n zz.1 zz.2.1 zz.2.2.1 zz.2.2.2.1 zz.2.2.2.2.1 zz.2.2.2.2.2.1 zz.2.2.2.2.2.2.1 zz.2.2.2.2.2.2.2.1 zz.2.2.2.2.2.2.2.2.1 zz.2.2.2.2.2.2.2.2.2.1 zz.2.2.2.2.2.2.2.2.2.2.1 zz.2.2.2.2.2.2.2.2.2.2.2.1 zz.2.2.2.2.2.2.2.2.2.2.2.2.1 zz.2.2.2.2.2.2.2.2.2.2.2.2.2.1 zz.2.2.2.2.2.2.2.2.2.2.2.2.2.2 ):=by
 intro B hB
 have h:=rsA_ok m ld es sl n hc hk hs hn fu kk zz hf B hB
 rw [rsB_ro,rsB_a]
 exact loop_peel mix (L:=[]) tabR3_ok (body_raw (rs_first m ld es sl n) ⟨(ofD_at (m) (IntKind.i64.wrap ((0:Int)*sl)) (IntKind.i64.wrap ((1:Int)*sl)) (ld) (es) (ld.length) (es.length) (by first | rfl | assumption | omega | (simp; done) | (simp_all; done) | (simp_all; omega)) (by first | rfl | assumption | omega | (simp; done) | (simp_all; done) | (simp_all; omega)) (by first | rfl | assumption | omega | (simp; done) | (simp_all; done) | (simp_all; omega))),decide_eq_true (by omega),trivial⟩) hB h
end Go.Proofs.Ytfpabkpmcmfbhaa
