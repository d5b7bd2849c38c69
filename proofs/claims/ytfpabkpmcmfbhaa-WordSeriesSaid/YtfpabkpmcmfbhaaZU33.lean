import Derived.Test.YtfpabkpmcmfbhaaOgX
set_option linter.unusedSimpArgs false
set_option linter.unusedVariables false
namespace Go.Proofs.Ytfpabkpmcmfbhaa
open Go Go.RowKit
def serOk (sl n:Int):Prop:=1≤sl∧sl≤1099511627776∧0≤n∧n≤1000
instance (sl n:Int):Decidable (serOk sl n):=inferInstanceAs (Decidable (1≤sl∧sl≤1099511627776∧0≤n∧n≤1000))
noncomputable def serE (m:Int)(ld:List Int)(es:List En)(sl n:Int):Int:=if chX m ld es=0 then (if serOk sl n then 0 else 2) else chX m ld es
noncomputable def serL (m:Int)(ld:List Int)(es:List En)(sl n:Int):List Int:=if chX m ld es=0∧serOk sl n then serP m sl n.toNat 0 es ld else []
theorem pser_is (m:Int)(ld:List Int)(es:List En)(sl n:Int):KnownR Try.prog [] 16 [.val (.int .i64 m),.list (rowA gI ld) ld.length,.list (rowA gE es) es.length,.val (.int .i64 sl),.val (.int .i64 n)] (.tuple #[.complex .f64 0 (serL m ld es sl n).length,.int .i64 (serE m ld es sl n)]) [(rowA gI (serL m ld es sl n),3)]:=by
 by_cases hc:chX m ld es=0
 ·by_cases hs:serOk sl n
  ·have e0:serL m ld es sl n=serP m sl n.toNat 0 es ld:=by unfold serL; rw [if_pos ⟨hc,hs⟩]
   have e1:serE m ld es sl n=0:=by unfold serE; rw [if_pos hc,if_pos hs]
   obtain ⟨s1,s2,s3,s4⟩:=hs
   obtain ⟨l1,l2,l3,ho⟩:=ch_ok hc
   obtain ⟨z1,z2,z3,z4,z5,z6,z7,z8,z9,hZ⟩:=sgA_go (m:=m) (sl:=sl) (n:=n) (ld:=ld) (es:=es) (by omega) (by omega) (by omega) ho ⟨s1,s2⟩ ⟨s3,s4⟩ n.toNat 0 0 [] ld 0 (by omega) (by omega) rfl rfl
   rw [List.drop_zero,List.append_nil,show ((0:Nat):Int)=0 from rfl] at hZ
   have lA:=sgA_ok m ld es sl n hc ⟨l1,l2⟩ ⟨s1,s2⟩ ⟨s3,s4⟩ _ _ _ hZ
   dsimp only at lA
   have r:=sgK m ld es sl n _ _ _ _ _ _ _ _ _ _ hc ⟨l1,l2⟩ ⟨s1,s2⟩ ⟨s3,s4⟩ (by simp [hc]) (decide_eq_true s1) (by simp [s2]) (decide_eq_true s3) (by simp [s4]) (decide_eq_true (by omega)) lA
   unfold sgK_c0 at r
   rw [List.reverse_reverse] at r
   rw [e0,e1]
   exact r
  ·have e0:serL m ld es sl n=[]:=by unfold serL; rw [if_neg (fun h=>hs h.2)]
   have e1:serE m ld es sl n=2:=by unfold serE; rw [if_pos hc,if_neg hs]
   rw [e0,e1]
   exact sgR m ld es sl n hc hs
 ·have e0:serL m ld es sl n=[]:=by unfold serL; rw [if_neg (fun h=>hc h.1)]
  have e1:serE m ld es sl n=chX m ld es:=by unfold serE; rw [if_neg hc]
  rw [e0,e1]
  exact sgE m ld es sl n hc
end Go.Proofs.Ytfpabkpmcmfbhaa
