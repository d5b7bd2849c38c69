import Derived.Test.YtaogbagopdlkmaaLU
import Derived.ProofKit
import Derived.IntWalk
set_option linter.unnecessarySimpa false
set_option linter.unusedSimpArgs false
set_option linter.unusedVariables false
namespace Go.Proofs.Ytaogbagopdlkmaa
open Go Go.RowKit
set_option maxHeartbeats 8000000
set_option maxRecDepth 100000
noncomputable def ptA_hd (m d t s c:Int):Hd:=headD Try.prog [] GTab.none 3000 37 [.val (.agg #[.int .i64 m,.int .i64 d,.int .i64 t,.int .i64 s,.int .i64 c])] [(0,.stop)]
noncomputable def ptA_S (m d t s c:Int)(y0:Int):St:=(St.mk (TV.node (some (Value.agg { toList:=[Value.int IntKind.i64 m,Value.int IntKind.i64 d,Value.int IntKind.i64 t,Value.int IntKind.i64 s,Value.int IntKind.i64 c] })) (TV.node (some (Value.pointer (some { block:=nat_lit 0,off:=nat_lit 0 }))) (TV.node (some (Value.int IntKind.i64 y0)) (TV.node (some junk) (TV.node (some junk) TV.nil TV.nil) TV.nil) (TV.node (some junk) (TV.node (some (Value.tuple { toList:=[] })) TV.nil TV.nil) TV.nil)) (TV.node (some junk) (TV.node (some junk) (TV.node (some junk) TV.nil TV.nil) TV.nil) (TV.node (some junk) TV.nil TV.nil))) (TV.node (some (Value.int IntKind.i64 (0:Int))) (TV.node (some junk) (TV.node (some junk) (TV.node (some junk) TV.nil TV.nil) TV.nil) (TV.node (some junk) TV.nil TV.nil)) (TV.node (some junk) (TV.node (some junk) (TV.node (some junk) TV.nil TV.nil) TV.nil) (TV.node (some junk) TV.nil TV.nil)))) (HS.mk (Tr.node (some (VO.live (Obj.cells ({ toList:=[Value.int IntKind.i64 m,Value.int IntKind.i64 d,Value.int IntKind.i64 t,Value.int IntKind.i64 s,Value.int IntKind.i64 c] }) 23 ((nat_lit 0,nat_lit 0))) true)) Tr.nil Tr.nil) 1 2199023255551 2199023255551) [])
theorem ptA_n (m d t s c:Int): 1=(ptA_hd m d t s c).s.hs.next:=by kernel_rfl
theorem ptA_r (m d t s c:Int): (ptA_hd m d t s c).s.hs.rd<bitOf 1:=by
 have e:(ptA_hd m d t s c).s.hs.rd=0:=by kernel_rfl
 rw [e]; exact blt_iff.1 (by kernel_rfl)
theorem ptA_w (m d t s c:Int): (ptA_hd m d t s c).s.hs.wr<bitOf 1:=by
 have e:(ptA_hd m d t s c).s.hs.wr=1:=by kernel_rfl
 rw [e]; exact blt_iff.1 (by kernel_rfl)
theorem ptA_e0 (m d t s c:Int): canonS 1 41 [] [7,15,11,5,9,17,13,4,8,16,12,6,10,18,14] 1 1 1 (ptA_hd m d t s c).s=some (ptA_S m d t s c ((1:Int))):=by kernel_rfl
theorem ptA_e1 (m d t s c:Int): canonOk 1 41 [] 1 (ptA_hd m d t s c).s=true:=canonOkF_eq.symm.trans (by kernel_rfl)
def ptA_X:Nat→VX
 | 0 => .ret
 | 1 => .exit 0
 | _ => .normal
noncomputable def ptA_E (kE:Nat)(m d t s c:Int)(y0:Int):St:=match kE with
 | 0=>(St.mk (TV.node (some (Value.agg { toList:=[Value.int IntKind.i64 m,Value.int IntKind.i64 d,Value.int IntKind.i64 t,Value.int IntKind.i64 s,Value.int IntKind.i64 c] })) (TV.node (some (Value.pointer (some { block:=nat_lit 0,off:=nat_lit 0 }))) (TV.node (some (Value.int IntKind.i64 y0)) (TV.node (some junk) (TV.node (some junk) TV.nil TV.nil) TV.nil) (TV.node (some junk) (TV.node (some (Value.int IntKind.i64 y0)) TV.nil TV.nil) TV.nil)) (TV.node (some junk) (TV.node (some junk) (TV.node (some junk) TV.nil TV.nil) TV.nil) (TV.node (some junk) TV.nil TV.nil))) (TV.node (some (Value.int IntKind.i64 y0)) (TV.node (some junk) (TV.node (some junk) (TV.node (some junk) TV.nil TV.nil) TV.nil) (TV.node (some junk) TV.nil TV.nil)) (TV.node (some junk) (TV.node (some junk) (TV.node (some junk) TV.nil TV.nil) TV.nil) (TV.node (some junk) TV.nil TV.nil)))) (HS.mk (Tr.node (some (VO.live (Obj.cells ({ toList:=[Value.int IntKind.i64 m,Value.int IntKind.i64 d,Value.int IntKind.i64 t,Value.int IntKind.i64 s,Value.int IntKind.i64 c] }) 23 ((nat_lit 0,nat_lit 0))) true)) Tr.nil Tr.nil) 41 2199023255551 2199023255551) [])
 | 1=>(St.mk (TV.node (some (Value.agg { toList:=[Value.int IntKind.i64 m,Value.int IntKind.i64 d,Value.int IntKind.i64 t,Value.int IntKind.i64 s,Value.int IntKind.i64 c] })) (TV.node (some (Value.pointer (some { block:=nat_lit 0,off:=nat_lit 0 }))) (TV.node (some (Value.int IntKind.i64 y0)) (TV.node (some junk) (TV.node (some junk) TV.nil TV.nil) TV.nil) (TV.node (some junk) (TV.node (some (Value.tuple { toList:=[] })) TV.nil TV.nil) TV.nil)) (TV.node (some junk) (TV.node (some junk) (TV.node (some junk) TV.nil TV.nil) TV.nil) (TV.node (some junk) TV.nil TV.nil))) (TV.node (some (Value.int IntKind.i64 (0:Int))) (TV.node (some junk) (TV.node (some junk) (TV.node (some junk) TV.nil TV.nil) TV.nil) (TV.node (some junk) TV.nil TV.nil)) (TV.node (some junk) (TV.node (some junk) (TV.node (some junk) TV.nil TV.nil) TV.nil) (TV.node (some junk) TV.nil TV.nil)))) (HS.mk (Tr.node (some (VO.live (Obj.cells ({ toList:=[Value.int IntKind.i64 m,Value.int IntKind.i64 d,Value.int IntKind.i64 t,Value.int IntKind.i64 s,Value.int IntKind.i64 c] }) 23 ((nat_lit 0,nat_lit 0))) true)) Tr.nil Tr.nil) 41 2199023255551 2199023255551) [])
 | _=>(ptA_hd m d t s c).s
noncomputable def ptA_b1 (m d t s c:Int)(y0:Int):Bool:=IntKind.i64.wrap (m+IntKind.i64.wrap (IntKind.i64.wrap (y0+(1:Int))*t))==s
theorem ptA_p0 (m d t s c:Int)(y0:Int):bodyK Try.prog ([]:Vars).length GTab.none 3000 (ptA_hd m d t s c) (ptA_S m d t s c y0 ) [(0,.b 1),(1,.b 1)] 1 41 [7,15,11,5,9,17,13,4,8,16,12,6,10,18,14] 41 1 1=some (.ret,ptA_E 0 m d t s c (y0) , [(ptA_b1 m d t s c y0 )=true,(decide (y0≤(16:Int)))=true]):=by kernel_rfl
theorem ptA_q0 (m d t s c:Int)(y0:Int):(ptA_E 0 m d t s c (y0) ).hs.next=41:=by kernel_rfl
theorem ptA_p1 (m d t s c:Int)(y0:Int):bodyK Try.prog ([]:Vars).length GTab.none 3000 (ptA_hd m d t s c) (ptA_S m d t s c y0 ) [(0,.b 1),(1,.b 0)] 1 41 [7,15,11,5,9,17,13,4,8,16,12,6,10,18,14] 1 1 1=some (.normal,(ptA_S m d t s c (IntKind.i64.wrap (y0+(1:Int)))),[(ptA_b1 m d t s c y0 )=false,(decide (y0≤(16:Int)))=true]):=by kernel_rfl
theorem ptA_p2 (m d t s c:Int)(y0:Int):bodyK Try.prog ([]:Vars).length GTab.none 3000 (ptA_hd m d t s c) (ptA_S m d t s c y0 ) [(0,.b 0)] 1 41 [7,15,11,5,9,17,13,4,8,16,12,6,10,18,14] 41 1 1=some (.exit 0,ptA_E 1 m d t s c (y0) , [(decide (y0≤(16:Int)))=false]):=by kernel_rfl
theorem ptA_q2 (m d t s c:Int)(y0:Int):(ptA_E 1 m d t s c (y0) ).hs.next=41:=by kernel_rfl
noncomputable def ptA_f (m d t s c:Int):Nat→Int→Option (Nat × (Int))
 | 0,_=>none
 | fu+1,y0=>(bif (decide (1≤y0∧y0≤17)) then (bif (decide (y0≤(16:Int))) then (bif (IntKind.i64.wrap (m+IntKind.i64.wrap (IntKind.i64.wrap (y0+(1:Int))*t))==s) then some (0,(y0)) else ptA_f m d t s c fu (IntKind.i64.wrap (y0+(1:Int)))) else some (1,(y0))) else none)
theorem ptA_fs (m d t s c:Int)(fu:Nat)(y0:Int):ptA_f m d t s c (fu+1) y0=(bif (decide (1≤y0∧y0≤17)) then (bif (decide (y0≤(16:Int))) then (bif (IntKind.i64.wrap (m+IntKind.i64.wrap (IntKind.i64.wrap (y0+(1:Int))*t))==s) then some (0,(y0)) else ptA_f m d t s c fu (IntKind.i64.wrap (y0+(1:Int)))) else some (1,(y0))) else none):=rfl
theorem ptA_f0 (m d t s c:Int)(y0:Int):ptA_f m d t s c 0 y0=none:=rfl
theorem ptA_loop (m d t s c:Int): ∀ (fu:Nat) (y0:Int) (kk:Nat) (zz:Int),ptA_f m d t s c fu y0=some (kk,zz)→VStep (ptA_hd m d t s c).s.hs (ptA_S m d t s c y0 ).hs→RoundsC Try.prog [] 1 41 (ptA_hd m d t s c).s.hs (ptA_hd m d t s c).ro (ptA_hd m d t s c).a (ptA_S m d t s c y0 ) (ptA_X kk) (ptA_E kk m d t s c zz )∧((ptA_E kk m d t s c zz )).hs.next=41:=by
 intro fu
 induction fu with
 | zero =>
  intro y0 kk zz hf hSz
  have hf:=(ptA_f0 m d t s c y0 ).symm.trans hf
  simp at hf
 | succ fu ih =>
  intro y0 kk zz hf hSz
  have hf:=(ptA_fs m d t s c fu y0 ).symm.trans hf
  rcases bif_or hf with ⟨hi,hf⟩ | ⟨hi,hf⟩
  case inr=>cases hf
  rcases bif_or hf with ⟨hq0,hf⟩ | ⟨hq0,hf⟩
  ·
   rcases bif_or hf with ⟨hq1,hf⟩ | ⟨hq1,hf⟩
   ·
    injection hf with hf; injection hf with e1 e2; subst e1; subst e2; have hb1:=ptA_p0 m d t s c y0 ; have hb2:=body_canon hb1; have hb3:=hb2 ⟨hq1,hq0,trivial⟩; obtain ⟨sz1,kz1,kz2,kz3⟩:=hb3; exact ⟨rounds_end mix (T:=GTab.none) GOk.none (ptA_n m d t s c ) (ptA_r m d t s c ) (ptA_w m d t s c ) kz1 (fun h=>by cases h) hSz kz2 kz3,ptA_q0 m d t s c y0 ⟩
   ·
    have hb1:=ptA_p1 m d t s c y0 ; have hb2:=body_canon hb1; have hb3:=hb2 ⟨hq1,hq0,trivial⟩; obtain ⟨sz1,kz1,kz2,kz3⟩:=hb3; obtain ⟨gz1,gz2⟩:=ih (IntKind.i64.wrap (y0+(1:Int))) kk zz hf (rounds_step mix (T:=GTab.none) GOk.none (ptA_n m d t s c ) (ptA_r m d t s c ) (ptA_w m d t s c ) kz1 hSz kz2 kz3); exact ⟨rounds_next mix (T:=GTab.none) GOk.none (ptA_n m d t s c ) (ptA_r m d t s c ) (ptA_w m d t s c ) kz1 hSz kz2 kz3 (fun _=>gz1),gz2⟩
  ·
   injection hf with hf; injection hf with e1 e2; subst e1; subst e2; have hb1:=ptA_p2 m d t s c y0 ; have hb2:=body_canon hb1; have hb3:=hb2 ⟨hq0,trivial⟩; obtain ⟨sz1,kz1,kz2,kz3⟩:=hb3; exact ⟨rounds_end mix (T:=GTab.none) GOk.none (ptA_n m d t s c ) (ptA_r m d t s c ) (ptA_w m d t s c ) kz1 (fun h=>by cases h) hSz kz2 kz3,ptA_q2 m d t s c y0 ⟩
theorem ptA_ok (m d t s c:Int)(fu kk:Nat)(zz:Int)(hf:ptA_f m d t s c fu ((1:Int))=some (kk,zz)):∀ B:Bd,B.L=[]→LoopOk Try.prog B (ptA_hd m d t s c).ro (ptA_hd m d t s c).a (ptA_hd m d t s c).s (ptA_X kk) (ptA_E kk m d t s c zz ):=by
 have hSz:=begin_step (ptA_n m d t s c ) (ptA_r m d t s c ) (ptA_w m d t s c ) (ptA_e0 m d t s c ) (ptA_e1 m d t s c )
 obtain ⟨gz1,gz2⟩:=ptA_loop m d t s c fu ((1:Int)) kk zz hf hSz
 exact rounds_ok (ptA_n m d t s c ) (Nat.le_of_ble_eq_true (by kernel_rfl)) gz2 (rounds_begin (ptA_n m d t s c ) (ptA_r m d t s c ) (ptA_w m d t s c ) (ptA_e0 m d t s c ) (ptA_e1 m d t s c ) (fun _=>gz1))
noncomputable def pt0_c0 (m d t s c:Int)(ptA_z0:Int): Int:=(ptA_z0)
theorem pt0_p0 (m d t s c:Int)(ptA_z0:Int)(ptA_l:∀ B:Bd,B.L=[]→LoopOk Try.prog B (ptA_hd m d t s c).ro (ptA_hd m d t s c).a (ptA_hd m d t s c).s (ptA_X 0) (ptA_E 0 m d t s c ptA_z0 )):KnownR Try.prog [] 37 [.val (.agg #[.int .i64 m,.int .i64 d,.int .i64 t,.int .i64 s,.int .i64 c])] (.int .i64 (ptA_z0)) [] :=
 knownR_eq (v:=Value.int IntKind.i64 ptA_z0) (bs:=[]) (open_resD mix (GOk.add GOk.none ptA_l) (T:=(GTab.add GTab.none 3 (ptA_hd m d t s c).ro (ptA_hd m d t s c).a (ptA_hd m d t s c).s (ptA_X 0) (ptA_E 0 m d t s c ptA_z0 ) (by kernel_rfl))) (fuel:=3000) (es:=[]) (ans:=[(0,.loop (ptA_X 0) (ptA_E 0 m d t s c ptA_z0 )),]) (log:=[LoopRes Try.prog ([]:Vars).length (GTab.add GTab.none 3 (ptA_hd m d t s c).ro (ptA_hd m d t s c).a (ptA_hd m d t s c).s (ptA_X 0) (ptA_E 0 m d t s c ptA_z0 ) (by kernel_rfl)) (ptA_hd m d t s c).ro (ptA_hd m d t s c).a (ptA_hd m d t s c).s (ptA_X 0) (ptA_E 0 m d t s c ptA_z0 )]) (by kernel_rfl) ⟨(loop_known2 add_eq),trivial⟩ (by kernel_rfl)) (by first | rfl | (simp; done) | (simp_all; done)) (by first | rfl | (simp [rowA_nil]; done) | (simp only [rowA_eq]; rfl) | (simp_all [rowA_nil]; done))
set_option maxHeartbeats 8000000 in
theorem pt0 (m d t s c:Int)(ptA_z0:Int)(ptA_l:∀ B:Bd,B.L=[]→LoopOk Try.prog B (ptA_hd m d t s c).ro (ptA_hd m d t s c).a (ptA_hd m d t s c).s (ptA_X 0) (ptA_E 0 m d t s c ptA_z0 )):KnownR Try.prog [] 37 [.val (.agg #[.int .i64 m,.int .i64 d,.int .i64 t,.int .i64 s,.int .i64 c])] (.int .i64 (pt0_c0 m d t s c ptA_z0)) []:=by
 have e0:pt0_c0 m d t s c ptA_z0=(ptA_z0):=rfl; rw [e0]; exact pt0_p0 m d t s c ptA_z0 ptA_l
theorem pt1_p0 (m d t s c:Int)(ptA_z0:Int)(ptA_l:∀ B:Bd,B.L=[]→LoopOk Try.prog B (ptA_hd m d t s c).ro (ptA_hd m d t s c).a (ptA_hd m d t s c).s (ptA_X 1) (ptA_E 1 m d t s c ptA_z0 )):KnownR Try.prog [] 37 [.val (.agg #[.int .i64 m,.int .i64 d,.int .i64 t,.int .i64 s,.int .i64 c])] (.int .i64 ((0:Int))) [] :=
 knownR_eq (v:=Value.int IntKind.i64 (0:Int)) (bs:=[]) (open_resD mix (GOk.add GOk.none ptA_l) (T:=(GTab.add GTab.none 3 (ptA_hd m d t s c).ro (ptA_hd m d t s c).a (ptA_hd m d t s c).s (ptA_X 1) (ptA_E 1 m d t s c ptA_z0 ) (by kernel_rfl))) (fuel:=3000) (es:=[]) (ans:=[(0,.loop (ptA_X 1) (ptA_E 1 m d t s c ptA_z0 )),]) (log:=[LoopRes Try.prog ([]:Vars).length (GTab.add GTab.none 3 (ptA_hd m d t s c).ro (ptA_hd m d t s c).a (ptA_hd m d t s c).s (ptA_X 1) (ptA_E 1 m d t s c ptA_z0 ) (by kernel_rfl)) (ptA_hd m d t s c).ro (ptA_hd m d t s c).a (ptA_hd m d t s c).s (ptA_X 1) (ptA_E 1 m d t s c ptA_z0 )]) (by kernel_rfl) ⟨(loop_known2 add_eq),trivial⟩ (by kernel_rfl)) (by first | rfl | (simp; done) | (simp_all; done)) (by first | rfl | (simp [rowA_nil]; done) | (simp only [rowA_eq]; rfl) | (simp_all [rowA_nil]; done))
set_option maxHeartbeats 8000000 in
theorem pt1 (m d t s c:Int)(ptA_z0:Int)(ptA_l:∀ B:Bd,B.L=[]→LoopOk Try.prog B (ptA_hd m d t s c).ro (ptA_hd m d t s c).a (ptA_hd m d t s c).s (ptA_X 1) (ptA_E 1 m d t s c ptA_z0 )):KnownR Try.prog [] 37 [.val (.agg #[.int .i64 m,.int .i64 d,.int .i64 t,.int .i64 s,.int .i64 c])] (.int .i64 ((0:Int))) []:=by
 exact pt1_p0 m d t s c ptA_z0 ptA_l
noncomputable def psA_hd (m d t s c:Int):Hd:=headD Try.prog [] GTab.none 3000 39 [.val (.agg #[.int .i64 m,.int .i64 d,.int .i64 t,.int .i64 s,.int .i64 c])] [(0,.stop)]
noncomputable def psA_S (m d t s c:Int)(y0:Int):St:=(St.mk (TV.node (some (Value.agg { toList:=[Value.int IntKind.i64 m,Value.int IntKind.i64 d,Value.int IntKind.i64 t,Value.int IntKind.i64 s,Value.int IntKind.i64 c] })) (TV.node (some (Value.pointer (some { block:=nat_lit 0,off:=nat_lit 0 }))) (TV.node (some (Value.int IntKind.i64 y0)) (TV.node (some junk) (TV.node (some (Value.tuple { toList:=[] })) TV.nil TV.nil) TV.nil) (TV.node (some junk) TV.nil TV.nil)) (TV.node (some junk) (TV.node (some junk) TV.nil TV.nil) (TV.node (some junk) TV.nil TV.nil))) (TV.node (some (Value.int IntKind.i64 (0:Int))) (TV.node (some junk) (TV.node (some junk) TV.nil TV.nil) (TV.node (some junk) TV.nil TV.nil)) (TV.node (some junk) (TV.node (some junk) TV.nil TV.nil) (TV.node (some junk) TV.nil TV.nil)))) (HS.mk (Tr.node (some (VO.live (Obj.cells ({ toList:=[Value.int IntKind.i64 m,Value.int IntKind.i64 d,Value.int IntKind.i64 t,Value.int IntKind.i64 s,Value.int IntKind.i64 c] }) 23 ((nat_lit 0,nat_lit 0))) true)) Tr.nil Tr.nil) 1 2199023255551 2199023255551) [])
theorem psA_n (m d t s c:Int): 1=(psA_hd m d t s c).s.hs.next:=by kernel_rfl
theorem psA_r (m d t s c:Int): (psA_hd m d t s c).s.hs.rd<bitOf 1:=by
 have e:(psA_hd m d t s c).s.hs.rd=0:=by kernel_rfl
 rw [e]; exact blt_iff.1 (by kernel_rfl)
theorem psA_w (m d t s c:Int): (psA_hd m d t s c).s.hs.wr<bitOf 1:=by
 have e:(psA_hd m d t s c).s.hs.wr=1:=by kernel_rfl
 rw [e]; exact blt_iff.1 (by kernel_rfl)
theorem psA_e0 (m d t s c:Int): canonS 1 41 [] [7,11,5,9,13,4,8,12,6,10,14] 1 1 1 (psA_hd m d t s c).s=some (psA_S m d t s c ((1:Int))):=by kernel_rfl
theorem psA_e1 (m d t s c:Int): canonOk 1 41 [] 1 (psA_hd m d t s c).s=true:=canonOkF_eq.symm.trans (by kernel_rfl)
def psA_X:Nat→VX
 | 0 => .ret
 | 1 => .exit 0
 | _ => .normal
noncomputable def psA_E (kE:Nat)(m d t s c:Int)(y0:Int):St:=match kE with
 | 0=>(St.mk (TV.node (some (Value.agg { toList:=[Value.int IntKind.i64 m,Value.int IntKind.i64 d,Value.int IntKind.i64 t,Value.int IntKind.i64 s,Value.int IntKind.i64 c] })) (TV.node (some (Value.pointer (some { block:=nat_lit 0,off:=nat_lit 0 }))) (TV.node (some (Value.int IntKind.i64 y0)) (TV.node (some junk) (TV.node (some (Value.int IntKind.i64 y0)) TV.nil TV.nil) TV.nil) (TV.node (some junk) TV.nil TV.nil)) (TV.node (some junk) (TV.node (some junk) TV.nil TV.nil) (TV.node (some junk) TV.nil TV.nil))) (TV.node (some (Value.int IntKind.i64 y0)) (TV.node (some junk) (TV.node (some junk) TV.nil TV.nil) (TV.node (some junk) TV.nil TV.nil)) (TV.node (some junk) (TV.node (some junk) TV.nil TV.nil) (TV.node (some junk) TV.nil TV.nil)))) (HS.mk (Tr.node (some (VO.live (Obj.cells ({ toList:=[Value.int IntKind.i64 m,Value.int IntKind.i64 d,Value.int IntKind.i64 t,Value.int IntKind.i64 s,Value.int IntKind.i64 c] }) 23 ((nat_lit 0,nat_lit 0))) true)) Tr.nil Tr.nil) 41 2199023255551 2199023255551) [])
 | 1=>(St.mk (TV.node (some (Value.agg { toList:=[Value.int IntKind.i64 m,Value.int IntKind.i64 d,Value.int IntKind.i64 t,Value.int IntKind.i64 s,Value.int IntKind.i64 c] })) (TV.node (some (Value.pointer (some { block:=nat_lit 0,off:=nat_lit 0 }))) (TV.node (some (Value.int IntKind.i64 y0)) (TV.node (some junk) (TV.node (some (Value.tuple { toList:=[] })) TV.nil TV.nil) TV.nil) (TV.node (some junk) TV.nil TV.nil)) (TV.node (some junk) (TV.node (some junk) TV.nil TV.nil) (TV.node (some junk) TV.nil TV.nil))) (TV.node (some (Value.int IntKind.i64 (0:Int))) (TV.node (some junk) (TV.node (some junk) TV.nil TV.nil) (TV.node (some junk) TV.nil TV.nil)) (TV.node (some junk) (TV.node (some junk) TV.nil TV.nil) (TV.node (some junk) TV.nil TV.nil)))) (HS.mk (Tr.node (some (VO.live (Obj.cells ({ toList:=[Value.int IntKind.i64 m,Value.int IntKind.i64 d,Value.int IntKind.i64 t,Value.int IntKind.i64 s,Value.int IntKind.i64 c] }) 23 ((nat_lit 0,nat_lit 0))) true)) Tr.nil Tr.nil) 41 2199023255551 2199023255551) [])
 | _=>(psA_hd m d t s c).s
theorem psA_p0 (m d t s c:Int)(y0:Int):bodyK Try.prog ([]:Vars).length GTab.none 3000 (psA_hd m d t s c) (psA_S m d t s c y0 ) [(0,.b 1),(1,.b 1)] 1 41 [7,11,5,9,13,4,8,12,6,10,14] 41 1 1=some (.ret,psA_E 0 m d t s c (y0) , [(IntKind.i64.wrap (y0*s)==c)=true,(decide (y0≤(24:Int)))=true]):=by kernel_rfl
theorem psA_q0 (m d t s c:Int)(y0:Int):(psA_E 0 m d t s c (y0) ).hs.next=41:=by kernel_rfl
theorem psA_p1 (m d t s c:Int)(y0:Int):bodyK Try.prog ([]:Vars).length GTab.none 3000 (psA_hd m d t s c) (psA_S m d t s c y0 ) [(0,.b 1),(1,.b 0)] 1 41 [7,11,5,9,13,4,8,12,6,10,14] 1 1 1=some (.normal,(psA_S m d t s c (IntKind.i64.wrap (y0+(1:Int)))),[(IntKind.i64.wrap (y0*s)==c)=false,(decide (y0≤(24:Int)))=true]):=by kernel_rfl
theorem psA_p2 (m d t s c:Int)(y0:Int):bodyK Try.prog ([]:Vars).length GTab.none 3000 (psA_hd m d t s c) (psA_S m d t s c y0 ) [(0,.b 0)] 1 41 [7,11,5,9,13,4,8,12,6,10,14] 41 1 1=some (.exit 0,psA_E 1 m d t s c (y0) , [(decide (y0≤(24:Int)))=false]):=by kernel_rfl
theorem psA_q2 (m d t s c:Int)(y0:Int):(psA_E 1 m d t s c (y0) ).hs.next=41:=by kernel_rfl
noncomputable def psA_f (m d t s c:Int):Nat→Int→Option (Nat × (Int))
 | 0,_=>none
 | fu+1,y0=>(bif (decide (1≤y0∧y0≤25)) then (bif (decide (y0≤(24:Int))) then (bif (IntKind.i64.wrap (y0*s)==c) then some (0,(y0)) else psA_f m d t s c fu (IntKind.i64.wrap (y0+(1:Int)))) else some (1,(y0))) else none)
theorem psA_fs (m d t s c:Int)(fu:Nat)(y0:Int):psA_f m d t s c (fu+1) y0=(bif (decide (1≤y0∧y0≤25)) then (bif (decide (y0≤(24:Int))) then (bif (IntKind.i64.wrap (y0*s)==c) then some (0,(y0)) else psA_f m d t s c fu (IntKind.i64.wrap (y0+(1:Int)))) else some (1,(y0))) else none):=rfl
theorem psA_f0 (m d t s c:Int)(y0:Int):psA_f m d t s c 0 y0=none:=rfl
theorem psA_loop (m d t s c:Int): ∀ (fu:Nat) (y0:Int) (kk:Nat) (zz:Int),psA_f m d t s c fu y0=some (kk,zz)→VStep (psA_hd m d t s c).s.hs (psA_S m d t s c y0 ).hs→RoundsC Try.prog [] 1 41 (psA_hd m d t s c).s.hs (psA_hd m d t s c).ro (psA_hd m d t s c).a (psA_S m d t s c y0 ) (psA_X kk) (psA_E kk m d t s c zz )∧((psA_E kk m d t s c zz )).hs.next=41:=by
 intro fu
 induction fu with
 | zero =>
  intro y0 kk zz hf hSz
  have hf:=(psA_f0 m d t s c y0 ).symm.trans hf
  simp at hf
 | succ fu ih =>
  intro y0 kk zz hf hSz
  have hf:=(psA_fs m d t s c fu y0 ).symm.trans hf
  rcases bif_or hf with ⟨hi,hf⟩ | ⟨hi,hf⟩
  case inr=>cases hf
  rcases bif_or hf with ⟨hq0,hf⟩ | ⟨hq0,hf⟩
  ·
   rcases bif_or hf with ⟨hq1,hf⟩ | ⟨hq1,hf⟩
   ·
    injection hf with hf; injection hf with e1 e2; subst e1; subst e2; have hb1:=psA_p0 m d t s c y0 ; have hb2:=body_canon hb1; have hb3:=hb2 ⟨hq1,hq0,trivial⟩; obtain ⟨sz1,kz1,kz2,kz3⟩:=hb3; exact ⟨rounds_end mix (T:=GTab.none) GOk.none (psA_n m d t s c ) (psA_r m d t s c ) (psA_w m d t s c ) kz1 (fun h=>by cases h) hSz kz2 kz3,psA_q0 m d t s c y0 ⟩
   ·
    have hb1:=psA_p1 m d t s c y0 ; have hb2:=body_canon hb1; have hb3:=hb2 ⟨hq1,hq0,trivial⟩; obtain ⟨sz1,kz1,kz2,kz3⟩:=hb3; obtain ⟨gz1,gz2⟩:=ih (IntKind.i64.wrap (y0+(1:Int))) kk zz hf (rounds_step mix (T:=GTab.none) GOk.none (psA_n m d t s c ) (psA_r m d t s c ) (psA_w m d t s c ) kz1 hSz kz2 kz3); exact ⟨rounds_next mix (T:=GTab.none) GOk.none (psA_n m d t s c ) (psA_r m d t s c ) (psA_w m d t s c ) kz1 hSz kz2 kz3 (fun _=>gz1),gz2⟩
  ·
   injection hf with hf; injection hf with e1 e2; subst e1; subst e2; have hb1:=psA_p2 m d t s c y0 ; have hb2:=body_canon hb1; have hb3:=hb2 ⟨hq0,trivial⟩; obtain ⟨sz1,kz1,kz2,kz3⟩:=hb3; exact ⟨rounds_end mix (T:=GTab.none) GOk.none (psA_n m d t s c ) (psA_r m d t s c ) (psA_w m d t s c ) kz1 (fun h=>by cases h) hSz kz2 kz3,psA_q2 m d t s c y0 ⟩
theorem psA_ok (m d t s c:Int)(fu kk:Nat)(zz:Int)(hf:psA_f m d t s c fu ((1:Int))=some (kk,zz)):∀ B:Bd,B.L=[]→LoopOk Try.prog B (psA_hd m d t s c).ro (psA_hd m d t s c).a (psA_hd m d t s c).s (psA_X kk) (psA_E kk m d t s c zz ):=by
 have hSz:=begin_step (psA_n m d t s c ) (psA_r m d t s c ) (psA_w m d t s c ) (psA_e0 m d t s c ) (psA_e1 m d t s c )
 obtain ⟨gz1,gz2⟩:=psA_loop m d t s c fu ((1:Int)) kk zz hf hSz
 exact rounds_ok (psA_n m d t s c ) (Nat.le_of_ble_eq_true (by kernel_rfl)) gz2 (rounds_begin (psA_n m d t s c ) (psA_r m d t s c ) (psA_w m d t s c ) (psA_e0 m d t s c ) (psA_e1 m d t s c ) (fun _=>gz1))
noncomputable def ps0_c0 (m d t s c:Int)(psA_z0:Int): Int:=(psA_z0)
theorem ps0_p0 (m d t s c:Int)(psA_z0:Int)(psA_l:∀ B:Bd,B.L=[]→LoopOk Try.prog B (psA_hd m d t s c).ro (psA_hd m d t s c).a (psA_hd m d t s c).s (psA_X 0) (psA_E 0 m d t s c psA_z0 )):KnownR Try.prog [] 39 [.val (.agg #[.int .i64 m,.int .i64 d,.int .i64 t,.int .i64 s,.int .i64 c])] (.int .i64 (psA_z0)) [] :=
 knownR_eq (v:=Value.int IntKind.i64 psA_z0) (bs:=[]) (open_resD mix (GOk.add GOk.none psA_l) (T:=(GTab.add GTab.none 3 (psA_hd m d t s c).ro (psA_hd m d t s c).a (psA_hd m d t s c).s (psA_X 0) (psA_E 0 m d t s c psA_z0 ) (by kernel_rfl))) (fuel:=3000) (es:=[]) (ans:=[(0,.loop (psA_X 0) (psA_E 0 m d t s c psA_z0 )),]) (log:=[LoopRes Try.prog ([]:Vars).length (GTab.add GTab.none 3 (psA_hd m d t s c).ro (psA_hd m d t s c).a (psA_hd m d t s c).s (psA_X 0) (psA_E 0 m d t s c psA_z0 ) (by kernel_rfl)) (psA_hd m d t s c).ro (psA_hd m d t s c).a (psA_hd m d t s c).s (psA_X 0) (psA_E 0 m d t s c psA_z0 )]) (by kernel_rfl) ⟨(loop_known2 add_eq),trivial⟩ (by kernel_rfl)) (by first | rfl | (simp; done) | (simp_all; done)) (by first | rfl | (simp [rowA_nil]; done) | (simp only [rowA_eq]; rfl) | (simp_all [rowA_nil]; done))
set_option maxHeartbeats 8000000 in
theorem ps0 (m d t s c:Int)(psA_z0:Int)(psA_l:∀ B:Bd,B.L=[]→LoopOk Try.prog B (psA_hd m d t s c).ro (psA_hd m d t s c).a (psA_hd m d t s c).s (psA_X 0) (psA_E 0 m d t s c psA_z0 )):KnownR Try.prog [] 39 [.val (.agg #[.int .i64 m,.int .i64 d,.int .i64 t,.int .i64 s,.int .i64 c])] (.int .i64 (ps0_c0 m d t s c psA_z0)) []:=by
 have e0:ps0_c0 m d t s c psA_z0=(psA_z0):=rfl; rw [e0]; exact ps0_p0 m d t s c psA_z0 psA_l
theorem ps1_p0 (m d t s c:Int)(psA_z0:Int)(psA_l:∀ B:Bd,B.L=[]→LoopOk Try.prog B (psA_hd m d t s c).ro (psA_hd m d t s c).a (psA_hd m d t s c).s (psA_X 1) (psA_E 1 m d t s c psA_z0 )):KnownR Try.prog [] 39 [.val (.agg #[.int .i64 m,.int .i64 d,.int .i64 t,.int .i64 s,.int .i64 c])] (.int .i64 ((0:Int))) [] :=
 knownR_eq (v:=Value.int IntKind.i64 (0:Int)) (bs:=[]) (open_resD mix (GOk.add GOk.none psA_l) (T:=(GTab.add GTab.none 3 (psA_hd m d t s c).ro (psA_hd m d t s c).a (psA_hd m d t s c).s (psA_X 1) (psA_E 1 m d t s c psA_z0 ) (by kernel_rfl))) (fuel:=3000) (es:=[]) (ans:=[(0,.loop (psA_X 1) (psA_E 1 m d t s c psA_z0 )),]) (log:=[LoopRes Try.prog ([]:Vars).length (GTab.add GTab.none 3 (psA_hd m d t s c).ro (psA_hd m d t s c).a (psA_hd m d t s c).s (psA_X 1) (psA_E 1 m d t s c psA_z0 ) (by kernel_rfl)) (psA_hd m d t s c).ro (psA_hd m d t s c).a (psA_hd m d t s c).s (psA_X 1) (psA_E 1 m d t s c psA_z0 )]) (by kernel_rfl) ⟨(loop_known2 add_eq),trivial⟩ (by kernel_rfl)) (by first | rfl | (simp; done) | (simp_all; done)) (by first | rfl | (simp [rowA_nil]; done) | (simp only [rowA_eq]; rfl) | (simp_all [rowA_nil]; done))
set_option maxHeartbeats 8000000 in
theorem ps1 (m d t s c:Int)(psA_z0:Int)(psA_l:∀ B:Bd,B.L=[]→LoopOk Try.prog B (psA_hd m d t s c).ro (psA_hd m d t s c).a (psA_hd m d t s c).s (psA_X 1) (psA_E 1 m d t s c psA_z0 )):KnownR Try.prog [] 39 [.val (.agg #[.int .i64 m,.int .i64 d,.int .i64 t,.int .i64 s,.int .i64 c])] (.int .i64 ((0:Int))) []:=by
 exact ps1_p0 m d t s c psA_z0 psA_l
noncomputable def rck_b7 (m d t s c:Int):Bool:=s != IntKind.i64.wrap (m+IntKind.i64.wrap (IntKind.i64.wrap ((IntKind.i64.wrap (s - m)).tdiv t)*t))
noncomputable def rck_b8 (m d t s c:Int):Bool:=decide (IntKind.i64.wrap ((IntKind.i64.wrap (s - m)).tdiv t)<(2:Int))
noncomputable def rck_b9 (m d t s c:Int):Bool:=decide (IntKind.i64.wrap ((IntKind.i64.wrap (s - m)).tdiv t)>(17:Int))
noncomputable def rck_c0 (m d t s c:Int):Int:=(bif (decide (m<(1:Int))) then ((2:Int)) else (bif (decide (m>(200000:Int))) then ((2:Int)) else (bif (decide (d<(1:Int))) then ((2:Int)) else (bif (decide (d>(200000:Int))) then ((2:Int)) else (bif (t != IntKind.i64.wrap (m+d)) then ((3:Int)) else (bif (decide (s<m)) then ((3:Int)) else (bif (s != IntKind.i64.wrap (m+IntKind.i64.wrap (IntKind.i64.wrap ((IntKind.i64.wrap (s - m)).tdiv t)*t))) then ((3:Int)) else (bif (decide (IntKind.i64.wrap ((IntKind.i64.wrap (s - m)).tdiv t)<(2:Int))) then ((3:Int)) else (bif (decide (IntKind.i64.wrap ((IntKind.i64.wrap (s - m)).tdiv t)>(17:Int))) then ((3:Int)) else (bif (decide (c<s)) then ((3:Int)) else (bif (c.tmod s != (0:Int)) then ((3:Int)) else (bif (decide (IntKind.i64.wrap (c.tdiv s)>(24:Int))) then ((3:Int)) else ((0:Int))))))))))))))
theorem rck_p0 (m d t s c:Int)(hq0:(decide (m<(1:Int)))=true):KnownR Try.prog [] 15 [.val (.agg #[.int .i64 m,.int .i64 d,.int .i64 t,.int .i64 s,.int .i64 c])] (.int .i64 ((2:Int))) [] :=
 knownR_eq (v:=Value.int IntKind.i64 (2:Int)) (bs:=[]) (open_resD mix GOk.none (T:=GTab.none) (fuel:=3000) (es:=[]) (ans:=[(0,.b 1)]) (log:=[(decide (m<(1:Int)))=true]) (by kernel_rfl) ⟨hq0,trivial⟩ (by kernel_rfl)) (by first | rfl | (simp; done) | (simp_all; done)) (by first | rfl | (simp [rowA_nil]; done) | (simp only [rowA_eq]; rfl) | (simp_all [rowA_nil]; done))
theorem rck_p1 (m d t s c:Int)(hq0:(decide (m<(1:Int)))=false)(hq1:(decide (m>(200000:Int)))=true):KnownR Try.prog [] 15 [.val (.agg #[.int .i64 m,.int .i64 d,.int .i64 t,.int .i64 s,.int .i64 c])] (.int .i64 ((2:Int))) [] :=
 knownR_eq (v:=Value.int IntKind.i64 (2:Int)) (bs:=[]) (open_resD mix GOk.none (T:=GTab.none) (fuel:=3000) (es:=[]) (ans:=[(0,.b 0),(4,.b 1)]) (log:=[(decide (m>(200000:Int)))=true,(decide (m<(1:Int)))=false]) (by kernel_rfl) ⟨hq1,hq0,trivial⟩ (by kernel_rfl)) (by first | rfl | (simp; done) | (simp_all; done)) (by first | rfl | (simp [rowA_nil]; done) | (simp only [rowA_eq]; rfl) | (simp_all [rowA_nil]; done))
theorem rck_p2 (m d t s c:Int)(hq0:(decide (m<(1:Int)))=false)(hq1:(decide (m>(200000:Int)))=false)(hq2:(decide (d<(1:Int)))=true):KnownR Try.prog [] 15 [.val (.agg #[.int .i64 m,.int .i64 d,.int .i64 t,.int .i64 s,.int .i64 c])] (.int .i64 ((2:Int))) [] :=
 knownR_eq (v:=Value.int IntKind.i64 (2:Int)) (bs:=[]) (open_resD mix GOk.none (T:=GTab.none) (fuel:=3000) (es:=[]) (ans:=[(0,.b 0),(4,.b 0),(8,.b 1)]) (log:=[(decide (d<(1:Int)))=true,(decide (m>(200000:Int)))=false,(decide (m<(1:Int)))=false]) (by kernel_rfl) ⟨hq2,hq1,hq0,trivial⟩ (by kernel_rfl)) (by first | rfl | (simp; done) | (simp_all; done)) (by first | rfl | (simp [rowA_nil]; done) | (simp only [rowA_eq]; rfl) | (simp_all [rowA_nil]; done))
theorem rck_p3 (m d t s c:Int)(hq0:(decide (m<(1:Int)))=false)(hq1:(decide (m>(200000:Int)))=false)(hq2:(decide (d<(1:Int)))=false)(hq3:(decide (d>(200000:Int)))=true):KnownR Try.prog [] 15 [.val (.agg #[.int .i64 m,.int .i64 d,.int .i64 t,.int .i64 s,.int .i64 c])] (.int .i64 ((2:Int))) [] :=
 knownR_eq (v:=Value.int IntKind.i64 (2:Int)) (bs:=[]) (open_resD mix GOk.none (T:=GTab.none) (fuel:=3000) (es:=[]) (ans:=[(0,.b 0),(4,.b 0),(8,.b 0),(12,.b 1)]) (log:=[(decide (d>(200000:Int)))=true,(decide (d<(1:Int)))=false,(decide (m>(200000:Int)))=false,(decide (m<(1:Int)))=false]) (by kernel_rfl) ⟨hq3,hq2,hq1,hq0,trivial⟩ (by kernel_rfl)) (by first | rfl | (simp; done) | (simp_all; done)) (by first | rfl | (simp [rowA_nil]; done) | (simp only [rowA_eq]; rfl) | (simp_all [rowA_nil]; done))
theorem rck_p4 (m d t s c:Int)(hq0:(decide (m<(1:Int)))=false)(hq1:(decide (m>(200000:Int)))=false)(hq2:(decide (d<(1:Int)))=false)(hq3:(decide (d>(200000:Int)))=false)(hq4:(t != IntKind.i64.wrap (m+d))=true):KnownR Try.prog [] 15 [.val (.agg #[.int .i64 m,.int .i64 d,.int .i64 t,.int .i64 s,.int .i64 c])] (.int .i64 ((3:Int))) [] :=
 knownR_eq (v:=Value.int IntKind.i64 (3:Int)) (bs:=[]) (open_resD mix GOk.none (T:=GTab.none) (fuel:=3000) (es:=[]) (ans:=[(0,.b 0),(4,.b 0),(8,.b 0),(12,.b 0),(13,.b 1)]) (log:=[(t != IntKind.i64.wrap (m+d))=true,(decide (d>(200000:Int)))=false,(decide (d<(1:Int)))=false,(decide (m>(200000:Int)))=false,(decide (m<(1:Int)))=false]) (by kernel_rfl) ⟨hq4,hq3,hq2,hq1,hq0,trivial⟩ (by kernel_rfl)) (by first | rfl | (simp; done) | (simp_all; done)) (by first | rfl | (simp [rowA_nil]; done) | (simp only [rowA_eq]; rfl) | (simp_all [rowA_nil]; done))
theorem rck_p5 (m d t s c:Int)(hq0:(decide (m<(1:Int)))=false)(hq1:(decide (m>(200000:Int)))=false)(hq2:(decide (d<(1:Int)))=false)(hq3:(decide (d>(200000:Int)))=false)(hq4:(t != IntKind.i64.wrap (m+d))=false)(hq5:(t==(0:Int))=false)(hq6:(decide (s<m))=true):KnownR Try.prog [] 15 [.val (.agg #[.int .i64 m,.int .i64 d,.int .i64 t,.int .i64 s,.int .i64 c])] (.int .i64 ((3:Int))) [] :=
 knownR_eq (v:=Value.int IntKind.i64 (3:Int)) (bs:=[]) (open_resD mix GOk.none (T:=GTab.none) (fuel:=3000) (es:=[]) (ans:=[(0,.b 0),(4,.b 0),(8,.b 0),(12,.b 0),(13,.b 0),(14,.b 0),(15,.b 1)]) (log:=[(decide (s<m))=true,(t==(0:Int))=false,(t != IntKind.i64.wrap (m+d))=false,(decide (d>(200000:Int)))=false,(decide (d<(1:Int)))=false,(decide (m>(200000:Int)))=false,(decide (m<(1:Int)))=false]) (by kernel_rfl) ⟨hq6,hq5,hq4,hq3,hq2,hq1,hq0,trivial⟩ (by kernel_rfl)) (by first | rfl | (simp; done) | (simp_all; done)) (by first | rfl | (simp [rowA_nil]; done) | (simp only [rowA_eq]; rfl) | (simp_all [rowA_nil]; done))
theorem rck_p6 (m d t s c:Int)(hq0:(decide (m<(1:Int)))=false)(hq1:(decide (m>(200000:Int)))=false)(hq2:(decide (d<(1:Int)))=false)(hq3:(decide (d>(200000:Int)))=false)(hq4:(t != IntKind.i64.wrap (m+d))=false)(hq5:(t==(0:Int))=false)(hq6:(decide (s<m))=false)(hq7:(rck_b7 m d t s c)=true):KnownR Try.prog [] 15 [.val (.agg #[.int .i64 m,.int .i64 d,.int .i64 t,.int .i64 s,.int .i64 c])] (.int .i64 ((3:Int))) [] :=
 knownR_eq (v:=Value.int IntKind.i64 (3:Int)) (bs:=[]) (open_resD mix GOk.none (T:=GTab.none) (fuel:=3000) (es:=[]) (ans:=[(0,.b 0),(4,.b 0),(8,.b 0),(12,.b 0),(13,.b 0),(14,.b 0),(15,.b 0),(26,.b 1)]) (log:=[(rck_b7 m d t s c)=true,(decide (s<m))=false,(t==(0:Int))=false,(t != IntKind.i64.wrap (m+d))=false,(decide (d>(200000:Int)))=false,(decide (d<(1:Int)))=false,(decide (m>(200000:Int)))=false,(decide (m<(1:Int)))=false]) (by kernel_rfl) ⟨hq7,hq6,hq5,hq4,hq3,hq2,hq1,hq0,trivial⟩ (by kernel_rfl)) (by first | rfl | (simp; done) | (simp_all; done)) (by first | rfl | (simp [rowA_nil]; done) | (simp only [rowA_eq]; rfl) | (simp_all [rowA_nil]; done))
theorem rck_p7 (m d t s c:Int)(hq0:(decide (m<(1:Int)))=false)(hq1:(decide (m>(200000:Int)))=false)(hq2:(decide (d<(1:Int)))=false)(hq3:(decide (d>(200000:Int)))=false)(hq4:(t != IntKind.i64.wrap (m+d))=false)(hq5:(t==(0:Int))=false)(hq6:(decide (s<m))=false)(hq7:(rck_b7 m d t s c)=false)(hq8:(rck_b8 m d t s c)=true):KnownR Try.prog [] 15 [.val (.agg #[.int .i64 m,.int .i64 d,.int .i64 t,.int .i64 s,.int .i64 c])] (.int .i64 ((3:Int))) [] :=
 knownR_eq (v:=Value.int IntKind.i64 (3:Int)) (bs:=[]) (open_resD mix GOk.none (T:=GTab.none) (fuel:=3000) (es:=[]) (ans:=[(0,.b 0),(4,.b 0),(8,.b 0),(12,.b 0),(13,.b 0),(14,.b 0),(15,.b 0),(26,.b 0),(29,.b 1)]) (log:=[(rck_b8 m d t s c)=true,(rck_b7 m d t s c)=false,(decide (s<m))=false,(t==(0:Int))=false,(t != IntKind.i64.wrap (m+d))=false,(decide (d>(200000:Int)))=false,(decide (d<(1:Int)))=false,(decide (m>(200000:Int)))=false,(decide (m<(1:Int)))=false]) (by kernel_rfl) ⟨hq8,hq7,hq6,hq5,hq4,hq3,hq2,hq1,hq0,trivial⟩ (by kernel_rfl)) (by first | rfl | (simp; done) | (simp_all; done)) (by first | rfl | (simp [rowA_nil]; done) | (simp only [rowA_eq]; rfl) | (simp_all [rowA_nil]; done))
theorem rck_p8 (m d t s c:Int)(hq0:(decide (m<(1:Int)))=false)(hq1:(decide (m>(200000:Int)))=false)(hq2:(decide (d<(1:Int)))=false)(hq3:(decide (d>(200000:Int)))=false)(hq4:(t != IntKind.i64.wrap (m+d))=false)(hq5:(t==(0:Int))=false)(hq6:(decide (s<m))=false)(hq7:(rck_b7 m d t s c)=false)(hq8:(rck_b8 m d t s c)=false)(hq9:(rck_b9 m d t s c)=true):KnownR Try.prog [] 15 [.val (.agg #[.int .i64 m,.int .i64 d,.int .i64 t,.int .i64 s,.int .i64 c])] (.int .i64 ((3:Int))) [] :=
 knownR_eq (v:=Value.int IntKind.i64 (3:Int)) (bs:=[]) (open_resD mix GOk.none (T:=GTab.none) (fuel:=3000) (es:=[]) (ans:=[(0,.b 0),(4,.b 0),(8,.b 0),(12,.b 0),(13,.b 0),(14,.b 0),(15,.b 0),(26,.b 0),(29,.b 0),(32,.b 1)]) (log:=[(rck_b9 m d t s c)=true,(rck_b8 m d t s c)=false,(rck_b7 m d t s c)=false,(decide (s<m))=false,(t==(0:Int))=false,(t != IntKind.i64.wrap (m+d))=false,(decide (d>(200000:Int)))=false,(decide (d<(1:Int)))=false,(decide (m>(200000:Int)))=false,(decide (m<(1:Int)))=false]) (by kernel_rfl) ⟨hq9,hq8,hq7,hq6,hq5,hq4,hq3,hq2,hq1,hq0,trivial⟩ (by kernel_rfl)) (by first | rfl | (simp; done) | (simp_all; done)) (by first | rfl | (simp [rowA_nil]; done) | (simp only [rowA_eq]; rfl) | (simp_all [rowA_nil]; done))
theorem rck_p9 (m d t s c:Int)(hq0:(decide (m<(1:Int)))=false)(hq1:(decide (m>(200000:Int)))=false)(hq2:(decide (d<(1:Int)))=false)(hq3:(decide (d>(200000:Int)))=false)(hq4:(t != IntKind.i64.wrap (m+d))=false)(hq5:(t==(0:Int))=false)(hq6:(decide (s<m))=false)(hq7:(rck_b7 m d t s c)=false)(hq8:(rck_b8 m d t s c)=false)(hq9:(rck_b9 m d t s c)=false)(hq10:(decide (c<s))=true):KnownR Try.prog [] 15 [.val (.agg #[.int .i64 m,.int .i64 d,.int .i64 t,.int .i64 s,.int .i64 c])] (.int .i64 ((3:Int))) [] :=
 knownR_eq (v:=Value.int IntKind.i64 (3:Int)) (bs:=[]) (open_resD mix GOk.none (T:=GTab.none) (fuel:=3000) (es:=[]) (ans:=[(0,.b 0),(4,.b 0),(8,.b 0),(12,.b 0),(13,.b 0),(14,.b 0),(15,.b 0),(26,.b 0),(29,.b 0),(32,.b 0),(33,.b 1)]) (log:=[(decide (c<s))=true,(rck_b9 m d t s c)=false,(rck_b8 m d t s c)=false,(rck_b7 m d t s c)=false,(decide (s<m))=false,(t==(0:Int))=false,(t != IntKind.i64.wrap (m+d))=false,(decide (d>(200000:Int)))=false,(decide (d<(1:Int)))=false,(decide (m>(200000:Int)))=false,(decide (m<(1:Int)))=false]) (by kernel_rfl) ⟨hq10,hq9,hq8,hq7,hq6,hq5,hq4,hq3,hq2,hq1,hq0,trivial⟩ (by kernel_rfl)) (by first | rfl | (simp; done) | (simp_all; done)) (by first | rfl | (simp [rowA_nil]; done) | (simp only [rowA_eq]; rfl) | (simp_all [rowA_nil]; done))
theorem rck_p10 (m d t s c:Int)(hq0:(decide (m<(1:Int)))=false)(hq1:(decide (m>(200000:Int)))=false)(hq2:(decide (d<(1:Int)))=false)(hq3:(decide (d>(200000:Int)))=false)(hq4:(t != IntKind.i64.wrap (m+d))=false)(hq5:(t==(0:Int))=false)(hq6:(decide (s<m))=false)(hq7:(rck_b7 m d t s c)=false)(hq8:(rck_b8 m d t s c)=false)(hq9:(rck_b9 m d t s c)=false)(hq10:(decide (c<s))=false)(hq11:(s==(0:Int))=false)(hq12:(c.tmod s != (0:Int))=true):KnownR Try.prog [] 15 [.val (.agg #[.int .i64 m,.int .i64 d,.int .i64 t,.int .i64 s,.int .i64 c])] (.int .i64 ((3:Int))) [] :=
 knownR_eq (v:=Value.int IntKind.i64 (3:Int)) (bs:=[]) (open_resD mix GOk.none (T:=GTab.none) (fuel:=3000) (es:=[]) (ans:=[(0,.b 0),(4,.b 0),(8,.b 0),(12,.b 0),(13,.b 0),(14,.b 0),(15,.b 0),(26,.b 0),(29,.b 0),(32,.b 0),(33,.b 0),(38,.b 0),(41,.b 1)]) (log:=[(c.tmod s != (0:Int))=true,(s==(0:Int))=false,(decide (c<s))=false,(rck_b9 m d t s c)=false,(rck_b8 m d t s c)=false,(rck_b7 m d t s c)=false,(decide (s<m))=false,(t==(0:Int))=false,(t != IntKind.i64.wrap (m+d))=false,(decide (d>(200000:Int)))=false,(decide (d<(1:Int)))=false,(decide (m>(200000:Int)))=false,(decide (m<(1:Int)))=false]) (by kernel_rfl) ⟨hq12,hq11,hq10,hq9,hq8,hq7,hq6,hq5,hq4,hq3,hq2,hq1,hq0,trivial⟩ (by kernel_rfl)) (by first | rfl | (simp; done) | (simp_all; done)) (by first | rfl | (simp [rowA_nil]; done) | (simp only [rowA_eq]; rfl) | (simp_all [rowA_nil]; done))
theorem rck_p11 (m d t s c:Int)(hq0:(decide (m<(1:Int)))=false)(hq1:(decide (m>(200000:Int)))=false)(hq2:(decide (d<(1:Int)))=false)(hq3:(decide (d>(200000:Int)))=false)(hq4:(t != IntKind.i64.wrap (m+d))=false)(hq5:(t==(0:Int))=false)(hq6:(decide (s<m))=false)(hq7:(rck_b7 m d t s c)=false)(hq8:(rck_b8 m d t s c)=false)(hq9:(rck_b9 m d t s c)=false)(hq10:(decide (c<s))=false)(hq11:(s==(0:Int))=false)(hq12:(c.tmod s != (0:Int))=false)(hq13:(decide (IntKind.i64.wrap (c.tdiv s)>(24:Int)))=true):KnownR Try.prog [] 15 [.val (.agg #[.int .i64 m,.int .i64 d,.int .i64 t,.int .i64 s,.int .i64 c])] (.int .i64 ((3:Int))) [] :=
 knownR_eq (v:=Value.int IntKind.i64 (3:Int)) (bs:=[]) (open_resD mix GOk.none (T:=GTab.none) (fuel:=3000) (es:=[]) (ans:=[(0,.b 0),(4,.b 0),(8,.b 0),(12,.b 0),(13,.b 0),(14,.b 0),(15,.b 0),(26,.b 0),(29,.b 0),(32,.b 0),(33,.b 0),(38,.b 0),(41,.b 0),(46,.b 0),(49,.b 1)]) (log:=[(decide (IntKind.i64.wrap (c.tdiv s)>(24:Int)))=true,(s==(0:Int))=false,(c.tmod s != (0:Int))=false,(s==(0:Int))=false,(decide (c<s))=false,(rck_b9 m d t s c)=false,(rck_b8 m d t s c)=false,(rck_b7 m d t s c)=false,(decide (s<m))=false,(t==(0:Int))=false,(t != IntKind.i64.wrap (m+d))=false,(decide (d>(200000:Int)))=false,(decide (d<(1:Int)))=false,(decide (m>(200000:Int)))=false,(decide (m<(1:Int)))=false]) (by kernel_rfl) ⟨hq13,hq11,hq12,hq11,hq10,hq9,hq8,hq7,hq6,hq5,hq4,hq3,hq2,hq1,hq0,trivial⟩ (by kernel_rfl)) (by first | rfl | (simp; done) | (simp_all; done)) (by first | rfl | (simp [rowA_nil]; done) | (simp only [rowA_eq]; rfl) | (simp_all [rowA_nil]; done))
theorem rck_p12 (m d t s c:Int)(hq0:(decide (m<(1:Int)))=false)(hq1:(decide (m>(200000:Int)))=false)(hq2:(decide (d<(1:Int)))=false)(hq3:(decide (d>(200000:Int)))=false)(hq4:(t != IntKind.i64.wrap (m+d))=false)(hq5:(t==(0:Int))=false)(hq6:(decide (s<m))=false)(hq7:(rck_b7 m d t s c)=false)(hq8:(rck_b8 m d t s c)=false)(hq9:(rck_b9 m d t s c)=false)(hq10:(decide (c<s))=false)(hq11:(s==(0:Int))=false)(hq12:(c.tmod s != (0:Int))=false)(hq13:(decide (IntKind.i64.wrap (c.tdiv s)>(24:Int)))=false):KnownR Try.prog [] 15 [.val (.agg #[.int .i64 m,.int .i64 d,.int .i64 t,.int .i64 s,.int .i64 c])] (.int .i64 ((0:Int))) [] :=
 knownR_eq (v:=Value.int IntKind.i64 (0:Int)) (bs:=[]) (open_resD mix GOk.none (T:=GTab.none) (fuel:=3000) (es:=[]) (ans:=[(0,.b 0),(4,.b 0),(8,.b 0),(12,.b 0),(13,.b 0),(14,.b 0),(15,.b 0),(26,.b 0),(29,.b 0),(32,.b 0),(33,.b 0),(38,.b 0),(41,.b 0),(46,.b 0),(49,.b 0)]) (log:=[(decide (IntKind.i64.wrap (c.tdiv s)>(24:Int)))=false,(s==(0:Int))=false,(c.tmod s != (0:Int))=false,(s==(0:Int))=false,(decide (c<s))=false,(rck_b9 m d t s c)=false,(rck_b8 m d t s c)=false,(rck_b7 m d t s c)=false,(decide (s<m))=false,(t==(0:Int))=false,(t != IntKind.i64.wrap (m+d))=false,(decide (d>(200000:Int)))=false,(decide (d<(1:Int)))=false,(decide (m>(200000:Int)))=false,(decide (m<(1:Int)))=false]) (by kernel_rfl) ⟨hq13,hq11,hq12,hq11,hq10,hq9,hq8,hq7,hq6,hq5,hq4,hq3,hq2,hq1,hq0,trivial⟩ (by kernel_rfl)) (by first | rfl | (simp; done) | (simp_all; done)) (by first | rfl | (simp [rowA_nil]; done) | (simp only [rowA_eq]; rfl) | (simp_all [rowA_nil]; done))
set_option maxHeartbeats 8000000 in
theorem rck (m d t s c:Int): KnownR Try.prog [] 15 [.val (.agg #[.int .i64 m,.int .i64 d,.int .i64 t,.int .i64 s,.int .i64 c])] (.int .i64 (rck_c0 m d t s c)) []:=by
 rcases Bool.eq_false_or_eq_true (decide (m<(1:Int))) with hq0 | hq0
 ·
  have e0:rck_c0 m d t s c=((2:Int)):=((bif_t hq0 _ _).trans rfl); rw [e0]; exact rck_p0 m d t s c hq0
 ·
  rcases Bool.eq_false_or_eq_true (decide (m>(200000:Int))) with hq1 | hq1
  ·
   have e0:rck_c0 m d t s c=((2:Int)):=((bif_f hq0 _ _).trans ((bif_t hq1 _ _).trans rfl)); rw [e0]; exact rck_p1 m d t s c hq0 hq1
  ·
   rcases Bool.eq_false_or_eq_true (decide (d<(1:Int))) with hq2 | hq2
   ·
    have e0:rck_c0 m d t s c=((2:Int)):=((bif_f hq0 _ _).trans ((bif_f hq1 _ _).trans ((bif_t hq2 _ _).trans rfl))); rw [e0]; exact rck_p2 m d t s c hq0 hq1 hq2
   ·
    rcases Bool.eq_false_or_eq_true (decide (d>(200000:Int))) with hq3 | hq3
    ·
     have e0:rck_c0 m d t s c=((2:Int)):=((bif_f hq0 _ _).trans ((bif_f hq1 _ _).trans ((bif_f hq2 _ _).trans ((bif_t hq3 _ _).trans rfl)))); rw [e0]; exact rck_p3 m d t s c hq0 hq1 hq2 hq3
    ·
     rcases Bool.eq_false_or_eq_true (t != IntKind.i64.wrap (m+d)) with hq4 | hq4
     ·
      have e0:rck_c0 m d t s c=((3:Int)):=((bif_f hq0 _ _).trans ((bif_f hq1 _ _).trans ((bif_f hq2 _ _).trans ((bif_f hq3 _ _).trans ((bif_t hq4 _ _).trans rfl))))); rw [e0]; exact rck_p4 m d t s c hq0 hq1 hq2 hq3 hq4
     ·
      have hq5:(t==(0:Int))=false:=by
       rcases Bool.eq_false_or_eq_true (t==(0:Int)) with h | h
       ·exfalso; (try simp only [rck_b7,rck_b8,rck_b9] at *); (first | (simp_all only [Bool.and_eq_true,Bool.not_eq_true',Bool.false_eq_true,Bool.true_eq_false,reduceCtorEq]; done) | (simp only [sx,sy,eq_self,ne_eq,IntKind.wrap_i64,wrapU64,Int.reduceLT] at * <;> first | with_reducible contradiction | omega) | omega | ((try simp only [sx,sy,eq_self,ne_eq,IntKind.wrap_i64,wrapU64,Int.reduceLT] at *) <;> omega) | (simp_all; done))
       ·exact h
      rcases Bool.eq_false_or_eq_true (decide (s<m)) with hq6 | hq6
      ·
       have e0:rck_c0 m d t s c=((3:Int)):=((bif_f hq0 _ _).trans ((bif_f hq1 _ _).trans ((bif_f hq2 _ _).trans ((bif_f hq3 _ _).trans ((bif_f hq4 _ _).trans ((bif_t hq6 _ _).trans rfl)))))); rw [e0]; exact rck_p5 m d t s c hq0 hq1 hq2 hq3 hq4 hq5 hq6
      ·
       rcases Bool.eq_false_or_eq_true (rck_b7 m d t s c) with hq7 | hq7
       ·
        have e0:rck_c0 m d t s c=((3:Int)):=((bif_f hq0 _ _).trans ((bif_f hq1 _ _).trans ((bif_f hq2 _ _).trans ((bif_f hq3 _ _).trans ((bif_f hq4 _ _).trans ((bif_f hq6 _ _).trans ((bif_t hq7 _ _).trans rfl))))))); rw [e0]; exact rck_p6 m d t s c hq0 hq1 hq2 hq3 hq4 hq5 hq6 hq7
       ·
        rcases Bool.eq_false_or_eq_true (rck_b8 m d t s c) with hq8 | hq8
        ·
         have e0:rck_c0 m d t s c=((3:Int)):=((bif_f hq0 _ _).trans ((bif_f hq1 _ _).trans ((bif_f hq2 _ _).trans ((bif_f hq3 _ _).trans ((bif_f hq4 _ _).trans ((bif_f hq6 _ _).trans ((bif_f hq7 _ _).trans ((bif_t hq8 _ _).trans rfl)))))))); rw [e0]; exact rck_p7 m d t s c hq0 hq1 hq2 hq3 hq4 hq5 hq6 hq7 hq8
        ·
         rcases Bool.eq_false_or_eq_true (rck_b9 m d t s c) with hq9 | hq9
         ·
          have e0:rck_c0 m d t s c=((3:Int)):=((bif_f hq0 _ _).trans ((bif_f hq1 _ _).trans ((bif_f hq2 _ _).trans ((bif_f hq3 _ _).trans ((bif_f hq4 _ _).trans ((bif_f hq6 _ _).trans ((bif_f hq7 _ _).trans ((bif_f hq8 _ _).trans ((bif_t hq9 _ _).trans rfl))))))))); rw [e0]; exact rck_p8 m d t s c hq0 hq1 hq2 hq3 hq4 hq5 hq6 hq7 hq8 hq9
         ·
          rcases Bool.eq_false_or_eq_true (decide (c<s)) with hq10 | hq10
          ·
           have e0:rck_c0 m d t s c=((3:Int)):=((bif_f hq0 _ _).trans ((bif_f hq1 _ _).trans ((bif_f hq2 _ _).trans ((bif_f hq3 _ _).trans ((bif_f hq4 _ _).trans ((bif_f hq6 _ _).trans ((bif_f hq7 _ _).trans ((bif_f hq8 _ _).trans ((bif_f hq9 _ _).trans ((bif_t hq10 _ _).trans rfl)))))))))); rw [e0]; exact rck_p9 m d t s c hq0 hq1 hq2 hq3 hq4 hq5 hq6 hq7 hq8 hq9 hq10
          ·
           have hq11:(s==(0:Int))=false:=by
            rcases Bool.eq_false_or_eq_true (s==(0:Int)) with h | h
            ·exfalso; (try simp only [rck_b7,rck_b8,rck_b9] at *); (first | (simp_all only [Bool.and_eq_true,Bool.not_eq_true',Bool.false_eq_true,Bool.true_eq_false,reduceCtorEq]; done) | (simp only [sx,sy,eq_self,ne_eq,IntKind.wrap_i64,wrapU64,Int.reduceLT] at * <;> first | with_reducible contradiction | omega) | omega | ((try simp only [sx,sy,eq_self,ne_eq,IntKind.wrap_i64,wrapU64,Int.reduceLT] at *) <;> omega) | (simp_all; done))
            ·exact h
           rcases Bool.eq_false_or_eq_true (c.tmod s != (0:Int)) with hq12 | hq12
           ·
            have e0:rck_c0 m d t s c=((3:Int)):=((bif_f hq0 _ _).trans ((bif_f hq1 _ _).trans ((bif_f hq2 _ _).trans ((bif_f hq3 _ _).trans ((bif_f hq4 _ _).trans ((bif_f hq6 _ _).trans ((bif_f hq7 _ _).trans ((bif_f hq8 _ _).trans ((bif_f hq9 _ _).trans ((bif_f hq10 _ _).trans ((bif_t hq12 _ _).trans rfl))))))))))); rw [e0]; exact rck_p10 m d t s c hq0 hq1 hq2 hq3 hq4 hq5 hq6 hq7 hq8 hq9 hq10 hq11 hq12
           ·
            rcases Bool.eq_false_or_eq_true (decide (IntKind.i64.wrap (c.tdiv s)>(24:Int))) with hq13 | hq13
            ·
             have e0:rck_c0 m d t s c=((3:Int)):=((bif_f hq0 _ _).trans ((bif_f hq1 _ _).trans ((bif_f hq2 _ _).trans ((bif_f hq3 _ _).trans ((bif_f hq4 _ _).trans ((bif_f hq6 _ _).trans ((bif_f hq7 _ _).trans ((bif_f hq8 _ _).trans ((bif_f hq9 _ _).trans ((bif_f hq10 _ _).trans ((bif_f hq12 _ _).trans ((bif_t hq13 _ _).trans rfl)))))))))))); rw [e0]; exact rck_p11 m d t s c hq0 hq1 hq2 hq3 hq4 hq5 hq6 hq7 hq8 hq9 hq10 hq11 hq12 hq13
            ·
             have e0:rck_c0 m d t s c=((0:Int)):=((bif_f hq0 _ _).trans ((bif_f hq1 _ _).trans ((bif_f hq2 _ _).trans ((bif_f hq3 _ _).trans ((bif_f hq4 _ _).trans ((bif_f hq6 _ _).trans ((bif_f hq7 _ _).trans ((bif_f hq8 _ _).trans ((bif_f hq9 _ _).trans ((bif_f hq10 _ _).trans ((bif_f hq12 _ _).trans ((bif_f hq13 _ _).trans rfl)))))))))))); rw [e0]; exact rck_p12 m d t s c hq0 hq1 hq2 hq3 hq4 hq5 hq6 hq7 hq8 hq9 hq10 hq11 hq12 hq13
end Go.Proofs.Ytaogbagopdlkmaa
