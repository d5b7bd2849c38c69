import Derived.Test.YtokpimghaladjaaLU
import Derived.Test.YtokpimghaladjaaProg
import Derived.ProofKit
import Derived.IntWalk
set_option linter.unnecessarySimpa false
set_option linter.unusedSimpArgs false
set_option linter.unusedVariables false
namespace Go.Proofs.Ytokpimghaladjaa
open Go Go.RowKit
set_option maxHeartbeats 8000000
set_option maxRecDepth 100000
noncomputable def siA_hd (xs ys:List Int):Hd:=headD Try.prog [] GTab.none 3000 26 [.list (rowA gI xs) xs.length,.list (rowA gI ys) ys.length] [(0,.b 0),(1,.stop)]
noncomputable def siA_S (xs ys:List Int)(y0:Int):St:=(St.mk (TV.node (some (Value.complex FloatKind.f64 (nat_lit 0) xs.length)) (TV.node (some (Value.complex FloatKind.f64 (nat_lit 1) ys.length)) (TV.node (some (Value.tuple { toList:=[] })) (TV.node (some (Value.int IntKind.i64 (↑xs.length:Int))) (TV.node (some junk) TV.nil TV.nil) (TV.node (some junk) TV.nil TV.nil)) (TV.node (some junk) (TV.node (some junk) TV.nil TV.nil) TV.nil)) (TV.node (some (Value.int IntKind.i64 y0)) (TV.node (some (Value.int IntKind.i64 (↑ys.length:Int))) (TV.node (some junk) TV.nil TV.nil) (TV.node (some junk) TV.nil TV.nil)) (TV.node (some junk) (TV.node (some junk) TV.nil TV.nil) TV.nil))) (TV.node (some (Value.tuple { toList:=[] })) (TV.node (some (Value.bool false)) (TV.node (some (Value.complex FloatKind.f64 (nat_lit 1) ys.length)) (TV.node (some junk) TV.nil TV.nil) (TV.node (some junk) TV.nil TV.nil)) (TV.node (some junk) (TV.node (some junk) TV.nil TV.nil) TV.nil)) (TV.node (some (Value.complex FloatKind.f64 (nat_lit 0) xs.length)) (TV.node (some (Value.bool false)) (TV.node (some junk) TV.nil TV.nil) TV.nil) (TV.node (some junk) (TV.node (some junk) TV.nil TV.nil) TV.nil)))) (HS.mk (Tr.node (some (VO.ro (rowA (gI) (xs)) 0)) (Tr.node (some (VO.ro (rowA (gI) (ys)) 0)) Tr.nil Tr.nil) Tr.nil) 2 4398046511103 4398046511100) [])
theorem siA_n (xs ys:List Int)(hx:xs.length≤20000)(hy:xs.length=ys.length):2=(siA_hd xs ys).s.hs.next:=by kernel_rfl
theorem siA_r (xs ys:List Int)(hx:xs.length≤20000)(hy:xs.length=ys.length):(siA_hd xs ys).s.hs.rd<bitOf 2:=by
 have e:(siA_hd xs ys).s.hs.rd=0:=by kernel_rfl
 rw [e]; exact blt_iff.1 (by kernel_rfl)
theorem siA_w (xs ys:List Int)(hx:xs.length≤20000)(hy:xs.length=ys.length):(siA_hd xs ys).s.hs.wr<bitOf 2:=by
 have e:(siA_hd xs ys).s.hs.wr=0:=by kernel_rfl
 rw [e]; exact blt_iff.1 (by kernel_rfl)
theorem siA_e0 (xs ys:List Int)(hx:xs.length≤20000)(hy:xs.length=ys.length):canonS 2 42 [] [15,23,11,19,17,25,13,21,16,24,12,20,18,14,22] 2 3 0 (siA_hd xs ys).s=some (siA_S xs ys ((0:Int))):=by kernel_rfl
theorem siA_e1 (xs ys:List Int)(hx:xs.length≤20000)(hy:xs.length=ys.length):canonOk 2 42 [] 2 (siA_hd xs ys).s=true:=canonOkF_eq.symm.trans (by kernel_rfl)
def siA_X:Nat→VX
 | 0 => .ret
 | 1 => .exit 0
 | _ => .normal
noncomputable def siA_E (kE:Nat)(xs ys:List Int)(y0:Int):St:=match kE with
 | 0=>(St.mk (TV.node (some (Value.complex FloatKind.f64 (nat_lit 0) xs.length)) (TV.node (some (Value.complex FloatKind.f64 (nat_lit 1) ys.length)) (TV.node (some (Value.tuple { toList:=[] })) (TV.node (some (Value.int IntKind.i64 (↑xs.length:Int))) (TV.node (some junk) TV.nil TV.nil) (TV.node (some junk) TV.nil TV.nil)) (TV.node (some junk) (TV.node (some junk) TV.nil TV.nil) TV.nil)) (TV.node (some (Value.int IntKind.i64 y0)) (TV.node (some (Value.int IntKind.i64 (↑ys.length:Int))) (TV.node (some junk) TV.nil TV.nil) (TV.node (some junk) TV.nil TV.nil)) (TV.node (some junk) (TV.node (some junk) TV.nil TV.nil) TV.nil))) (TV.node (some (Value.tuple { toList:=[] })) (TV.node (some (Value.bool false)) (TV.node (some (Value.complex FloatKind.f64 (nat_lit 1) ys.length)) (TV.node (some junk) TV.nil TV.nil) (TV.node (some junk) TV.nil TV.nil)) (TV.node (some junk) (TV.node (some junk) TV.nil TV.nil) TV.nil)) (TV.node (some (Value.complex FloatKind.f64 (nat_lit 0) xs.length)) (TV.node (some (Value.bool false)) (TV.node (some junk) TV.nil TV.nil) TV.nil) (TV.node (some junk) (TV.node (some junk) TV.nil TV.nil) TV.nil)))) (HS.mk (Tr.node (some (VO.ro (rowA (gI) (xs)) 0)) (Tr.node (some (VO.ro (rowA (gI) (ys)) 0)) Tr.nil Tr.nil) Tr.nil) 42 4398046511103 4398046511100) [])
 | 1=>(St.mk (TV.node (some (Value.complex FloatKind.f64 (nat_lit 0) xs.length)) (TV.node (some (Value.complex FloatKind.f64 (nat_lit 1) ys.length)) (TV.node (some (Value.tuple { toList:=[] })) (TV.node (some (Value.int IntKind.i64 (↑xs.length:Int))) (TV.node (some junk) TV.nil TV.nil) (TV.node (some junk) TV.nil TV.nil)) (TV.node (some junk) (TV.node (some junk) TV.nil TV.nil) TV.nil)) (TV.node (some (Value.int IntKind.i64 y0)) (TV.node (some (Value.int IntKind.i64 (↑ys.length:Int))) (TV.node (some junk) TV.nil TV.nil) (TV.node (some junk) TV.nil TV.nil)) (TV.node (some junk) (TV.node (some junk) TV.nil TV.nil) TV.nil))) (TV.node (some (Value.tuple { toList:=[] })) (TV.node (some (Value.bool false)) (TV.node (some (Value.complex FloatKind.f64 (nat_lit 1) ys.length)) (TV.node (some junk) TV.nil TV.nil) (TV.node (some junk) TV.nil TV.nil)) (TV.node (some junk) (TV.node (some junk) TV.nil TV.nil) TV.nil)) (TV.node (some (Value.complex FloatKind.f64 (nat_lit 0) xs.length)) (TV.node (some (Value.bool false)) (TV.node (some junk) TV.nil TV.nil) TV.nil) (TV.node (some junk) (TV.node (some junk) TV.nil TV.nil) TV.nil)))) (HS.mk (Tr.node (some (VO.ro (rowA (gI) (xs)) 0)) (Tr.node (some (VO.ro (rowA (gI) (ys)) 0)) Tr.nil Tr.nil) Tr.nil) 42 4398046511103 4398046511100) [])
 | _=>(siA_hd xs ys).s
theorem siA_p0 (xs ys:List Int)(y0:Int):bodyK Try.prog ([]:Vars).length GTab.none 3000 (siA_hd xs ys) (siA_S xs ys y0 ) [(0,.b 1),(1,.b 1),(2,.b 1),(3,.vals ([Value.int IntKind.i64 (el xs y0)])),(4,.b 1),(5,.b 1),(6,.vals ([Value.int IntKind.i64 (el ys y0)])),(7,.b 1)] 2 42 [15,23,11,19,17,25,13,21,16,24,12,20,18,14,22] 42 3 0=some (.ret,siA_E 0 xs ys (y0) , [(el xs y0 != el ys y0)=true,segC (rowA (gI) (ys)) (((y0).toNat)*1+0) 1=some ([Value.int IntKind.i64 (el ys y0)]),(decide (y0<(↑ys.length:Int)))=true,(decide ((0:Int)≤y0))=true,segC (rowA (gI) (xs)) (((y0).toNat)*1+0) 1=some ([Value.int IntKind.i64 (el xs y0)]),(decide (y0<(↑xs.length:Int)))=true,(decide ((0:Int)≤y0))=true,(decide (y0<(↑xs.length:Int)))=true]):=by kernel_rfl
theorem siA_q0 (xs ys:List Int)(y0:Int):(siA_E 0 xs ys (y0) ).hs.next=42:=by kernel_rfl
theorem siA_p1 (xs ys:List Int)(y0:Int):bodyK Try.prog ([]:Vars).length GTab.none 3000 (siA_hd xs ys) (siA_S xs ys y0 ) [(0,.b 1),(1,.b 1),(2,.b 1),(3,.vals ([Value.int IntKind.i64 (el xs y0)])),(4,.b 1),(5,.b 1),(6,.vals ([Value.int IntKind.i64 (el ys y0)])),(7,.b 0)] 2 42 [15,23,11,19,17,25,13,21,16,24,12,20,18,14,22] 2 3 0=some (.normal,(siA_S xs ys (IntKind.i64.wrap (y0+(1:Int)))),[(el xs y0 != el ys y0)=false,segC (rowA (gI) (ys)) (((y0).toNat)*1+0) 1=some ([Value.int IntKind.i64 (el ys y0)]),(decide (y0<(↑ys.length:Int)))=true,(decide ((0:Int)≤y0))=true,segC (rowA (gI) (xs)) (((y0).toNat)*1+0) 1=some ([Value.int IntKind.i64 (el xs y0)]),(decide (y0<(↑xs.length:Int)))=true,(decide ((0:Int)≤y0))=true,(decide (y0<(↑xs.length:Int)))=true]):=by kernel_rfl
theorem siA_p2 (xs ys:List Int)(y0:Int):bodyK Try.prog ([]:Vars).length GTab.none 3000 (siA_hd xs ys) (siA_S xs ys y0 ) [(0,.b 0)] 2 42 [15,23,11,19,17,25,13,21,16,24,12,20,18,14,22] 42 3 0=some (.exit 0,siA_E 1 xs ys (y0) , [(decide (y0<(↑xs.length:Int)))=false]):=by kernel_rfl
theorem siA_q2 (xs ys:List Int)(y0:Int):(siA_E 1 xs ys (y0) ).hs.next=42:=by kernel_rfl
theorem siA_d0 (xs ys:List Int)(hx:xs.length≤20000)(hy:xs.length=ys.length)(y0:Int)(hi:(decide (0≤y0∧y0≤20000))=true)(hq0:(decide (y0<(↑xs.length:Int)))=true):(decide ((0:Int)≤y0))=true:=by
 rcases Bool.eq_false_or_eq_true (decide ((0:Int)≤y0)) with h | h
 ·exact h
 ·exfalso; (first | (simp_all only [Bool.and_eq_true,Bool.not_eq_true',Bool.false_eq_true,Bool.true_eq_false,reduceCtorEq]; done) | (simp only [sx,sy,eq_self,ne_eq,IntKind.wrap_i64,wrapU64,Int.reduceLT] at * <;> first | with_reducible contradiction | omega) | omega | ((try simp only [sx,sy,eq_self,ne_eq,IntKind.wrap_i64,wrapU64,Int.reduceLT] at *) <;> omega) | (simp_all; done))
theorem siA_d1 (xs ys:List Int)(hx:xs.length≤20000)(hy:xs.length=ys.length)(y0:Int)(hi:(decide (0≤y0∧y0≤20000))=true)(hq0:(decide (y0<(↑xs.length:Int)))=true)(hq1:(decide ((0:Int)≤y0))=true):(decide (y0<(↑ys.length:Int)))=true:=by
 rcases Bool.eq_false_or_eq_true (decide (y0<(↑ys.length:Int))) with h | h
 ·exact h
 ·exfalso; (first | (simp_all only [Bool.and_eq_true,Bool.not_eq_true',Bool.false_eq_true,Bool.true_eq_false,reduceCtorEq]; done) | (simp only [sx,sy,eq_self,ne_eq,IntKind.wrap_i64,wrapU64,Int.reduceLT] at * <;> first | with_reducible contradiction | omega) | omega | ((try simp only [sx,sy,eq_self,ne_eq,IntKind.wrap_i64,wrapU64,Int.reduceLT] at *) <;> omega) | (simp_all; done))
noncomputable def siA_f (xs ys:List Int):Nat→Int→Option (Nat × (Int))
 | 0,_=>none
 | fu+1,y0=>(bif (decide (0≤y0∧y0≤20000)) then (bif (decide (y0<(↑xs.length:Int))) then (bif (el xs y0 != el ys y0) then some (0,(y0)) else siA_f xs ys fu (IntKind.i64.wrap (y0+(1:Int)))) else some (1,(y0))) else none)
theorem siA_fs (xs ys:List Int)(fu:Nat)(y0:Int):siA_f xs ys (fu+1) y0=(bif (decide (0≤y0∧y0≤20000)) then (bif (decide (y0<(↑xs.length:Int))) then (bif (el xs y0 != el ys y0) then some (0,(y0)) else siA_f xs ys fu (IntKind.i64.wrap (y0+(1:Int)))) else some (1,(y0))) else none):=rfl
theorem siA_f0 (xs ys:List Int)(y0:Int):siA_f xs ys 0 y0=none:=rfl
theorem siA_loop (xs ys:List Int)(hx:xs.length≤20000)(hy:xs.length=ys.length):∀ (fu:Nat) (y0:Int) (kk:Nat) (zz:Int),siA_f xs ys fu y0=some (kk,zz)→VStep (siA_hd xs ys).s.hs (siA_S xs ys y0 ).hs→RoundsC Try.prog [] 2 42 (siA_hd xs ys).s.hs (siA_hd xs ys).ro (siA_hd xs ys).a (siA_S xs ys y0 ) (siA_X kk) (siA_E kk xs ys zz )∧((siA_E kk xs ys zz )).hs.next=42:=by
 intro fu
 induction fu with
 | zero =>
  intro y0 kk zz hf hSz
  have hf:=(siA_f0 xs ys y0 ).symm.trans hf
  simp at hf
 | succ fu ih =>
  intro y0 kk zz hf hSz
  have hf:=(siA_fs xs ys fu y0 ).symm.trans hf
  rcases bif_or hf with ⟨hi,hf⟩ | ⟨hi,hf⟩
  case inr=>cases hf
  rcases bif_or hf with ⟨hq0,hf⟩ | ⟨hq0,hf⟩
  ·
   have hq1:=siA_d0 xs ys hx hy y0 hi hq0 
   have hq2:=siA_d1 xs ys hx hy y0 hi hq0 hq1 
   rcases bif_or hf with ⟨hq3,hf⟩ | ⟨hq3,hf⟩
   ·
    injection hf with hf; injection hf with e1 e2; subst e1; subst e2; have hb1:=siA_p0 xs ys y0 ; have hb2:=body_canon hb1; have hb3:=hb2 ⟨hq3,(seg_row (g:=(gI)) (k:=1) (fun _=>rfl) (by first | exact of_decide_eq_true hq1 | simpa using of_decide_eq_true hq1) (by first | exact of_decide_eq_true hq2 | (simpa using of_decide_eq_true hq2; done) | (have hx1:=of_decide_eq_true hq2; simp only [List.length_reverse,List.length_cons]; exact hx1) | (have hx1:=of_decide_eq_true hq2; have hx2:=of_decide_eq_true hi; simp only [List.length_reverse,List.length_set] at *; omega)) (by decide) rfl),hq2,hq1,(seg_row (g:=(gI)) (k:=1) (fun _=>rfl) (by first | exact of_decide_eq_true hq1 | simpa using of_decide_eq_true hq1) (by first | exact of_decide_eq_true hq0 | (simpa using of_decide_eq_true hq0; done) | (have hx1:=of_decide_eq_true hq0; simp only [List.length_reverse,List.length_cons]; exact hx1) | (have hx1:=of_decide_eq_true hq0; have hx2:=of_decide_eq_true hi; simp only [List.length_reverse,List.length_set] at *; omega)) (by decide) rfl),hq0,hq1,hq0,trivial⟩; obtain ⟨sz1,kz1,kz2,kz3⟩:=hb3; exact ⟨rounds_end mix (T:=GTab.none) GOk.none (siA_n xs ys hx hy ) (siA_r xs ys hx hy ) (siA_w xs ys hx hy ) kz1 (fun h=>by cases h) hSz kz2 kz3,siA_q0 xs ys y0 ⟩
   ·
    have hb1:=siA_p1 xs ys y0 ; have hb2:=body_canon hb1; have hb3:=hb2 ⟨hq3,(seg_row (g:=(gI)) (k:=1) (fun _=>rfl) (by first | exact of_decide_eq_true hq1 | simpa using of_decide_eq_true hq1) (by first | exact of_decide_eq_true hq2 | (simpa using of_decide_eq_true hq2; done) | (have hx1:=of_decide_eq_true hq2; simp only [List.length_reverse,List.length_cons]; exact hx1) | (have hx1:=of_decide_eq_true hq2; have hx2:=of_decide_eq_true hi; simp only [List.length_reverse,List.length_set] at *; omega)) (by decide) rfl),hq2,hq1,(seg_row (g:=(gI)) (k:=1) (fun _=>rfl) (by first | exact of_decide_eq_true hq1 | simpa using of_decide_eq_true hq1) (by first | exact of_decide_eq_true hq0 | (simpa using of_decide_eq_true hq0; done) | (have hx1:=of_decide_eq_true hq0; simp only [List.length_reverse,List.length_cons]; exact hx1) | (have hx1:=of_decide_eq_true hq0; have hx2:=of_decide_eq_true hi; simp only [List.length_reverse,List.length_set] at *; omega)) (by decide) rfl),hq0,hq1,hq0,trivial⟩; obtain ⟨sz1,kz1,kz2,kz3⟩:=hb3; obtain ⟨gz1,gz2⟩:=ih (IntKind.i64.wrap (y0+(1:Int))) kk zz hf (rounds_step mix (T:=GTab.none) GOk.none (siA_n xs ys hx hy ) (siA_r xs ys hx hy ) (siA_w xs ys hx hy ) kz1 hSz kz2 kz3); exact ⟨rounds_next mix (T:=GTab.none) GOk.none (siA_n xs ys hx hy ) (siA_r xs ys hx hy ) (siA_w xs ys hx hy ) kz1 hSz kz2 kz3 (fun _=>gz1),gz2⟩
  ·
   injection hf with hf; injection hf with e1 e2; subst e1; subst e2; have hb1:=siA_p2 xs ys y0 ; have hb2:=body_canon hb1; have hb3:=hb2 ⟨hq0,trivial⟩; obtain ⟨sz1,kz1,kz2,kz3⟩:=hb3; exact ⟨rounds_end mix (T:=GTab.none) GOk.none (siA_n xs ys hx hy ) (siA_r xs ys hx hy ) (siA_w xs ys hx hy ) kz1 (fun h=>by cases h) hSz kz2 kz3,siA_q2 xs ys y0 ⟩
theorem siA_ok (xs ys:List Int)(hx:xs.length≤20000)(hy:xs.length=ys.length)(fu kk:Nat)(zz:Int)(hf:siA_f xs ys fu ((0:Int))=some (kk,zz)):∀ B:Bd,B.L=[]→LoopOk Try.prog B (siA_hd xs ys).ro (siA_hd xs ys).a (siA_hd xs ys).s (siA_X kk) (siA_E kk xs ys zz ):=by
 have hSz:=begin_step (siA_n xs ys hx hy ) (siA_r xs ys hx hy ) (siA_w xs ys hx hy ) (siA_e0 xs ys hx hy ) (siA_e1 xs ys hx hy )
 obtain ⟨gz1,gz2⟩:=siA_loop xs ys hx hy fu ((0:Int)) kk zz hf hSz
 exact rounds_ok (siA_n xs ys hx hy ) (Nat.le_of_ble_eq_true (by kernel_rfl)) gz2 (rounds_begin (siA_n xs ys hx hy ) (siA_r xs ys hx hy ) (siA_w xs ys hx hy ) (siA_e0 xs ys hx hy ) (siA_e1 xs ys hx hy ) (fun _=>gz1))
theorem siE_p0 (xs ys:List Int)(siA_z0:Int)(hx:xs.length≤20000)(hy:xs.length=ys.length)(siA_k0:((↑xs.length:Int) != (↑ys.length:Int))=false)(siA_l:∀ B:Bd,B.L=[]→LoopOk Try.prog B (siA_hd xs ys).ro (siA_hd xs ys).a (siA_hd xs ys).s (siA_X 0) (siA_E 0 xs ys siA_z0 )):KnownR Try.prog [] 26 [.list (rowA gI xs) xs.length,.list (rowA gI ys) ys.length] (.bool (false)) [] :=
 knownR_eq (v:=Value.bool false) (bs:=[]) (open_resD mix (GOk.add GOk.none siA_l) (T:=(GTab.add GTab.none 5 (siA_hd xs ys).ro (siA_hd xs ys).a (siA_hd xs ys).s (siA_X 0) (siA_E 0 xs ys siA_z0 ) (by kernel_rfl))) (fuel:=3000) (es:=[]) (ans:=[(0,.b 0),(1,.loop (siA_X 0) (siA_E 0 xs ys siA_z0 )),]) (log:=[LoopRes Try.prog ([]:Vars).length (GTab.add GTab.none 5 (siA_hd xs ys).ro (siA_hd xs ys).a (siA_hd xs ys).s (siA_X 0) (siA_E 0 xs ys siA_z0 ) (by kernel_rfl)) (siA_hd xs ys).ro (siA_hd xs ys).a (siA_hd xs ys).s (siA_X 0) (siA_E 0 xs ys siA_z0 ),((↑xs.length:Int) != (↑ys.length:Int))=false]) (by kernel_rfl) ⟨(loop_known2 add_eq),siA_k0,trivial⟩ (by kernel_rfl)) (by first | rfl | (simp; done) | (simp_all; done)) (by first | rfl | (simp [rowA_nil]; done) | (simp only [rowA_eq]; rfl) | (simp_all [rowA_nil]; done))
set_option maxHeartbeats 8000000 in
theorem siE (xs ys:List Int)(siA_z0:Int)(hx:xs.length≤20000)(hy:xs.length=ys.length)(siA_k0:((↑xs.length:Int) != (↑ys.length:Int))=false)(siA_l:∀ B:Bd,B.L=[]→LoopOk Try.prog B (siA_hd xs ys).ro (siA_hd xs ys).a (siA_hd xs ys).s (siA_X 0) (siA_E 0 xs ys siA_z0 )):KnownR Try.prog [] 26 [.list (rowA gI xs) xs.length,.list (rowA gI ys) ys.length] (.bool (false)) []:=by
 exact siE_p0 xs ys siA_z0 hx hy siA_k0 siA_l
theorem siF_p0 (xs ys:List Int)(siA_z0:Int)(hx:xs.length≤20000)(hy:xs.length=ys.length)(siA_k0:((↑xs.length:Int) != (↑ys.length:Int))=false)(siA_l:∀ B:Bd,B.L=[]→LoopOk Try.prog B (siA_hd xs ys).ro (siA_hd xs ys).a (siA_hd xs ys).s (siA_X 1) (siA_E 1 xs ys siA_z0 )):KnownR Try.prog [] 26 [.list (rowA gI xs) xs.length,.list (rowA gI ys) ys.length] (.bool (true)) [] :=
 knownR_eq (v:=Value.bool true) (bs:=[]) (open_resD mix (GOk.add GOk.none siA_l) (T:=(GTab.add GTab.none 5 (siA_hd xs ys).ro (siA_hd xs ys).a (siA_hd xs ys).s (siA_X 1) (siA_E 1 xs ys siA_z0 ) (by kernel_rfl))) (fuel:=3000) (es:=[]) (ans:=[(0,.b 0),(1,.loop (siA_X 1) (siA_E 1 xs ys siA_z0 )),]) (log:=[LoopRes Try.prog ([]:Vars).length (GTab.add GTab.none 5 (siA_hd xs ys).ro (siA_hd xs ys).a (siA_hd xs ys).s (siA_X 1) (siA_E 1 xs ys siA_z0 ) (by kernel_rfl)) (siA_hd xs ys).ro (siA_hd xs ys).a (siA_hd xs ys).s (siA_X 1) (siA_E 1 xs ys siA_z0 ),((↑xs.length:Int) != (↑ys.length:Int))=false]) (by kernel_rfl) ⟨(loop_known2 add_eq),siA_k0,trivial⟩ (by kernel_rfl)) (by first | rfl | (simp; done) | (simp_all; done)) (by first | rfl | (simp [rowA_nil]; done) | (simp only [rowA_eq]; rfl) | (simp_all [rowA_nil]; done))
set_option maxHeartbeats 8000000 in
theorem siF (xs ys:List Int)(siA_z0:Int)(hx:xs.length≤20000)(hy:xs.length=ys.length)(siA_k0:((↑xs.length:Int) != (↑ys.length:Int))=false)(siA_l:∀ B:Bd,B.L=[]→LoopOk Try.prog B (siA_hd xs ys).ro (siA_hd xs ys).a (siA_hd xs ys).s (siA_X 1) (siA_E 1 xs ys siA_z0 )):KnownR Try.prog [] 26 [.list (rowA gI xs) xs.length,.list (rowA gI ys) ys.length] (.bool (true)) []:=by
 exact siF_p0 xs ys siA_z0 hx hy siA_k0 siA_l
theorem siL_p0 (xs ys:List Int)(hy:¬ xs.length=ys.length)(hq0:((↑xs.length:Int) != (↑ys.length:Int))=true):KnownR Try.prog [] 26 [.list (rowA gI xs) xs.length,.list (rowA gI ys) ys.length] (.bool (false)) [] :=
 knownR_eq (v:=Value.bool false) (bs:=[]) (open_resD mix GOk.none (T:=GTab.none) (fuel:=3000) (es:=[]) (ans:=[(0,.b 1)]) (log:=[((↑xs.length:Int) != (↑ys.length:Int))=true]) (by kernel_rfl) ⟨hq0,trivial⟩ (by kernel_rfl)) (by first | rfl | (simp; done) | (simp_all; done)) (by first | rfl | (simp [rowA_nil]; done) | (simp only [rowA_eq]; rfl) | (simp_all [rowA_nil]; done))
set_option maxHeartbeats 8000000 in
theorem siL (xs ys:List Int)(hy:¬ xs.length=ys.length):KnownR Try.prog [] 26 [.list (rowA gI xs) xs.length,.list (rowA gI ys) ys.length] (.bool (false)) []:=by
 have hq0:((↑xs.length:Int) != (↑ys.length:Int))=true:=by
  rcases Bool.eq_false_or_eq_true ((↑xs.length:Int) != (↑ys.length:Int)) with h | h
  ·exact h
  ·exfalso; (first | (simp_all only [Bool.and_eq_true,Bool.not_eq_true',Bool.false_eq_true,Bool.true_eq_false,reduceCtorEq]; done) | (simp only [sx,sy,eq_self,ne_eq,IntKind.wrap_i64,wrapU64,Int.reduceLT] at * <;> first | with_reducible contradiction | omega) | omega | ((try simp only [sx,sy,eq_self,ne_eq,IntKind.wrap_i64,wrapU64,Int.reduceLT] at *) <;> omega) | (simp_all; done))
 exact siL_p0 xs ys hy hq0
end Go.Proofs.Ytokpimghaladjaa
