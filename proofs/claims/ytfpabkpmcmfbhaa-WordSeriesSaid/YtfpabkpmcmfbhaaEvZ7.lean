import Derived.Test.YtfpabkpmcmfbhaaEv3
import Derived.Test.YtfpabkpmcmfbhaaProg
set_option linter.unnecessarySimpa false
set_option linter.unusedSimpArgs false
set_option linter.unusedVariables false
namespace Go.Proofs.Ytfpabkpmcmfbhaa
open Go Go.RowKit
set_option linter.unusedSectionVars false
inductive Pl where
 | slot (k:Nat)
 | cell (b o:Nat)
 | fld (k i:Nat)
def killU (u:Option Nat)(s:HS):Option HS:=match u with
 | some b=>s.put b .dead
 | none=>some s
def conv1 (P:Program)(p:Pl)(e:TypeId)(s:St):Option St:=match p with
 | .slot k=>match asRowV P s.hs e (s.tmps.at k) with
  | some (c,n,u)=>match killU u s.hs with
   | some h1=>match h1.new (.row c e) with
    | some h2=>some ⟨s.tmps.set k (.complex .f64 h1.next n),h2,s.defs⟩
    | none=>none
   | none=>none
  | none=>none
 | .cell b o=>match s.hs.heap.get b with
  | some (.live (.cells cc ee fz) ex)=>match cc[o]? with
   | some v=>match asRowV P s.hs e v with
    | some (c,n,u)=>match killU u s.hs with
     | some h1=>match h1.new (.row c e) with
      | some h2=>match h2.heap.get b with
       | some (.live (.cells cc2 ee2 fz2) ex2)=>match h2.put b (.live (.cells (cc2.setIfInBounds o (.complex .f64 h1.next n)) ee2 fz2) ex2) with
        | some h3=>some ⟨s.tmps,h3,s.defs⟩
        | none=>none
       | _=>none
      | none=>none
     | none=>none
    | none=>none
   | none=>none
  | _=>none
 | .fld k i=>match s.tmps.at k with
  | .agg ⟨l⟩=>match l[i]? with
   | some v=>match asRowV P s.hs e v with
    | some (c,n,u)=>match killU u s.hs with
     | some h1=>match h1.new (.row c e) with
      | some h2=>some ⟨s.tmps.set k (.agg ⟨l.set i (.complex .f64 h1.next n)⟩),h2,s.defs⟩
      | none=>none
     | none=>none
    | none=>none
   | none=>none
  | _=>none
def convs (P:Program):List (Pl × TypeId)→St→Option St
 | [],s=>some s
 | (p,e)::l,s=>match conv1 P p e s with
  | some s'=>convs P l s'
  | none=>none
section
variable {P:Program} [NoCx P]
theorem kill_step {u:Option Nat}{s s':HS}(h:killU u s=some s')(hu:∀ b,u=some b→s.heap.get b≠none):VStep s s':=by
 cases u with
 | none=>injection h with h; subst h; exact .refl _
 | some b=>exact VStep.put h (hu b rfl)
theorem asRow_there {s:HS}{e:TypeId}{v:Value}{c:Array Value}{n:Nat}{u:Option Nat}(h:asRowV P s e v=some (c,n,u)):∀ b,u=some b→s.heap.get b≠none:=by
 intro b hb
 unfold asRowV at h
 repeat' split at h
 all_goals first | cases h | skip
 all_goals first | (cases hb; done) | (injection hb with hb; subst hb; simp_all)
theorem conv1_step {p:Pl}{e:TypeId}{s s':St}(h:conv1 P p e s=some s'):VStep s.hs s'.hs:=by
 unfold conv1 at h
 split at h
 ·split at h
  ·rename_i c n u hr
   split at h
   ·rename_i h1 hk
    split at h
    ·rename_i h2 hn
     injection h with h; subst h
     exact (kill_step hk (asRow_there hr)).trans (VStep.new hn)
    ·cases h
   ·cases h
  ·cases h
 ·split at h
  ·split at h
   ·split at h
    ·rename_i c n u hr
     split at h
     ·rename_i h1 hk
      split at h
      ·rename_i h2 hn
       split at h
       ·rename_i hg
        split at h
        ·rename_i h3 hp
         injection h with h; subst h
         exact ((kill_step hk (asRow_there hr)).trans (VStep.new hn)).trans (VStep.put hp (by rw [hg]; simp))
        ·cases h
       ·cases h
      ·cases h
     ·cases h
    ·cases h
   ·cases h
  ·cases h
 ·split at h
  ·split at h
   ·split at h
    ·rename_i c n u hr
     split at h
     ·rename_i h1 hk
      split at h
      ·rename_i h2 hn
       injection h with h; subst h
       exact (kill_step hk (asRow_there hr)).trans (VStep.new hn)
      ·cases h
     ·cases h
    ·cases h
   ·cases h
  ·cases h
theorem convs_step:∀ {l:List (Pl × TypeId)} {s s':St},convs P l s=some s'→VStep s.hs s'.hs
 | [],s,s',h=>by simp only [convs] at h; injection h with h; subst h; exact .refl _
 | (p,e)::l,s,s',h=>by
  simp only [convs] at h
  split at h
  ·rename_i s1 h1; exact (conv1_step h1).trans (convs_step h)
  ·cases h
theorem conv_row {B:Bd}{σ:Ren}{H:Nat→Option VO}{w:World}{s h1 h2:HS}{e:TypeId}{v v':Value}{c:Array Value}{n:Nat}{u:Option Nat}(hm:Match P B σ H w)(hs:Sim s H)(ha:Agree s h2 H)(hr:asRowV P s e v=some (c,n,u))(hk:killU u s=some h1)(hn:h1.new (.row c e)=some h2)(hv:VRel σ v v'):
  ∃ σ',Ren.le σ σ'∧VRel σ' (.complex .f64 h1.next n) v'∧Match P B σ' (upd H h2) w:=by
 have st1:=kill_step hk (asRow_there hr)
 have st2:=VStep.new hn
 have hs1:=hs.step st1
 obtain ⟨u3,u4⟩:=upd_new hs1 hn
 rw [upd_upd st2] at u3 u4
 have hnx:h1.next=s.next:=by
  cases u with
  | none=>injection hk with hk; subst hk; rfl
  | some b=>exact (put_spec hk).1
 have hnn:H h1.next=none:=ha.new h1.next (by rw [hnx]; exact Nat.le_refl _) (by have:=(new_spec hn).1; omega)
 have hσ:=(hm.dom _).2 hnn
 have key:∃ r κ,(∃ x cap,v' = .slice x n cap∧HandleAt r κ n x cap)∧(c.size=0→κ=0)∧(c.size≠0→∃ b κb vo,u=some b∧σ b=some (r,κb)∧H b=some vo∧vo.alive=true∧∃ o',w.heap[r]? = some o'∧∀ τ,XRel P τ κ (.row c e) o'):=by
  cases u with
  | none =>
   unfold asRowV at hr
   repeat' split at hr
   all_goals first | cases hr | skip
   cases hv
   exact ⟨0,0,⟨_,_,rfl,.inl ⟨rfl,rfl,rfl⟩⟩,fun _=>rfl,fun h=>absurd rfl h⟩
  | some b =>
   have hH:H b=s.heap.get b:=ha.rd b (st2.rd b (by have:=(put_spec hk).2.2.1 b; rw [this]; simp))
   unfold asRowV at hr
   split at hr
   ·cases hr
   ·rename_i b0 n0
    split at hr
    ·rename_i c0 e0 hg
     split at hr
     ·rename_i he
      injection hr with hr; injection hr with q1 q2; injection q2 with q2 q3; injection q3 with q3; subst q1; subst q2; subst q3
      obtain rfl:e0=e:=Nat.eq_of_beq_eq_true he
      cases hv with
      | rowS hb hat =>
       rename_i r κ cap x
       refine ⟨r,κ,⟨_,_,rfl,hat⟩,fun h0=>hm.non b0 r κ _ hb (hH.trans hg) h0,fun h0=>?_⟩
       have hal:(VO.row c0 e0).alive=true:=by simp [VO.alive]; simpa using h0
       obtain ⟨o',g1,g2⟩:=hm.objX b0 r κ _ hb (hH.trans hg) hal
       exact ⟨b0,κ,_,rfl,hb,hH.trans hg,hal,o',g1,fun τ=>row_any g2⟩
     ·cases hr
    ·cases hr
   ·rename_i b0 n0 cap0
    split at hr
    ·rename_i c0 e0 i hg hi
     split at hr
     ·rename_i hc
      injection hr with hr; injection hr with q1 q2; injection q2 with q2 q3; injection q3 with q3; subst q1; subst q2; subst q3
      simp only [Bool.and_eq_true,blt_iff] at hc
      obtain ⟨⟨he,hlt,hsz⟩,hnc,hok,hpos⟩:=hc
      obtain rfl:e0=e:=Nat.eq_of_beq_eq_true he
      have hsz:c0.size=cap0*i.size:=Nat.eq_of_beq_eq_true hsz
      have hnc:n0≤cap0:=Nat.le_of_ble_eq_true hnc
      have hpos:0<n0*i.size:=hpos
      have hts:(⟨c0.toList.take (Nat.mul n0 i.size)⟩:Array Value).size=n0*i.size:=take_size (by rw [hsz]; exact Nat.mul_le_mul_right _ hnc)
      cases hv with
      | slice _ q0 q1 q2 q3 =>
       rename_i b' κb cap'
       obtain rfl:=q2 hlt
       have hmx:cap'≤maxLen:=by unfold inf at hlt; unfold maxLen; omega
       have hlt2:=Nat.lt_of_le_of_lt hmx maxLen_lt
       obtain ⟨o',g1,g2⟩:=hm.obj b0 b' κb _ _ q0 (hH.trans hg)
       cases g2 with
       | cells _ _ hcc =>
        rename_i c'
        refine ⟨b',vk 0 cap',⟨_,_,rfl,.inr (.inr ⟨two_vk _ _,by rw [vOff_vk hlt2],by rw [vCap_vk hlt2],q1⟩)⟩,fun h0=>by rw [hts] at h0; omega,fun _=>⟨b0,κb,_,rfl,q0,hH.trans hg,rfl,_,g1,fun τ=>?_⟩⟩
        exact .row _ i hi (by rw [hts,← hcc.1,hsz]; exact Nat.mul_le_mul_right _ hnc) (fun j v v' e1 e2=>flat_same (okC_at (take_all hok) e1) (hcc.2 j v v' (take_at e1) e2)) (two_vk _ _) (vOff_vk hlt2) (by rw [vCap_vk hlt2,← hcc.1]; exact hsz) (by rw [vCap_vk hlt2]; exact hmx) (take_all hok)
     ·cases hr
    ·rename_i c0 e0 i hg hi
     split at hr
     ·rename_i hc
      injection hr with hr; injection hr with q1 q2; injection q2 with q2 q3; injection q3 with q3; subst q1; subst q2; subst q3
      simp only [Bool.and_eq_true,blt_iff] at hc
      obtain ⟨⟨he,hlt,hsz⟩,hok,hpos⟩:=hc
      obtain rfl:e0=e:=Nat.eq_of_beq_eq_true he
      have hlt:inf≤cap0:=Nat.le_of_ble_eq_true hlt
      cases hv with
      | slice _ q0 q1 q2 q3 =>
       rename_i b' κb cap'
       obtain rfl:=q3 hlt rfl
       obtain ⟨o',g1,g2⟩:=hm.obj b0 b' cap' _ _ q0 (hH.trans hg)
       cases g2 with
       | row _ _ info hi2 hlc hcc hk2 hmx =>
        rename_i c'
        have hlt2:=Nat.lt_of_le_of_lt hmx maxLen_lt
        refine ⟨b',vk 0 cap',⟨_,_,rfl,.inr (.inr ⟨two_vk _ _,by rw [vOff_vk hlt2],by rw [vCap_vk hlt2],q1⟩)⟩,fun h0=>by omega,fun _=>⟨b0,cap',_,rfl,q0,hH.trans hg,rfl,_,g1,fun τ=>?_⟩⟩
        exact .row _ info hi2 hlc (fun j v v' e1 e2=>flat_same (okC_at hok e1) (hcc j v v' e1 e2)) (two_vk _ _) (vOff_vk hlt2) (by rw [vCap_vk hlt2]; exact hk2) (by rw [vCap_vk hlt2]; exact hmx) hok
     ·cases hr
    ·cases hr
   ·cases hr
 obtain ⟨r,κ,⟨x,cap,rfl,hat⟩,k1,k2⟩:=key
 refine ⟨σ.ext h1.next (r,κ),Ren.le_ext _ hσ,.rowS Ren.ext_self hat,?_⟩
 cases u with
 | none =>
  injection hk with hk; subst hk
  have hz:c.size=0:=by
   rcases Nat.eq_zero_or_pos c.size with h0 | h0
   ·exact h0
   ·obtain ⟨b,_,_,hb,_⟩:=k2 (by omega)
    cases hb
  rw [hs.upd] at u4
  exact hm.newN hnn u3 (by simp [VO.alive,hz]) (fun c e x=>by cases x) u4 k1 (fun h=>by cases h)
 | some b =>
  obtain ⟨u1,u2⟩:=upd_put hs hk
  have hg:s.heap.get b≠none:=asRow_there hr b rfl
  have hH:H b=s.heap.get b:=ha.rd b (st2.rd b (by have:=(put_spec hk).2.2.1 b; rw [this]; simp))
  have hm1:Match P B σ (upd H h1) w:=hm.kill (by rw [hH]; exact hg) u1 u2
  have hne:h1.next≠b:=fun e=>by
   rw [e] at hnn
   rw [hH] at hnn; exact hg hnn
  by_cases hz:c.size=0
  ·exact hm1.newN ((u2 _ hne).trans hnn) u3 (by simp [VO.alive,hz]) (fun c e x=>by cases x) u4 k1 (fun h=>by cases h)
  ·obtain ⟨b2,κb,vo,hb2,q1,q2,q3,o',q4,q5⟩:=k2 hz
   injection hb2 with hb2; subst hb2
   have d1:upd H h2 b=some .dead:=by rw [u4 b (Ne.symm hne)]; exact u1
   have d3:∀ j,j≠b→j≠h1.next→upd H h2 j=H j:=fun j e1 e2=>(u4 j e2).trans (u2 j e1)
   exact hm.shareK q1 q2 q3 hnn d1 u3 (by simp [VO.alive]; simpa using hz) d3 q4 (q5 _) rfl (fun _ _=>rfl)
theorem TR.set {σ:Ren}{t:TV}{a:Array Value}(h:TR σ t a){k:Nat}{u:Value}(hu:∀ v',a[k]? = some v'→VRel σ u v'):TR σ (t.set k u) a:=fun j=>by
 rw [TV.get_set]
 by_cases e:j=k
 ·subst e
  rw [if_pos rfl]
  rcases slot_of (h j) with ⟨h1,h2⟩ | ⟨x,x',h1,h2,h3⟩
  ·rw [h1,h2]; trivial
  ·rw [h1,h2]; exact Or.inr (hu _ h2)
 ·rw [if_neg e]; exact h j
theorem Match.recell {B:Bd}{σ:Ren}{H H':Nat→Option VO}{w:World}(h:Match P B σ H w){i b κ o:Nat}{c:Array Value}{e:TypeId}{fz:Nat × Nat}{ex:Bool}{u:Value}(hs:σ i=some (b,κ))(h0:H i=some (.live (.cells c e fz) ex))(h1:H' i=some (.live (.cells (c.setIfInBounds o u) e fz) ex))(h2:∀ j,j≠i→H' j=H j)
  (hu:∀ o' c' e' fz',o'=Obj.cells c' e' fz'→w.heap[b]? = some o'→∀ v',c'[o]? = some v'→VRel σ u v'):Match P B σ H' w:=by
 obtain ⟨o',g1,g2⟩:=h.obj i b κ _ _ hs h0
 have hset:∀ (c':Array Value),(∀ (j:Nat) (v v':Value),c[j]? = some v→c'[j]? = some v'→VRel σ v v')→(∀ v',c'[o]? = some v'→VRel σ u v')→∀ (j:Nat) (v v':Value),(c.setIfInBounds o u)[j]? = some v→c'[j]? = some v'→VRel σ v v':=by
  intro c' hc hu j v v' hx hx'
  rw [Array.getElem?_setIfInBounds] at hx
  split at hx
  ·rename_i e
   subst e
   split at hx
   ·injection hx with hx; subst hx; exact hu v' hx'
   ·cases hx
  ·exact hc j v v' hx hx'
 refine h.put hs h0 h1 h2 g1 ?_ rfl (fun _ _=>rfl)
 cases g2 with
 | cells _ _ hc=>exact .cells _ _ ⟨by simpa using hc.1,hset _ hc.2 (hu _ _ _ _ rfl g1)⟩
 | row _ _ info hi hl hc hk hm=>exact .row _ _ info hi (by simpa using hl) (hset _ hc (hu _ _ _ _ rfl g1)) hk hm
 | srow _ info hi hl hc hk hm=>exact .srow _ info hi (by simpa using hl) (hset _ hc (hu _ _ _ _ rfl g1)) hk hm
theorem conv1_match {B:Bd}{p:Pl}{e:TypeId}{s s':St}(h:conv1 P p e s=some s'){σ:Ren}{H:Nat→Option VO}{w:World}{a:Array Value}(hm:Match P B σ H w)(hs:Sim s.hs H)(ha:Agree s.hs s'.hs H)(ht:TR σ s.tmps a):
  ∃ σ',Ren.le σ σ'∧Match P B σ' (upd H s'.hs) w∧TR σ' s'.tmps a∧s'.defs=s.defs:=by
 unfold conv1 at h
 split at h
 ·rename_i k
  split at h
  ·rename_i c n u hr
   split at h
   ·rename_i h1 hk
    split at h
    ·rename_i h2 hn
     injection h with h; subst h
     have hnj:isJunk (s.tmps.at k)=false:=by
      cases hj:isJunk (s.tmps.at k) with
      | false=>rfl
      | true =>
       exfalso
       generalize s.tmps.at k=v at hr hj
       unfold asRowV at hr
       repeat' split at hr
       all_goals first | cases hr | skip
       all_goals cases hj
     by_cases hk2:∃ v',a[k]? = some v'
     ·obtain ⟨v',hv'⟩:=hk2
      have hv:=(ht k).at hnj
      rw [Array.getD_eq_getD_getElem?,hv'] at hv
      obtain ⟨σ',g1,g2,g3⟩:=conv_row hm hs ha hr hk hn hv
      refine ⟨σ',g1,g3,(ht.mono g1).set fun v2 h2=>?_,rfl⟩
      rw [hv'] at h2; injection h2 with h2; subst h2; exact g2
     ·
      have hno:s.tmps.get k=none:=by
       cases hg:s.tmps.get k with
       | none=>rfl
       | some v =>
        have:=ht k
        rw [hg] at this
        cases hx:a[k]? with
        | none=>rw [hx] at this; exact this.elim
        | some v'=>exact absurd ⟨v',hx⟩ hk2
      have:s.tmps.at k=undef:=by unfold TV.at; rw [hno]
      rw [this] at hr
      cases hr
    ·cases h
   ·cases h
  ·cases h
 ·rename_i b o
  split at h
  ·rename_i cc ee fz ex hg0
   split at h
   ·rename_i v hv0
    split at h
    ·rename_i c n u hr
     split at h
     ·rename_i h1 hk
      split at h
      ·rename_i h2 hn
       split at h
       ·rename_i cc2 ee2 fz2 ex2 hg
        split at h
        ·rename_i h3 hp
         injection h with h; subst h
         have st1:=kill_step hk (asRow_there hr)
         have st2:=VStep.new hn
         have st3:=VStep.put hp (by rw [hg]; simp)
         have st12:=st1.trans st2
         have hH:H b=s.hs.heap.get b:=ha.rd b (by rw [(put_spec hp).2.2.1]; simp)
         have hH0:=hH.trans hg0
         cases hsb:σ b with
         | none=>rw [(hm.dom b).1 hsb] at hH0; cases hH0
         | some p =>
          obtain ⟨b',κ⟩:=p
          obtain ⟨v',hc,_,hvv⟩:=hm.read hsb hH0 hv0
          obtain ⟨σ',g1,g2,g3⟩:=conv_row hm hs (ha.first st3) hr hk hn hvv
          have hs2:=hs.step st12
          obtain ⟨u1,u2⟩:=upd_put hs2 hp
          rw [upd_upd st3] at u1 u2
          have hb2:upd H h2 b=some (.live (.cells cc2 ee2 fz2) ex2):=by
           cases hw:h2.wr.testBit b with
           | true=>rw [upd_at hw]; exact hg
           | false=>rw [upd_else hw,hH,← st12.keep b hw]; exact hg
          refine ⟨σ',g1,?_,ht.mono g1,rfl⟩
          refine g3.recell (g1 _ _ hsb) hb2 u1 u2 fun o' c' e' fz' e1 e2 v2 e3=>?_
          subst e1
          simp only [World.cell?,e2] at hc
          rw [e3] at hc; injection hc with hc; subst hc
          exact g2
        ·cases h
       ·cases h
      ·cases h
     ·cases h
    ·cases h
   ·cases h
  ·cases h
 ·rename_i k i
  split at h
  ·rename_i l hat
   split at h
   ·rename_i v hv0
    split at h
    ·rename_i c n u hr
     split at h
     ·rename_i h1 hk
      split at h
      ·rename_i h2 hn
       injection h with h; subst h
       have hnj:isJunk (s.tmps.at k)=false:=by rw [hat]; rfl
       by_cases hk2:∃ v',a[k]? = some v'
       ·obtain ⟨v',hv'⟩:=hk2
        have hv:=(ht k).at hnj
        rw [Array.getD_eq_getD_getElem?,hv',hat] at hv
        have hv:VRel σ (.agg ⟨l⟩) v':=hv
        cases hv with
        | agg q1 q2 =>
         rename_i a'
         have hil:i<l.length:=(List.getElem?_eq_some_iff.1 hv0).1
         have hi:i<a'.size:=by rw [← q1]; exact hil
         have hvv:=q2 i v a'[i] (by simpa using hv0) (by simp [hi])
         obtain ⟨σ',g1,g2,g3⟩:=conv_row hm hs ha hr hk hn hvv
         refine ⟨σ',g1,g3,(ht.mono g1).set fun v2 h2=>?_,rfl⟩
         rw [hv'] at h2; injection h2 with h2; subst h2
         refine .agg (by rw [← q1]; simp) fun j x x' e1 e2=>?_
         have f1:(l.set i (.complex .f64 h1.next n))[j]? = some x:=by simpa using e1
         by_cases hj:i=j
         ·subst hj
          rw [List.getElem?_set_self hil] at f1
          injection f1 with f1; subst f1
          have:a'[i]? = some a'[i]:=by simp [hi]
          rw [this] at e2; injection e2 with e2; subst e2
          exact g2
         ·rw [List.getElem?_set_ne hj] at f1
          exact (q2 j x x' (by simpa using f1) e2).mono g1
       ·have hno:s.tmps.get k=none:=by
         cases hg:s.tmps.get k with
         | none=>rfl
         | some v =>
          have:=ht k
          rw [hg] at this
          cases hx:a[k]? with
          | none=>rw [hx] at this; exact this.elim
          | some v'=>exact absurd ⟨v',hx⟩ hk2
        have:s.tmps.at k=undef:=by unfold TV.at; rw [hno]
        rw [this] at hat
        cases hat
      ·cases h
     ·cases h
    ·cases h
   ·cases h
  ·cases h
theorem convs_match {B:Bd}:∀ {l:List (Pl × TypeId)} {s s':St},convs P l s=some s'→∀ {σ:Ren} {H:Nat→Option VO} {w:World} {a:Array Value},Match P B σ H w→Sim s.hs H→Agree s.hs s'.hs H→TR σ s.tmps a →
  ∃ σ',Ren.le σ σ'∧Match P B σ' (upd H s'.hs) w∧TR σ' s'.tmps a∧s'.defs=s.defs
 | [],s,s',h,σ,H,w,a,hm,hs,ha,ht=>by
  simp only [convs] at h; injection h with h; subst h
  exact ⟨σ,Ren.le_refl _,by rw [hs.upd]; exact hm,ht,rfl⟩
 | (p,e)::l,s,s',h,σ,H,w,a,hm,hs,ha,ht=>by
  simp only [convs] at h
  split at h
  ·rename_i s1 h1
   have st1:=conv1_step h1
   have st2:=convs_step h
   obtain ⟨σ1,g1,g2,g3,g4⟩:=conv1_match h1 hm hs (ha.first st2) ht
   obtain ⟨σ2,k1,k2,k3,k4⟩:=convs_match h g2 (hs.step st1) (ha.last hs st1 st2) g3
   rw [upd_upd st2] at k2
   exact ⟨σ2,Ren.le_trans g1 k1,k2,k3,k4.trans g4⟩
  ·cases h
theorem rounds_begin2 {L:Vars}{n m mw:Nat}{ρ:List (Nat × Nat)}{js:List Nat}{nx xr xw:Nat}{ro:Option Nat}{c:Code}{s0 s1 S F:St}{x:VX}{l:List (Pl × TypeId)}
  (hn:n=s0.hs.next) (hr0:s0.hs.rd<bitOf n) (hw0:s0.hs.wr<bitOf n) (hcv:convs P l s0=some s1) (hc:canonS n mw ρ js nx xr xw s1=some S) (hok:canonOk n m ρ nx s1=true)
  (h:VStep s0.hs S.hs→RoundsC P L n m s0.hs ro c S x F) (hkp:KeepOk n ρ js S.hs:=by exact keep_none rfl) (hmw:MwOk n nx mw m s0.hs:=by exact mw_lit (Nat.le_of_ble_eq_true rfl)):RoundsC P L n m s0.hs ro c s0 x F:=by
 have hc:=canon_spec hc hok hkp hmw.1
 have hst:=convs_step hcv
 obtain ⟨g1,g2,k,g3⟩:=h (canon_step (s0:=(⟨s0.tmps,s0.hs,s0.defs⟩:St)) hc hn hr0 hw0 hst hmw.2)
 have hrd:∀ i,i<n→s1.hs.rd.testBit i=true→F.hs.rd.testBit i=true:=fun i hi e=>g1 i hi (by rw [hc.rd]; simp [hi,e])
 refine ⟨fun i hi e=>hrd i hi (hst.rd i e),g2,k,fun B hBL σ0 H hb h0 hF σ ro' a w Q hle hro hm ht hd hB hk=>?_⟩
 have hag:Agree s0.hs s1.hs H:=by
  have:=round_agree hn h0 (VStep.refl _) hst hc.low hb.win hc.rdm hrd hF
  rw [h0.upd] at this
  exact this
 rw [h0.upd] at hm
 obtain ⟨σ1,k1,k2,k3,k4⟩:=convs_match hcv hm h0 hag ht
 obtain ⟨σ2,j1,j2,j3,j4⟩:=canon_match hc hb (Ren.le_trans hle k1) k2 (hst.fresh h0.new) (fun i hi hlt=>hst.made i (by rw [← hn]; exact hi) hlt) (fun i hi hw hx=>by rw [hst.keep i hw]; exact hF.rd i (g1 i hi (by rw [hc.rd]; simp [hi,hx]))) k3 (by rw [k4]; exact hd.mono k1)
 exact g3 B hBL σ0 H hb h0 hF σ2 ro' a w Q j1 hro j2 j3 j4 hB hk
theorem begin_step2 {n m mw:Nat}{ρ:List (Nat × Nat)}{js:List Nat}{nx xr xw:Nat}{s0 s1 S:St}{l:List (Pl × TypeId)}
  (hn:n=s0.hs.next) (hr0:s0.hs.rd<bitOf n) (hw0:s0.hs.wr<bitOf n) (hcv:convs P l s0=some s1) (hc:canonS n mw ρ js nx xr xw s1=some S) (hok:canonOk n m ρ nx s1=true) (hkp:KeepOk n ρ js S.hs:=by exact keep_none rfl) (hmw:MwOk n nx mw m s0.hs:=by exact mw_lit (Nat.le_of_ble_eq_true rfl)):VStep s0.hs S.hs :=
 canon_step (s0:=(⟨s0.tmps,s0.hs,s0.defs⟩:St)) (canon_spec hc hok hkp hmw.1) hn hr0 hw0 (convs_step hcv) hmw.2
end
noncomputable def bodyW (P:Program)(G:Nat)(T:GTab)(fuel:Nat)(h:Hd)(s:St)(ans:List (Nat × Ans))(n m mw:Nat)(ρ:List (Nat × Nat))(js:List Nat)(nx xr xw:Nat):Option (VX × St × List Prop) :=
 evO P G T (fun _ _ _ _=>none) (fun _=>none) fuel h.ro h.a s ⟨0,ans,[]⟩ fun x s q=>match canonOk n m ρ nx s with
  | true=>match canonS n mw ρ js nx xr xw s with
   | some s'=>s'.fcv fun s'=>some (x,s',q.log)
   | none=>none
  | false=>none
noncomputable def bodyR (P:Program)(G:Nat)(T:GTab)(fuel:Nat)(h:Hd)(s:St)(ans:List (Nat × Ans))(n m:Nat)(ρ:List (Nat × Nat))(js:List Nat)(nx xr xw:Nat):Option (VX × St × List Prop) :=
 evO P G T (fun _ _ _ _=>none) (fun _=>none) fuel h.ro h.a s ⟨0,ans,[]⟩ fun x s q=>match canonOk n m ρ nx s with
  | true=>match canonS n m ρ js nx xr xw s with
   | some s'=>s'.fcv fun s'=>some (x,s',q.log)
   | none=>none
  | false=>none
section
variable {P:Program} [NoCx P]
theorem body_canonR {L:Vars}{T:GTab}{fuel:Nat}{h:Hd}{s s2:St}{x:VX}{ans:List (Nat × Ans)}{log:List Prop}{n m:Nat}{ρ:List (Nat × Nat)}{js:List Nat}{nx xr xw:Nat}(he:bodyR P L.length T fuel h s ans n m ρ js nx xr xw=some (x,s2,log))(hl:allP log):
  ∃ s1,(Evt fun f=>evC P L.length T.hook f h.ro h.a s=some (x,s1))∧canonS n m ρ js nx xr xw s1=some s2∧canonOk n m ρ nx s1=true:=by
 unfold bodyR at he
 obtain ⟨x1,s1,q1,g1,g2,g3⟩:=evO_of (fun _ _ _ _=>rfl) (fun _=>rfl) fuel _ _ _ _ _ _ he
 try dsimp only at g1
 split at g1
 ·rename_i hok
  split at g1
  ·rename_i s' hs'
   rw [St.fcv_eq] at g1
   injection g1 with g1; injection g1 with e1 e2; injection e2 with e2 e3
   subst e1; subst e2; subst e3
   exact ⟨s1,g3 hl,hs',hok⟩
  ·cases g1
 ·cases g1
theorem body_canonW {L:Vars}{T:GTab}{fuel:Nat}{h:Hd}{s s2:St}{x:VX}{ans:List (Nat × Ans)}{log:List Prop}{n m mw:Nat}{ρ:List (Nat × Nat)}{js:List Nat}{nx xr xw:Nat}(he:bodyW P L.length T fuel h s ans n m mw ρ js nx xr xw=some (x,s2,log))(hl:allP log):
  ∃ s1,(Evt fun f=>evC P L.length T.hook f h.ro h.a s=some (x,s1))∧canonS n mw ρ js nx xr xw s1=some s2∧canonOk n m ρ nx s1=true:=by
 unfold bodyW at he
 obtain ⟨x1,s1,q1,g1,g2,g3⟩:=evO_of (fun _ _ _ _=>rfl) (fun _=>rfl) fuel _ _ _ _ _ _ he
 try dsimp only at g1
 split at g1
 ·rename_i hok
  split at g1
  ·rename_i s' hs'
   rw [St.fcv_eq] at g1
   injection g1 with g1; injection g1 with e1 e2; injection e2 with e2 e3
   subst e1; subst e2; subst e3
   exact ⟨s1,g3 hl,hs',hok⟩
  ·cases g1
 ·cases g1
end
end Go.Proofs.Ytfpabkpmcmfbhaa
namespace Go.Proofs.Ytfpabkpmcmfbhaa
open Go Go.RowKit
set_option linter.unusedSectionVars false
def isCx (d:TypeDesc):Bool:=match d with
 | .complex _=>true
 | _=>false
def noCxB (P:Program):Bool:=P.types.toList.all fun i => !isCx i.desc
theorem reckonStruct_cx {info:TypeId→Option TypeInfo}{fs:Array Field}{i:TypeInfo}(h:Made.reckonStruct info fs=some i):isCx i.desc=false:=by
 unfold Made.reckonStruct at h
 simp only [Option.bind_eq_bind,Option.bind_eq_some_iff] at h
 obtain ⟨r,_,h⟩:=h
 split at h <;> cases h <;> rfl
theorem word_cx {d:TypeDesc}{s:String}{v:Value}{b:Bool}{n:Nat}(hd:isCx d=false):isCx (Made.word d s v b n).desc=false:=by
 unfold Made.word; exact hd
theorem reckon_cx {info:TypeId→Option TypeInfo}{d:TypeDesc}{i:TypeInfo}(h:Made.reckon info d=some i):isCx i.desc=false:=by
 unfold Made.reckon at h
 cases d with
 | struct fs=>exact reckonStruct_cx h
 | pointer e =>
  simp only [Option.bind_eq_bind,Option.bind_eq_some_iff] at h
  obtain ⟨r,_,h⟩:=h
  repeat' split at h
  all_goals first | cases h | skip
  all_goals
   simp only [Option.bind_eq_bind,Option.bind_eq_some_iff] at h
   obtain ⟨s,_,h⟩:=h
   cases h
   exact word_cx rfl
 | slice e =>
  simp only [Option.bind_eq_bind,Option.bind_eq_some_iff] at h
  obtain ⟨r,_,s,_,h⟩:=h
  cases h
  exact word_cx rfl
 | map k e =>
  simp only [Option.bind_eq_bind,Option.bind_eq_some_iff] at h
  obtain ⟨r,_,s,_,t,_,u,_,h⟩:=h
  cases h
  exact word_cx rfl
 | chan dir e =>
  simp only [Option.bind_eq_bind,Option.bind_eq_some_iff] at h
  obtain ⟨r,_,s,_,h⟩:=h
  cases h
  exact word_cx rfl
 | func ps rs v =>
  simp only [Option.bind_eq_bind,Option.bind_eq_some_iff] at h
  obtain ⟨r,_,h⟩:=h
  cases h
  exact word_cx rfl
 | array n e =>
  simp only [Option.bind_eq_bind,Option.bind_eq_some_iff] at h
  obtain ⟨r,_,s,_,h⟩:=h
  cases h
  rfl
 | _=>cases h
theorem infoAt_cx {T:Tables}(hT:∀ i,i ∈ T.types.toList→isCx i.desc=false):∀ (f:Nat) (t:TypeId) (i:TypeInfo),Made.infoAt T f t=some i→isCx i.desc=false
 | 0,t,i,h=>by cases h
 | f+1,t,i,h=>by
  unfold Made.infoAt at h
  split at h
  ·exact hT i (by simpa using Array.mem_of_getElem? h)
  ·rw [Option.bind_eq_some_iff] at h
   obtain ⟨d,_,h⟩:=h
   exact reckon_cx h
theorem info_cx {P:Program}(h:noCxB P=true){t:TypeId}{i:TypeInfo}(hi:P.info? t=some i):isCx i.desc=false:=by
 have hT:∀ i,i ∈ P.types.toList→isCx i.desc=false:=fun i hm=>by simpa using List.all_eq_true.1 h i hm
 have hi:P.toTables.info? t=some i:=hi
 unfold Tables.info? at hi
 split at hi
 ·exact hT i (by simpa using Array.mem_of_getElem? hi)
 ·exact infoAt_cx hT _ _ _ hi
theorem noCx_of {P:Program}(h:noCxB P=true):NoCx P:=⟨fun t k e=>by
 unfold Program.underlying at e
 split at e
 ·rw [Option.map_eq_some_iff] at e
  obtain ⟨i,hu,e⟩:=e
  have:=info_cx h hu
  rw [e] at this; cases this
 ·rename_i i _ hi
  have e:some i.desc=some (TypeDesc.complex k):=e
  injection e with e
  have:=info_cx h hi
  rw [e] at this; cases this
 ·cases e⟩
instance noCx:NoCx Try.prog:=noCx_of (by kernel_rfl)
theorem mix:Try.prog.follows .mixedOrders=true:=by kernel_rfl
end Go.Proofs.Ytfpabkpmcmfbhaa
namespace Go.Proofs.Ytfpabkpmcmfbhaa
open Go Go.RowKit
set_option linter.unusedSectionVars false
theorem hid_ex (c:Array Value):∃ d:Array Value,d=c:=⟨c,rfl⟩
noncomputable def hidC (c:Array Value):Array Value:=Classical.choose (hid_ex c)
theorem hidC_eq (c:Array Value):hidC c=c:=Classical.choose_spec (hid_ex c)
noncomputable def rowA {α:Type}(g:α→List Value)(l:List α):Array Value:=hidC ⟨l.flatMap g⟩
theorem rowA_eq {α:Type}(g:α→List Value)(l:List α):rowA g l=⟨l.flatMap g⟩:=hidC_eq _
def el {α:Type}[Inhabited α](l:List α)(z:Int):α:=l.getD z.toNat default
def gI (z:Int):List Value:=[.int .i64 z]
def gB (b:Bool):List Value:=[.bool b]
section
variable {α:Type} {g:α→List Value} {k:Nat}
theorem flat_len (hg:∀ a,(g a).length=k):∀ l:List α,(l.flatMap g).length=l.length*k
 | []=>by simp
 | a::l=>by
  simp only [List.flatMap_cons,List.length_append,hg a,flat_len hg l,List.length_cons]
  rw [Nat.add_mul,Nat.one_mul,Nat.add_comm]
theorem rowA_size (hg:∀ a,(g a).length=k)(l:List α):(rowA g l).size=l.length*k:=by
 rw [rowA_eq]; exact flat_len hg l
theorem flat_drop (hg:∀ a,(g a).length=k):∀ (l:List α) (n:Nat),(l.flatMap g).drop (n*k)=(l.drop n).flatMap g
 | l,0=>by simp
 | [],n+1=>by simp
 | a::l,n+1=>by
  rw [List.flatMap_cons,List.drop_succ_cons,← flat_drop hg l n,Nat.add_mul,Nat.one_mul,Nat.add_comm (n*k) k]
  rw [← List.drop_drop,List.drop_left' (hg a)]
theorem seg_row [Inhabited α](hg:∀ a,(g a).length=k){l:List α}{z:Int}{off n:Nat}{v:List Value}(h0:0≤z)(h1:z<(l.length:Int))(ho:off+n≤k)(hv:((g (el l z)).drop off).take n=v):segC (rowA g l) (z.toNat*k+off) n=some v:=by
 have hz:z.toNat<l.length:=by omega
 unfold segC
 have hle:Nat.ble (Nat.add (z.toNat*k+off) n) (rowA g l).size=true:=by
  rw [rowA_size hg]
  refine Nat.ble_eq_true_of_le ?_
  show z.toNat*k+off+n≤l.length*k
  have:(z.toNat+1)*k≤l.length*k:=Nat.mul_le_mul_right k hz
  rw [Nat.add_mul,Nat.one_mul] at this
  omega
 rw [hle]
 simp only
 rw [← hv,rowA_eq]
 simp only [Option.some.injEq]
 rw [← List.drop_drop,flat_drop hg]
 have hd:l.drop z.toNat=el l z::l.drop (z.toNat+1):=by
  rw [List.drop_eq_getElem_cons hz]
  congr 1
  unfold el
  rw [List.getD_eq_getElem?_getD,List.getElem?_eq_getElem hz]
  rfl
 rw [hd,List.flatMap_cons,List.drop_append,hg]
 rw [show off - k=0 by omega,List.drop_zero,List.take_append]
 rw [show n - ((g (el l z)).drop off).length=0 by rw [List.length_drop,hg]; omega]
 simp
theorem seg_all (hg:∀ a,(g a).length=k){l:List α}{v:List Value}(hv:l.flatMap g=v):segC (rowA g l) 0 (l.length*k)=some v:=by
 unfold segC
 have hle:Nat.ble (Nat.add 0 (l.length*k)) (rowA g l).size=true:=by
  rw [rowA_size hg]
  exact Nat.ble_eq_true_of_le (Nat.le_of_eq (Nat.zero_add _))
 rw [hle]
 simp only
 rw [rowA_eq,List.drop_zero,List.take_of_length_le (by rw [flat_len hg]; exact Nat.le_refl _),hv]
theorem row_snoc {l:List α}{a:α}{v:List Value}(hv:g a=v):((rowA g l.reverse).toList++v).toArray=rowA g (a::l).reverse:=by
 rw [rowA_eq,rowA_eq,← hv]
 simp
theorem row_new {l:List α}{v:List Value}(hv:l.flatMap g=v):v.toArray=rowA g l:=by
 rw [rowA_eq,← hv]
theorem fact_size (hg:∀ a,(g a).length=k){l:List α}{n:Nat}(hn:n=l.length):Nat.beq (rowA g l).size (Nat.mul n k)=true:=by
 rw [rowA_size hg,hn]
 exact Nat.beq_refl _
theorem fact_room {l:List α}{z:Int}{off n:Nat}(hg:∀ a,(g a).length=k)(h0:0≤z)(h1:z<(l.length:Int))(ho:off+n≤k):Nat.ble (Nat.add (z.toNat*k+off) n) (rowA g l).size=true:=by
 have hz:z.toNat<l.length:=by omega
 rw [rowA_size hg]
 refine Nat.ble_eq_true_of_le ?_
 show z.toNat*k+off+n≤l.length*k
 have:(z.toNat+1)*k≤l.length*k:=Nat.mul_le_mul_right k hz
 rw [Nat.add_mul,Nat.one_mul] at this
 omega
theorem row_set [Inhabited α](hg:∀ a,(g a).length=k){l:List α}{z:Int}{off:Nat}{v:List Value}{x:α}(h0:0≤z)(h1:z<(l.length:Int))(ho:off+v.length≤k)(hv:(g (el l z)).take off++(v++(g (el l z)).drop (off+v.length))=g x):spliceC (rowA g l) (z.toNat*k+off) v=rowA g (l.set z.toNat x):=by
 have hz:z.toNat<l.length:=by omega
 unfold spliceC
 rw [rowA_eq,rowA_eq]
 have hd:l.drop z.toNat=el l z::l.drop (z.toNat+1):=by
  rw [List.drop_eq_getElem_cons hz]
  congr 1
  unfold el
  rw [List.getD_eq_getElem?_getD,List.getElem?_eq_getElem hz]
  rfl
 have hl:l.flatMap g=(l.take z.toNat).flatMap g++(g (el l z)++(l.drop (z.toNat+1)).flatMap g):=by
  have:l=l.take z.toNat++l.drop z.toNat:=(List.take_append_drop _ _).symm
  rw [hd] at this
  conv=>lhs; rw [this]
  rw [List.flatMap_append,List.flatMap_cons]
 have ha:((l.take z.toNat).flatMap g).length=z.toNat*k:=by
  rw [flat_len hg,List.length_take,Nat.min_eq_left (Nat.le_of_lt hz)]
 have e1:(l.flatMap g).take (z.toNat*k+off)=(l.take z.toNat).flatMap g++(g (el l z)).take off:=by
  rw [hl,List.take_append,ha,List.take_of_length_le (by rw [ha]; omega),show z.toNat*k+off - z.toNat*k=off by omega,List.take_append,hg,show off - k=0 by omega]
  simp
 have e2:(l.flatMap g).drop (Nat.add (z.toNat*k+off) v.length)=(g (el l z)).drop (off+v.length)++(l.drop (z.toNat+1)).flatMap g:=by
  show (l.flatMap g).drop (z.toNat*k+off+v.length)=_
  rw [hl,List.drop_append,ha,List.drop_of_length_le (by rw [ha]; omega),show z.toNat*k+off+v.length - z.toNat*k=off+v.length by omega,List.drop_append,hg,show off+v.length - k=0 by omega]
  simp
 have e3:(l.set z.toNat x).flatMap g=(l.take z.toNat).flatMap g++(g x++(l.drop (z.toNat+1)).flatMap g):=by
  rw [List.set_eq_take_append_cons_drop,if_pos hz,List.flatMap_append,List.flatMap_cons]
 simp only
 rw [e1,e2,e3,← hv]
 simp only [List.append_assoc]
theorem row_zero {d:α}{z:Value}{n:Nat}(h:g d=z.cells.toList):(zerosC z n).toArray=rowA g (List.replicate n d):=by
 rw [rowA_eq]
 unfold zerosC
 rw [← h]
 congr 1
 induction n with
 | zero=>rfl
 | succ n ih=>rw [List.replicate_succ,List.replicate_succ,List.flatten_cons,List.flatMap_cons,ih]
theorem row_seen {l:List α}{c:List Value}(h:l.flatMap g=c):rowA g l=⟨c⟩:=by rw [rowA_eq,h]
theorem row_okC (hg:∀ a,(g a).all okC=true)(l:List α):(rowA g l).toList.all okC=true:=by
 rw [rowA_eq]
 simp only [List.all_flatMap,List.all_eq_true]
 intro a _
 exact List.all_eq_true.1 (hg a)
theorem row_inj (hg:∀ a,(g a).length=k)(hk:0<k)(hi:∀ a b,g a=g b→a=b):∀ {l m:List α},rowA g l=rowA g m→l=m:=by
 have key:∀ (l m:List α),l.flatMap g=m.flatMap g→l=m:=by
  intro l
  induction l with
  | nil =>
   intro m h
   cases m with
   | nil=>rfl
   | cons b m =>
    exfalso
    have:=congrArg List.length h
    simp only [List.flatMap_nil,List.flatMap_cons,List.length_append,hg b,List.length_nil] at this
    omega
  | cons a l ih =>
   intro m h
   cases m with
   | nil =>
    exfalso
    have:=congrArg List.length h
    simp only [List.flatMap_nil,List.flatMap_cons,List.length_append,hg a,List.length_nil] at this
    omega
   | cons b m =>
    simp only [List.flatMap_cons] at h
    obtain ⟨h1,h2⟩:=List.append_inj h (by rw [hg a,hg b])
    rw [hi _ _ h1,ih _ h2]
 intro l m h
 rw [rowA_eq,rowA_eq] at h
 injection h with h
 exact key _ _ h
end
section
variable {κ υ:Type}
variable [DecidableEq κ]
variable {P:Program} {kt:TypeId} {gk:κ→Value} {gv:υ→Value}
end
end Go.Proofs.Ytfpabkpmcmfbhaa
namespace Go.Proofs.Ytfpabkpmcmfbhaa
open Go Go.RowKit
set_option linter.unusedSectionVars false
noncomputable def headD (P:Program)(L:Vars)(T:GTab)(fuel:Nat)(f:FuncId)(ds:List D)(ans:List (Nat × Ans)):Hd :=
 match startD L ds with
 | some (vs,hs)=>match callO P (evO P L.length T (fun ro a s _=>s.fcv fun s=>some (Hd.mk ro a s)) (fun _=>none) fuel) f vs.toArray hs ⟨0,ans,[]⟩ fun _ _ _=>none with
  | some h=>h
  | none=>⟨none,.skip,⟨.nil,⟨.nil,0,0,0⟩,[]⟩⟩
 | none=>⟨none,.skip,⟨.nil,⟨.nil,0,0,0⟩,[]⟩⟩
noncomputable def headB (P:Program)(L:Vars)(T:GTab)(fuel:Nat)(h:Hd)(s:St)(ans:List (Nat × Ans)):Hd :=
 match evO P L.length T (fun ro a s _=>s.fcv fun s=>some (Hd.mk ro a s)) (fun _=>none) fuel h.ro h.a s ⟨0,ans,[]⟩ fun _ _ _=>none with
 | some h=>h
 | none=>⟨none,.skip,⟨.nil,⟨.nil,0,0,0⟩,[]⟩⟩
def sameB (n:Nat):Nat→List (Nat × Nat)
 | 0=>[]
 | k+1=>sameB n k++[(Nat.add n k,Nat.add n k)]
def beginS (P:Program)(l:List (Pl × TypeId))(n m:Nat)(ρ:List (Nat × Nat))(js:List Nat)(nx xr xw:Nat)(s:St):Option St:=match convs P l s with
 | some s1=>canonS n m ρ js nx xr xw s1
 | none=>none
def canonOkF (n m:Nat)(ρ:List (Nat × Nat))(nx:Nat)(s:St):Bool:=force s.hs.rd fun rd=>force s.hs.wr fun wr=>force s.hs.next fun next=>canonOk n m ρ nx ⟨.nil,⟨.nil,next,rd,wr⟩,[]⟩
theorem canonOkF_eq {n m:Nat}{ρ:List (Nat × Nat)}{nx:Nat}{s:St}:canonOkF n m ρ nx s=canonOk n m ρ nx s:=by
 unfold canonOkF
 simp only [force_eq]
 rfl
def beginOk (P:Program)(l:List (Pl × TypeId))(n m:Nat)(ρ:List (Nat × Nat))(nx:Nat)(s:St):Bool:=match convs P l s with
 | some s1=>canonOkF n m ρ nx s1
 | none=>false
theorem begin_open {P:Program}{l:List (Pl × TypeId)}{n m mw:Nat}{ρ:List (Nat × Nat)}{js:List Nat}{nx xr xw:Nat}{s S:St}(h:beginS P l n mw ρ js nx xr xw s=some S)(h2:beginOk P l n m ρ nx s=true):∃ s1,convs P l s=some s1∧canonS n mw ρ js nx xr xw s1=some S∧canonOk n m ρ nx s1=true:=by
 unfold beginS at h
 unfold beginOk at h2
 split at h
 ·rename_i s1 e
  rw [e] at h2
  exact ⟨s1,e,h,canonOkF_eq.symm.trans h2⟩
 ·cases h
def GTab.blk (T:GTab)(key:Nat):GTab:={ T with
 keys:=fun j=>match Nat.beq j key with
  | true=>true
  | false=>T.keys j
 out:=fun ro a s h=>T.out ro a s (by
  cases hb:Nat.beq (loopKey a) key with
  | true=>simp [hb] at h
  | false=>simpa [hb] using h) }
theorem GOk.blk {P:Program}[NoCx P]{L:Vars}{T:GTab}{key:Nat}(h:GOk P L T):GOk P L (T.blk key):=⟨h.1,h.2.1,h.2.2⟩
def Tr.freshB:Tr→Nat→Bool
 | .nil,_=>true
 | .node o l r,n=>(match o with | none=>true | some _=>Nat.blt 0 n)&&(l.freshB (Nat.div n 2)&&r.freshB (Nat.div (Nat.sub n 1) 2))
theorem Tr.fresh_get:∀ (t:Tr) (n:Nat),t.freshB n=true→∀ i,n≤i→t.get i=none
 | .nil,n,h,i,hi=>Tr.get_nil i
 | .node o l r,n,h,i,hi=>by
  unfold Tr.freshB at h
  simp only [Bool.and_eq_true] at h
  obtain ⟨h1,h2,h3⟩:=h
  have e1:Nat.div n 2=n / 2:=rfl
  have e2:Nat.div (Nat.sub n 1) 2=(n - 1) / 2:=rfl
  rw [Tr.get_node]
  by_cases h0:i=0
  ·rw [if_pos h0]
   cases o with
   | none=>rfl
   | some v=>have:=blt_iff.1 h1; omega
  ·rw [if_neg h0]
   split
   ·exact Tr.fresh_get l _ h2 _ (by rw [e1]; omega)
   ·exact Tr.fresh_get r _ h3 _ (by rw [e2]; omega)
theorem mw_fresh {n nx mw m:Nat}{s0:HS}(h:(Nat.ble nx mw&&(Nat.ble mw m&&s0.heap.freshB n))=true):MwOk n nx mw m s0:=by
 simp only [Bool.and_eq_true] at h
 exact ⟨⟨Nat.le_of_ble_eq_true h.1,Nat.le_of_ble_eq_true h.2.1⟩,.inr (Tr.fresh_get _ _ h.2.2)⟩
def bumpS (n:Nat)(s:St):St:=⟨s.tmps,⟨s.hs.heap,n,s.hs.rd,s.hs.wr⟩,s.defs⟩
def gapOk (n:Nat)(s:St):Bool:=Nat.ble s.hs.next n&&(List.range n).all fun i=>Nat.blt i s.hs.next||Nat.testBit s.hs.wr i
def bumpH (n:Nat)(h:Hd):Hd:=⟨h.ro,h.a,bumpS n h.s⟩
theorem loop_bump {P:Program}{B:Bd}{ro:Option Nat}{c:Code}{s F:St}{x:VX}{n:Nat}(h:LoopOk P B ro c (bumpS n s) x F)(hg:gapOk n s=true):LoopOk P B ro c s x F:=by
 unfold gapOk at hg
 simp only [Bool.and_eq_true] at hg
 obtain ⟨g1,g2⟩:=hg
 have g1:s.hs.next≤n:=Nat.le_of_ble_eq_true g1
 obtain ⟨h1,k,h2⟩:=h
 have hb:VStep s.hs (bumpS n s).hs:=⟨g1,fun _ e=>e,fun _ e=>e,fun _ _=>rfl,fun i e f=>by
  have:=List.all_eq_true.1 g2 i (List.mem_range.2 f)
  rw [Bool.or_eq_true] at this
  rcases this with h | h
  ·have:=blt_iff.1 h; omega
  ·exact h,fun e i hi=>e i (Nat.le_trans g1 hi)⟩
 refine ⟨hb.trans h1,k,fun σ ro' H a w Q hro hm hs ht hd ha hB hk=>h2 σ ro' H a w Q hro hm ⟨hs.wr,fun i e=>hs.new i (Nat.le_trans g1 e)⟩ ht hd ⟨ha.rd,fun i e f=>ha.new i (Nat.le_trans g1 e) f⟩ hB hk⟩
theorem loop_known2 {P:Program}{G:Nat}{T:GTab}{ro:Option Nat}{a:Code}{s:St}{x:VX}{s':St}(h:T.loop ro a s=some (x,s')):LoopRes P G T ro a s x s':=by
 refine (Evt.all fun _=>trivial).succ (p:=fun _=>True) fun n _=>?_
 unfold evC
 simp only [hook_loop]
 rw [h]
theorem add_eq {T:GTab}{key:Nat}{ro:Option Nat}{a:Code}{s:St}{x:VX}{s':St}{hk:loopKey a=key}:(T.add key ro a s x s' hk).loop ro a s=some (x,s'):=by
 unfold GTab.add
 simp
theorem add_ne {T:GTab}{key:Nat}{ro ro2:Option Nat}{a a2:Code}{s s2:St}{x x2:VX}{s' s2':St}{hk:loopKey a2=key}(hn:Nat.beq (loopKey a) key=false)(h:T.loop ro a s=some (x,s')):(T.add key ro2 a2 s2 x2 s2' hk).loop ro a s=some (x,s'):=by
 unfold GTab.add
 simp only
 rw [if_neg (fun e=>by rw [e.2.1,hk,Nat.beq_refl] at hn; cases hn)]
 exact h
def fpV:Value→Nat
 | .complex _ b _=>b+2
 | .func (.func f) _ _=>f+100000
 | .pointer (some a)=>a.block+3
 | .slice (some a) _ _=>a.block+4
 | .map (some r)=>r+5
 | _=>0
def fpT:TV→List Nat
 | .nil=>[]
 | .node o l r=>(match o with | some v=>fpV v | none=>1)::(fpT l++fpT r)
def fpS (s:St):List Nat:=s.hs.next::fpT s.tmps
def eqNL:List Nat→List Nat→Bool
 | [],[]=>true
 | a::l,b::m=>Nat.beq a b&&eqNL l m
 | _,_=>false
theorem eqNL_refl:∀ l:List Nat,eqNL l l=true
 | []=>rfl
 | a::l=>by simp only [eqNL,Nat.beq_refl,eqNL_refl l,Bool.and_self]
def intAt (s:St)(k:Nat):Nat:=match s.tmps.get k with
 | some (.int _ (.ofNat n))=>n
 | _=>0
theorem add_x {T:GTab}{key:Nat}{ro ro2:Option Nat}{a a2:Code}{s s2:St}{x x2:VX}{s' s2':St}{hk:loopKey a2=key}(hn:Nat.beq (loopKey a) key=false∨eqNL (fpS s) (fpS s2)=false∨∃ k,Nat.beq (intAt s k) (intAt s2 k)=false)(h:T.loop ro a s=some (x,s')):(T.add key ro2 a2 s2 x2 s2' hk).loop ro a s=some (x,s'):=by
 unfold GTab.add
 simp only
 rw [if_neg (fun e=>by
  rcases hn with hn | hn | ⟨k,hn⟩
  ·rw [e.2.1,hk,Nat.beq_refl] at hn; cases hn
  ·rw [e.2.2,eqNL_refl] at hn; cases hn
  ·rw [e.2.2,Nat.beq_refl] at hn; cases hn)]
 exact h
theorem rowA_nil {α:Type}(g:α→List Value):rowA g []=#[]:=by rw [rowA_eq]; rfl
theorem knownR_eq {P:Program}{L:Vars}{f:FuncId}{ds:List D}{v v':Value}{bs bs':Outs}(h:KnownR P L f ds v bs)(hv:v=v')(hb:bs=bs'):KnownR P L f ds v' bs':=by subst hv; subst hb; exact h
noncomputable def fnP {π:Type}(A:π→List D)(C:π→Prop)(R:π→Value × Outs)(ds:List D):Option (Value × Outs):=by
 classical exact if h:∃ p,C p∧ds=A p then some (R (Classical.choose h)) else none
theorem fnP_at {π:Type}{A:π→List D}{C:π→Prop}{R:π→Value × Outs}(inj:∀ p q,C p→C q→A p=A q→R p=R q){p:π}{ds:List D}{v:Value}{bs:Outs}(hc:C p)(hd:ds=A p)(hr:R p=(v,bs)):fnP A C R ds=some (v,bs):=by
 have h:∃ p,C p∧ds=A p:=⟨p,hc,hd⟩
 unfold fnP
 rw [dif_pos h]
 have:=Classical.choose_spec h
 rw [inj _ p this.1 hc (this.2.symm.trans hd),hr]
theorem fnP_ok {P:Program}{L:Vars}{f:FuncId}{π:Type}{A:π→List D}{C:π→Prop}{R:π→Value × Outs}(h:∀ p,C p→KnownR P L f (A p) (R p).1 (R p).2):∀ ds v bs,fnP A C R ds=some (v,bs)→KnownR P L f ds v bs:=by
 intro ds v bs e
 unfold fnP at e
 split at e
 ·rename_i hx
  injection e with e
  have:=Classical.choose_spec hx
  have k:=h _ this.1
  rw [← this.2,e] at k
  exact k
 ·cases e
theorem seg_all2 {α:Type}{g:α→List Value}{k:Nat}(hg:∀ a,(g a).length=k){l:List α}{m:Nat}(hm:m=l.length):segC (rowA g l) 0 (m*k)=some (l.flatMap g):=by rw [hm]; exact seg_all hg rfl
theorem gI_inj {l m:List Int}:rowA gI l=rowA gI m ↔ l=m:=⟨row_inj (k:=1) (fun _=>rfl) (by decide) (fun a b h=>by simpa [gI] using h),fun h=>by rw [h]⟩
theorem gB_inj {l m:List Bool}:rowA gB l=rowA gB m ↔ l=m:=⟨row_inj (k:=1) (fun _=>rfl) (by decide) (fun a b h=>by simpa [gB] using h),fun h=>by rw [h]⟩
end Go.Proofs.Ytfpabkpmcmfbhaa
