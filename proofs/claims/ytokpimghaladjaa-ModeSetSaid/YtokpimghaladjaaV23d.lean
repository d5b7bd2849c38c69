import Derived.Test.YtokpimghaladjaaOgI
set_option linter.unusedSimpArgs false
set_option linter.unusedVariables false
namespace Go.Proofs.Ytokpimghaladjaa
open Go Go.RowKit
def stL (d k n i:Int)(xs:List Int):List Int:=if d=i then xs.set (k - 1).toNat n else xs
theorem stL_len (d k n i:Int)(xs:List Int):(stL d k n i xs).length=xs.length:=by unfold stL; split <;> simp
theorem vl_set {xs:List Int}{n:Int}(h:vl xs)(hn:0≤n∧n≤3)(j:Nat):vl (xs.set j n):=by
 intro m hm
 rcases List.mem_or_eq_of_mem_set hm with a | a
 ·exact h m a
 ·subst a; exact hn
theorem stL_vl {d k n i:Int}{xs:List Int}(h:vl xs)(hn:0≤n∧n≤3):vl (stL d k n i xs):=by
 unfold stL; split
 ·exact vl_set h hn _
 ·exact h
def SOk (c d k n:Int):Prop:=1≤d∧d≤3∧1≤k∧k≤c∧0≤n∧n≤3
theorem mo_set {c d k n:Int}{xs ys zs:List Int}(h:MoV c xs ys zs)(hs:SOk c d k n):MoV c (stL d k n 1 xs) (stL d k n 2 ys) (stL d k n 3 zs):=by
 obtain ⟨h1,h2,hx,hy,hz,vx,vy,vz⟩:=h
 obtain ⟨_,_,_,_,hn⟩:=hs
 exact ⟨h1,h2,by rw [stL_len]; exact hx,by rw [stL_len]; exact hy,by rw [stL_len]; exact hz,stL_vl vx hn,stL_vl vy hn,stL_vl vz hn⟩
def seL (d:Int)(xs ys zs:List Int):List Int:=if d=1 then xs else if d=2 then ys else zs
noncomputable def gtV (d k:Int)(xs ys zs:List Int):Int:=el (seL d xs ys zs) (k - 1)
theorem w_pred {c k:Int}(h:1≤k∧k≤c)(hc:c≤8):IntKind.i64.wrap (k - 1)=k - 1:=w8n (by omega) (by omega)
theorem get_v {c d k:Int}{xs ys zs:List Int}(h:MoV c xs ys zs)(hd:1≤d∧d≤3)(hk:1≤k∧k≤c):KnownR Try.prog [] 18 [.agg [.val (.int .i64 c),.list (rowA gI xs) xs.length,.list (rowA gI ys) ys.length,.list (rowA gI zs) zs.length],.val (.int .i64 d),.val (.int .i64 k)] (.tuple #[.int .i64 (gtV d k xs ys zs),.int .i64 0]) []:=by
 have hb:=moB_is.2 h
 obtain ⟨h1,h2,hx,hy,hz,vx,vy,vz⟩:=h
 have w:=w_pred hk h2
 rcases (by omega:d=1∨d=2∨d=3) with rfl | rfl | rfl
 ·have r:=gt1 c k xs ys zs hb hk ⟨hx,h2⟩
  unfold gt1_c0 at r; rw [w] at r; exact r
 ·have r:=gt2 c k xs ys zs hb hk ⟨hy,h2⟩
  unfold gt2_c0 at r; rw [w] at r; exact r
 ·have r:=gt3 c k xs ys zs hb hk ⟨hz,h2⟩
  unfold gt3_c0 at r; rw [w] at r; exact r
theorem set_v {c d k n:Int}{xs ys zs:List Int}(h:MoV c xs ys zs)(hs:SOk c d k n):KnownR Try.prog [] 20 [.agg [.val (.int .i64 c),.list (rowA gI xs) xs.length,.list (rowA gI ys) ys.length,.list (rowA gI zs) zs.length],.val (.int .i64 d),.val (.int .i64 k),.val (.int .i64 n)] (.tuple #[.agg #[.int .i64 c,.complex .f64 0 (stL d k n 1 xs).length,.complex .f64 1 (stL d k n 2 ys).length,.complex .f64 2 (stL d k n 3 zs).length],.int .i64 0]) [(rowA gI (stL d k n 1 xs),3),(rowA gI (stL d k n 2 ys),3),(rowA gI (stL d k n 3 zs),3)]:=by
 have hb:=moB_is.2 h
 obtain ⟨h1,h2,hx,hy,hz,vx,vy,vz⟩:=h
 obtain ⟨d1,d2,k1,k2,hn⟩:=hs
 have w:=w_pred ⟨k1,k2⟩ h2
 rcases (by omega:d=1∨d=2∨d=3) with rfl | rfl | rfl
 ·have r:=st1 c k n xs ys zs hb ⟨k1,k2⟩ ⟨hx,hy,hz,h2⟩ hn
  unfold st1_c0 st1_c1 st1_c2 st1_c3 at r; rw [w] at r; exact r
 ·have r:=st2 c k n xs ys zs hb ⟨k1,k2⟩ ⟨hx,hy,hz,h2⟩ hn
  unfold st2_c0 st2_c1 st2_c2 st2_c3 at r; rw [w] at r; exact r
 ·have r:=st3 c k n xs ys zs hb ⟨k1,k2⟩ ⟨hx,hy,hz,h2⟩ hn
  unfold st3_c0 st3_c1 st3_c2 st3_c3 at r; rw [w] at r; exact r
def zeL (c:Int):List Int:=List.replicate c.toNat 0
theorem mo_new {c:Int}(hc:1≤c∧c≤8):MoV c (zeL c) (zeL c) (zeL c):=by
 have hl:((zeL c).length:Int)=c:=by unfold zeL; simp; omega
 have hv:vl (zeL c):=by
  intro m hm
  unfold zeL at hm
  have:=List.eq_of_mem_replicate hm
  omega
 exact ⟨hc.1,hc.2,hl,hl,hl,hv,hv,hv⟩
theorem new_v {c:Int}(hc:1≤c∧c≤8):KnownR Try.prog [] 13 [.val (.int .i64 c)] (.tuple #[.agg #[.int .i64 c,.complex .f64 0 (zeL c).length,.complex .f64 1 (zeL c).length,.complex .f64 2 (zeL c).length],.int .i64 0]) [(rowA gI (zeL c),3),(rowA gI (zeL c),3),(rowA gI (zeL c),3)]:=nwP c hc
end Go.Proofs.Ytokpimghaladjaa
