import Derived.Test.YtokpimghaladjaaOgF
set_option linter.unusedSimpArgs false
set_option linter.unusedVariables false
namespace Go.Proofs.Ytokpimghaladjaa
open Go Go.RowKit
def vl (xs:List Int):Prop:=∀ m ∈ xs,0≤m∧m≤3
theorem el_at {xs:List Int}{i:Nat}(hi:i<xs.length):el xs (i:Int)=xs[i]:=by unfold el; simp [hi]
theorem vl_el {xs:List Int}(h:vl xs){i:Nat}(hi:i<xs.length):0≤el xs (i:Int)∧el xs (i:Int)≤3:=by
 rw [el_at hi]; exact h _ (List.getElem_mem hi)
theorem ckX_go {c:Int}{xs ys zs:List Int}(hl:xs.length≤8)(hv:vl xs):∀ (k i:Nat),i+k=xs.length→ckX_f c xs ys zs (k+1) (i:Int)=some (1,(xs.length:Int)):=by
 intro k
 induction k with
 | zero =>
  intro i h
  obtain rfl:i=xs.length:=by omega
  rw [ckX_fs,bif_dT (by omega),bif_dF (by omega)]
 | succ k ih =>
  intro i h
  have hw:IntKind.i64.wrap ((i:Int)+1)=((i+1:Nat):Int):=w8n (n:=(i:Int)+1) (by omega) (by omega)
  have b:=vl_el hv (i:=i) (by omega)
  rw [ckX_fs,bif_dT (by omega),bif_dT (by omega),bif_dT b.1,show (!decide (el xs (i:Int)≤3))=false by simp [b.2],cond_false,hw]
  exact ih (i+1) (by omega)
theorem ckY_go {c z:Int}{xs ys zs:List Int}(hl:ys.length≤8)(hv:vl ys):∀ (k i:Nat),i+k=ys.length→ckY_f c xs ys zs z (k+1) (i:Int)=some (1,(ys.length:Int)):=by
 intro k
 induction k with
 | zero =>
  intro i h
  obtain rfl:i=ys.length:=by omega
  rw [ckY_fs,bif_dT (by omega),bif_dF (by omega)]
 | succ k ih =>
  intro i h
  have hw:IntKind.i64.wrap ((i:Int)+1)=((i+1:Nat):Int):=w8n (n:=(i:Int)+1) (by omega) (by omega)
  have b:=vl_el hv (i:=i) (by omega)
  rw [ckY_fs,bif_dT (by omega),bif_dT (by omega),bif_dT b.1,show (!decide (el ys (i:Int)≤3))=false by simp [b.2],cond_false,hw]
  exact ih (i+1) (by omega)
theorem ckZ_go {c z z':Int}{xs ys zs:List Int}(hl:zs.length≤8)(hv:vl zs):∀ (k i:Nat),i+k=zs.length→ckZ_f c xs ys zs z z' (k+1) (i:Int)=some (1,(zs.length:Int)):=by
 intro k
 induction k with
 | zero =>
  intro i h
  obtain rfl:i=zs.length:=by omega
  rw [ckZ_fs,bif_dT (by omega),bif_dF (by omega)]
 | succ k ih =>
  intro i h
  have hw:IntKind.i64.wrap ((i:Int)+1)=((i+1:Nat):Int):=w8n (n:=(i:Int)+1) (by omega) (by omega)
  have b:=vl_el hv (i:=i) (by omega)
  rw [ckZ_fs,bif_dT (by omega),bif_dT (by omega),bif_dT b.1,show (!decide (el zs (i:Int)≤3))=false by simp [b.2],cond_false,hw]
  exact ih (i+1) (by omega)
def MoV (c:Int)(xs ys zs:List Int):Prop:=1≤c∧c≤8∧(xs.length:Int)=c∧(ys.length:Int)=c∧(zs.length:Int)=c∧vl xs∧vl ys∧vl zs
theorem check_v {c:Int}{xs ys zs:List Int}(h:MoV c xs ys zs):KnownR Try.prog [] 16 [.agg [.val (.int .i64 c),.list (rowA gI xs) xs.length,.list (rowA gI ys) ys.length,.list (rowA gI zs) zs.length]] (.int .i64 0) []:=by
 obtain ⟨h1,h2,hx,hy,hz,vx,vy,vz⟩:=h
 have k0:decide (c<(1:Int))=false:=decide_eq_false (by omega)
 have k4:decide (c>(8:Int))=false:=decide_eq_false (by omega)
 have k8:((xs.length:Int) != c)=false:=by simp [hx]
 have k12:((ys.length:Int) != c)=false:=by simp [hy]
 have k16:((zs.length:Int) != c)=false:=by simp [hz]
 have lx:=ckX_ok c xs ys zs ⟨h1,h2⟩ hx hy hz _ _ _ (ckX_go (c:=c) (ys:=ys) (zs:=zs) (by omega) vx xs.length 0 (by omega))
 have ly:=ckY_ok c xs ys zs _ ⟨h1,h2⟩ hx hy hz k0 k4 k8 k12 k16 lx _ _ _ (ckY_go (c:=c) (xs:=xs) (zs:=zs) (z:=xs.length) (by omega) vy ys.length 0 (by omega))
 have lz:=ckZ_ok c xs ys zs _ _ ⟨h1,h2⟩ hx hy hz k0 k4 k8 k12 k16 lx ly _ _ _ (ckZ_go (c:=c) (xs:=xs) (ys:=ys) (z:=xs.length) (z':=ys.length) (by omega) vz zs.length 0 (by omega))
 exact ck3 c xs ys zs _ _ _ ⟨h1,h2⟩ hx hy hz k0 k4 k8 k12 k16 lx ly lz
end Go.Proofs.Ytokpimghaladjaa
