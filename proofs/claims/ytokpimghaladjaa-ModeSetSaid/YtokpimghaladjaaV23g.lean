import Derived.Test.YtokpimghaladjaaV23f
set_option linter.unusedSimpArgs false
set_option linter.unusedVariables false
namespace Go.Proofs.Ytokpimghaladjaa
open Go Go.RowKit
theorem bif_s {α:Type}(c:Bool)(a:α):(bif c then a else a)=a:=by cases c <;> rfl
theorem inv_parts {i j D K N G0 G1:Int}(g:G0=if D=i∧K=j then N else G1):(!(i==D) || !(i != D))=true∧((i==D)||(i != D))=true∧(!(j==K) || !(j != K))=true∧((j==K)||(j != K))=true∧(!(i==D)||(!(j==K) || !(G0 != N)))=true∧(!(i != D) || !(G0 != G1))=true∧(!(j != K) || !(G0 != G1))=true:=by
 by_cases a:i=D
 ·by_cases b:j=K
  ·rw [if_pos ⟨a.symm,b.symm⟩] at g; subst a; subst b; subst g; simp
  ·rw [if_neg (fun e=>b e.2.symm)] at g; subst g; simp [a,b]
 ·rw [if_neg (fun e=>a e.1.symm)] at g; subst g; by_cases b:j=K <;> simp [a,b]
theorem inv_all {C i j D K N G0 G1:Int}(c1:(!decide (j≤C)||gOk C i j)=true)(g:G0=if D=i∧K=j then N else G1):((!decide (j≤C)||gOk C i j)&&(!(i==D) || !(i != D))&&((i==D)||(i != D))&&(!(j==K) || !(j != K))&&((j==K)||(j != K))&&(!(i==D)||(!(j==K) || !(G0 != N)))&&(!(i != D) || !(G0 != G1))&&(!(j != K) || !(G0 != G1)))=true:=by
 obtain ⟨p1,p2,p3,p4,p5,p6,p7⟩:=inv_parts g
 rw [c1,p1,p2,p3,p4,p5,p6,p7]; rfl
theorem mC_r (n:Int)(ns:List Int):1≤mC n ns∧mC n ns≤8:=by
 have h:=made_ok n ns
 exact ⟨h.1,h.2.1⟩
theorem sx_ok (n:Int)(ns:List Int)(x:Int):SOk (mC n ns) (IntKind.i64.wrap (1+(mdV x 1048576).tmod 3)) (IntKind.i64.wrap (1+(IntKind.i64.wrap ((mdV x 1048576).tdiv 3)).tmod (mC n ns))) ((IntKind.i64.wrap ((mdV x 1048576).tdiv 24)).tmod 4):=s_fact (mC_r n ns) (by rw [mdV_is]; omega) (by rw [mdV_is]; omega)
theorem loop_g (n:Int)(ns:List Int)(x:Int){i j:Int}(hi:i=1∨i=2∨i=3)(hj:1≤j):gtV i j (stL (IntKind.i64.wrap (1+(mdV x 1048576).tmod 3)) (IntKind.i64.wrap (1+(IntKind.i64.wrap ((mdV x 1048576).tdiv 3)).tmod (mC n ns))) ((IntKind.i64.wrap ((mdV x 1048576).tdiv 24)).tmod 4) 1 (mX n ns)) (stL (IntKind.i64.wrap (1+(mdV x 1048576).tmod 3)) (IntKind.i64.wrap (1+(IntKind.i64.wrap ((mdV x 1048576).tdiv 3)).tmod (mC n ns))) ((IntKind.i64.wrap ((mdV x 1048576).tdiv 24)).tmod 4) 2 (mY n ns)) (stL (IntKind.i64.wrap (1+(mdV x 1048576).tmod 3)) (IntKind.i64.wrap (1+(IntKind.i64.wrap ((mdV x 1048576).tdiv 3)).tmod (mC n ns))) ((IntKind.i64.wrap ((mdV x 1048576).tdiv 24)).tmod 4) 3 (mZ n ns))=if (IntKind.i64.wrap (1+(mdV x 1048576).tmod 3))=i∧(IntKind.i64.wrap (1+(IntKind.i64.wrap ((mdV x 1048576).tdiv 3)).tmod (mC n ns)))=j then ((IntKind.i64.wrap ((mdV x 1048576).tdiv 24)).tmod 4) else gtV i j (mX n ns) (mY n ns) (mZ n ns):=gt_st (made_ok n ns) (sx_ok n ns x) hi hj
theorem loop_c (n:Int)(ns:List Int){i j:Int}(hi:i=1∨i=2∨i=3)(hj:1≤j):(!decide (j≤mC n ns)||gOk (mC n ns) i j)=true:=by
 by_cases h:j≤mC n ns
 ·rw [gOk_is.2 ⟨by omega,hj,h⟩]; simp
 ·rw [decide_eq_false h]; rfl
theorem loop_inv (n:Int)(ns:List Int)(x:Int){i j:Int}(hi:i=1∨i=2∨i=3)(hj:1≤j):((!decide (j≤(mC n ns))||gOk (mC n ns) i j)&&(!(i==(IntKind.i64.wrap (1+(mdV x 1048576).tmod 3))) || !(i != (IntKind.i64.wrap (1+(mdV x 1048576).tmod 3))))&&((i==(IntKind.i64.wrap (1+(mdV x 1048576).tmod 3)))||(i != (IntKind.i64.wrap (1+(mdV x 1048576).tmod 3))))&&(!(j==(IntKind.i64.wrap (1+(IntKind.i64.wrap ((mdV x 1048576).tdiv 3)).tmod (mC n ns)))) || !(j != (IntKind.i64.wrap (1+(IntKind.i64.wrap ((mdV x 1048576).tdiv 3)).tmod (mC n ns)))))&&((j==(IntKind.i64.wrap (1+(IntKind.i64.wrap ((mdV x 1048576).tdiv 3)).tmod (mC n ns))))||(j != (IntKind.i64.wrap (1+(IntKind.i64.wrap ((mdV x 1048576).tdiv 3)).tmod (mC n ns)))))&&(!(i==(IntKind.i64.wrap (1+(mdV x 1048576).tmod 3)))||(!(j==(IntKind.i64.wrap (1+(IntKind.i64.wrap ((mdV x 1048576).tdiv 3)).tmod (mC n ns)))) || !(gtV i j (stL (IntKind.i64.wrap (1+(mdV x 1048576).tmod 3)) (IntKind.i64.wrap (1+(IntKind.i64.wrap ((mdV x 1048576).tdiv 3)).tmod (mC n ns))) ((IntKind.i64.wrap ((mdV x 1048576).tdiv 24)).tmod 4) 1 (mX n ns)) (stL (IntKind.i64.wrap (1+(mdV x 1048576).tmod 3)) (IntKind.i64.wrap (1+(IntKind.i64.wrap ((mdV x 1048576).tdiv 3)).tmod (mC n ns))) ((IntKind.i64.wrap ((mdV x 1048576).tdiv 24)).tmod 4) 2 (mY n ns)) (stL (IntKind.i64.wrap (1+(mdV x 1048576).tmod 3)) (IntKind.i64.wrap (1+(IntKind.i64.wrap ((mdV x 1048576).tdiv 3)).tmod (mC n ns))) ((IntKind.i64.wrap ((mdV x 1048576).tdiv 24)).tmod 4) 3 (mZ n ns)) != ((IntKind.i64.wrap ((mdV x 1048576).tdiv 24)).tmod 4))))&&(!(i != (IntKind.i64.wrap (1+(mdV x 1048576).tmod 3))) || !(gtV i j (stL (IntKind.i64.wrap (1+(mdV x 1048576).tmod 3)) (IntKind.i64.wrap (1+(IntKind.i64.wrap ((mdV x 1048576).tdiv 3)).tmod (mC n ns))) ((IntKind.i64.wrap ((mdV x 1048576).tdiv 24)).tmod 4) 1 (mX n ns)) (stL (IntKind.i64.wrap (1+(mdV x 1048576).tmod 3)) (IntKind.i64.wrap (1+(IntKind.i64.wrap ((mdV x 1048576).tdiv 3)).tmod (mC n ns))) ((IntKind.i64.wrap ((mdV x 1048576).tdiv 24)).tmod 4) 2 (mY n ns)) (stL (IntKind.i64.wrap (1+(mdV x 1048576).tmod 3)) (IntKind.i64.wrap (1+(IntKind.i64.wrap ((mdV x 1048576).tdiv 3)).tmod (mC n ns))) ((IntKind.i64.wrap ((mdV x 1048576).tdiv 24)).tmod 4) 3 (mZ n ns)) != gtV i j (mX n ns) (mY n ns) (mZ n ns)))&&(!(j != (IntKind.i64.wrap (1+(IntKind.i64.wrap ((mdV x 1048576).tdiv 3)).tmod (mC n ns)))) || !(gtV i j (stL (IntKind.i64.wrap (1+(mdV x 1048576).tmod 3)) (IntKind.i64.wrap (1+(IntKind.i64.wrap ((mdV x 1048576).tdiv 3)).tmod (mC n ns))) ((IntKind.i64.wrap ((mdV x 1048576).tdiv 24)).tmod 4) 1 (mX n ns)) (stL (IntKind.i64.wrap (1+(mdV x 1048576).tmod 3)) (IntKind.i64.wrap (1+(IntKind.i64.wrap ((mdV x 1048576).tdiv 3)).tmod (mC n ns))) ((IntKind.i64.wrap ((mdV x 1048576).tdiv 24)).tmod 4) 2 (mY n ns)) (stL (IntKind.i64.wrap (1+(mdV x 1048576).tmod 3)) (IntKind.i64.wrap (1+(IntKind.i64.wrap ((mdV x 1048576).tdiv 3)).tmod (mC n ns))) ((IntKind.i64.wrap ((mdV x 1048576).tdiv 24)).tmod 4) 3 (mZ n ns)) != gtV i j (mX n ns) (mY n ns) (mZ n ns))))=true:=inv_all (loop_c n ns hi hj) (loop_g n ns x hi hj)
theorem gt_range {c d k:Int}{xs ys zs:List Int}(h:MoV c xs ys zs)(hd:1≤d∧d≤3)(hk:1≤k∧k≤c):0≤gtV d k xs ys zs∧gtV d k xs ys zs≤3:=by
 obtain ⟨h1,h2,hx,hy,hz,vx,vy,vz⟩:=h
 have e:k - 1=(((k - 1).toNat:Nat):Int):=by omega
 unfold gtV
 rcases (by omega:d=1∨d=2∨d=3) with rfl | rfl | rfl
 ·rw [se1,e]; exact vl_el vx (by omega)
 ·rw [se2,e]; exact vl_el vy (by omega)
 ·rw [se3,e]; exact vl_el vz (by omega)
end Go.Proofs.Ytokpimghaladjaa
