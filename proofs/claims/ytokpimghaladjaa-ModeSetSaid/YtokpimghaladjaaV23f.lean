import Derived.Test.YtokpimghaladjaaOgL
set_option linter.unusedSimpArgs false
set_option linter.unusedVariables false
namespace Go.Proofs.Ytokpimghaladjaa
open Go Go.RowKit
theorem el_set {l:List Int}{N a b:Int}(ha:1≤a∧a≤l.length)(hb:1≤b):el (l.set (a - 1).toNat N) (b - 1)=if a=b then N else el l (b - 1):=by
 unfold el
 by_cases h:a=b
 ·subst h
  rw [if_pos rfl,List.getD_eq_getElem?_getD,List.getElem?_set_self (by omega)]; rfl
 ·rw [if_neg h,List.getD_eq_getElem?_getD,List.getD_eq_getElem?_getD,List.getElem?_set_ne (by omega)]
theorem el_st {d k n i j:Int}{l:List Int}(hk:1≤k∧k≤l.length)(hj:1≤j):el (stL d k n i l) (j - 1)=if d=i∧k=j then n else el l (j - 1):=by
 unfold stL
 by_cases h:d=i
 ·rw [if_pos h,el_set hk hj]
  by_cases g:k=j
  ·rw [if_pos g,if_pos ⟨h,g⟩]
  ·rw [if_neg g,if_neg (fun e=>g e.2)]
 ·rw [if_neg h,if_neg (fun e=>h e.1)]
theorem se1 (xs ys zs:List Int):seL 1 xs ys zs=xs:=rfl
theorem se2 (xs ys zs:List Int):seL 2 xs ys zs=ys:=rfl
theorem se3 (xs ys zs:List Int):seL 3 xs ys zs=zs:=rfl
theorem gt_st {c d k n i j:Int}{xs ys zs:List Int}(h:MoV c xs ys zs)(hs:SOk c d k n)(hi:i=1∨i=2∨i=3)(hj:1≤j):gtV i j (stL d k n 1 xs) (stL d k n 2 ys) (stL d k n 3 zs)=if d=i∧k=j then n else gtV i j xs ys zs:=by
 obtain ⟨h1,h2,hx,hy,hz,vx,vy,vz⟩:=h
 obtain ⟨d1,d2,k1,k2,hn⟩:=hs
 unfold gtV
 rcases hi with rfl | rfl | rfl
 ·rw [se1,se1]; exact el_st ⟨k1,by omega⟩ hj
 ·rw [se2,se2]; exact el_st ⟨k1,by omega⟩ hj
 ·rw [se3,se3]; exact el_st ⟨k1,by omega⟩ hj
theorem st_comm {d k n p q m i:Int}{l:List Int}(h:d≠p∨k≠q)(hk:1≤k)(hq:1≤q):stL p q m i (stL d k n i l)=stL d k n i (stL p q m i l):=by
 unfold stL
 by_cases a:d=i
 ·by_cases b:p=i
  ·have:k≠q:=by omega
   simp only [a,b,if_true]
   exact List.set_comm _ _ (by omega)
  ·simp only [a,b,if_true,if_false]
 ·simp only [a,if_false]
theorem st_same {c d k:Int}{xs ys zs:List Int}(h:MoV c xs ys zs)(hd:1≤d∧d≤3)(hk:1≤k∧k≤c):stL d k (gtV d k xs ys zs) 1 xs=xs∧stL d k (gtV d k xs ys zs) 2 ys=ys∧stL d k (gtV d k xs ys zs) 3 zs=zs:=by
 obtain ⟨h1,h2,hx,hy,hz,vx,vy,vz⟩:=h
 have key:∀ l:List Int,(l.length:Int)=c→l.set (k - 1).toNat (el l (k - 1))=l:=by
  intro l hl
  have hi:(k - 1).toNat<l.length:=by omega
  have e:el l (k - 1)=l[(k - 1).toNat]:=by unfold el; rw [List.getD_eq_getElem?_getD,List.getElem?_eq_getElem hi]; rfl
  rw [e]; exact List.set_getElem_self hi
 unfold stL gtV
 rcases (by omega:d=1∨d=2∨d=3) with rfl | rfl | rfl
 ·rw [se1]; exact ⟨by rw [if_pos rfl]; exact key xs hx,by rw [if_neg (by decide)],by rw [if_neg (by decide)]⟩
 ·rw [se2]; exact ⟨by rw [if_neg (by decide)],by rw [if_pos rfl]; exact key ys hy,by rw [if_neg (by decide)]⟩
 ·rw [se3]; exact ⟨by rw [if_neg (by decide)],by rw [if_neg (by decide)],by rw [if_pos rfl]; exact key zs hz⟩
end Go.Proofs.Ytokpimghaladjaa
