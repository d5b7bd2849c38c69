import Derived.Test.YtokpimghaladjaaOgSI
set_option linter.unusedVariables false
namespace Go.Proofs.Ytokpimghaladjaa
open Go Go.RowKit
theorem siA_go (xs ys:List Int)(hx:xs.length≤20000)(hy:xs.length=ys.length):∀ (n i:Nat),i+n=xs.length→∃ kk z,siA_f xs ys (n+1) (i:Int)=some (kk,z)∧((kk=0∧¬ xs.drop i=ys.drop i)∨(kk=1∧xs.drop i=ys.drop i)):=by
 intro n
 induction n with
 | zero =>
  intro i h
  refine ⟨1,(i:Int),?_,.inr ⟨rfl,by rw [List.drop_of_length_le (by omega),List.drop_of_length_le (by omega)]⟩⟩
  rw [siA_fs,bif_dT (by omega),bif_dF (by omega)]
 | succ n ih =>
  intro i h
  rw [siA_fs,bif_dT (by omega),bif_dT (by omega),el_drop (l:=xs) (i:=i) (by omega),el_drop (l:=ys) (i:=i) (by omega)]
  cases hc:(el xs (i:Int) != el ys (i:Int)) with
  | true=>exact ⟨0,(i:Int),rfl,.inl ⟨rfl,by intro e; injection e with e _; simp [e] at hc⟩⟩
  | false =>
   obtain ⟨kk,z,h1,h2⟩:=ih (i+1) (by omega)
   have hw:IntKind.i64.wrap ((i:Int)+1)=((i+1:Nat):Int):=w8n (n:=(i:Int)+1) (by omega) (by omega)
   rw [hw]
   rw [cond_false]
   have he:el xs (i:Int)=el ys (i:Int):=by simpa using hc
   refine ⟨kk,z,h1,?_⟩
   rw [he]
   simpa using h2
theorem same_ints (xs ys:List Int)(hx:xs.length≤20000):KnownR Try.prog [] 26 [.list (rowA gI xs) xs.length,.list (rowA gI ys) ys.length] (.bool (decide (xs=ys))) []:=by
 by_cases hy:xs.length=ys.length
 ·obtain ⟨kk,z,h1,h2⟩:=siA_go xs ys hx hy xs.length 0 (by omega)
  have hl:=siA_ok xs ys hx hy (xs.length+1) kk z h1
  rcases h2 with ⟨rfl,h2⟩ | ⟨rfl,h2⟩
  ·rw [decide_eq_false (by simpa using h2)]
   exact siE xs ys z hx hy (by simp [hy]) hl
  ·rw [decide_eq_true (by simpa using h2)]
   exact siF xs ys z hx hy (by simp [hy]) hl
 ·rw [decide_eq_false (fun e=>hy (by rw [e]))]
  exact siL xs ys hy
theorem same_q (xs ys:List Int)(hx:xs.length≤20000)(hxy:xs=ys):KnownR Try.prog [] 26 [.list (rowA gI xs) xs.length,.list (rowA gI ys) ys.length] (.bool true) []:=by
 have:=same_ints xs ys hx
 rw [decide_eq_true hxy] at this
 exact this
end Go.Proofs.Ytokpimghaladjaa
