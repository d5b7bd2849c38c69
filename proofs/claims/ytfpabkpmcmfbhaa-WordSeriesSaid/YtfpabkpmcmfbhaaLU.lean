import Derived.Test.YtfpabkpmcmfbhaaEvZ7
import Derived.IntWalk
set_option linter.unusedVariables false
namespace Go.Proofs.Ytfpabkpmcmfbhaa
open Go Go.RowKit
theorem w8n {n:Int}(h : -9223372036854775808≤n)(h2:n≤9223372036854775807):IntKind.i64.wrap n=n:=by
 rw [IntKind.wrap_i64]; omega
theorem el_drop {α:Type}[Inhabited α]{l:List α}{i:Nat}(h:i<l.length):l.drop i=el l (i:Int)::l.drop (i+1):=by
 rw [List.drop_eq_getElem_cons h]
 congr 1
 unfold el
 rw [List.getD_eq_getElem?_getD,Int.toNat_natCast,List.getElem?_eq_getElem h]
 rfl
theorem bif_dT {p:Prop}[Decidable p]{α:Type}{a b:α}(h:p):(bif decide p then a else b)=a:=by rw [decide_eq_true h]; rfl
theorem bif_dF {p:Prop}[Decidable p]{α:Type}{a b:α}(h:¬ p):(bif decide p then a else b)=b:=by rw [decide_eq_false h]; rfl
end Go.Proofs.Ytfpabkpmcmfbhaa
