import Derived.Test.YtfpabkpmcmfbhaaOgY
import Derived.Test.YtfpabkpmcmfbhaaFrL
set_option linter.unusedVariables false
namespace Go.Proofs.Ytfpabkpmcmfbhaa
open Go Go.RowKit
def In64 (n:Int):Prop := -9223372036854775808≤n∧n≤9223372036854775807
theorem serL_len (m:Int)(ld:List Int)(es:List En)(sl n:Int):((serL m ld es sl n).length:Int)≤1000:=by
 unfold serL
 split
 ·rename_i h
  obtain ⟨_,_,_,h3,h4⟩:=h
  rw [serP_len]; omega
 ·simp
theorem series_is (m sl n:Int)(ld:List Int)(es:List En):KnownR Try.prog [] 4 [.list (rowA gI ld) ld.length,.list (rowA gE es) es.length,.val (.agg #[.int .i64 m,.int .i64 sl,.int .i64 n])] (.bool true) []:=by
 cases e:ltB ld es with
 | true =>
  have h:=lt_len e
  by_cases hn:100<n∧n<1000
  ·exact wzN m sl n ld es e hn
  ·exact wzA m sl n ld es e (by omega) (by omega) (serL_len m ld es sl n) hn
 | false=>exact wzE m sl n ld es e
theorem wordSeries_true (A:Option Addr)(len cap:Nat)(xs:List Int)(B:Option Addr)(len2 cap2:Nat)(ys:List En)(m sl n:Int)(w:World)(hl:xs.length=len)(hi:ListIn w (rowA gI xs) len A cap)(hw:∀ m ∈ xs,rowW gI m)(hl2:ys.length=len2)(hi2:ListIn w (rowA gE ys) len2 B cap2)(hw2:∀ m ∈ ys,rowW gE m)(_:In64 m)(_:In64 sl)(_:In64 n):
  Calls Try.prog 4 #[.slice A len cap,.slice B len2 cap2,.agg #[.int .i64 m,.int .i64 sl,.int .i64 n]] w fun e w'=>e = .returned (.bool true)∧Below w.heap.size w w':=by
 subst hl
 subst hl2
 have harg:DIns w [.list (rowA gI xs) xs.length,.list (rowA gE ys) ys.length,.val (.agg #[.int .i64 m,.int .i64 sl,.int .i64 n])] [.slice A xs.length cap,.slice B ys.length cap2,.agg #[.int .i64 m,.int .i64 sl,.int .i64 n]] :=
  .cons (.list hi) (.cons (.list hi2) (.cons (.val rfl) .nil))
 exact knownR_law (series_is m sl n xs ys) (LaidL.nil w) harg
end Go.Proofs.Ytfpabkpmcmfbhaa
