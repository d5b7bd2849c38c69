import Derived.Test.YtaogbagopdlkmaaOgO
set_option linter.unusedVariables false
namespace Go.Proofs.Ytaogbagopdlkmaa
open Go Go.RowKit
def trX (m d t s c : Int) : Int := if ckX m d t s c = 0 then trN m t s else 0
def slX (m d t s c : Int) : Int := if ckX m d t s c = 0 then slN s c else 0
theorem phE_in {m d t s c x : Int} (h : ckX m d t s c = 0) (hx : 0 ≤ x ∧ x ≤ 1099511627776) : phE m d t s c x = 0 := by unfold phE; rw [if_pos h, if_pos hx]
theorem pTrips (m d t s c : Int) : KnownR Try.prog [] 10 [.val (.agg #[.int .i64 m, .int .i64 d, .int .i64 t, .int .i64 s, .int .i64 c])] (.tuple #[.int .i64 (trX m d t s c), .int .i64 (ckX m d t s c)]) [] := by
 unfold trX
 by_cases h : ckX m d t s c = 0
 ·obtain ⟨h1, h2, h3, h4, h5, h6, h7⟩ := ck_all h
  rw [if_pos h, h]; exact pnT m d t s c h h1 h6
 ·rw [if_neg h]; exact pnE m d t s c h
theorem pSlots (m d t s c : Int) : KnownR Try.prog [] 12 [.val (.agg #[.int .i64 m, .int .i64 d, .int .i64 t, .int .i64 s, .int .i64 c])] (.tuple #[.int .i64 (slX m d t s c), .int .i64 (ckX m d t s c)]) [] := by
 unfold slX
 by_cases h : ckX m d t s c = 0
 ·obtain ⟨h1, h2, h3, h4, h5, h6, h7⟩ := ck_all h
  rw [if_pos h, h]; exact plS m d t s c h h5
 ·rw [if_neg h]; exact plE m d t s c h
end Go.Proofs.Ytaogbagopdlkmaa
