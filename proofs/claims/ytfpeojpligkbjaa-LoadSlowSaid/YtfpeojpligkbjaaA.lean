/- Layer 11, functions without loops. -/
import Derived.Test.YtfpeojpligkbjaaKit2
namespace Go.Proofs.Ytfpeojpligkbjaa
open Go.RowKit
set_option linter.unusedVariables false

def chk (e f s : Int) : Int := if e < 0 ∨ s < 0 ∨ 10000 < f then 2 else if f < 0 ∨ 10000 < e ∨ 10000 < s ∨ f - s ≤ e + s then 8 else 0
def chl (e f s n : Int) : Int := if chk e f s = 0 then if n < 0 ∨ 10000 < n then 2 else 0 else chk e f s
def bnd (e f s n : Int) : Int := if n ≤ e then 1 else if n ≤ f then 2 else 3
def hld (e f s was n : Int) : Int := if was = 1 ∧ n ≤ e + s then 1 else if was = 3 ∧ f - s < n then 3 else bnd e f s n

theorem pchk (e f s : Int) (w : World) (he : In64 e) (hf : In64 f) (hs : In64 s) :
    Calls Try.prog 15 #[(.agg #[.int .i64 e, .int .i64 f, .int .i64 s])] w fun x w' => x = .returned (.int .i64 (chk e f s)) ∧ Below w.heap.size w w' := by
  obtain ⟨he1, he2⟩ := he
  obtain ⟨hf1, hf2⟩ := hf
  obtain ⟨hs1, hs2⟩ := hs
  go_enter Try.func15, Try.ntmps15
  go_wp2
  all_goals go_ret
  all_goals (refine ⟨ret_int ?_, (by repeat (first | exact Below.refl _ _ | apply keep_alloc | apply keep_drew | apply keep_drewN | refine keep_step (by assumption) ?_ (by rfl)))⟩)
  all_goals (simp only [chk])
  all_goals omega

theorem rchk (e f s : Int) (w : World) (he : In64 e) (hf : In64 f) (hs : In64 s) :
    Calls Try.prog 16 #[(.agg #[.int .i64 e, .int .i64 f, .int .i64 s])] w fun x w' => x = .returned (.int .i64 (chk e f s)) ∧ Below w.heap.size w w' := by
  obtain ⟨he1, he2⟩ := he
  obtain ⟨hf1, hf2⟩ := hf
  obtain ⟨hs1, hs2⟩ := hs
  go_enter Try.func16, Try.ntmps16
  go_wp2
  all_goals go_ret
  all_goals (refine ⟨ret_int ?_, (by repeat (first | exact Below.refl _ _ | apply keep_alloc | apply keep_drew | apply keep_drewN | refine keep_step (by assumption) ?_ (by rfl)))⟩)
  all_goals (simp only [chk])
  all_goals omega

end Go.Proofs.Ytfpeojpligkbjaa
