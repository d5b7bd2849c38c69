import Derived.Test.YtcjlidciniiofaaSO
import Derived.Test.YtcjlidciniiofaaLU
import Derived.Test.YtcjlidciniiofaaFrL
set_option linter.unusedSimpArgs false
set_option linter.unusedVariables false
namespace Go.Proofs.Ytcjlidciniiofaa
open Go Go.RowKit
theorem ints_in {w : World} {gs : List Int} {n cap : Nat} {x : Option Addr} (h : ListIn w (rowA gI gs) n x cap) : Ints w x gs := by
 have hs : (rowA gI gs).size = gs.length := by rw [rowA_size (k := 1) (fun a => rfl)]; omega
 rcases h with ⟨h1, _⟩ | ⟨_, _, _, r, off, c', e', fz, rfl, hh, hle, _, hc⟩
 ·exact .inl (by omega)
 ·refine .inr ⟨r, off, rfl, fun i hi => ?_⟩
  have hv : (rowA gI gs)[i]? = some (.int .i64 (nth gs i)) := by
   have f := flat_get (g := gI) (k := 1) (fun a => rfl) (l := gs) (i := i) (r := 0) (m := gs[i]) (by simp [hi]) (by omega)
   rw [rowA_eq]
   simp only [Nat.mul_one, Nat.add_zero] at f
   simp only [List.getElem?_toArray] at f ⊢
   rw [f, nth_eq hi]; rfl
  have := hc i _ hv
  simp [World.cell?, hh, this]
theorem rowsAt_nil {P : Program} {lo : Nat} {w : World} : RowsAt P lo (fun _ => none) [] w :=
 ⟨fun j => by simp, fun j c e h => by simp at h, fun i j c e c' e' r κ κ' h => by simp at h⟩
theorem knownR_two {L : Vars} {f : FuncId} {gs : List Int} {ds : List D} {vs : List Value} {a b : Int} (hv : ∀ w l, DIns w ds l → l = vs)
  (h : ∀ (A : Option Addr) (n cap : Nat) (w : World), gs.length = n → Ints w A gs → Calls Try.prog f (.slice A n cap :: vs).toArray w fun e w' => e = .returned (.tuple #[.int .i64 a, .int .i64 b]) ∧ Below w.heap.size w w') :
  KnownR Try.prog L f (.list (rowA gI gs) gs.length :: ds) (.tuple #[.int .i64 a, .int .i64 b]) [] := by
 intro w args' hl hd
 cases hd with
 | cons h1 h2 =>
  cases h1 with
  | list hi =>
   have := hv w _ h2
   subst this
   exact (h _ _ _ w rfl (ints_in hi)).mono fun e w' ⟨h1, h2⟩ => ⟨_, fun _ => none, h1, h2, flat_rel 20 _ rfl, rowsAt_nil⟩
theorem dins_nil {w : World} {l : List Value} (h : DIns w [] l) : l = [] := by cases h; rfl
section
variable {L : Vars} (gs : List Int) (hx : gs.length ≤ 1000)
include hx
theorem height_p : KnownR Try.prog L 22 [.list (rowA gI gs) gs.length] (.tuple #[.int .i64 (htV gs), .int .i64 (ckE gs)]) [] :=
 knownR_two (fun _ _ => dins_nil) fun A n cap w hn hA => pHeight gs A n cap w hn (by omega) hA
end
theorem ht_range (gs : List Int) : 0 ≤ htV gs ∧ htV gs ≤ 63000 := by
 by_cases h : ckE gs = 0
 ·rw [htV_ok h]
  have f := fine_of h
  have := pos_low f gs.length (Nat.le_refl _)
  have := f.2.1
  omega
 ·rw [htV_bad h]; omega
end Go.Proofs.Ytcjlidciniiofaa
