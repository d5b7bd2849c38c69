/- Layer 2: the lowest and the highest bit of a word, as Go's library finds them. -/
import Derived.Test.YtboobndcgilmlaaDoorEvZ7
import Derived.Test.YtboobndcgilmlaaDoorKnMaskKnown
import Derived.Test.YtboobndcgilmlaaDoorChecked
import Derived.WalkKit
import Derived.Handy
import Derived.Laws.MathBits
import Derived.Laws.Bits64b
import Derived.Lib.TrailingZeros
namespace Go.Proofs.YtboobndcgilmlaaDoor
open Go Go.RowKit
set_option linter.unusedVariables false

theorem ret_int {k : IntKind} {a b : Int} (h : a = b) : Ending.returned (.int k a) = .returned (.int k b) := by rw [h]
theorem fin8 (k : Nat) (z x : Int) (h0 : 0 ≤ x) (h1 : x < 18446744073709551616) (hz : 1 ≤ z) (hz2 : z < 256) (hk : k ≤ 56) (e : z = x / 2 ^ k) : wrap64 ((k : Int) + wrap64 (bitLen z.toNat : Nat)) = (bitLen x.toNat : Nat) := by
  have h8 := bitLen_le8 z.toNat (by omega)
  have e2 : z.toNat = x.toNat / 2 ^ k := by
    rw [e]
    obtain ⟨n, rfl⟩ := Int.eq_ofNat_of_zero_le h0
    have : ((n : Int) / 2 ^ k) = ((n / 2 ^ k : Nat) : Int) := by rw [Int.natCast_ediv]; simp
    rw [this]; rfl
  have e3 := bitLen_shift x.toNat k (by omega)
  rw [← e2] at e3
  rw [e3]
  unfold wrap64
  omega

set_option maxRecDepth 100000 in
set_option maxHeartbeats 8000000 in
theorem len_calls (x : Int) (w : World) (h0 : 0 ≤ x) (h1 : x < 18446744073709551616) : Calls Tryd.prog 39 #[.int .u64 x] w fun e w' => e = .returned (.int .i64 (bitLen x.toNat)) ∧ Below w.heap.size w w' := by
  go_enter Tryd.func39, Tryd.ntmps39
  go_wp2
  all_goals go_ret
  all_goals (refine ⟨?_, Below.refl _ _⟩; refine ret_int ?_)
  all_goals first
  | exact (congrArg (fun v : Nat => wrap64 ((56 : Int) + wrap64 (v : Int))) (len8tab_get (x / 4294967296 / 65536 / 256).toNat (show (x / 4294967296 / 65536 / 256).toNat < 256 by omega))).trans (fin8 56 (x / 4294967296 / 65536 / 256) x h0 h1 (by omega) (by omega) (by omega) (by omega))
  | exact (congrArg (fun v : Nat => wrap64 ((48 : Int) + wrap64 (v : Int))) (len8tab_get (x / 4294967296 / 65536).toNat (show (x / 4294967296 / 65536).toNat < 256 by omega))).trans (fin8 48 (x / 4294967296 / 65536) x h0 h1 (by omega) (by omega) (by omega) (by omega))
  | exact (congrArg (fun v : Nat => wrap64 ((40 : Int) + wrap64 (v : Int))) (len8tab_get (x / 4294967296 / 256).toNat (show (x / 4294967296 / 256).toNat < 256 by omega))).trans (fin8 40 (x / 4294967296 / 256) x h0 h1 (by omega) (by omega) (by omega) (by omega))
  | exact (congrArg (fun v : Nat => wrap64 ((32 : Int) + wrap64 (v : Int))) (len8tab_get (x / 4294967296).toNat (show (x / 4294967296).toNat < 256 by omega))).trans (fin8 32 (x / 4294967296) x h0 h1 (by omega) (by omega) (by omega) (by omega))
  | exact (congrArg (fun v : Nat => wrap64 ((24 : Int) + wrap64 (v : Int))) (len8tab_get (x / 65536 / 256).toNat (show (x / 65536 / 256).toNat < 256 by omega))).trans (fin8 24 (x / 65536 / 256) x h0 h1 (by omega) (by omega) (by omega) (by omega))
  | exact (congrArg (fun v : Nat => wrap64 ((16 : Int) + wrap64 (v : Int))) (len8tab_get (x / 65536).toNat (show (x / 65536).toNat < 256 by omega))).trans (fin8 16 (x / 65536) x h0 h1 (by omega) (by omega) (by omega) (by omega))
  | exact (congrArg (fun v : Nat => wrap64 ((8 : Int) + wrap64 (v : Int))) (len8tab_get (x / 256).toNat (show (x / 256).toNat < 256 by omega))).trans (fin8 8 (x / 256) x h0 h1 (by omega) (by omega) (by omega) (by omega))
  | exact (congrArg (fun v : Nat => wrap64 (wrap64 (v : Int))) (len8tab_get x.toNat (show x.toNat < 256 by omega))).trans (show wrap64 (wrap64 ((bitLen x.toNat : Nat) : Int)) = ((bitLen x.toNat : Nat) : Int) from by have h8 := bitLen_le8 x.toNat (by omega); unfold wrap64; omega)

theorem tz64_key (x a : Nat) (hx : x < 18446744073709551616) (hx0 : x ≠ 0) (hlow : x &&& (18446744073709551616 - x) = a) :
    IntKind.u64.wrap (bits BinOp.and IntKind.u64 (x : Int) (IntKind.u64.wrap (-(x : Int))) * 285870213051353865) / 288230376151711744 = ((a * 285870213051353865 % 18446744073709551616 / 288230376151711744 : Nat) : Int) := by
  have e1 : IntKind.u64.wrap (-(x : Int)) = ((18446744073709551616 - x : Nat) : Int) := by rw [IntKind.wrap_u64]; omega
  rw [e1, bits_and_u64_nat x _ hx (by omega), hlow, IntKind.wrap_u64]
  omega
theorem tab_at {w : World} (hl : LaidL knMaskKnownL w) {j : Nat} (hj : j < 64) : w.cell? ⟨0, j, none⟩ = some (.int .u8 (Lib.deBruijn64tab.getD j 0)) := by
  have e : knMaskKnownL[0]? = some (some ((Lib.deBruijn64tab.map fun n : Nat => Value.int .u8 (n : Int)).toArray, 0)) := rfl
  obtain ⟨e', fz, h⟩ := hl.2 0 _ _ e
  have hj' : j < Lib.deBruijn64tab.length := hj
  simp [World.cell?, World.cells?, h, hj']
set_option maxRecDepth 100000 in
set_option maxHeartbeats 2000000 in
theorem tz_core (x k idx : Nat) (w : World) (hx0 : ((x : Int) == 0) = false)
    (key : IntKind.u64.wrap (bits BinOp.and IntKind.u64 (x : Int) (IntKind.u64.wrap (-(x : Int))) * 285870213051353865) / 288230376151711744 = (idx : Int))
    (hi : idx < 64) (hk : k < 64) (hcell : w.cell? ⟨0, idx, none⟩ = some (.int .u8 k)) :
    Calls Tryd.prog 51 #[.int .u64 x] w fun e w' => e = .returned (.int .i64 k) ∧ w' = w := by
  go_enter Tryd.func51, Tryd.ntmps51
  go_wp2_with (simp only [key])
  go_ret
  exact ⟨rfl, rfl⟩
/-- the number of the lowest bit -/
noncomputable def tzI (x : Int) : Int := (Lib.ctz 64 x.toNat : Nat)
/-- how many bits a word needs -/
noncomputable def lenI (x : Int) : Int := (bitLen x.toNat : Nat)
theorem tz_known {x : Int} (h : 0 < x ∧ x < 18446744073709551616) : Known Tryd.prog knMaskKnownL 51 [.int .u64 x] (.int .i64 (tzI x)) := by
  refine ⟨rfl, rfl, fun w hl => ?_⟩
  obtain ⟨n, rfl⟩ := Int.eq_ofNat_of_zero_le (by omega : 0 ≤ x)
  obtain ⟨hlow, hk⟩ := Lib.lowest_bit 64 n (by omega) (by omega)
  obtain ⟨hi, htab⟩ := Lib.deBruijn64_at _ hk
  have hc := tab_at hl hi
  rw [htab] at hc
  have := tz_core n _ _ w (by simp; omega) (tz64_key n _ (by omega) (by omega) hlow) hi hk hc
  unfold tzI
  refine Calls.mono this ?_
  rintro e w' ⟨rfl, rfl⟩
  exact ⟨rfl, Below.refl _ _⟩
theorem len_known {x : Int} (h : 0 ≤ x ∧ x < 18446744073709551616) : Known Tryd.prog knMaskKnownL 39 [.int .u64 x] (.int .i64 (lenI x)) :=
  ⟨rfl, rfl, fun w hl => len_calls x w h.1 h.2⟩
end Go.Proofs.YtboobndcgilmlaaDoor
