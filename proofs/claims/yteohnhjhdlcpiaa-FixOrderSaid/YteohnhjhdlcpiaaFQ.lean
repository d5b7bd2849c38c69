/- Layer 1: how many bits a number has; the shift that fills a word. -/
import Derived.Test.YteohnhjhdlcpiaaKit2
import Derived.Laws.MathBits
namespace Go.Proofs.Yteohnhjhdlcpiaa
open Go.RowKit
set_option linter.unusedVariables false

theorem fin8 (k : Nat) (z x : Int) (h0 : 0 ≤ x) (h1 : x < 18446744073709551616) (hz : 1 ≤ z) (hz2 : z < 256) (hk : k ≤ 56) (e : z = x / 2 ^ k) : wrap64 ((k : Int) + wrap64 (bitLen z.toNat : Nat)) = (bitLen x.toNat : Nat) := by
  have h8 := bitLen_le8 z.toNat (by omega)
  have e2 : z.toNat = x.toNat / 2 ^ k := by
    rw [e]
    obtain ⟨n, rfl⟩ := Int.eq_ofNat_of_zero_le h0
    have : ((n : Int) / 2 ^ k) = ((n / 2 ^ k : Nat) : Int) := by rw [Int.natCast_ediv]; simp
    rw [this]; rfl
  have e3 := bitLen_shift x.toNat k (by omega)
  rw [← e2] at e3
  rw [e3]
  unfold wrap64
  omega

set_option maxRecDepth 100000 in
set_option maxHeartbeats 8000000 in
theorem plenA (x : Int) (w : World) (h0 : 0 ≤ x) (h1 : x < 18446744073709551616) : Calls Try.prog 65 #[.int .u64 x] w fun e w' => e = .returned (.int .i64 (bitLen x.toNat)) ∧ Below w.heap.size w w' := by
  go_enter Try.func65, Try.ntmps65
  go_wp2
  all_goals go_ret
  all_goals (refine ⟨?_, (by repeat (first | exact Below.refl _ _ | apply keep_alloc | apply keep_drew | apply keep_drewN | refine keep_step (by assumption) ?_ (by rfl) | refine keep_set ?_ _ _ (by first | exact Nat.le_refl _ | (show _ ≤ _; simp; done) | (show _ ≤ _; simp; omega))))⟩; refine ret_int ?_)
  all_goals first
  | exact (congrArg (fun v : Nat => wrap64 ((56 : Int) + wrap64 (v : Int))) (len8tab_get (x / 4294967296 / 65536 / 256).toNat (show (x / 4294967296 / 65536 / 256).toNat < 256 by omega))).trans (fin8 56 (x / 4294967296 / 65536 / 256) x h0 h1 (by omega) (by omega) (by omega) (by omega))
  | exact (congrArg (fun v : Nat => wrap64 ((48 : Int) + wrap64 (v : Int))) (len8tab_get (x / 4294967296 / 65536).toNat (show (x / 4294967296 / 65536).toNat < 256 by omega))).trans (fin8 48 (x / 4294967296 / 65536) x h0 h1 (by omega) (by omega) (by omega) (by omega))
  | exact (congrArg (fun v : Nat => wrap64 ((40 : Int) + wrap64 (v : Int))) (len8tab_get (x / 4294967296 / 256).toNat (show (x / 4294967296 / 256).toNat < 256 by omega))).trans (fin8 40 (x / 4294967296 / 256) x h0 h1 (by omega) (by omega) (by omega) (by omega))
  | exact (congrArg (fun v : Nat => wrap64 ((32 : Int) + wrap64 (v : Int))) (len8tab_get (x / 4294967296).toNat (show (x / 4294967296).toNat < 256 by omega))).trans (fin8 32 (x / 4294967296) x h0 h1 (by omega) (by omega) (by omega) (by omega))
  | exact (congrArg (fun v : Nat => wrap64 ((24 : Int) + wrap64 (v : Int))) (len8tab_get (x / 65536 / 256).toNat (show (x / 65536 / 256).toNat < 256 by omega))).trans (fin8 24 (x / 65536 / 256) x h0 h1 (by omega) (by omega) (by omega) (by omega))
  | exact (congrArg (fun v : Nat => wrap64 ((16 : Int) + wrap64 (v : Int))) (len8tab_get (x / 65536).toNat (show (x / 65536).toNat < 256 by omega))).trans (fin8 16 (x / 65536) x h0 h1 (by omega) (by omega) (by omega) (by omega))
  | exact (congrArg (fun v : Nat => wrap64 ((8 : Int) + wrap64 (v : Int))) (len8tab_get (x / 256).toNat (show (x / 256).toNat < 256 by omega))).trans (fin8 8 (x / 256) x h0 h1 (by omega) (by omega) (by omega) (by omega))
  | exact (congrArg (fun v : Nat => wrap64 (wrap64 (v : Int))) (len8tab_get x.toNat (show x.toNat < 256 by omega))).trans (show wrap64 (wrap64 ((bitLen x.toNat : Nat) : Int)) = ((bitLen x.toNat : Nat) : Int) from by have h8 := bitLen_le8 x.toNat (by omega); unfold wrap64; omega)
end Go.Proofs.Yteohnhjhdlcpiaa
