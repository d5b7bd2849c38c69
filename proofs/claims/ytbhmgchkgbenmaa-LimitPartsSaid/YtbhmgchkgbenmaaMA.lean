import Derived.Test.YtbhmgchkgbenmaaOgZ
set_option linter.unusedVariables false
namespace Go.Proofs.Ytbhmgchkgbenmaa
open Go Go.RowKit
def mkM (n : Int) : Mv :=
 bif ((IntKind.i64.wrap ((n % (1048576 : Int)).tdiv (1200 : Int))).tmod (4 : Int) == (0 : Int)) then
  (IntKind.i64.wrap ((n % (1048576 : Int)).tmod (25 : Int) - (2 : Int)), (IntKind.i64.wrap ((n % (1048576 : Int)).tdiv (25 : Int))).tmod (6 : Int), (IntKind.i64.wrap ((n % (1048576 : Int)).tdiv (150 : Int))).tmod (2 : Int) == (0 : Int), (IntKind.i64.wrap ((n % (1048576 : Int)).tdiv (300 : Int))).tmod (4 : Int) == (0 : Int), (IntKind.i64.wrap ((n % (1048576 : Int)).tdiv (4800 : Int))).tmod (3 : Int))
 else (IntKind.i64.wrap ((n % (1048576 : Int)).tmod (25 : Int) - (2 : Int)), (IntKind.i64.wrap ((n % (1048576 : Int)).tdiv (25 : Int))).tmod (6 : Int), (IntKind.i64.wrap ((n % (1048576 : Int)).tdiv (150 : Int))).tmod (2 : Int) == (0 : Int), (IntKind.i64.wrap ((n % (1048576 : Int)).tdiv (300 : Int))).tmod (4 : Int) == (0 : Int), (0 : Int))
def OkT (m : Mv) : Prop := (-2 ≤ m.1 ∧ m.1 ≤ 22) ∧ (0 ≤ m.2.1 ∧ m.2.1 ≤ 5) ∧ 0 ≤ m.2.2.2.2 ∧ m.2.2.2.2 ≤ 2
theorem td {x k : Int} (hx : 0 ≤ x ∧ x ≤ 1048576) (hk : 1 ≤ k) : IntKind.i64.wrap (x.tdiv k) = x / k ∧ 0 ≤ x / k := by
 rw [Int.tdiv_eq_ediv_of_nonneg hx.1]
 have h1 : 0 ≤ x / k := Int.ediv_nonneg hx.1 (by omega)
 have h2 : x / k ≤ x := Int.ediv_le_self _ hx.1
 exact ⟨w8n (by omega) (by omega), h1⟩
theorem mkM_ok (n : Int) : OkT (mkM n) := by
 have b0 := Int.emod_nonneg n (by decide : (1048576 : Int) ≠ 0)
 have b1 := Int.emod_lt_of_pos n (by decide : (0 : Int) < 1048576)
 unfold mkM
 revert b0 b1
 generalize n % (1048576 : Int) = x
 intro b0 b1
 obtain ⟨e1, f1⟩ := td (x := x) (k := 25) ⟨b0, by omega⟩ (by decide)
 obtain ⟨e2, f2⟩ := td (x := x) (k := 4800) ⟨b0, by omega⟩ (by decide)
 have g0 : x.tmod 25 = x % 25 := Int.tmod_eq_emod_of_nonneg b0
 have g1 : (x / 25).tmod 6 = x / 25 % 6 := Int.tmod_eq_emod_of_nonneg f1
 have g2 : (x / 4800).tmod 3 = x / 4800 % 3 := Int.tmod_eq_emod_of_nonneg f2
 rw [e1, e2, g0, g1, g2, w8n (n := x % 25 - 2) (by omega) (by omega)]
 generalize ((IntKind.i64.wrap (x.tdiv (1200 : Int))).tmod (4 : Int) == (0 : Int)) = c
 cases c with
 | true => exact ⟨⟨by show -2 ≤ x % 25 - 2; omega, by show x % 25 - 2 ≤ 22; omega⟩, ⟨by show 0 ≤ x / 25 % 6; omega, by show x / 25 % 6 ≤ 5; omega⟩, by show 0 ≤ x / 4800 % 3; omega, by show x / 4800 % 3 ≤ 2; omega⟩
 | false => exact ⟨⟨by show -2 ≤ x % 25 - 2; omega, by show x % 25 - 2 ≤ 22; omega⟩, ⟨by show 0 ≤ x / 25 % 6; omega, by show x / 25 % 6 ≤ 5; omega⟩, by show (0 : Int) ≤ 0; omega, by show (0 : Int) ≤ 2; omega⟩
def mdL (xs : List Int) : List Mv := (xs.take 30).map mkM
theorem md_len {xs : List Int} : (mdL xs).length ≤ 30 := by unfold mdL; simp; omega
theorem md_ok {xs : List Int} : ∀ m ∈ mdL xs, OkT m := by
 intro m h
 unfold mdL at h
 obtain ⟨n, _, rfl⟩ := List.mem_map.1 h
 exact mkM_ok n
theorem mdA_go {xs : List Int} : ∀ (k i : Nat) (y : List Mv), i + k = (xs.take 30).length → y.length ≤ i →
  ∃ z, mdA_f xs (k + 1) y (i : Int) = some (0, ((((xs.take 30).drop i).map mkM).reverse ++ y, z)) := by
 have hl : (xs.take 30).length = min 30 xs.length := by simp
 intro k
 induction k with
 | zero =>
  intro i y h hy
  refine ⟨(i : Int), ?_⟩
  rw [mdA_fs, bif_dT (by omega), List.drop_of_length_le (by omega)]
  by_cases hx : (i : Int) < (xs.length : Int)
  ·rw [bif_dT hx, bif_dF (by omega)]; rfl
  ·rw [bif_dF hx]; rfl
 | succ k ih =>
  intro i y h hy
  rw [mdA_fs, bif_dT (by omega), bif_dT (by omega), bif_dT (by omega), w8n (n := (i : Int) + 1) (by omega) (by omega), show (i : Int) + 1 = ((i + 1 : Nat) : Int) by omega]
  obtain ⟨z, hz⟩ := ih (i + 1) (mkM (el xs (i : Int)) :: y) (by omega) (by simp only [List.length_cons]; omega)
  refine ⟨z, ?_⟩
  have hd : (xs.take 30).drop i = el xs (i : Int) :: (xs.take 30).drop (i + 1) := by
   have := el_drop (l := xs.take 30) (i := i) (by omega)
   rw [this]
   congr 1
   unfold el
   simp only [Int.toNat_natCast, List.getD, List.getElem?_take]
   rw [if_pos (by omega)]
  rw [hd, List.map_cons, List.reverse_cons, List.append_assoc]
  refine Eq.trans ?_ hz
  unfold mkM
  generalize ((IntKind.i64.wrap ((el xs (i : Int) % (1048576 : Int)).tdiv (1200 : Int))).tmod (4 : Int) == (0 : Int)) = c
  cases c <;> rfl
theorem made_is (xs : List Int) : KnownR Try.prog [] 31 [.list (rowA gI xs) xs.length] (.complex .f64 0 (mdL xs).length) [(rowA gM (mdL xs), 38)] := by
 obtain ⟨z, hz⟩ := mdA_go (xs := xs) (xs.take 30).length 0 [] (by omega) (by simp)
 rw [List.drop_zero, List.append_nil] at hz
 have r := md0 xs _ _ (mdA_ok xs _ _ _ hz)
 have e : ((xs.take 30).map mkM).reverse.reverse = mdL xs := List.reverse_reverse _
 simp only [md0_c0, e] at r
 exact r
end Go.Proofs.Ytbhmgchkgbenmaa
