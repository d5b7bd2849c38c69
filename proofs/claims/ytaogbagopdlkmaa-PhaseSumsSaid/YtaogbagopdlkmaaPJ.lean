import Derived.Test.YtaogbagopdlkmaaOgQ
import Derived.Test.YtaogbagopdlkmaaPC
set_option linter.unusedVariables false
namespace Go.Proofs.Ytaogbagopdlkmaa
open Go Go.RowKit
def mM (n : Int) : Int := 1 + n % 1073741824 % 9
def mD (n : Int) : Int := 1 + n % 1073741824 / 9 % 7
def mN (n : Int) : Int := 1 + n % 1073741824 / 63 % 4
def mK (n : Int) : Int := 1 + n % 1073741824 / 252 % 5
def mT (n : Int) : Int := mM n + mD n
def mS (n : Int) : Int := mM n + (mN n + 1) * mT n
def mC (n : Int) : Int := mK n * mS n
theorem m_in (n : Int) : (1 ≤ mM n ∧ mM n ≤ 9) ∧ (1 ≤ mD n ∧ mD n ≤ 7) ∧ (1 ≤ mN n ∧ mN n ≤ 4) ∧ (1 ≤ mK n ∧ mK n ≤ 5) := by
 unfold mM mD mN mK; omega
theorem mS_in (n : Int) : 1 ≤ mS n ∧ mS n ≤ 89 ∧ (mN n + 1) * mT n ≤ 80 ∧ 0 ≤ (mN n + 1) * mT n := by
 obtain ⟨h1, h2, h3, h4⟩ := m_in n
 have := mul_low (n := mN n + 1) (t := mT n) (a := 5) (b := 16) (by omega) (by omega) (by unfold mT; omega) (by unfold mT; omega)
 unfold mS
 omega
theorem mC_in (n : Int) : mS n ≤ mC n ∧ mC n ≤ 445 := by
 obtain ⟨h1, h2, h3, h4⟩ := m_in n
 have hs := mS_in n
 have := mul_low (n := mK n) (t := mS n) (a := 5) (b := 89) (by omega) (by omega) (by omega) (by omega)
 have : 1 * mS n ≤ mK n * mS n := Int.mul_le_mul_of_nonneg_right (by omega) (by omega)
 unfold mC
 omega
theorem made_is (n : Int) : KnownR Try.prog [] 35 [.val (.int .i64 n)] (.tuple #[.agg #[.int .i64 (mM n), .int .i64 (mD n), .int .i64 (mT n), .int .i64 (mS n), .int .i64 (mC n)], .int .i64 (mN n), .int .i64 (mK n)]) [] := by
 obtain ⟨h1, h2, h3, h4⟩ := m_in n
 have hs := mS_in n
 have hc := mC_in n
 have k0 := Int.emod_nonneg n (b := 1073741824) (by omega)
 have k1 := Int.emod_lt_of_pos n (b := 1073741824) (by omega)
 have q : ∀ z : Int, 0 ≤ z → z ≤ 1000 → IntKind.i64.wrap z = z := fun z a b => w8n (by omega) (by omega)
 have d : ∀ z : Int, 1 ≤ z → IntKind.i64.wrap ((n % 1073741824).tdiv z) = n % 1073741824 / z := fun z hz => by
  have := Int.ediv_le_self z k0
  have := Int.ediv_nonneg k0 (show 0 ≤ z by omega)
  rw [Int.tdiv_eq_ediv_of_nonneg k0, w8n (by omega) (by omega)]
 have d0 : ∀ z : Int, 1 ≤ z → 0 ≤ n % 1073741824 / z := fun z hz => Int.ediv_nonneg k0 (by omega)
 have e0 : mdT_c0 n = mM n := by
  unfold mdT_c0; rw [Int.tmod_eq_emod_of_nonneg k0]; exact q _ (by unfold mM at h1; omega) (by unfold mM at h1; omega)
 have e1 : mdT_c1 n = mD n := by
  unfold mdT_c1; rw [d 9 (by omega), Int.tmod_eq_emod_of_nonneg (d0 9 (by omega))]; exact q _ (by unfold mD at h2; omega) (by unfold mD at h2; omega)
 have e5 : mdT_c5 n = mN n := by
  unfold mdT_c5; rw [d 63 (by omega), Int.tmod_eq_emod_of_nonneg (d0 63 (by omega))]; exact q _ (by unfold mN at h3; omega) (by unfold mN at h3; omega)
 have e6 : mdT_c6 n = mK n := by
  unfold mdT_c6; rw [d 252 (by omega), Int.tmod_eq_emod_of_nonneg (d0 252 (by omega))]; exact q _ (by unfold mK at h4; omega) (by unfold mK at h4; omega)
 have e2 : mdT_c2 n = mT n := by
  show IntKind.i64.wrap (mdT_c0 n + mdT_c1 n) = _
  rw [e0, e1, q _ (by omega) (by omega)]; rfl
 have e3 : mdT_c3 n = mS n := by
  show IntKind.i64.wrap (mdT_c0 n + IntKind.i64.wrap (IntKind.i64.wrap (mdT_c5 n + 1) * mdT_c2 n)) = _
  rw [e0, e5, e2, q (mN n + 1) (by omega) (by omega), q ((mN n + 1) * mT n) (by omega) (by omega), q _ (by omega) (by omega)]; rfl
 have e4 : mdT_c4 n = mC n := by
  show IntKind.i64.wrap (mdT_c6 n * mdT_c3 n) = _
  rw [e6, e3]; exact q _ (by unfold mC at hc; omega) (by unfold mC at hc; omega)
 have k := mdT n
 rw [e0, e1, e2, e3, e4, e5, e6] at k
 exact k
end Go.Proofs.Ytaogbagopdlkmaa
