import Derived.Test.YtaogbagopdlkmaaPQ
import Derived.Test.YtaogbagopdlkmaaOgI
set_option linter.unusedVariables false
namespace Go.Proofs.Ytaogbagopdlkmaa
open Go Go.RowKit
def coV (m d t s x y k : Int) : Int := cntK m d s (trN m t s).toNat k y - cntK m d s (trN m t s).toNat k x
theorem ws_in {m d k : Int} (hm : 1 ≤ m ∧ m ≤ 200000) (hd : 1 ≤ d ∧ d ≤ 200000) (N : Nat) (hN : N ≤ 16) : 0 ≤ wsK m d N k ∧ wsK m d N k ≤ 7000000 := by
 have := sum_in (k := k) hm hd N (2 * N + 3) (Nat.le_refl _)
 unfold wsK; omega
theorem bs_in {m d k u : Int} (hm : 1 ≤ m ∧ m ≤ 200000) (hd : 1 ≤ d ∧ d ≤ 200000) (N : Nat) (hN : N ≤ 16) : 0 ≤ bsK m d N k u ∧ bsK m d N k u ≤ 7000000 := by
 have := bsum_in (k := k) (u := u) hm hd N (2 * N + 3) (Nat.le_refl _)
 unfold bsK; omega
theorem cnt_in {m d s k x : Int} (hm : 1 ≤ m ∧ m ≤ 200000) (hd : 1 ≤ d ∧ d ≤ 200000) (N : Nat) (hN : N ≤ 16) (hx : 0 ≤ x) (hx2 : x ≤ 1000000) (hs : 1 ≤ s) : (0 ≤ x / s ∧ x / s ≤ 1000000) ∧ (0 ≤ wsK m d N k * (x / s) ∧ wsK m d N k * (x / s) ≤ 7000000000000) := by
 have h1 := ws_in (k := k) hm hd N hN
 have q0 : 0 ≤ x / s := Int.ediv_nonneg hx (by omega)
 have q1 : x / s ≤ x := Int.ediv_le_self _ hx
 refine ⟨⟨q0, by omega⟩, Int.mul_nonneg h1.1 q0, ?_⟩
 have := Int.mul_le_mul h1.2 (show x / s ≤ 1000000 by omega) q0 (by omega)
 omega
theorem pCount (m d t s c x y k : Int) (h : ckX m d t s c = 0) (hx : 0 ≤ x) (hxy : x ≤ y) (hy : y ≤ 1000000) (hk : 1 ≤ k ∧ k ≤ 5) : KnownR Try.prog [] 29 [.val (.agg #[.int .i64 m, .int .i64 d, .int .i64 t, .int .i64 s, .int .i64 c]), .val (.int .i64 x), .val (.int .i64 y), .val (.int .i64 k)] (.tuple #[.int .i64 (coV m d t s x y k), .int .i64 0]) [] := by
 obtain ⟨h1, h2, h3, h4, h5, h6, h7⟩ := ck_all h
 obtain ⟨N, hN⟩ : ∃ N : Nat, trN m t s = N := ⟨(trN m t s).toNat, by omega⟩
 have hN2 : N ≤ 16 := by omega
 have hsl := slot_len (d := d) hN (by omega) h3
 have hb0 := nmul (n := N) (t := m + d) (by omega) (by omega) (by omega)
 have w1 := w8n (n := m + N * (m + d) + m) (by omega) (by omega)
 have w2 := w8n (n := m + N * (m + d) + m + d) (by omega) (by omega)
 have hW : IntKind.i64.wrap (IntKind.i64.wrap (m + N * (m + d) + m) + d) = s := by rw [w1, w2, hsl]
 have hz : (pts m d N (2 * N + 1)).reverse.length ≤ 33 := by rw [List.length_reverse, pts_len]; omega
 have hk1 : (ckX m d t s c != (0 : Int)) = false := by rw [h]; rfl
 have hs1 : 1 ≤ IntKind.i64.wrap (IntKind.i64.wrap (m + N * (m + d) + m) + d) := by rw [hW]; exact h5.1
 have hy2 : y ≤ 1099511627776 := by omega
 have ux0 := Int.emod_nonneg x (b := s) (by omega)
 have ux1 := Int.emod_lt_of_pos x (b := s) (by omega)
 have uy0 := Int.emod_nonneg y (b := s) (by omega)
 have uy1 := Int.emod_lt_of_pos y (b := s) (by omega)
 have hD := coD_ok m d t s c x y k h h1 h2 h6 h4 (N + 1) 0 _ (by rw [coD_eq m d t s c x y k 0]; exact ofD_all h1 h2 hN hN2)
 dsimp only at hD
 have hA := coA_ok m d t s c x y k (pts m d N (2 * N + 1)).reverse (N : Int) (m + N * (m + d)) h h1 h2 h6 h4 hz hs1 hk hx hxy hy2 hk1 hD (2 * N + 3 + 1) 0 _ (coA_go (N : Int) h1 h2 hN2 (2 * N + 3) 0 (by omega))
 dsimp only at hA
 have a4 : (decide (((pts m d N (2 * N + 1)).reverse.length + (1 : Nat)) * (32 : Nat) < (1000000000 : Nat))) = true := decide_eq_true (by omega)
 have a7 : (decide (((pts m d N (2 * N + 1)).reverse.length + (1 : Nat) + (1 : Nat)) * (32 : Nat) < (1000000000 : Nat))) = true := decide_eq_true (by omega)
 have a11 : (decide (k ≥ (1 : Int))) = true := decide_eq_true hk.1
 have a14 : (!decide (k ≤ (5 : Int))) = false := by rw [decide_eq_true hk.2]; rfl
 have a15 : (decide (x < (0 : Int))) = false := decide_eq_false (by omega)
 have a19 : (decide (x > y)) = false := decide_eq_false (by omega)
 have a22 : (decide (y > (1099511627776 : Int))) = false := decide_eq_false (by omega)
 have hq : (IntKind.i64.wrap (IntKind.i64.wrap (m + N * (m + d) + m) + d) == (0 : Int)) = false := by rw [hW]; exact beq_eq_false_iff_ne.2 (by omega)
 have hB := coB_ok m d t s c x y k (pts m d N (2 * N + 1)).reverse (N : Int) (m + N * (m + d)) (wsK m d N k) ((2 * N + 3 : Nat) : Int) h h1 h2 h6 h4 hz hs1 hk hx hxy hy2 hk1 hD a4 a7 a11 a14 a15 a19 a22 hq hA (2 * N + 3 + 1) 0 _
  (coB_go (u := y % s) (N : Int) (wsK m d N k) ((2 * N + 3 : Nat) : Int) h1 h2 hN2 hsl (Int.tmod_eq_emod_of_nonneg (by omega)) ⟨uy0, by omega⟩ (2 * N + 3) 0 (by omega))
 dsimp only at hB
 have hC := coC_ok m d t s c x y k (pts m d N (2 * N + 1)).reverse (N : Int) (m + N * (m + d)) (wsK m d N k) ((2 * N + 3 : Nat) : Int) (bsK m d N k (y % s)) ((2 * N + 3 : Nat) : Int) h h1 h2 h6 h4 hz hs1 hk hx hxy hy2 hk1 hD a4 a7 a11 a14 a15 a19 a22 hq hA hq hB (2 * N + 3 + 1) 0 _
  (coC_go (N : Int) (wsK m d N k) ((2 * N + 3 : Nat) : Int) (bsK m d N k (y % s)) ((2 * N + 3 : Nat) : Int) h1 h2 hN2 (2 * N + 3) 0 (by omega))
 dsimp only at hC
 have hF := coF_ok m d t s c x y k (pts m d N (2 * N + 1)).reverse (N : Int) (m + N * (m + d)) (wsK m d N k) ((2 * N + 3 : Nat) : Int) (bsK m d N k (y % s)) ((2 * N + 3 : Nat) : Int) (wsK m d N k) ((2 * N + 3 : Nat) : Int) h h1 h2 h6 h4 hz hs1 hk hx hxy hy2 hk1 hD a4 a7 a11 a14 a15 a19 a22 hq hA hq hB hq hC (2 * N + 3 + 1) 0 _
  (coF_go (u := x % s) (N : Int) (wsK m d N k) ((2 * N + 3 : Nat) : Int) (bsK m d N k (y % s)) ((2 * N + 3 : Nat) : Int) (wsK m d N k) ((2 * N + 3 : Nat) : Int) h1 h2 hN2 hsl (Int.tmod_eq_emod_of_nonneg hx) ⟨ux0, by omega⟩ (2 * N + 3) 0 (by omega))
 dsimp only at hF
 have kk := coT m d t s c x y k (pts m d N (2 * N + 1)).reverse (N : Int) (m + N * (m + d)) (wsK m d N k) ((2 * N + 3 : Nat) : Int) (bsK m d N k (y % s)) ((2 * N + 3 : Nat) : Int) (wsK m d N k) ((2 * N + 3 : Nat) : Int) (bsK m d N k (x % s)) ((2 * N + 3 : Nat) : Int) h h1 h2 h6 h4 hz hs1 hk hx hxy hy2 hk1 hD a4 a7 a11 a14 a15 a19 a22 hq hA hq hB hq hC hq hF
 have e0 : coT_c0 m d t s c x y k (pts m d N (2 * N + 1)).reverse (N : Int) (m + N * (m + d)) (wsK m d N k) ((2 * N + 3 : Nat) : Int) (bsK m d N k (y % s)) ((2 * N + 3 : Nat) : Int) (wsK m d N k) ((2 * N + 3 : Nat) : Int) (bsK m d N k (x % s)) ((2 * N + 3 : Nat) : Int) = coV m d t s x y k := by
  have iy := cnt_in (k := k) h1 h2 N hN2 (x := y) (s := s) (by omega) hy h5.1
  have ix := cnt_in (k := k) h1 h2 N hN2 (x := x) (s := s) hx (by omega) h5.1
  have by_ := bs_in (k := k) (u := y % s) h1 h2 N hN2
  have bx_ := bs_in (k := k) (u := x % s) h1 h2 N hN2
  unfold coT_c0 coV cntK
  rw [hN, Int.toNat_natCast, hW, Int.tdiv_eq_ediv_of_nonneg (show 0 ≤ y by omega), Int.tdiv_eq_ediv_of_nonneg hx, w8n (n := y / s) (by omega) (by omega), w8n (n := x / s) (by omega) (by omega), w8n (n := wsK m d N k * (y / s)) (by omega) (by omega), w8n (n := wsK m d N k * (x / s)) (by omega) (by omega), w8n (n := wsK m d N k * (y / s) + bsK m d N k (y % s)) (by omega) (by omega), w8n (n := wsK m d N k * (x / s) + bsK m d N k (x % s)) (by omega) (by omega), w8n (by omega) (by omega)]
 rw [e0] at kk
 exact kk
theorem pLen (m d t s c k : Int) (h : ckX m d t s c = 0) (hk : 1 ≤ k ∧ k ≤ 5) : KnownR Try.prog [] 25 [.val (.agg #[.int .i64 m, .int .i64 d, .int .i64 t, .int .i64 s, .int .i64 c]), .val (.int .i64 k)] (.tuple #[.int .i64 (tkL m d k), .int .i64 0]) [] := by
 have g := plT m d t s c k
 have e0 : plT_c0 m d t s c k = tkL m d k := by
  unfold plT_c0 tkL
  rw [show (ckX m d t s c != 0) = false by simpa using h, cond_false]
  rcases (by omega : k = 1 ∨ k = 2 ∨ k = 3 ∨ k = 4 ∨ k = 5) with rfl | rfl | rfl | rfl | rfl <;> simp
 have e1 : plT_c1 m d t s c k = 0 := by
  unfold plT_c1
  rw [show (ckX m d t s c != 0) = false by simpa using h, cond_false]
  rcases (by omega : k = 1 ∨ k = 2 ∨ k = 3 ∨ k = 4 ∨ k = 5) with rfl | rfl | rfl | rfl | rfl <;> simp
 rw [e0, e1] at g
 exact g
end Go.Proofs.Ytaogbagopdlkmaa
