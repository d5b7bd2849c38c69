/- Layer 5: RingFinds, out of its contract. -/
import Derived.Test.YtpmcjjpgkoagoaaOpU
import Derived.Test.YtpmcjjpgkoagoaaOpV
import Derived.Test.YtpmcjjpgkoagoaaOpW
import Derived.Test.YtpmcjjpgkoagoaaFrL
namespace Go.Proofs.Ytpmcjjpgkoagoaa
open Go Go.RowKit
set_option linter.unusedVariables false
def In64 (n : Int) : Prop := -9223372036854775808 ≤ n ∧ n ≤ 9223372036854775807
theorem bqF {a b : Int} (h : a ≠ b) : (a == b) = false := by simpa using h
theorem bnF {a b : Int} (h : a = b) : (a != b) = false := by simp [h]
theorem cut_none {m : Int} {l : List (Int × Int)} (h : RS m l) {i : Nat} (hi : i < l.length) : ∀ a ∈ cutF l i, (a.1 == (el l (i : Int)).1) = false := by
  have e : l.take i ++ (el l (i : Int) :: l.drop (i + 1)) = l := by rw [← el_drop hi, List.take_append_drop]
  have hp : (l.take i ++ (el l (i : Int) :: l.drop (i + 1))).Pairwise (fun a b => a.1 < b.1) := by rw [e]; exact h.1
  rw [List.pairwise_append, List.pairwise_cons] at hp
  intro a ha
  unfold cutF at ha
  rcases List.mem_append.1 ha with c | c
  · have := hp.2.2 a c _ List.mem_cons_self
    exact bqF (by omega)
  · have := hp.2.1.1 a c
    exact bqF (by omega)
theorem cut_lenP {l : List (Int × Int)} {i : Nat} (hi : i < l.length) : (cutF l i).length = l.length - 1 := by
  unfold cutF; rw [List.length_append, List.length_take, List.length_drop]; omega
theorem pl_len (m : Int) (l : List (Int × Int)) (x : Int) : (pL m l x).length = l.length + 1 := by unfold pL; simp
theorem pl_last (m : Int) (l : List (Int × Int)) (x : Int) : el (pL m l x) (l.length : Int) = (m, x) := by
  unfold pL; rw [el_app, if_neg (by omega), Nat.sub_self]; rfl
theorem pl_old (m : Int) (l : List (Int × Int)) (x : Int) {k : Nat} (h : k < l.length) : el (pL m l x) (k : Int) = el l (k : Int) := by
  unfold pL; rw [el_app, if_pos h]
theorem goodP {W m x : Int} {l : List (Int × Int)} (h : GoodR W m l) (hr : (l.length : Int) < W) (hm : m < 1000) : GoodR W (m + 1) (pL m l x) := by
  have hp : ptX W m l = 0 := by rw [goodR_pt h, if_neg (by omega)]
  obtain ⟨_, _, _, e, g, _⟩ := goodR_put (x := x) h hp hm
  rw [e] at g
  have : ((m, x) :: l.reverse).reverse = pL m l x := by unfold pL; simp
  rwa [this] at g
theorem ixP {W m : Int} {l : List (Int × Int)} (h : GoodR W m l) {k : Nat} (hk : k < l.length) : ixN l (el l (k : Int)).1 = k := rs_ix h.2.2.2.2.2 hk
theorem goneP {W m : Int} {l : List (Int × Int)} (h : GoodR W m l) {k : Nat} (hk : k < l.length) : fiX W m (dcL l (el l (k : Int)).1) (el l (k : Int)).1 = 6 := by
  have hi := ixP h hk
  have e : dcL l (el l (k : Int)).1 = cutF l k := by unfold dcL; rw [hi]
  rcases goodR_drop (x := (el l (k : Int)).1) h with ⟨_, _, _, _, e5, g⟩ | ⟨_, n⟩
  · rw [e5, List.reverse_reverse, hi] at g
    rw [e]
    unfold fiX
    rw [if_pos (goodR_ck g), if_neg]
    intro c
    unfold ixN at c
    have : (cutF l k).findIdx (fun h => h.1 == (el l (k : Int)).1) = (cutF l k).length := List.findIdx_eq_length.2 (cut_none h.2.2.2.2.2 hk)
    omega
  · exact absurd (by rw [hi]; exact hk) n
theorem i64k {v : Int} (h : 0 ≤ v ∧ v ≤ 1000) : IntKind.i64.wrap v = v := Go.IntWalk.i64_in _ ⟨by omega, by omega⟩
theorem dec_eq {l : List (Int × Int)} {x : Int} {k : Nat} (hi : ixN l x = k) (hk : k < l.length) (hl : l.length ≤ 100) : dcL l x = List.take ((k : Int).toNat - 0) (List.drop 0 l) ++ List.take ((l.length : Int).toNat - (IntKind.i64.wrap ((k : Int) + 1)).toNat) (List.drop (IntKind.i64.wrap ((k : Int) + 1)).toNat l) := by
  rw [i64k ⟨by omega, by omega⟩, show ((k : Int) + 1).toNat = k + 1 by omega, Int.toNat_natCast, Int.toNat_natCast, Nat.sub_zero, List.drop_zero, List.take_of_length_le (l := l.drop (k + 1)) (by rw [List.length_drop]; omega)]
  unfold dcL cutF
  rw [hi]
theorem finds_is (n : Int) (xs : List Int) (v u : Int) : KnownR Try.prog [] 7 [.val (.int .i64 n), .list (rowA gI xs) xs.length, .val (.int .i64 v), .val (.int .i64 u)] (.bool true) [] := by
  have hg := made_good n xs
  have hk := goodR_ck hg
  have hn := made_next n xs
  have hl := made_len n xs
  obtain ⟨g1, g2, g3, g4, g5, g6⟩ := hg
  have hg := made_good n xs
  by_cases hf : ((mL n xs).length : Int) = wN n
  · have r := rfC n xs v u hk hf
    exact r
  have hr : ((mL n xs).length : Int) < wN n := by omega
  have gP := goodP (x := v) hg hr (by omega)
  have hPl := pl_len (mM n xs) (mL n xs) v
  have hLast := pl_last (mM n xs) (mL n xs) v
  have hOld : ∀ {k : Nat}, k < (mL n xs).length → el (pL (mM n xs) (mL n xs) v) (k : Int) = el (mL n xs) (k : Int) := fun h => pl_old _ _ _ h
  have hi0 := ixP gP (k := (mL n xs).length) (by omega)
  rw [hLast] at hi0
  replace hi0 : ixN (pL (mM n xs) (mL n xs) v) (mM n xs) = (mL n xs).length := hi0
  have hf1 : fiX (wN n) (mM n xs + 1) (pL (mM n xs) (mL n xs) v) (mM n xs) = 0 := by unfold fiX; rw [if_pos (goodR_ck gP), if_pos (by omega)]
  have hf2 : fiI (wN n) (mM n xs + 1) (pL (mM n xs) (mL n xs) v) (mM n xs) = ((mL n xs).length : Int) := by unfold fiI; rw [if_pos (goodR_ck gP), if_pos (by omega), hi0]
  have hKb : 0 ≤ modO u ((pL (mM n xs) (mL n xs) v).length : Int) ∧ modO u ((pL (mM n xs) (mL n xs) v).length : Int) < ((pL (mM n xs) (mL n xs) v).length : Int) := by
    unfold modO; exact ⟨Int.emod_nonneg _ (by omega), Int.emod_lt_of_pos _ (by omega)⟩
  obtain ⟨k, ek⟩ : ∃ k : Nat, modO u ((pL (mM n xs) (mL n xs) v).length : Int) = (k : Int) := ⟨_, (Int.toNat_of_nonneg hKb.1).symm⟩
  have hkP : k < (pL (mM n xs) (mL n xs) v).length := by omega
  have hK : ixN (pL (mM n xs) (mL n xs) v) (el (pL (mM n xs) (mL n xs) v) (modO u ((pL (mM n xs) (mL n xs) v).length : Int))).1 = (modO u ((pL (mM n xs) (mL n xs) v).length : Int)).toNat := by
    rw [ek, Int.toNat_natCast]; exact ixP gP hkP
  have hdl : (dcL (pL (mM n xs) (mL n xs) v) (el (pL (mM n xs) (mL n xs) v) (modO u ((pL (mM n xs) (mL n xs) v).length : Int))).1).length = (mL n xs).length := by
    unfold dcL; rw [hK, cut_lenP (by omega)]; omega
  have q39 : List.take ((fiI (wN n) (mM n xs + 1) (pL (mM n xs) (mL n xs) v) (mM n xs)).toNat - 0) (List.drop 0 (pL (mM n xs) (mL n xs) v)) = mL n xs := by
    rw [hf2, Int.toNat_natCast, Nat.sub_zero, List.drop_zero]; unfold pL; exact List.take_left
  have q52 : el (pL (mM n xs) (mL n xs) v) (fiI (wN n) (mM n xs + 1) (pL (mM n xs) (mL n xs) v) (mM n xs)) = (mM n xs, v) := by rw [hf2]; exact hLast
  have q94 : el (pL (mM n xs) (mL n xs) v) ((ixN (pL (mM n xs) (mL n xs) v) (el (pL (mM n xs) (mL n xs) v) (modO u ((pL (mM n xs) (mL n xs) v).length : Int))).1 : Nat) : Int) = el (pL (mM n xs) (mL n xs) v) (modO u ((pL (mM n xs) (mL n xs) v).length : Int)) := by
    rw [hK, Int.toNat_of_nonneg hKb.1]
  have q97 : fiX (wN n) (mM n xs + 1) (dcL (pL (mM n xs) (mL n xs) v) (el (pL (mM n xs) (mL n xs) v) (modO u ((pL (mM n xs) (mL n xs) v).length : Int))).1) (el (pL (mM n xs) (mL n xs) v) (modO u ((pL (mM n xs) (mL n xs) v).length : Int))).1 = 6 := by
    rw [ek]; exact goneP gP hkP
  have fin := dec_eq (l := pL (mM n xs) (mL n xs) v) (x := (el (pL (mM n xs) (mL n xs) v) (modO u ((pL (mM n xs) (mL n xs) v).length : Int))).1) (k := k) (by rw [hK, ek, Int.toNat_natCast]) hkP (by omega)
  rw [← ek] at fin
  have w1 : IntKind.i64.wrap (modO u ((pL (mM n xs) (mL n xs) v).length : Int) + 1) = modO u ((pL (mM n xs) (mL n xs) v).length : Int) + 1 := i64k ⟨by omega, by omega⟩
  by_cases hKL : modO u ((pL (mM n xs) (mL n xs) v).length : Int) < ((mL n xs).length : Int)
  · have hK2 : ixN (mL n xs) (el (mL n xs) (modO u ((pL (mM n xs) (mL n xs) v).length : Int))).1 < (mL n xs).length := by
      rw [ek, ixP hg (by omega)]; omega
    have eo : el (pL (mM n xs) (mL n xs) v) (modO u ((pL (mM n xs) (mL n xs) v).length : Int)) = el (mL n xs) (modO u ((pL (mM n xs) (mL n xs) v).length : Int)) := by rw [ek]; exact hOld (by omega)
    have b := g6.2 _ (el_mem (l := mL n xs) (i := k) (by omega))
    have q68 : agO (mM n xs + 1) (el (pL (mM n xs) (mL n xs) v) (modO u ((pL (mM n xs) (mL n xs) v).length : Int))).1 = IntKind.u64.wrap (agO (mM n xs) (el (mL n xs) (modO u ((pL (mM n xs) (mL n xs) v).length : Int))).1 + 1) := by
      rw [eo, ek]
      generalize (el (mL n xs) (k : Int)).1 = z at b
      unfold agO
      simp only [wrapU64]
      omega
    have r := rfA n xs v u hk hr (by omega) g2 (goodR_ck gP) (by omega) hf1 hf2 hKb hK hdl hKL hK2 (bqF (by omega)) (bnF hf1) (bnF hf2) (bnF (by rw [i64k ⟨by omega, by omega⟩]; omega)) (decide_eq_true (by omega)) (decide_eq_true (by omega))
      (by rw [decide_eq_true q39]; rfl) (decide_eq_true (by omega)) (by rw [q52]; simp) (decide_eq_true ⟨by omega, by omega⟩) (decide_eq_true hKb.1) (decide_eq_true hKb.2) (decide_eq_true hKL) (bnF q68) (by rw [q94]; simp) (by rw [q97]; rfl)
      (decide_eq_true (by omega)) (decide_eq_true (by omega)) (decide_eq_true (by omega)) (decide_eq_true (by omega)) (decide_eq_true (Int.le_refl _)) (decide_eq_true (by rw [w1]; omega))
    unfold rfA_c0 at r
    rw [decide_eq_true fin] at r
    exact r
  · have r := rfB n xs v u hk hr (by omega) g2 (goodR_ck gP) (by omega) hf1 hf2 hKb hK hdl hKL (bqF (by omega)) (bnF hf1) (bnF hf2) (bnF (by rw [i64k ⟨by omega, by omega⟩]; omega)) (decide_eq_true (by omega)) (decide_eq_true (by omega))
      (by rw [decide_eq_true q39]; rfl) (decide_eq_true (by omega)) (by rw [q52]; simp) (decide_eq_true ⟨by omega, by omega⟩) (decide_eq_true hKb.1) (decide_eq_true hKb.2) (decide_eq_false hKL) (by rw [q94]; simp) (by rw [q97]; rfl)
      (decide_eq_true (by omega)) (decide_eq_true (by omega)) (decide_eq_true (by omega)) (decide_eq_true (by omega)) (decide_eq_true (Int.le_refl _)) (decide_eq_true (by rw [w1]; omega))
    unfold rfB_c0 at r
    rw [decide_eq_true fin] at r
    exact r
theorem ringFinds_true (n : Int) (A : Option Addr) (len cap : Nat) (xs : List Int) (v u : Int) (w : World) (_ : In64 n) (hl : xs.length = len) (hi : ListIn w (rowA gI xs) len A cap) (hw : ∀ m ∈ xs, rowW gI m) (_ : In64 v) (_ : In64 u) :
    Calls Try.prog 7 #[.int .i64 n, .slice A len cap, .int .i64 v, .int .i64 u] w fun e w' => e = .returned (.bool true) ∧ Below w.heap.size w w' := by
  subst hl
  have harg : DIns w [.val (.int .i64 n), .list (rowA gI xs) xs.length, .val (.int .i64 v), .val (.int .i64 u)] [.int .i64 n, .slice A xs.length cap, .int .i64 v, .int .i64 u] :=
    .cons (.val rfl) (.cons (.list hi) (.cons (.val rfl) (.cons (.val rfl) .nil)))
  exact knownR_law (finds_is n xs v u) (LaidL.nil w) harg
end Go.Proofs.Ytpmcjjpgkoagoaa
