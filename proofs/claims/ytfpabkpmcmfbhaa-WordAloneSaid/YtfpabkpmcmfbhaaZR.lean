/- Layer 33: WordAlone, out of its contract. -/
import Derived.Test.YtfpabkpmcmfbhaaOgR
import Derived.Test.YtfpabkpmcmfbhaaFrL
namespace Go.Proofs.Ytfpabkpmcmfbhaa
open Go Go.RowKit
set_option linter.unusedVariables false
def In64 (n : Int) : Prop := -9223372036854775808 ≤ n ∧ n ≤ 9223372036854775807
theorem waA_go {xs : List Int} {n : Int} (hl : (mdE xs).length ≤ 30) : ∀ (k i : Nat) (Y Z : List En) (b : Bool), i + k = (mdE xs).length → Y.length ≤ i → Z.length ≤ i →
    ∃ z, waA_f xs n (k + 1) Y Z b (i : Int) = some (0, ((((mdE xs).drop i).filter (ownB (IntKind.i64.wrap (1 + modO n 3)))).reverse ++ Y, (((mdE xs).drop i).filter movB).reverse ++ Z, (b || ((mdE xs).drop i).any (fltB (IntKind.i64.wrap (1 + modO n 3)))), z)) := by
  intro k
  induction k with
  | zero =>
    intro i Y Z b h hY hZ
    rw [waA_fs, bif_dT (by omega), bif_dF (by omega), List.drop_of_length_le (by omega)]
    exact ⟨_, by simp; rfl⟩
  | succ k ih =>
    intro i Y Z b h hY hZ
    rw [waA_fs, bif_dT (by omega), bif_dT (by omega), el_drop (l := mdE xs) (i := i) (by omega), w8n (n := (i : Int) + 1) (by omega) (by omega)]
    generalize IntKind.i64.wrap (1 + modO n 3) = C at *
    generalize el (mdE xs) (i : Int) = e at *
    obtain ⟨z, hz⟩ := ih (i + 1) (bif e.2.2.2.2.1 == C then e :: Y else Y) (bif e.2.2.2.2.2.1 != 2 then e :: Z else Z) (bif e.2.2.2.2.1 == C then (b || decide (e.2.2.2.2.2.1 ≥ 3)) else b) (by omega) (by cases (e.2.2.2.2.1 == C) <;> simp <;> omega) (by cases (e.2.2.2.2.2.1 != 2) <;> simp <;> omega)
    refine ⟨z, ?_⟩
    rw [show ((i + 1 : Nat) : Int) = (i : Int) + 1 by omega] at hz
    rw [List.filter_cons, List.filter_cons, List.any_cons, show ownB C e = (e.2.2.2.2.1 == C) from rfl, show movB e = (e.2.2.2.2.2.1 != 2) from rfl, show fltB C e = ((e.2.2.2.2.1 == C) && decide (e.2.2.2.2.2.1 ≥ 3)) from rfl]
    generalize (e.2.2.2.2.1 == C) = q1 at *
    generalize (e.2.2.2.2.2.1 != 2) = q2 at *
    generalize decide (e.2.2.2.2.2.1 ≥ 3) = q3 at *
    cases q1 <;> cases b <;> cases q2 <;> simp only [cond_true, cond_false, Bool.true_and, Bool.false_and, Bool.false_or, Bool.true_or, Bool.or_true, if_true, Bool.false_eq_true, if_false, List.reverse_cons, List.append_assoc, List.singleton_append, List.cons_append, List.nil_append] at hz ⊢ <;> exact hz
/-- a car's bit of a word, as the law takes it -/
def bitX (a j : Int) : Int := IntKind.i64.wrap (↑(BitVec.ofInt (64 : Nat) a &&& BitVec.ofInt (64 : Nat) (IntKind.i64.wrap ((1 : Int) * (2 : Int) ^ min (IntKind.u64.wrap j).toNat (64 : Nat)))).toNat : Int)
theorem and_fin : ∀ (a : Fin 8) (j : Fin 3), bitX (a.val : Int) (j.val : Int) = ((a.val &&& 2 ^ j.val : Nat) : Int) := by decide +kernel
theorem bit_of {ld : List Int} {es : List En} {j : Nat} (h3 : ld.length = 3) (hj : j < 3) (hc : chX 50 ld es = 0) : bitX (woN 50 ld es) (j : Int) = (if (el (endE ld es).2 (j : Int) || decide (el (endE ld es).1 (j : Int) > 50)) = true then ((2 ^ j : Nat) : Int) else 0) := by
  have n1 := run_len es (ld, List.replicate ld.length false)
  have a1 : (endE ld es).1.length = ld.length := n1.1
  have a2 : (endE ld es).2.length = ld.length := n1.2.trans (by simp)
  have b := wd_lt (tgF 50 (endE ld es).2 (endE ld es).1)
  have tl := tg_len 50 (endE ld es).2 (endE ld es).1 (a2.trans a1.symm)
  rw [tl, a2, h3] at b
  have e : woN 50 ld es = (wdN (tgF 50 (endE ld es).2 (endE ld es).1) : Int) := by unfold woN; rw [if_pos hc]
  rw [e, and_fin ⟨_, b⟩ ⟨j, hj⟩, ← tg_el 50 (endE ld es).2 (endE ld es).1 j (a2.trans a1.symm) (by omega)]
  show ((wdN (tgF 50 (endE ld es).2 (endE ld es).1) &&& 2 ^ j : Nat) : Int) = _
  rw [wd_bit _ j (by omega)]
  split <;> rfl
theorem alone_is (xs : List Int) (n : Int) : KnownR Try.prog [] 6 [.list (rowA gI xs) xs.length, .val (.int .i64 n)] (.bool true) [] := by
  have hl := mdE_len xs
  have hall := mdE_all xs
  have m0 := Int.emod_nonneg n (show (3 : Int) ≠ 0 by decide)
  have m1 := Int.emod_lt_of_pos n (show (0 : Int) < 3 by decide)
  have hm : modO n 3 = n % 3 := by unfold modO; rfl
  obtain ⟨j, hj⟩ : ∃ j : Nat, modO n 3 = (j : Int) := ⟨(n % 3).toNat, by rw [hm]; omega⟩
  have hj3 : j < 3 := by omega
  have hC : IntKind.i64.wrap (1 + modO n 3) = (j : Int) + 1 := by rw [hj, w8n (by omega) (by omega)]; omega
  have hD : IntKind.i64.wrap (IntKind.i64.wrap (1 + modO n 3) - 1) = (j : Int) := by rw [hC, w8n (by omega) (by omega)]; omega
  have hU : IntKind.u64.wrap (j : Int) = (j : Int) := w8u (by omega) (by omega)
  obtain ⟨z, hz⟩ := waA_go (xs := xs) (n := n) hl (mdE xs).length 0 [] [] false (by omega) (by simp) (by simp)
  rw [List.drop_zero, List.append_nil, List.append_nil, Bool.false_or, hC] at hz
  have hk := waA_ok xs n (by omega) _ _ _ hz
  dsimp only at hk
  have c0 : chX 50 (mdL xs) (mdE xs) = 0 := md_ch xs (by decide) (by decide)
  have c1 := ch_filter (ownB ((j : Int) + 1)) c0
  have c2 := ch_filter movB c0
  obtain ⟨e1, e2⟩ := mov_eq c0
  have L0 : (woL 50 (mdL xs) (mdE xs)) = (endE (mdL xs) (mdE xs)).1 := by unfold woL; rw [if_pos c0]
  have L1 : (woL 50 (mdL xs) ((mdE xs).filter (ownB ((j : Int) + 1)))) = (endE (mdL xs) ((mdE xs).filter (ownB ((j : Int) + 1)))).1 := by unfold woL; rw [if_pos c1]
  have r0 := run_len (mdE xs) (mdL xs, List.replicate (mdL xs).length false)
  have r1 := run_len ((mdE xs).filter (ownB ((j : Int) + 1))) (mdL xs, List.replicate (mdL xs).length false)
  have k0 : (endE (mdL xs) (mdE xs)).1.length = 3 := r0.1.trans (mdL_len xs)
  have k1 : (endE (mdL xs) ((mdE xs).filter (ownB ((j : Int) + 1)))).1.length = 3 := r1.1.trans (mdL_len xs)
  have jl : j < (mdL xs).length := by rw [mdL_len]; exact hj3
  have jr : j < (List.replicate (mdL xs).length false).length := by rw [List.length_replicate]; exact jl
  have at1 : AtJ j (endE (mdL xs) (mdE xs)) (endE (mdL xs) ((mdE xs).filter (ownB ((j : Int) + 1)))) := run_own (n := 3) (mdE xs) 0 (mdL xs, List.replicate (mdL xs).length false) (mdL xs, List.replicate (mdL xs).length false) (mdE_en xs) (fun x hx => (hall x hx).2) jl jr jl jr ⟨rfl, rfl⟩
  have fl : el (endE (mdL xs) (mdE xs)).2 (j : Int) = (mdE xs).any (fltB ((j : Int) + 1)) := by
    have h := run_flt (j := j) (mdE xs) (mdL xs, List.replicate (mdL xs).length false) hall jr
    have h0 : el (List.replicate (mdL xs).length false) (j : Int) = false := by
      unfold el
      rw [List.getD_eq_getElem?_getD, Int.toNat_natCast, List.getElem?_replicate]
      split <;> rfl
    exact h.trans (by rw [show el ((mdL xs, List.replicate (mdL xs).length false) : List Int × List Bool).2 (j : Int) = false from h0, Bool.false_or])
  have b0 := bit_of (mdL_len xs) hj3 c0
  have b1 := bit_of (mdL_len xs) hj3 c1
  have hp : (((2 : Nat) ^ j : Nat) : Int) ≠ 0 := by have := Nat.two_pow_pos j; omega
  have r := wa1 xs n _ _ _ _ (by omega) (by rw [List.reverse_reverse]; exact c1) (by rw [List.reverse_reverse]; exact c2) (by rw [List.reverse_reverse]; exact e2.symm) (by rw [List.reverse_reverse, e1]; simp) (by rw [L0, k0]; rfl) (by rw [List.reverse_reverse, L1, k1]; rfl) (by rw [hD, hU]; exact decide_eq_false (by omega))
    (by
      rw [hD, List.reverse_reverse]
      show (bitX _ (j : Int) == bitX _ (j : Int)) = true
      rw [b0, b1, at1.1, at1.2]
      exact beq_self_eq_true _)
    (by rw [hD]; exact decide_eq_true (by omega)) (by rw [hD, L0, k0]; exact decide_eq_true (by omega)) (by rw [hD, List.reverse_reverse, L1, k1]; exact decide_eq_true (by omega))
    (by rw [hD, List.reverse_reverse, L0, L1, at1.1]; exact beq_self_eq_true _) hk
  have e : wa1_c0 xs n ((mdE xs).filter (ownB ((j : Int) + 1))).reverse ((mdE xs).filter movB).reverse ((mdE xs).any (fltB ((j : Int) + 1))) z = true := by
    unfold wa1_c0
    rw [hD, L0]
    show (bif _ then (bif (bitX (woN 50 (mdL xs) (mdE xs)) (j : Int) != 0) == true then true else false) else (bif (bitX (woN 50 (mdL xs) (mdE xs)) (j : Int) != 0) == _ then true else false)) = true
    rw [b0, ← fl]
    generalize ((2 ^ j : Nat) : Int) = P at hp ⊢
    cases q : el (endE (mdL xs) (mdE xs)).2 (j : Int) with
    | true => simp [hp]
    | false =>
      by_cases h5 : el (endE (mdL xs) (mdE xs)).1 (j : Int) > 50
      · simp [h5, hp]
      · simp [h5]
  rw [e] at r
  exact r
theorem wordAlone_true (A : Option Addr) (len cap : Nat) (xs : List Int) (c : Int) (w : World) (hl : xs.length = len) (hi : ListIn w (rowA gI xs) len A cap) (hw : ∀ m ∈ xs, rowW gI m) (_ : In64 c) :
    Calls Try.prog 6 #[.slice A len cap, .int .i64 c] w fun e w' => e = .returned (.bool true) ∧ Below w.heap.size w w' := by
  subst hl
  have harg : DIns w [.list (rowA gI xs) xs.length, .val (.int .i64 c)] [.slice A xs.length cap, .int .i64 c] :=
    .cons (.list hi) (.cons (.val rfl) .nil)
  exact knownR_law (alone_is xs c) (LaidL.nil w) harg
end Go.Proofs.Ytfpabkpmcmfbhaa
