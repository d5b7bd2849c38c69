/- Layer 2: MaskLooks. -/
import Derived.Test.YtboobndcgilmlaaDoorMK
import Derived.ProofKit
import Derived.IntWalk
namespace Go.Proofs.YtboobndcgilmlaaDoor
open Go Go.RowKit
set_option linter.unusedVariables false
set_option linter.unusedSimpArgs false
set_option linter.unnecessarySimpa false
set_option maxHeartbeats 8000000
set_option maxRecDepth 100000
noncomputable def siA_hd (l : List Int) : Hd := headD Tryd.prog knMaskKnownL GTab.none 3000 21 [.list (rowA gI l) l.length, .list (rowA gI l) l.length] [(0, .b 0), (1, .stop)]
noncomputable def siA_S (l : List Int) (y0 : Int) : St := ((entryK 5 45 [15, 23, 11, 19, 17, 25, 13, 21, 16, 24, 12, 20, 18, 14, 22] 24 0 (siA_hd l).s).updF [(5, .int .i64 y0)] [])
theorem siA_n (l : List Int) (hl : (l.length : Int) ≤ 100000) : 5 = (siA_hd l).s.hs.next := by kernel_rfl
theorem siA_r (l : List Int) (hl : (l.length : Int) ≤ 100000) : (siA_hd l).s.hs.rd < bitOf 5 := by
  have e : (siA_hd l).s.hs.rd = 0 := by kernel_rfl
  rw [e]; exact blt_iff.1 (by kernel_rfl)
theorem siA_w (l : List Int) (hl : (l.length : Int) ≤ 100000) : (siA_hd l).s.hs.wr < bitOf 5 := by
  have e : (siA_hd l).s.hs.wr = 0 := by kernel_rfl
  rw [e]; exact blt_iff.1 (by kernel_rfl)
theorem siA_e0 (l : List Int) (hl : (l.length : Int) ≤ 100000) : canonS 5 45 [] [15, 23, 11, 19, 17, 25, 13, 21, 16, 24, 12, 20, 18, 14, 22] 5 24 0 (siA_hd l).s = some (siA_S l ((0 : Int))) := by kernel_rfl
theorem siA_e1 (l : List Int) (hl : (l.length : Int) ≤ 100000) : canonOk 5 45 [] 5 (siA_hd l).s = true := canonOkF_eq.symm.trans (by kernel_rfl)
def siA_X : Nat → VX
  | 0 => .exit 0
  | _ => .normal
noncomputable def siA_E (kE : Nat) (l : List Int) (y0 : Int) : St := match kE with
  | 0 => ((bodySt (bodyK Tryd.prog (knMaskKnownL : Vars).length GTab.none 3000 (siA_hd l) (siA_S l y0 ) [(0, .b 0)] 5 45 [15, 23, 11, 19, 17, 25, 13, 21, 16, 24, 12, 20, 18, 14, 22] 45 24 0)).updF [(5, .int .i64 y0)] [])
  | _ => (siA_hd l).s
theorem siA_p0 (l : List Int) (y0 : Int) : bodyK Tryd.prog (knMaskKnownL : Vars).length GTab.none 3000 (siA_hd l) (siA_S l y0 ) [(0, .b 1), (1, .b 1), (2, .b 1), (3, .vals ([Value.int IntKind.i64 (el l y0)])), (4, .b 1), (5, .b 1), (6, .vals ([Value.int IntKind.i64 (el l y0)])), (7, .b 0)] 5 45 [15, 23, 11, 19, 17, 25, 13, 21, 16, 24, 12, 20, 18, 14, 22] 5 24 0 = some (.normal, (siA_S l (IntKind.i64.wrap (y0 + (1 : Int)))), [(el l y0 != el l y0) = false, segC (rowA (gI) (l)) (((y0).toNat) * 1 + 0) 1 = some ([Value.int IntKind.i64 (el l y0)]), (decide (y0 < (↑l.length : Int))) = true, (decide ((0 : Int) ≤ y0)) = true, segC (rowA (gI) (l)) (((y0).toNat) * 1 + 0) 1 = some ([Value.int IntKind.i64 (el l y0)]), (decide (y0 < (↑l.length : Int))) = true, (decide ((0 : Int) ≤ y0)) = true, (decide (y0 < (↑l.length : Int))) = true]) := by kernel_rfl
theorem siA_p1 (l : List Int) (y0 : Int) : bodyK Tryd.prog (knMaskKnownL : Vars).length GTab.none 3000 (siA_hd l) (siA_S l y0 ) [(0, .b 0)] 5 45 [15, 23, 11, 19, 17, 25, 13, 21, 16, 24, 12, 20, 18, 14, 22] 45 24 0 = some (.exit 0, siA_E 0 l (y0), [(decide (y0 < (↑l.length : Int))) = false]) := by kernel_rfl
theorem siA_q1 (l : List Int) (y0 : Int) : (siA_E 0 l (y0)).hs.next = 45 := by kernel_rfl
theorem siA_d0 (l : List Int) (hl : (l.length : Int) ≤ 100000) (y0 : Int) (hi : (decide (0 ≤ y0 ∧ y0 ≤ (l.length : Int))) = true) (hq0 : (decide (y0 < (↑l.length : Int))) = true) : (decide ((0 : Int) ≤ y0)) = true := by
  rcases Bool.eq_false_or_eq_true (decide ((0 : Int) ≤ y0)) with h | h
  · exact h
  · exfalso; (first | (simp_all only [Bool.and_eq_true, Bool.not_eq_true', Bool.false_eq_true, Bool.true_eq_false, reduceCtorEq]; done) | (simp only [sx, sy, eq_self, ne_eq, IntKind.wrap_i64, wrapU64, Int.reduceLT] at * <;> first | contradiction | omega) | omega | ((try simp only [sx, sy, eq_self, ne_eq, IntKind.wrap_i64, wrapU64, Int.reduceLT] at *) <;> omega) | (simp_all; done))
theorem siA_d1 (l : List Int) (hl : (l.length : Int) ≤ 100000) (y0 : Int) (hi : (decide (0 ≤ y0 ∧ y0 ≤ (l.length : Int))) = true) (hq0 : (decide (y0 < (↑l.length : Int))) = true) (hq1 : (decide ((0 : Int) ≤ y0)) = true) : (el l y0 != el l y0) = false := by
  rcases Bool.eq_false_or_eq_true (el l y0 != el l y0) with h | h
  · exfalso; (first | (simp_all only [Bool.and_eq_true, Bool.not_eq_true', Bool.false_eq_true, Bool.true_eq_false, reduceCtorEq]; done) | (simp only [sx, sy, eq_self, ne_eq, IntKind.wrap_i64, wrapU64, Int.reduceLT] at * <;> first | contradiction | omega) | omega | ((try simp only [sx, sy, eq_self, ne_eq, IntKind.wrap_i64, wrapU64, Int.reduceLT] at *) <;> omega) | (simp_all; done))
  · exact h
noncomputable def siA_f (l : List Int) : Nat → Int → Option (Nat × (Int))
  | 0, _ => none
  | fu + 1, y0 => (bif (decide (0 ≤ y0 ∧ y0 ≤ (l.length : Int))) then (bif (decide (y0 < (↑l.length : Int))) then siA_f l fu (IntKind.i64.wrap (y0 + (1 : Int))) else some (0, (y0))) else none)
theorem siA_fs (l : List Int) (fu : Nat) (y0 : Int) : siA_f l (fu + 1) y0 = (bif (decide (0 ≤ y0 ∧ y0 ≤ (l.length : Int))) then (bif (decide (y0 < (↑l.length : Int))) then siA_f l fu (IntKind.i64.wrap (y0 + (1 : Int))) else some (0, (y0))) else none) := rfl
theorem siA_f0 (l : List Int) (y0 : Int) : siA_f l 0 y0 = none := rfl
theorem siA_loop (l : List Int) (hl : (l.length : Int) ≤ 100000) : ∀ (fu : Nat) (y0 : Int) (kk : Nat) (zz : Int), siA_f l fu y0 = some (kk, zz) → VStep (siA_hd l).s.hs (siA_S l y0 ).hs → RoundsC Tryd.prog knMaskKnownL 5 45 (siA_hd l).s.hs (siA_hd l).ro (siA_hd l).a (siA_S l y0 ) (siA_X kk) (siA_E kk l zz ) ∧ ((siA_E kk l zz )).hs.next = 45 := by
  intro fu
  induction fu with
  | zero =>
    intro y0 kk zz hf hSz
    have hf := (siA_f0 l y0 ).symm.trans hf
    simp at hf
  | succ fu ih =>
    intro y0 kk zz hf hSz
    have hf := (siA_fs l fu y0 ).symm.trans hf
    rcases bif_or hf with ⟨hi, hf⟩ | ⟨hi, hf⟩
    case inr => cases hf
    rcases bif_or hf with ⟨hq0, hf⟩ | ⟨hq0, hf⟩
    ·
      have hq1 := siA_d0 l hl y0 hi hq0 
      have hq2 := siA_d1 l hl y0 hi hq0 hq1 
      have hb1 := siA_p0 l y0 ; have hb2 := body_canon hb1; have hb3 := hb2 ⟨hq2, (seg_row (g := (gI)) (k := 1) (fun _ => rfl) (by first | exact of_decide_eq_true hq1 | simpa using of_decide_eq_true hq1) (by first | exact of_decide_eq_true hq0 | (simpa using of_decide_eq_true hq0; done) | (have hx1 := of_decide_eq_true hq0; have hx2 := of_decide_eq_true hi; simp only [List.length_reverse, List.length_set] at *; omega)) (by decide) rfl), hq0, hq1, (seg_row (g := (gI)) (k := 1) (fun _ => rfl) (by first | exact of_decide_eq_true hq1 | simpa using of_decide_eq_true hq1) (by first | exact of_decide_eq_true hq0 | (simpa using of_decide_eq_true hq0; done) | (have hx1 := of_decide_eq_true hq0; have hx2 := of_decide_eq_true hi; simp only [List.length_reverse, List.length_set] at *; omega)) (by decide) rfl), hq0, hq1, hq0, trivial⟩; obtain ⟨sz1, kz1, kz2, kz3⟩ := hb3; obtain ⟨gz1, gz2⟩ := ih (IntKind.i64.wrap (y0 + (1 : Int))) kk zz hf (rounds_step mix (T := GTab.none) GOk.none (siA_n l hl ) (siA_r l hl ) (siA_w l hl ) kz1 hSz kz2 kz3); exact ⟨rounds_next mix (T := GTab.none) GOk.none (siA_n l hl ) (siA_r l hl ) (siA_w l hl ) kz1 hSz kz2 kz3 (fun _ => gz1), gz2⟩
    ·
      injection hf with hf; injection hf with e1 e2; subst e1; subst e2; have hb1 := siA_p1 l y0 ; have hb2 := body_canon hb1; have hb3 := hb2 ⟨hq0, trivial⟩; obtain ⟨sz1, kz1, kz2, kz3⟩ := hb3; exact ⟨rounds_end mix (T := GTab.none) GOk.none (siA_n l hl ) (siA_r l hl ) (siA_w l hl ) kz1 (fun h => by cases h) hSz kz2 kz3, siA_q1 l y0 ⟩
theorem siA_ok (l : List Int) (hl : (l.length : Int) ≤ 100000) (fu kk : Nat) (zz : Int) (hf : siA_f l fu ((0 : Int)) = some (kk, zz)) : ∀ B : Bd, B.L = knMaskKnownL → LoopOk Tryd.prog B (siA_hd l).ro (siA_hd l).a (siA_hd l).s (siA_X kk) (siA_E kk l zz ) := by
  have hSz := begin_step (siA_n l hl ) (siA_r l hl ) (siA_w l hl ) (siA_e0 l hl ) (siA_e1 l hl )
  obtain ⟨gz1, gz2⟩ := siA_loop l hl fu ((0 : Int)) kk zz hf hSz
  exact rounds_ok (siA_n l hl ) (Nat.le_of_ble_eq_true (by kernel_rfl)) gz2 (rounds_begin (siA_n l hl ) (siA_r l hl ) (siA_w l hl ) (siA_e0 l hl ) (siA_e1 l hl ) (fun _ => gz1))

theorem siK_p0 (l : List Int) (siA_z0 : Int)  (hl : (l.length : Int) ≤ 100000) (siA_k0 : ((↑l.length : Int) != (↑l.length : Int)) = false) (siA_l : ∀ B : Bd, B.L = knMaskKnownL → LoopOk Tryd.prog B (siA_hd l).ro (siA_hd l).a (siA_hd l).s (siA_X 0) (siA_E 0 l siA_z0 )) : KnownR Tryd.prog knMaskKnownL 21 [.list (rowA gI l) l.length, .list (rowA gI l) l.length] (.bool (true)) [] :=
  knownR_eq (v := Value.bool true) (bs := []) (open_resD mix (GOk.add GOk.none siA_l) (T := (GTab.add GTab.none 5 (siA_hd l).ro (siA_hd l).a (siA_hd l).s (siA_X 0) (siA_E 0 l siA_z0 ) (by kernel_rfl))) (fuel := 3000) (es := []) (ans := [(0, .b 0), (1, .loop (siA_X 0) (siA_E 0 l siA_z0 )), ]) (log := [LoopRes Tryd.prog (knMaskKnownL : Vars).length (GTab.add GTab.none 5 (siA_hd l).ro (siA_hd l).a (siA_hd l).s (siA_X 0) (siA_E 0 l siA_z0 ) (by kernel_rfl)) (siA_hd l).ro (siA_hd l).a (siA_hd l).s (siA_X 0) (siA_E 0 l siA_z0 ), ((↑l.length : Int) != (↑l.length : Int)) = false]) (by kernel_rfl) ⟨(loop_known2 add_eq), siA_k0, trivial⟩ (by kernel_rfl)) (by first | rfl | (simp; done) | (simp_all; done)) (by first | rfl | (simp [rowA_nil]; done) | (simp only [rowA_eq]; rfl) | (simp_all [rowA_nil]; done))
set_option maxHeartbeats 8000000 in
theorem siK (l : List Int) (siA_z0 : Int)  (hl : (l.length : Int) ≤ 100000) (siA_k0 : ((↑l.length : Int) != (↑l.length : Int)) = false) (siA_l : ∀ B : Bd, B.L = knMaskKnownL → LoopOk Tryd.prog B (siA_hd l).ro (siA_hd l).a (siA_hd l).s (siA_X 0) (siA_E 0 l siA_z0 )) : KnownR Tryd.prog knMaskKnownL 21 [.list (rowA gI l) l.length, .list (rowA gI l) l.length] (.bool (true)) [] := by
  exact siK_p0 l siA_z0 hl siA_k0 siA_l

theorem siA_go {l : List Int} (hl : l.length ≤ 100000) : ∀ (k i : Nat), i + k = l.length → siA_f l (k + 1) (i : Int) = some (0, (l.length : Int)) := by
  intro k
  induction k with
  | zero =>
    intro i h
    rw [siA_f, decide_eq_true (by omega), cond_true, decide_eq_false (by omega), cond_false, show (i : Int) = (l.length : Int) by omega]
  | succ k ih =>
    intro i h
    rw [siA_f, decide_eq_true (by omega), cond_true, decide_eq_true (by omega), cond_true, Go.IntWalk.i64_in ((i : Int) + 1) ⟨by omega, by omega⟩, show (i : Int) + 1 = ((i + 1 : Nat) : Int) by omega]
    exact ih (i + 1) (by omega)
theorem si_is (l : List Int) (hl : (l.length : Int) ≤ 100000) : KnownR Tryd.prog knMaskKnownL 21 [.list (rowA gI l) l.length, .list (rowA gI l) l.length] (.bool true) [] := by
  have ho := siA_ok l hl _ _ _ (siA_go (l := l) (by omega) l.length 0 (by omega))
  exact siK l _ hl (by simp) ho
attribute [local irreducible] hs lsL neV neE abV abE beV beE bctI
theorem qBeR (m f : Int) (hg : (isW m) = true) : Known Tryd.prog knMaskKnownL 14 [.int .u64 m, .int .i64 f] (.tuple #[.int .i64 (beV m f), .int .i64 (beE m f)]) := rbelow_k hg f
noncomputable def qBeR_k : List Value → Option (Bool × Value)
  | [.int .u64 m, .int .i64 f] => some (isW m, .tuple #[.int .i64 (beV m f), .int .i64 (beE m f)])
  | _ => none
theorem qBeR_ok : ∀ args v, qBeR_k args = some (true, v) → Known Tryd.prog knMaskKnownL 14 args v := by
  intro args v h
  unfold qBeR_k at h
  split at h
  · injection h with h; injection h with hg h; subst h; exact qBeR _ _ hg
  · cases h
theorem qAbR (m f : Int) (hg : (isW m) = true) : Known Tryd.prog knMaskKnownL 12 [.int .u64 m, .int .i64 f] (.tuple #[.int .i64 (abV m f), .int .i64 (abE m f)]) := rabove_k hg f
noncomputable def qAbR_k : List Value → Option (Bool × Value)
  | [.int .u64 m, .int .i64 f] => some (isW m, .tuple #[.int .i64 (abV m f), .int .i64 (abE m f)])
  | _ => none
theorem qAbR_ok : ∀ args v, qAbR_k args = some (true, v) → Known Tryd.prog knMaskKnownL 12 args v := by
  intro args v h
  unfold qAbR_k at h
  split at h
  · injection h with h; injection h with hg h; subst h; exact qAbR _ _ hg
  · cases h
theorem qNeP (m f : Int) (hg : (isW m) = true) : Known Tryd.prog knMaskKnownL 15 [.int .u64 m, .int .i64 f] (.tuple #[.int .i64 (neV m f), .int .i64 (neE m f)]) := near_k hg f
noncomputable def qNeP_k : List Value → Option (Bool × Value)
  | [.int .u64 m, .int .i64 f] => some (isW m, .tuple #[.int .i64 (neV m f), .int .i64 (neE m f)])
  | _ => none
theorem qNeP_ok : ∀ args v, qNeP_k args = some (true, v) → Known Tryd.prog knMaskKnownL 15 args v := by
  intro args v h
  unfold qNeP_k at h
  split at h
  · injection h with h; injection h with hg h; subst h; exact qNeP _ _ hg
  · cases h
theorem qNeR (m f : Int) (hg : (isW m) = true) : Known Tryd.prog knMaskKnownL 16 [.int .u64 m, .int .i64 f] (.tuple #[.int .i64 (neV m f), .int .i64 (neE m f)]) := rnear_k hg f
noncomputable def qNeR_k : List Value → Option (Bool × Value)
  | [.int .u64 m, .int .i64 f] => some (isW m, .tuple #[.int .i64 (neV m f), .int .i64 (neE m f)])
  | _ => none
theorem qNeR_ok : ∀ args v, qNeR_k args = some (true, v) → Known Tryd.prog knMaskKnownL 16 args v := by
  intro args v h
  unfold qNeR_k at h
  split at h
  · injection h with h; injection h with hg h; subst h; exact qNeR _ _ hg
  · cases h
theorem qCoP (m : Int) (hg : (isW m) = true) : Known Tryd.prog knMaskKnownL 19 [.int .u64 m] (.int .i64 (bctI m)) := count_k hg
noncomputable def qCoP_k : List Value → Option (Bool × Value)
  | [.int .u64 m] => some (isW m, .int .i64 (bctI m))
  | _ => none
theorem qCoP_ok : ∀ args v, qCoP_k args = some (true, v) → Known Tryd.prog knMaskKnownL 19 args v := by
  intro args v h
  unfold qCoP_k at h
  split at h
  · injection h with h; injection h with hg h; subst h; exact qCoP _ hg
  · cases h
theorem coR (m : Int) (hw : isW m = true) : KnownR Tryd.prog knMaskKnownL 20 [.val (.int .u64 m)] (.int .i64 (bctI m)) ([]) := rcount_k hw
noncomputable def coR_A (p : Int × Unit) : List D := match p with
  | (m, _) => [.val (.int .u64 m)]
noncomputable def coR_C (p : Int × Unit) : Prop := match p with
  | (m, _) => (isW m = true) ∧ True
noncomputable def coR_R (p : Int × Unit) : Value × Outs := match p with
  | (m, _) => (.int .i64 (bctI m), [])
theorem coR_inj : ∀ p q, coR_C p → coR_C q → coR_A p = coR_A q → coR_R p = coR_R q := by
  rintro ⟨m, _⟩ ⟨m', _⟩ _ _ e
  simp only [coR_A, List.cons.injEq, D.list.injEq, D.val.injEq, D.agg.injEq, Value.int.injEq, Value.bool.injEq, Value.string.injEq, Value.agg.injEq, Array.mk.injEq, and_true, true_and, gI_inj, gB_inj, gI_inj] at e
  simp_all
noncomputable def coR_k : List D → Option (Value × Outs) := fnP coR_A coR_C coR_R
theorem coR_n (m : Int)   (hw : isW m = true) : KnownR Tryd.prog knMaskKnownL 20 [.val (.int .u64 m)] (.int .i64 (bctI m)) ([]) := by
  skip
  exact coR _ hw
theorem coR_ok : ∀ ds v bs, coR_k ds = some (v, bs) → KnownR Tryd.prog knMaskKnownL 20 ds v bs := fnP_ok (by
  rintro ⟨m, _⟩ ⟨hw, _⟩
  exact coR_n _  hw)
theorem coR_at (m : Int)   (hw : isW m = true) : coR_k [.val (.int .u64 m)] = some (.int .i64 (bctI m), []) := fnP_at (p := (m, ())) coR_inj ⟨hw, trivial⟩ rfl rfl
theorem liR (m : Int) (hw : isW m = true) : KnownR Tryd.prog knMaskKnownL 23 [.val (.int .u64 m)] (.complex .f64 0 (lsL m).length) ([(rowA gI (lsL m), 3)]) := rlist_k hw
noncomputable def liR_A (p : Int × Unit) : List D := match p with
  | (m, _) => [.val (.int .u64 m)]
noncomputable def liR_C (p : Int × Unit) : Prop := match p with
  | (m, _) => (isW m = true) ∧ True
noncomputable def liR_R (p : Int × Unit) : Value × Outs := match p with
  | (m, _) => (.complex .f64 0 (lsL m).length, [(rowA gI (lsL m), 3)])
theorem liR_inj : ∀ p q, liR_C p → liR_C q → liR_A p = liR_A q → liR_R p = liR_R q := by
  rintro ⟨m, _⟩ ⟨m', _⟩ _ _ e
  simp only [liR_A, List.cons.injEq, D.list.injEq, D.val.injEq, D.agg.injEq, Value.int.injEq, Value.bool.injEq, Value.string.injEq, Value.agg.injEq, Array.mk.injEq, and_true, true_and, gI_inj, gB_inj, gI_inj] at e
  simp_all
noncomputable def liR_k : List D → Option (Value × Outs) := fnP liR_A liR_C liR_R
theorem liR_n (m : Int)   (hw : isW m = true) : KnownR Tryd.prog knMaskKnownL 23 [.val (.int .u64 m)] (.complex .f64 0 (lsL m).length) ([(rowA gI (lsL m), 3)]) := by
  skip
  exact liR _ hw
theorem liR_ok : ∀ ds v bs, liR_k ds = some (v, bs) → KnownR Tryd.prog knMaskKnownL 23 ds v bs := fnP_ok (by
  rintro ⟨m, _⟩ ⟨hw, _⟩
  exact liR_n _  hw)
theorem liR_at (m : Int)   (hw : isW m = true) : liR_k [.val (.int .u64 m)] = some (.complex .f64 0 (lsL m).length, [(rowA gI (lsL m), 3)]) := fnP_at (p := (m, ())) liR_inj ⟨hw, trivial⟩ rfl rfl
theorem liP (m : Int) (hw : isW m = true) : KnownR Tryd.prog knMaskKnownL 22 [.val (.int .u64 m)] (.complex .f64 0 (lsL m).length) ([(rowA gI (lsL m), 3)]) := list_k hw
noncomputable def liP_A (p : Int × Unit) : List D := match p with
  | (m, _) => [.val (.int .u64 m)]
noncomputable def liP_C (p : Int × Unit) : Prop := match p with
  | (m, _) => (isW m = true) ∧ True
noncomputable def liP_R (p : Int × Unit) : Value × Outs := match p with
  | (m, _) => (.complex .f64 0 (lsL m).length, [(rowA gI (lsL m), 3)])
theorem liP_inj : ∀ p q, liP_C p → liP_C q → liP_A p = liP_A q → liP_R p = liP_R q := by
  rintro ⟨m, _⟩ ⟨m', _⟩ _ _ e
  simp only [liP_A, List.cons.injEq, D.list.injEq, D.val.injEq, D.agg.injEq, Value.int.injEq, Value.bool.injEq, Value.string.injEq, Value.agg.injEq, Array.mk.injEq, and_true, true_and, gI_inj, gB_inj, gI_inj] at e
  simp_all
noncomputable def liP_k : List D → Option (Value × Outs) := fnP liP_A liP_C liP_R
theorem liP_n (m : Int)   (hw : isW m = true) : KnownR Tryd.prog knMaskKnownL 22 [.val (.int .u64 m)] (.complex .f64 0 (lsL m).length) ([(rowA gI (lsL m), 3)]) := by
  skip
  exact liP _ hw
theorem liP_ok : ∀ ds v bs, liP_k ds = some (v, bs) → KnownR Tryd.prog knMaskKnownL 22 ds v bs := fnP_ok (by
  rintro ⟨m, _⟩ ⟨hw, _⟩
  exact liP_n _  hw)
theorem liP_at (m : Int)   (hw : isW m = true) : liP_k [.val (.int .u64 m)] = some (.complex .f64 0 (lsL m).length, [(rowA gI (lsL m), 3)]) := fnP_at (p := (m, ())) liP_inj ⟨hw, trivial⟩ rfl rfl
theorem siD (l : List Int) (hl : (l.length : Int) ≤ 100000) : KnownR Tryd.prog knMaskKnownL 21 [.list (rowA gI l) l.length, .list (rowA gI l) l.length] (.bool true) ([]) := si_is l hl
noncomputable def siD_A (p : List Int × Nat × Nat × Unit) : List D := match p with
  | (l, nn0, nn1, _) => [.list (rowA gI l) nn0, .list (rowA gI l) nn1]
noncomputable def siD_C (p : List Int × Nat × Nat × Unit) : Prop := match p with
  | (l, nn0, nn1, _) => (nn0 = l.length) ∧ (nn1 = l.length) ∧ ((l.length : Int) ≤ 100000) ∧ True
noncomputable def siD_R (p : List Int × Nat × Nat × Unit) : Value × Outs := match p with
  | (l, nn0, nn1, _) => (.bool true, [])
theorem siD_inj : ∀ p q, siD_C p → siD_C q → siD_A p = siD_A q → siD_R p = siD_R q := by
  rintro ⟨l, nn0, nn1, _⟩ ⟨l', nn0', nn1', _⟩ _ _ e
  simp only [siD_A, List.cons.injEq, D.list.injEq, D.val.injEq, D.agg.injEq, Value.int.injEq, Value.bool.injEq, Value.string.injEq, Value.agg.injEq, Array.mk.injEq, and_true, true_and, gI_inj, gB_inj, gI_inj] at e
  simp_all
noncomputable def siD_k : List D → Option (Value × Outs) := fnP siD_A siD_C siD_R
theorem siD_n (l : List Int) (nn0 : Nat) (nn1 : Nat) (hn0 : nn0 = l.length) (hn1 : nn1 = l.length) (hl : (l.length : Int) ≤ 100000) : KnownR Tryd.prog knMaskKnownL 21 [.list (rowA gI l) nn0, .list (rowA gI l) nn1] (.bool true) ([]) := by
  subst hn0; subst hn1; skip
  exact siD _ hl
theorem siD_ok : ∀ ds v bs, siD_k ds = some (v, bs) → KnownR Tryd.prog knMaskKnownL 21 ds v bs := fnP_ok (by
  rintro ⟨l, nn0, nn1, _⟩ ⟨hn0, hn1, hl, _⟩
  exact siD_n _ _ _ hn0 hn1 hl)
theorem siD_at (l : List Int) (nn0 : Nat) (nn1 : Nat) (hn0 : nn0 = l.length) (hn1 : nn1 = l.length) (hl : (l.length : Int) ≤ 100000) : siD_k [.list (rowA gI l) nn0, .list (rowA gI l) nn1] = some (.bool true, []) := fnP_at (p := (l, nn0, nn1, ())) siD_inj ⟨hn0, hn1, hl, trivial⟩ rfl rfl
noncomputable def tabLk : GTab := (GTab.fn 17 qHas_k (GTab.fn 18 qRha_k (GTab.fn 13 qBe_k (GTab.fn 14 qBeR_k (GTab.fn 11 qAb_k (GTab.fn 12 qAbR_k (GTab.fn 15 qNeP_k (GTab.fn 16 qNeR_k (GTab.fn 19 qCoP_k (GTab.fnD 20 coR_k (GTab.fnD 23 liR_k (GTab.fnD 22 liP_k (GTab.fnD 21 siD_k (GTab.fn1 24 (fun l => match l with | [] => some (.bool true) | _ => none) GTab.none))))))))))))))
theorem tabLk_ok : GOk Tryd.prog knMaskKnownL tabLk := (GOk.fn qHas_ok (GOk.fn qRha_ok (GOk.fn qBe_ok (GOk.fn qBeR_ok (GOk.fn qAb_ok (GOk.fn qAbR_ok (GOk.fn qNeP_ok (GOk.fn qNeR_ok (GOk.fn qCoP_ok (GOk.fnD coR_ok (GOk.fnD liR_ok (GOk.fnD liP_ok (GOk.fnD siD_ok (GOk.fn1 (known0 knMaskKnown_e0) GOk.none))))))))))))))
theorem mlk_p0 (m f : Int) (hw : isW m = true) (hl : ((lsL m).length : Int) ≤ 100000) (hq0 : (isW m) = true) (hq1 : (abV m f != abV m f) = false) (hq2 : (abE m f != abE m f) = false) (hq3 : (beV m f != beV m f) = false) (hq4 : (beE m f != beE m f) = false) (hq5 : (neV m f == neV m f) = true) (hq6 : (neE m f == neE m f) = true) (hq7 : (hs m f == hs m f) = true) (hq8 : (bctI m == bctI m) = true) : KnownR Tryd.prog knMaskKnownL 3 [.val (.int .u64 m), .val (.int .i64 f)] (.bool (true)) [] :=
  knownR_eq (v := Value.bool true) (bs := []) (open_resD mix tabLk_ok (T := tabLk) (fuel := 3000) (es := []) (ans := [(0, .b 1), (1, .b 1), (2, .b 0), (6, .b 0), (7, .b 1), (8, .b 1), (9, .b 0), (13, .b 0), (14, .b 1), (15, .b 1), (16, .b 1), (20, .b 1), (23, .b 1), (27, .b 1), (30, .b 1), (32, .b 1), (35, .outs (Value.int IntKind.i64 (bctI m)) ([])), (38, .b 1), (40, .outs (Value.complex FloatKind.f64 (0 : Nat) (lsL m).length) ([(rowA gI (lsL m), (3 : TypeId))])), (43, .outs (Value.complex FloatKind.f64 (0 : Nat) (lsL m).length) ([(rowA gI (lsL m), (3 : TypeId))])), (45, .outs (Value.bool true) ([]))]) (log := [(GTab.lookD (tabLk) ((21 : Nat)) ([D.list (rowA gI (lsL m)) (lsL m).length, D.list (rowA gI (lsL m)) (lsL m).length])) = some (Value.bool true, []), (GTab.lookD (tabLk) ((23 : Nat)) ([D.val (Value.int IntKind.u64 m)])) = some (Value.complex FloatKind.f64 (0 : Nat) (lsL m).length, [(rowA gI (lsL m), (3 : TypeId))]), (GTab.lookD (tabLk) ((22 : Nat)) ([D.val (Value.int IntKind.u64 m)])) = some (Value.complex FloatKind.f64 (0 : Nat) (lsL m).length, [(rowA gI (lsL m), (3 : TypeId))]), (bctI m == bctI m) = true, (GTab.lookD (tabLk) ((20 : Nat)) ([D.val (Value.int IntKind.u64 m)])) = some (Value.int IntKind.i64 (bctI m), []), (isW m) = true, (hs m f == hs m f) = true, (isW m) = true, (isW m) = true, (neE m f == neE m f) = true, (neV m f == neV m f) = true, (isW m) = true, (isW m) = true, (beE m f != beE m f) = false, (beV m f != beV m f) = false, (isW m) = true, (isW m) = true, (abE m f != abE m f) = false, (abV m f != abV m f) = false, (isW m) = true, (isW m) = true]) (by kernel_rfl) ⟨(siD_at (lsL m) ((lsL m).length) ((lsL m).length) (by first | (first | assumption) | rfl | assumption | omega | (simp; done) | (simp_all; done) | (simp_all; omega)) (by first | (first | assumption) | rfl | assumption | omega | (simp; done) | (simp_all; done) | (simp_all; omega)) (by first | (first | assumption) | rfl | assumption | omega | (simp; done) | (simp_all; done) | (simp_all; omega))), (liR_at (m) (by first | (first | assumption) | rfl | assumption | omega | (simp; done) | (simp_all; done) | (simp_all; omega))), (liP_at (m) (by first | (first | assumption) | rfl | assumption | omega | (simp; done) | (simp_all; done) | (simp_all; omega))), hq8, (coR_at (m) (by first | (first | assumption) | rfl | assumption | omega | (simp; done) | (simp_all; done) | (simp_all; omega))), hq0, hq7, hq0, hq0, hq6, hq5, hq0, hq0, hq4, hq3, hq0, hq0, hq2, hq1, hq0, hq0, trivial⟩ (by kernel_rfl)) (by first | rfl | (simp; done) | (simp_all; done)) (by first | rfl | (simp [rowA_nil]; done) | (simp only [rowA_eq]; rfl) | (simp_all [rowA_nil]; done))
set_option maxHeartbeats 8000000 in
theorem mlk (m f : Int) (hw : isW m = true) (hl : ((lsL m).length : Int) ≤ 100000) : KnownR Tryd.prog knMaskKnownL 3 [.val (.int .u64 m), .val (.int .i64 f)] (.bool (true)) [] := by
  have hq0 : (isW m) = true := by
    rcases Bool.eq_false_or_eq_true (isW m) with h | h
    · exact h
    · exfalso; (first | (simp_all only [Bool.and_eq_true, Bool.not_eq_true', Bool.false_eq_true, Bool.true_eq_false, reduceCtorEq]; done) | (simp only [sx, sy, eq_self, ne_eq, IntKind.wrap_i64, wrapU64, Int.reduceLT] at * <;> first | contradiction | omega) | omega | ((try simp only [sx, sy, eq_self, ne_eq, IntKind.wrap_i64, wrapU64, Int.reduceLT] at *) <;> omega) | (simp_all; done))
  have hq1 : (abV m f != abV m f) = false := by
    rcases Bool.eq_false_or_eq_true (abV m f != abV m f) with h | h
    · exfalso; (first | (simp_all only [Bool.and_eq_true, Bool.not_eq_true', Bool.false_eq_true, Bool.true_eq_false, reduceCtorEq]; done) | (simp only [sx, sy, eq_self, ne_eq, IntKind.wrap_i64, wrapU64, Int.reduceLT] at * <;> first | contradiction | omega) | omega | ((try simp only [sx, sy, eq_self, ne_eq, IntKind.wrap_i64, wrapU64, Int.reduceLT] at *) <;> omega) | (simp_all; done))
    · exact h
  have hq2 : (abE m f != abE m f) = false := by
    rcases Bool.eq_false_or_eq_true (abE m f != abE m f) with h | h
    · exfalso; (first | (simp_all only [Bool.and_eq_true, Bool.not_eq_true', Bool.false_eq_true, Bool.true_eq_false, reduceCtorEq]; done) | (simp only [sx, sy, eq_self, ne_eq, IntKind.wrap_i64, wrapU64, Int.reduceLT] at * <;> first | contradiction | omega) | omega | ((try simp only [sx, sy, eq_self, ne_eq, IntKind.wrap_i64, wrapU64, Int.reduceLT] at *) <;> omega) | (simp_all; done))
    · exact h
  have hq3 : (beV m f != beV m f) = false := by
    rcases Bool.eq_false_or_eq_true (beV m f != beV m f) with h | h
    · exfalso; (first | (simp_all only [Bool.and_eq_true, Bool.not_eq_true', Bool.false_eq_true, Bool.true_eq_false, reduceCtorEq]; done) | (simp only [sx, sy, eq_self, ne_eq, IntKind.wrap_i64, wrapU64, Int.reduceLT] at * <;> first | contradiction | omega) | omega | ((try simp only [sx, sy, eq_self, ne_eq, IntKind.wrap_i64, wrapU64, Int.reduceLT] at *) <;> omega) | (simp_all; done))
    · exact h
  have hq4 : (beE m f != beE m f) = false := by
    rcases Bool.eq_false_or_eq_true (beE m f != beE m f) with h | h
    · exfalso; (first | (simp_all only [Bool.and_eq_true, Bool.not_eq_true', Bool.false_eq_true, Bool.true_eq_false, reduceCtorEq]; done) | (simp only [sx, sy, eq_self, ne_eq, IntKind.wrap_i64, wrapU64, Int.reduceLT] at * <;> first | contradiction | omega) | omega | ((try simp only [sx, sy, eq_self, ne_eq, IntKind.wrap_i64, wrapU64, Int.reduceLT] at *) <;> omega) | (simp_all; done))
    · exact h
  have hq5 : (neV m f == neV m f) = true := by
    rcases Bool.eq_false_or_eq_true (neV m f == neV m f) with h | h
    · exact h
    · exfalso; (first | (simp_all only [Bool.and_eq_true, Bool.not_eq_true', Bool.false_eq_true, Bool.true_eq_false, reduceCtorEq]; done) | (simp only [sx, sy, eq_self, ne_eq, IntKind.wrap_i64, wrapU64, Int.reduceLT] at * <;> first | contradiction | omega) | omega | ((try simp only [sx, sy, eq_self, ne_eq, IntKind.wrap_i64, wrapU64, Int.reduceLT] at *) <;> omega) | (simp_all; done))
  have hq6 : (neE m f == neE m f) = true := by
    rcases Bool.eq_false_or_eq_true (neE m f == neE m f) with h | h
    · exact h
    · exfalso; (first | (simp_all only [Bool.and_eq_true, Bool.not_eq_true', Bool.false_eq_true, Bool.true_eq_false, reduceCtorEq]; done) | (simp only [sx, sy, eq_self, ne_eq, IntKind.wrap_i64, wrapU64, Int.reduceLT] at * <;> first | contradiction | omega) | omega | ((try simp only [sx, sy, eq_self, ne_eq, IntKind.wrap_i64, wrapU64, Int.reduceLT] at *) <;> omega) | (simp_all; done))
  have hq7 : (hs m f == hs m f) = true := by
    rcases Bool.eq_false_or_eq_true (hs m f == hs m f) with h | h
    · exact h
    · exfalso; (first | (simp_all only [Bool.and_eq_true, Bool.not_eq_true', Bool.false_eq_true, Bool.true_eq_false, reduceCtorEq]; done) | (simp only [sx, sy, eq_self, ne_eq, IntKind.wrap_i64, wrapU64, Int.reduceLT] at * <;> first | contradiction | omega) | omega | ((try simp only [sx, sy, eq_self, ne_eq, IntKind.wrap_i64, wrapU64, Int.reduceLT] at *) <;> omega) | (simp_all; done))
  have hq8 : (bctI m == bctI m) = true := by
    rcases Bool.eq_false_or_eq_true (bctI m == bctI m) with h | h
    · exact h
    · exfalso; (first | (simp_all only [Bool.and_eq_true, Bool.not_eq_true', Bool.false_eq_true, Bool.true_eq_false, reduceCtorEq]; done) | (simp only [sx, sy, eq_self, ne_eq, IntKind.wrap_i64, wrapU64, Int.reduceLT] at * <;> first | contradiction | omega) | omega | ((try simp only [sx, sy, eq_self, ne_eq, IntKind.wrap_i64, wrapU64, Int.reduceLT] at *) <;> omega) | (simp_all; done))
  exact mlk_p0 m f hw hl hq0 hq1 hq2 hq3 hq4 hq5 hq6 hq7 hq8

end Go.Proofs.YtboobndcgilmlaaDoor
