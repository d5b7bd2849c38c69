/- Layer 33: Cars, Differ, Text of both. -/
import Derived.Test.YtfpabkpmcmfbhaaDoorWX
import Derived.Test.YtfpabkpmcmfbhaaDoorOgX1
namespace Go.Proofs.YtfpabkpmcmfbhaaDoor
open Go Go.RowKit
set_option linter.unusedVariables false
set_option linter.unusedSimpArgs false
theorem bnT {α : Type} {p : Prop} [Decidable p] {x y : α} (h : ¬ p) : (bif !decide p then x else y) = x := by rw [decide_eq_false h]; rfl
theorem bnF {α : Type} {p : Prop} [Decidable p] {x y : α} (h : p) : (bif !decide p then x else y) = y := by rw [decide_eq_true h]; rfl
theorem lim_all : ∀ k : Fin 8, IntKind.i64.wrap (IntKind.i64.wrap ((1 : Int) * (2 : Int) ^ min (IntKind.u64.wrap ((k.val : Int) + 1)).toNat (64 : Nat)) - (1 : Int)) = pwI ((k.val : Int) + 1) - 1 := by decide +kernel
theorem lim_is {c : Int} (h : 1 ≤ c ∧ c ≤ 8) : IntKind.i64.wrap (IntKind.i64.wrap ((1 : Int) * (2 : Int) ^ min (IntKind.u64.wrap c).toNat (64 : Nat)) - (1 : Int)) = pwI c - 1 := by
  have k := lim_all ⟨(c - 1).toNat, by omega⟩
  have e : (((c - 1).toNat : Nat) : Int) + 1 = c := by omega
  simp only [e] at k
  exact k
theorem vl_is {a c : Int} : vlX a c = 0 ∧ (1 ≤ c ∧ c ≤ 8 ∧ 0 ≤ a ∧ a < pwI c) ∨ vlX a c = 2 ∧ ¬ (1 ≤ c ∧ c ≤ 8 ∧ 0 ≤ a ∧ a < pwI c) := by
  unfold vlX rvd_c0
  generalize pwI c = q
  by_cases h1 : c < 1
  · rw [bif_dT h1]; exact .inr ⟨rfl, by omega⟩
  rw [bif_dF h1]
  by_cases h2 : c > 8
  · rw [bif_dT h2]; exact .inr ⟨rfl, by omega⟩
  rw [bif_dF h2]
  by_cases h3 : a < 0
  · rw [bif_dT h3]; exact .inr ⟨rfl, by omega⟩
  rw [bif_dF h3]
  by_cases h4 : a ≥ q
  · rw [bif_dT h4]; exact .inr ⟨rfl, by omega⟩
  rw [bif_dF h4]
  exact .inl ⟨rfl, by omega⟩
theorem pw_255 {c : Int} (h : 1 ≤ c ∧ c ≤ 8) : pwI c ≤ 256 := by
  have p := pw_le (j := c.toNat) (by omega)
  unfold pwI
  omega
theorem vl_ok {a c : Int} (h : vlX a c = 0) : (1 ≤ c ∧ c ≤ 8) ∧ (0 ≤ a ∧ a ≤ 255) ∧ a < pwI c := by
  rcases vl_is (a := a) (c := c) with ⟨_, h1⟩ | ⟨h2, _⟩
  · have := pw_255 (c := c) ⟨h1.1, h1.2.1⟩
    exact ⟨⟨h1.1, h1.2.1⟩, ⟨h1.2.2.1, by omega⟩, h1.2.2.2⟩
  · rw [h2] at h; cases h
theorem vl_two {a c : Int} (h : ¬ vlX a c = 0) : vlX a c = 2 := by
  rcases vl_is (a := a) (c := c) with ⟨h1, _⟩ | ⟨h2, _⟩
  · exact absurd h1 h
  · exact h2
theorem cw1_is (c a : Int) : cw1_c0 c a = vlX a c := by
  have hv := vl_is (a := a) (c := c)
  unfold cw1_c0
  by_cases h1 : c ≥ 1
  · rw [bif_dT h1]
    by_cases h2 : c ≤ 8
    · rw [bnF h2, lim_is ⟨h1, h2⟩]
      by_cases h3 : a ≥ 0
      · rw [bif_dT h3]
        by_cases h4 : a ≤ pwI c - 1
        · rw [bnF h4]; rcases hv with ⟨e, _⟩ | ⟨_, n⟩
          · exact e.symm
          · exact absurd ⟨h1, h2, h3, by omega⟩ n
        · rw [bnT h4]; rcases hv with ⟨_, n⟩ | ⟨e, _⟩
          · omega
          · exact e.symm
      · rw [bif_dF h3]; rcases hv with ⟨_, n⟩ | ⟨e, _⟩
        · omega
        · exact e.symm
    · rw [bnT h2]; rcases hv with ⟨_, n⟩ | ⟨e, _⟩
      · omega
      · exact e.symm
  · rw [bif_dF h1]; rcases hv with ⟨_, n⟩ | ⟨e, _⟩
    · omega
    · exact e.symm
theorem cw2_is (c a b : Int) : cw2_c0 c a b = if vlX a c = 0 ∧ vlX b c = 0 then 0 else 2 := by
  have hv := vl_is (a := a) (c := c)
  have hw := vl_is (a := b) (c := c)
  have key : ∀ {P : Prop} [Decidable P], (vlX a c = 0 ∧ vlX b c = 0 ↔ P) → ∀ z : Int, (P → z = 0) → (¬ P → z = 2) → z = if vlX a c = 0 ∧ vlX b c = 0 then 0 else 2 := by
    intro P _ h z h1 h2
    by_cases g : P
    · rw [if_pos (h.2 g)]; exact h1 g
    · rw [if_neg (fun k => g (h.1 k))]; exact h2 g
  refine key (P := 1 ≤ c ∧ c ≤ 8 ∧ 0 ≤ a ∧ a < pwI c ∧ 0 ≤ b ∧ b < pwI c) ?_ _ ?_ ?_
  · constructor
    · rintro ⟨x, y⟩
      rcases hv with ⟨_, n⟩ | ⟨e, _⟩
      · rcases hw with ⟨_, m⟩ | ⟨e, _⟩
        · omega
        · omega
      · omega
    · intro h
      rcases hv with ⟨e, _⟩ | ⟨_, n⟩
      · rcases hw with ⟨f, _⟩ | ⟨_, m⟩
        · exact ⟨e, f⟩
        · exact absurd ⟨h.1, h.2.1, h.2.2.2.2.1, h.2.2.2.2.2⟩ m
      · exact absurd ⟨h.1, h.2.1, h.2.2.1, h.2.2.2.1⟩ n
  · intro h
    unfold cw2_c0
    rw [bif_dT h.1, bnF h.2.1, lim_is ⟨h.1, h.2.1⟩, bif_dT (by omega), bnF (by omega), bif_dT (by omega), bnF (by omega)]
  · intro h
    unfold cw2_c0
    by_cases h1 : c ≥ 1
    · rw [bif_dT h1]
      by_cases h2 : c ≤ 8
      · rw [bnF h2, lim_is ⟨h1, h2⟩]
        by_cases h3 : a ≥ 0
        · rw [bif_dT h3]
          by_cases h4 : a ≤ pwI c - 1
          · rw [bnF h4]
            by_cases h5 : b ≥ 0
            · rw [bif_dT h5, bnT (by omega)]
            · rw [bif_dF h5]
          · rw [bnT h4]
        · rw [bif_dF h3]
      · rw [bnT h2]
    · rw [bif_dF h1]
/-- the cars of a word -/
noncomputable def crR (a : Int) : List Int := match coA_f a 20 [] 1 with | some (_, z, _) => z.reverse | none => []
theorem coA_all : ∀ a : Fin 256, (match coA_f (a.val : Int) 20 [] 1 with | some (0, _) => true | _ => false) = true := by decide +kernel
theorem cars_of (a : Int) (ha : 0 ≤ a ∧ a ≤ 255) : KnownR Tryd.prog knWordKnownL 23 [.val (.int .i64 a)] (.complex .f64 0 (crR a).length) [(rowA gI (crR a), 3)] := by
  have h := coA_all ⟨a.toNat, by omega⟩
  have e : ((a.toNat : Nat) : Int) = a := by omega
  simp only [e] at h
  unfold crR
  cases ho : coA_f a 20 [] 1 with
  | none => rw [ho] at h; cases h
  | some v =>
    obtain ⟨k, z, y⟩ := v
    rw [ho] at h
    have hk : k = 0 := by cases k with | zero => rfl | succ k => cases h
    subst hk
    have hl := coA_ok a ha _ _ _ ho
    dsimp only at hl
    exact coK a z y ha hl
theorem rcA_all : ∀ (c : Fin 8) (a : Fin 256), (match Nat.blt a.val (2 ^ (c.val + 1)) with | false => true | true => match rcA_f (a.val : Int) ((c.val : Int) + 1) 20 [] 1 with | some (0, z, _) => decide (z.reverse = crR (a.val : Int)) | _ => false) = true := by decide +kernel
theorem rcA_at {a c : Int} (hc : 1 ≤ c ∧ c ≤ 8) (ha : 0 ≤ a ∧ a ≤ 255) (hp : a < pwI c) : ∃ z y, rcA_f a c 20 [] 1 = some (0, (z, y)) ∧ z.reverse = crR a := by
  have h := rcA_all ⟨(c - 1).toNat, by omega⟩ ⟨a.toNat, by omega⟩
  have e : ((a.toNat : Nat) : Int) = a := by omega
  have e2 : (((c - 1).toNat : Nat) : Int) + 1 = c := by omega
  have e3 : Nat.blt a.toNat (2 ^ ((c - 1).toNat + 1)) = true := by
    rw [show (c - 1).toNat + 1 = c.toNat by omega]
    unfold pwI at hp
    exact Nat.ble_eq_true_of_le (n := a.toNat + 1) (by omega)
  simp only [e, e2, e3] at h
  cases ho : rcA_f a c 20 [] 1 with
  | none => rw [ho] at h; cases h
  | some v =>
    obtain ⟨k, z, y⟩ := v
    rw [ho] at h
    have hk : k = 0 := by cases k with | zero => rfl | succ k => cases h
    subst hk
    exact ⟨z, y, rfl, of_decide_eq_true h⟩
theorem neq0 {v : Int} (h : v = 0) : (v != (0 : Int)) = false := by rw [h]; rfl
theorem rcars (a c : Int) (hv : vlX a c = 0) : KnownR Tryd.prog knWordKnownL 7 [.val (.int .i64 a), .val (.int .i64 c)] (.tuple #[.complex .f64 0 (crR a).length, .int .i64 0]) [(rowA gI (crR a), 3)] := by
  obtain ⟨hc, ha, hp⟩ := vl_ok hv
  obtain ⟨z, y, h1, h2⟩ := rcA_at hc ha hp
  have hl := rcA_ok a c hv ha hc _ _ _ h1
  dsimp only at hl
  rw [← h2]
  exact rcK a c z y hv ha hc (neq0 hv) hl
theorem rtA_all : ∀ (c : Fin 8) (a : Fin 256), (match Nat.blt a.val (2 ^ (c.val + 1)) with | false => true | true => match rtA_f (a.val : Int) ((c.val : Int) + 1) 20 { data := #[] } 1 with | some (0, z, _) => decide (z.data.toList = txL (c.val + 1) a.val) | _ => false) = true := by decide +kernel
theorem rtext (a c : Int) (hv : vlX a c = 0) : Known Tryd.prog knWordKnownL 9 [.int .i64 a, .int .i64 c] (.tuple #[.string (txW a.toNat c.toNat), .int .i64 0]) := by
  obtain ⟨hc, ha, hp⟩ := vl_ok hv
  have h := rtA_all ⟨(c - 1).toNat, by omega⟩ ⟨a.toNat, by omega⟩
  have e : ((a.toNat : Nat) : Int) = a := by omega
  have e2 : (((c - 1).toNat : Nat) : Int) + 1 = c := by omega
  have e3 : Nat.blt a.toNat (2 ^ ((c - 1).toNat + 1)) = true := by
    rw [show (c - 1).toNat + 1 = c.toNat by omega]
    unfold pwI at hp
    exact Nat.ble_eq_true_of_le (n := a.toNat + 1) (by omega)
  simp only [e, e2, e3] at h
  rw [show (c - 1).toNat + 1 = c.toNat by omega] at h
  cases ho : rtA_f a c 20 { data := #[] } 1 with
  | none => rw [ho] at h; cases h
  | some v =>
    obtain ⟨k, z, y⟩ := v
    rw [ho] at h
    have hk : k = 0 := by cases k with | zero => rfl | succ k => cases h
    subst hk
    have hz : z = txW a.toNat c.toNat := by
      have hd := of_decide_eq_true h
      obtain ⟨d⟩ := z
      unfold txW
      congr 1
      rw [← hd]
    have hl := rtA_ok a c hv ha hc _ _ _ ho
    dsimp only at hl
    rw [← hz]
    exact rtK a c z y hv ha hc (neq0 hv) hl
theorem bt_all : ∀ (a : Fin 256) (y : Fin 8), btB (a.val : Int) ((y.val : Int) + 1) = Nat.testBit a.val y.val := by decide +kernel
theorem bt_is {a y : Int} (ha : 0 ≤ a ∧ a ≤ 255) (hy : 1 ≤ y ∧ y ≤ 8) : btB a y = Nat.testBit a.toNat (y - 1).toNat := by
  have h := bt_all ⟨a.toNat, by omega⟩ ⟨(y - 1).toNat, by omega⟩
  have e : ((a.toNat : Nat) : Int) = a := by omega
  have e2 : (((y - 1).toNat : Nat) : Int) + 1 = y := by omega
  simp only [e, e2] at h
  exact h
theorem ofI_all : ∀ a : Fin 256, (BitVec.ofInt 64 (a.val : Int)).toNat = a.val := by decide +kernel
theorem ofI {a : Int} (ha : 0 ≤ a ∧ a ≤ 255) : (BitVec.ofInt 64 a).toNat = a.toNat := by
  have h := ofI_all ⟨a.toNat, by omega⟩
  have e : ((a.toNat : Nat) : Int) = a := by omega
  simp only [e] at h
  exact h
theorem xo_is {a b : Int} (ha : 0 ≤ a ∧ a ≤ 255) (hb : 0 ≤ b ∧ b ≤ 255) : IntKind.i64.wrap (↑(BitVec.ofInt (64 : Nat) a ^^^ BitVec.ofInt (64 : Nat) b).toNat : Int) = ((a.toNat ^^^ b.toNat : Nat) : Int) ∧ a.toNat ^^^ b.toNat < 256 := by
  have k := Nat.xor_lt_two_pow (n := 8) (x := a.toNat) (y := b.toNat) (by omega) (by omega)
  rw [BitVec.toNat_xor, ofI ha, ofI hb]
  exact ⟨w8n (by omega) (by omega), k⟩
theorem or_is {a b : Int} (ha : 0 ≤ a ∧ a ≤ 255) (hb : 0 ≤ b ∧ b ≤ 255) : IntKind.i64.wrap (↑(BitVec.ofInt (64 : Nat) a ||| BitVec.ofInt (64 : Nat) b).toNat : Int) = ((a.toNat ||| b.toNat : Nat) : Int) ∧ a.toNat ||| b.toNat < 256 := by
  have k := Nat.or_lt_two_pow (n := 8) (x := a.toNat) (y := b.toNat) (by omega) (by omega)
  rw [BitVec.toNat_or, ofI ha, ofI hb]
  exact ⟨w8n (by omega) (by omega), k⟩
theorem bt_xor {a b y : Int} (ha : 0 ≤ a ∧ a ≤ 255) (hb : 0 ≤ b ∧ b ≤ 255) (hy : 1 ≤ y ∧ y ≤ 8) : (!btB a y == btB b y) = btB ((a.toNat ^^^ b.toNat : Nat) : Int) y := by
  have k := (xo_is ha hb).2
  rw [bt_is ha hy, bt_is hb hy, bt_is (a := ((a.toNat ^^^ b.toNat : Nat) : Int)) ⟨by omega, by omega⟩ hy, Int.toNat_natCast, Nat.testBit_xor]
  cases Nat.testBit a.toNat (y - 1).toNat <;> cases Nat.testBit b.toNat (y - 1).toNat <;> rfl
theorem rd_rc {a b c : Int} (ha : 0 ≤ a ∧ a ≤ 255) (hb : 0 ≤ b ∧ b ≤ 255) (hc : 1 ≤ c ∧ c ≤ 8) : ∀ (fu : Nat) (y0 : List Int) (y1 : Int), rdA_f a b c fu y0 y1 = rcA_f ((a.toNat ^^^ b.toNat : Nat) : Int) c fu y0 y1 := by
  intro fu
  induction fu with
  | zero => intro y0 y1; rfl
  | succ fu ih =>
    intro y0 y1
    rw [rdA_fs, rcA_fs]
    by_cases hi : 1 ≤ y1 ∧ y1 ≤ 9 ∧ (y0.length : Int) ≤ y1
    · rw [bif_dT hi, bif_dT hi]
      by_cases hy : y1 ≤ c
      · rw [bif_dT hy, bif_dT hy, bt_xor ha hb ⟨hi.1, by omega⟩, ih, ih]
      · rw [bif_dF hy, bif_dF hy]
    · rw [bif_dF hi, bif_dF hi]
theorem xor_pw {a b c : Int} (ha : 0 ≤ a ∧ a < pwI c) (hb : 0 ≤ b ∧ b < pwI c) : ((a.toNat ^^^ b.toNat : Nat) : Int) < pwI c := by
  unfold pwI at *
  have := Nat.xor_lt_two_pow (n := c.toNat) (x := a.toNat) (y := b.toNat) (by omega) (by omega)
  omega
theorem rdiffer (a b c : Int) (hv : vlX a c = 0) (hw : vlX b c = 0) : KnownR Tryd.prog knWordKnownL 14 [.val (.int .i64 a), .val (.int .i64 b), .val (.int .i64 c)] (.tuple #[.complex .f64 0 (crR ((a.toNat ^^^ b.toNat : Nat) : Int)).length, .int .i64 0]) [(rowA gI (crR ((a.toNat ^^^ b.toNat : Nat) : Int)), 3)] := by
  obtain ⟨hc, ha, hp⟩ := vl_ok hv
  obtain ⟨_, hb, hq⟩ := vl_ok hw
  have k := (xo_is ha hb).2
  obtain ⟨z, y, h1, h2⟩ := rcA_at (a := ((a.toNat ^^^ b.toNat : Nat) : Int)) hc ⟨by omega, by omega⟩ (xor_pw ⟨ha.1, hp⟩ ⟨hb.1, hq⟩)
  rw [← rd_rc ha hb hc] at h1
  have hl := rdA_ok a b c hv hw ha hb hc _ _ _ h1
  dsimp only at hl
  rw [← h2]
  exact rdK a b c z y hv hw ha hb hc (neq0 hv) (neq0 hw) hl
end Go.Proofs.YtfpabkpmcmfbhaaDoor
