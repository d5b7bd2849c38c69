/- Layer 11: Total. -/
import Derived.Test.YtfpeojpligkbjaaJ
namespace Go.Proofs.Ytfpeojpligkbjaa
open Go.RowKit
set_option linter.unusedVariables false

def sumK (l : List Int) : Nat → Int
  | 0 => 0
  | k + 1 => sumK l k + nth l k
theorem sumK_rng (l : List Int) : ∀ k : Nat, (l.take k).all isl = true → k ≤ l.length → 0 ≤ sumK l k ∧ sumK l k ≤ 10000 * k
  | 0, _, _ => by simp [sumK]
  | k + 1, h, hk => by
    rw [take_nth (by omega), List.all_append, Bool.and_eq_true] at h
    have h1 := sumK_rng l k h.1 (by omega)
    have h2 : 0 ≤ nth l k ∧ nth l k ≤ 10000 := by simpa [isl] using h.2
    simp only [sumK]
    omega
def totE (l : List Int) : Int := if 2000 < l.length then 4 else if l.all isl then if 10000 < sumK l l.length then 14 else 0 else 2
def totV (l : List Int) : Int := if totE l = 0 then sumK l l.length else 0

def addE (l : List Int) : Int := if l.all isl then 0 else 2
def addV (l : List Int) : Int := if l.all isl then sumK l l.length else 0
theorem addE_t {l : List Int} (h : l.all isl = true) : addE l = 0 := by unfold addE; rw [h]; rfl
theorem addE_f {l : List Int} (h : l.all isl = false) : addE l = 2 := by unfold addE; rw [h]; rfl
theorem addV_t {l : List Int} {n : Nat} (h : l.all isl = true) (hn : l.length = n) : addV l = sumK l n := by unfold addV; rw [h, hn]; rfl
theorem addV_f {l : List Int} (h : l.all isl = false) : addV l = 0 := by unfold addV; rw [h]; rfl

def AddRel (l : List Int) (n : Nat) (v2 v3 v8 : Value) : Prop := ∃ k : Nat, k ≤ n ∧ v8 = .int .i64 k ∧ v3 = .int .i64 0 ∧ v2 = .int .i64 (sumK l k) ∧ (l.take k).all isl = true

theorem padd (A : Option Addr) (n cap : Nat) (hs : List Int) (w : World) (hn : hs.length = n) (hm : n ≤ 2000) (hA : Ints w A hs) :
    Calls Try.prog 43 #[.slice A n cap] w (Out2 (addV hs) (addE hs) w) := by
  have HN := Lib.hid hn
  clear hn
  go_enter Try.func43, Try.ntmps43
  go_wp2
  go_loop [2, 3, 8] (AddRel hs n) (fun _ _ v => n - (intOf v).toNat)
  case atStart => exact ⟨0, by omega, rfl, rfl, rfl, rfl⟩
  case round =>
    obtain ⟨k, hk, rfl, rfl, rfl, hall⟩ := hrel
    have hrng := sumK_rng hs k hall (by rw [HN.out]; exact hk)
    have HALL := Lib.hid hall
    clear hall
    by_cases hlt : k < n
    · have hkl : k < hs.length := by rw [HN.out]; exact hlt
      obtain ⟨b, o, rfl, hcs⟩ := hA.cell hkl
      have hck := hcs k hkl
      clear hcs
      by_cases hi : isl (nth hs k) = true
      · have hi1 : 0 ≤ nth hs k ∧ nth hs k ≤ 10000 := by simpa [isl] using hi
        have HALL2 := Lib.hid (all_take hkl HALL.out hi)
        clear hi
        go_wp2
        exact ⟨⟨k + 1, by omega, by go_num, rfl, rfl, HALL2.out⟩, by simp [intOf]; omega⟩
      · have hi1 : nth hs k < 0 ∨ 10000 < nth hs k := by simp [isl] at hi; omega
        have HA := Lib.hid (all_not hkl hi)
        clear hi
        rcases hi1 with hi1 | hi1
        · have hd : decide (0 ≤ nth hs k) = false := by simp; omega
          go_wp2
          go_ret2
          refine out2 ?_ ?_ (by repeat (first | exact Below.refl _ _ | apply keep_alloc | apply keep_drew | apply keep_drewN | refine keep_step (by assumption) ?_ (by rfl)))
          · exact (addV_f HA.out).symm
          · exact (addE_f HA.out).symm
        · have hd : decide (nth hs k ≤ 10000) = false := by simp; omega
          go_wp2
          go_ret2
          refine out2 ?_ ?_ (by repeat (first | exact Below.refl _ _ | apply keep_alloc | apply keep_drew | apply keep_drewN | refine keep_step (by assumption) ?_ (by rfl)))
          · exact (addV_f HA.out).symm
          · exact (addE_f HA.out).symm
    · have HA := Lib.hid (all_full (by rw [HN.out]; omega) HALL.out)
      have hkn : k = n := by omega
      subst hkn
      go_wp2
      go_ret2
      refine out2 ?_ ?_ (by repeat (first | exact Below.refl _ _ | apply keep_alloc | apply keep_drew | apply keep_drewN | refine keep_step (by assumption) ?_ (by rfl)))
      · exact (addV_t HA.out HN.out).symm
      · exact (addE_t HA.out).symm

theorem pTotal (A : Option Addr) (n cap : Nat) (hs : List Int) (w : World) (hn : hs.length = n) (hm : n ≤ maxLen) (hA : Ints w A hs) :
    Calls Try.prog 24 #[.slice A n cap] w (Out2 (totV hs) (totE hs) w) := by
  unfold maxLen at hm
  have HN := Lib.hid hn
  by_cases hlong : 2000 < n
  · have HE : Hid (totE hs = 4) := Lib.hid (by unfold totE; rw [if_pos (by omega)])
    have HV : Hid (totV hs = 0) := Lib.hid (by unfold totV; rw [HE.out]; rfl)
    clear hn
    go_enter Try.func24, Try.ntmps24
    go_wp2
    go_ret2
    exact out2 HV.out.symm HE.out.symm (by repeat (first | exact Below.refl _ _ | apply keep_alloc | apply keep_drew | apply keep_drewN | refine keep_step (by assumption) ?_ (by rfl)))
  · by_cases hall : hs.all isl = true
    · have hrng := sumK_rng hs n (by rw [← hn, List.take_length]; exact hall) (by omega)
      have HE : Hid (totE hs = if 10000 < sumK hs n then 14 else 0) := Lib.hid (by unfold totE; rw [if_neg (by omega), if_pos hall, hn])
      have HV : Hid (totV hs = if 10000 < sumK hs n then 0 else sumK hs n) := Lib.hid (by unfold totV; rw [HE.out, hn]; split <;> simp)
      have HA := Lib.hid hall
      clear hn hall
      have hlong' : n ≤ 2000 := by omega
      go_enter Try.func24, Try.ntmps24
      go_wp2_with fail
      refine (padd A n cap hs _ HN.out hlong' hA).mono ?_
      rintro _ w' ⟨rfl, hb⟩
      rw [addV_t HA.out HN.out, addE_t HA.out]
      go_wp2
      all_goals go_ret2
      all_goals (refine out2 ?_ ?_ (by repeat (first | exact Below.refl _ _ | apply keep_alloc | apply keep_drew | apply keep_drewN | refine keep_step (by assumption) ?_ (by rfl))))
      all_goals (have h1 := HE.out; have h2 := HV.out; omega)
    · have HA := Lib.hid (Bool.not_eq_true _ ▸ hall)
      have HE : Hid (totE hs = 2) := Lib.hid (by unfold totE; rw [if_neg (by omega), if_neg hall])
      have HV : Hid (totV hs = 0) := Lib.hid (by unfold totV; rw [HE.out]; rfl)
      clear hn hall
      have hlong' : n ≤ 2000 := by omega
      go_enter Try.func24, Try.ntmps24
      go_wp2_with fail
      refine (padd A n cap hs _ HN.out hlong' hA).mono ?_
      rintro _ w' ⟨rfl, hb⟩
      rw [addV_f HA.out, addE_f HA.out]
      go_wp2
      go_ret2
      exact out2 HV.out.symm HE.out.symm (by repeat (first | exact Below.refl _ _ | apply keep_alloc | apply keep_drew | apply keep_drewN | refine keep_step (by assumption) ?_ (by rfl)))

def TotRel (l : List Int) (n : Nat) (v4 v5 : Value) : Prop := ∃ k : Nat, k ≤ n ∧ v5 = .int .i64 k ∧ v4 = .int .i64 (sumK l k) ∧ (l.take k).all isl = true

theorem rTotal (A : Option Addr) (n cap : Nat) (hs : List Int) (w : World) (hn : hs.length = n) (hm : n ≤ maxLen) (hA : Ints w A hs) :
    Calls Try.prog 25 #[.slice A n cap] w (Out2 (totV hs) (totE hs) w) := by
  unfold maxLen at hm
  have HN := Lib.hid hn
  by_cases hlong : 2000 < n
  · have HE : Hid (totE hs = 4) := Lib.hid (by unfold totE; rw [if_pos (by omega)])
    have HV : Hid (totV hs = 0) := Lib.hid (by unfold totV; rw [HE.out]; rfl)
    clear hn
    go_enter Try.func25, Try.ntmps25
    go_wp2
    go_ret2
    exact out2 HV.out.symm HE.out.symm (by repeat (first | exact Below.refl _ _ | apply keep_alloc | apply keep_drew | apply keep_drewN | refine keep_step (by assumption) ?_ (by rfl)))
  · have hlong' : n ≤ 2000 := by omega
    clear hlong hn
    go_enter Try.func25, Try.ntmps25
    go_wp2
    go_loop [4, 5] (TotRel hs n) (fun _ v => n - (intOf v).toNat)
    case atStart => exact ⟨0, by omega, rfl, rfl, rfl⟩
    case round =>
      obtain ⟨k, hk, rfl, rfl, hall⟩ := hrel
      have hrng := sumK_rng hs k hall (by rw [HN.out]; exact hk)
      have HALL := Lib.hid hall
      clear hall
      by_cases hlt : k < n
      · have hkl : k < hs.length := by rw [HN.out]; exact hlt
        obtain ⟨b, o, rfl, hcs⟩ := hA.cell hkl
        have hck := hcs k hkl
        clear hcs
        by_cases hi : isl (nth hs k) = true
        · have hi1 : 0 ≤ nth hs k ∧ nth hs k ≤ 10000 := by simpa [isl] using hi
          have HALL2 := Lib.hid (all_take hkl HALL.out hi)
          clear hi
          go_wp2
          exact ⟨⟨k + 1, by omega, by go_num, rfl, HALL2.out⟩, by simp [intOf]; omega⟩
        · have hi1 : nth hs k < 0 ∨ 10000 < nth hs k := by simp [isl] at hi; omega
          have HE : Hid (totE hs = 2) := Lib.hid (by unfold totE; rw [if_neg (by rw [HN.out]; omega), all_not hkl hi]; rfl)
          have HV : Hid (totV hs = 0) := Lib.hid (by unfold totV; rw [HE.out]; rfl)
          clear hi
          rcases hi1 with hi1 | hi1
          · have hd : decide (0 ≤ nth hs k) = false := by simp; omega
            go_wp2
            go_ret2
            exact out2 HV.out.symm HE.out.symm (by repeat (first | exact Below.refl _ _ | apply keep_alloc | apply keep_drew | apply keep_drewN | refine keep_step (by assumption) ?_ (by rfl)))
          · have hd : decide (nth hs k ≤ 10000) = false := by simp; omega
            go_wp2
            go_ret2
            exact out2 HV.out.symm HE.out.symm (by repeat (first | exact Below.refl _ _ | apply keep_alloc | apply keep_drew | apply keep_drewN | refine keep_step (by assumption) ?_ (by rfl)))
      · have HA := Lib.hid (all_full (by rw [HN.out]; omega) HALL.out)
        have hkn : k = n := by omega
        subst hkn
        have HE : Hid (totE hs = if 10000 < sumK hs k then 14 else 0) := Lib.hid (by unfold totE; rw [if_neg (by rw [HN.out]; omega), if_pos HA.out, HN.out])
        have HV : Hid (totV hs = if 10000 < sumK hs k then 0 else sumK hs k) := Lib.hid (by unfold totV; rw [HE.out, HN.out]; split <;> simp)
        go_wp2
        all_goals go_ret2
        all_goals (refine out2 ?_ ?_ (by repeat (first | exact Below.refl _ _ | apply keep_alloc | apply keep_drew | apply keep_drewN | refine keep_step (by assumption) ?_ (by rfl))))
        all_goals (have h1 := HE.out; have h2 := HV.out; omega)
end Go.Proofs.Ytfpeojpligkbjaa
