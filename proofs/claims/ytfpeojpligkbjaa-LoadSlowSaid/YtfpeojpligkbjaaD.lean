/- Layer 11: load.Changes, tipstaffref11.Changes. -/
import Derived.Test.YtfpeojpligkbjaaC
namespace Go.Proofs.Ytfpeojpligkbjaa
open Go.RowKit
set_option linter.unusedVariables false

/-- where the list changes, below k -/
def chg (l : List Int) : Nat → List Int
  | 0 => []
  | k + 1 => chg l k ++ if 0 < k ∧ nth l k ≠ nth l (k - 1) then [(k : Int)] else []
theorem chg_hit {l : List Int} {k : Nat} (h : 0 < k) (h2 : nth l k ≠ nth l (k - 1)) : chg l (k + 1) = chg l k ++ [(k : Int)] := by simp [chg, h, h2]
theorem chg_miss {l : List Int} {k : Nat} (h : ¬ (0 < k ∧ nth l k ≠ nth l (k - 1))) : chg l (k + 1) = chg l k := by simp [chg, h]
theorem chg_len (l : List Int) : ∀ k : Nat, (chg l k).length ≤ k
  | 0 => by simp [chg]
  | k + 1 => by
    have := chg_len l k
    simp only [chg]
    split <;> simp <;> omega
def chgOut (e f s : Int) (h : List Int) : List Int := chg (runOut e f s h) (runOut e f s h).length
theorem chgOut_err {e f s : Int} {h : List Int} (he : runErr e f s h ≠ 0) : chgOut e f s h = [] := by
  have : runOut e f s h = [] := by unfold runOut; rw [if_neg he]
  unfold chgOut; rw [this]; rfl

theorem runOut_len (e f s : Int) (h : List Int) : (runOut e f s h).length ≤ 2000 := by
  unfold runOut
  split
  · rename_i h0
    rw [runL_len]
    unfold runErr at h0
    split at h0 <;> (try split at h0) <;> omega
  · simp

def ChgRel (l : List Int) (w1 : World) (v8 v22 : Value) (wr : World) : Prop :=
  ∃ k : Nat, k ≤ l.length ∧ v22 = .int .i64 k ∧ Mine w1.heap.size wr v8 (chg l k) ∧ Below w1.heap.size w1 wr

theorem outMine' {xs : List Int} {E : Int} {B : Nat} {v : Value} {w w' : World} (hm : Mine B w' v xs) (hb : Below w.heap.size w w') : OutInts xs E w (.returned (.tuple #[v, .int .i64 E])) w' := by
  obtain ⟨A, cap, rfl, hi, hl⟩ := hm.slice
  exact ⟨A, cap, rfl, hi, hl, hb⟩

set_option maxHeartbeats 4000000 in
theorem pchanges (e f s : Int) (A : Option Addr) (n cap : Nat) (hs : List Int) (w : World) (he : In64 e) (hf : In64 f) (hs' : In64 s) (hn : hs.length = n) (hm : n ≤ maxLen) (hA : Ints w A hs) :
    Calls Try.prog 21 #[(.agg #[.int .i64 e, .int .i64 f, .int .i64 s]), .slice A n cap] w (OutInts (chgOut e f s hs) (runErr e f s hs) w) := by
  have hm' := hm
  unfold maxLen at hm
  have HN := Lib.hid hn
  clear hn
  by_cases h0 : runErr e f s hs = 0
  · have hb0 : (runErr e f s hs != 0) = false := by simp [h0]
    have H0 := Lib.hid h0
    clear h0
    go_enter Try.func21, Try.ntmps21
    go_wp2_with fail
    refine (prun e f s A n cap hs _ he hf hs' HN.out hm' (hA.step (by repeat (first | exact Below.refl _ _ | apply keep_alloc | apply keep_drew | apply keep_drewN | refine keep_step (by assumption) ?_ (by rfl))))).mono ?_
    rintro _ w1 ⟨A1, c1, rfl, hi1, hl1, hb1⟩
    have hl1 := runOut_len e f s hs
    go_wp2
    go_loopw [8, 22] (ChgRel (runOut e f s hs) w1) (fun _ i _ => (runOut e f s hs).length - (intOf i).toNat)
    case atStart => exact ⟨0, by omega, rfl, Mine.nil _ _, Below.refl _ _⟩
    case round =>
      obtain ⟨k, hk, rfl, hown, hbl⟩ := hrel
      have hlen := chg_len (runOut e f s hs) k
      by_cases hlt : k < (runOut e f s hs).length
      · obtain ⟨b, o, rfl, hcs⟩ := (hi1.step hbl).cell hlt
        have hck := hcs k hlt
        by_cases hk0 : 0 < k
        · have hck1 := hcs (k - 1) (by omega)
          have hoff : ((k : Int) - 1).toNat = k - 1 := by omega
          have hge : (0 : Int) ≤ (k : Int) - 1 := by omega
          have hge1 : (k : Int) - 1 < (runOut e f s hs).length := by omega
          clear hcs
          by_cases hd : nth (runOut e f s hs) k = nth (runOut e f s hs) (k - 1)
          · have hdb : (nth (runOut e f s hs) k != nth (runOut e f s hs) (k - 1)) = false := by simp [hd]
            have HD := Lib.hid hd
            clear hd
            go_wp2
            exact ⟨⟨k + 1, by omega, by go_num, by rw [chg_miss (by rw [HD.out]; simp)]; exact hown, hbl⟩, by simp [intOf]; omega⟩
          · have hdb : (nth (runOut e f s hs) k != nth (runOut e f s hs) (k - 1)) = true := by simp [hd]
            have HD := Lib.hid hd
            clear hd
            go_wp2_with (first | (at_builtin; refine push_int rfl _ _ rfl w1 _ _ _ rfl rfl (hown.step (by repeat (first | exact Below.refl _ _ | apply keep_alloc | apply keep_drew | apply keep_drewN | refine keep_step (by assumption) ?_ (by rfl)))) (by repeat (first | exact Below.refl _ _ | apply keep_alloc | apply keep_drew | apply keep_drewN | refine keep_step (by assumption) ?_ (by rfl))) (by first | omega | (simp only [List.length_take]; omega)) ?_; intro v2 w2 hown0 hbl2; have hown2 := Lib.hid hown0; clear hown0) | go_in)
            exact ⟨⟨k + 1, by omega, by go_num, by rw [chg_hit hk0 HD.out]; exact hown2.out, hbl2⟩, by simp [intOf]; omega⟩
        · clear hcs
          have hkb : decide (0 < k) = false := by simpa using hk0
          have HK := Lib.hid hk0
          clear hk0
          go_wp2
          exact ⟨⟨k + 1, by omega, by go_num, by rw [chg_miss (fun h => HK.out h.1)]; exact hown, hbl⟩, by simp [intOf]; omega⟩
      · have HK : Hid ((runOut e f s hs).length = k) := Lib.hid (by omega)
        go_wp2
        go_ret2
        rw [H0.out]
        unfold chgOut
        rw [HK.out]
        exact outMine' hown (by repeat (first | exact Below.refl _ _ | apply keep_alloc | apply keep_drew | apply keep_drewN | refine keep_step (by assumption) ?_ (by rfl)))
  · have hb0 : (runErr e f s hs != 0) = true := by simp [h0]
    have H0 := Lib.hid h0
    clear h0
    go_enter Try.func21, Try.ntmps21
    go_wp2_with fail
    refine (prun e f s A n cap hs _ he hf hs' HN.out hm' (hA.step (by repeat (first | exact Below.refl _ _ | apply keep_alloc | apply keep_drew | apply keep_drewN | refine keep_step (by assumption) ?_ (by rfl))))).mono ?_
    rintro _ w1 ⟨A1, c1, rfl, hi1, hl1, hb1⟩
    go_wp2
    go_ret2
    rw [chgOut_err H0.out]
    exact outMine' (B := 0) (Mine.nil _ _) (by repeat (first | exact Below.refl _ _ | apply keep_alloc | apply keep_drew | apply keep_drewN | refine keep_step (by assumption) ?_ (by rfl)))
end Go.Proofs.Ytfpeojpligkbjaa
