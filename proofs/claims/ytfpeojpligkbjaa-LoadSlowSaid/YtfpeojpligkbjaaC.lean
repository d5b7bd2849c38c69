/- Layer 11: load.Run. -/
import Derived.Test.YtfpeojpligkbjaaB
import Derived.Test.YtfpeojpligkbjaaOwn
namespace Go.Proofs.Ytfpeojpligkbjaa
open Go.RowKit
set_option linter.unusedVariables false

def isl (n : Int) : Bool := decide (0 ≤ n ∧ n ≤ 10000)
def scan (e f s : Int) : Int → List Int → List Int
  | _, [] => []
  | a, x :: t => hld e f s a x :: scan e f s (hld e f s a x) t
def runL (e f s : Int) : List Int → List Int
  | [] => []
  | x :: t => bnd e f s x :: scan e f s (bnd e f s x) t
def runErr (e f s : Int) (h : List Int) : Int := if chk e f s ≠ 0 then chk e f s else if 2000 < h.length then 4 else if h.all isl then 0 else 2
def runOut (e f s : Int) (h : List Int) : List Int := if runErr e f s h = 0 then runL e f s h else []

theorem bnd_rng (e f s n : Int) : 1 ≤ bnd e f s n ∧ bnd e f s n ≤ 3 := by unfold bnd; omega
theorem hld_rng (e f s a n : Int) : 1 ≤ hld e f s a n ∧ hld e f s a n ≤ 3 := by have := bnd_rng e f s n; unfold hld; omega
theorem hld_bnd (e f s n : Int) (hn : Nice e f s) : hld e f s (bnd e f s n) n = bnd e f s n := by unfold Nice at hn; unfold hld bnd; omega
theorem scan_len (e f s : Int) : ∀ (l : List Int) (a : Int), (scan e f s a l).length = l.length
  | [], _ => rfl
  | x :: t, a => by simp [scan, scan_len e f s t]
theorem runL_len (e f s : Int) (h : List Int) : (runL e f s h).length = h.length := by
  cases h <;> simp [runL, scan_len]
theorem scan_nth (e f s : Int) : ∀ (l : List Int) (a : Int) (k : Nat), k < l.length →
    nth (scan e f s a l) k = hld e f s (if k = 0 then a else nth (scan e f s a l) (k - 1)) (nth l k)
  | [], _, _, h => absurd h (by simp)
  | x :: t, a, 0, _ => by simp [scan, nth]
  | x :: t, a, k + 1, h1 => by
    have h3 : k < t.length := by simpa using h1
    have := scan_nth e f s t (hld e f s a x) k h3
    simp only [scan, nth_cons_succ, this]
    cases k with
    | zero => simp [nth_cons_zero]
    | succ k => simp [nth_cons_succ]
theorem runL_zero (e f s : Int) (h : List Int) (h1 : 0 < h.length) : nth (runL e f s h) 0 = bnd e f s (nth h 0) := by
  cases h with
  | nil => simp at h1
  | cons x t => simp [runL, nth]
theorem runL_succ (e f s : Int) (h : List Int) (k : Nat) (h1 : k + 1 < h.length) :
    nth (runL e f s h) (k + 1) = hld e f s (nth (runL e f s h) k) (nth h (k + 1)) := by
  cases h with
  | nil => simp at h1
  | cons x t =>
    have h3 : k < t.length := by simpa using h1
    simp only [runL, nth_cons_succ]
    rw [scan_nth _ _ _ _ _ _ h3]
    cases k with
    | zero => simp [nth_cons_zero]
    | succ k => simp [nth_cons_succ]

/-- a slice and an error come back -/
def OutInts (xs : List Int) (err : Int) (w : World) (e : Ending) (w' : World) : Prop :=
  ∃ A cap, e = .returned (.tuple #[.slice A xs.length cap, .int .i64 err]) ∧ Ints w' A xs ∧ xs.length ≤ maxLen ∧ Below w.heap.size w w'

def afterK (e f s : Int) (hs : List Int) (k : Nat) : Int := if k = 0 then 2 else nth (runL e f s hs) (k - 1)
theorem afterK_step (e f s : Int) (hs : List Int) (k : Nat) (h1 : k < hs.length) : afterK e f s hs (k + 1) = if k = 0 then bnd e f s (nth hs k) else hld e f s (afterK e f s hs k) (nth hs k) := by
  simp only [afterK]
  rw [if_neg (by omega)]
  cases k with
  | zero => simp [runL_zero _ _ _ _ h1]
  | succ k => simp [runL_succ _ _ _ _ _ h1]
theorem afterK_rng (e f s : Int) (hs : List Int) : ∀ k : Nat, k ≤ hs.length → 1 ≤ afterK e f s hs k ∧ afterK e f s hs k ≤ 3
  | 0, _ => by simp [afterK]
  | k + 1, h => by
    rw [afterK_step _ _ _ _ _ (by omega)]
    split
    · exact bnd_rng ..
    · exact hld_rng ..
theorem runL_take (e f s : Int) (hs : List Int) (k : Nat) (h1 : k < hs.length) : (runL e f s hs).take (k + 1) = (runL e f s hs).take k ++ [afterK e f s hs (k + 1)] := by
  rw [take_nth (by rw [runL_len]; exact h1), afterK, if_neg (by omega)]; rfl
theorem all_take {p : Int → Bool} {l : List Int} {k : Nat} (h : k < l.length) (ha : (l.take k).all p = true) (hk : p (nth l k) = true) : (l.take (k + 1)).all p = true := by
  rw [take_nth h, List.all_append, ha]; simp [hk]
theorem all_not {p : Int → Bool} {l : List Int} {k : Nat} (h : k < l.length) (hk : ¬ p (nth l k) = true) : l.all p = false := by
  rw [← Bool.not_eq_true]; intro h2
  exact hk (by rw [nth_eq h]; exact List.all_eq_true.1 h2 _ (List.getElem_mem h))
theorem all_full {p : Int → Bool} {l : List Int} {k : Nat} (h : l.length ≤ k) (ha : (l.take k).all p = true) : l.all p = true := by
  rwa [List.take_of_length_le h] at ha

theorem outNone {e f s : Int} {hs : List Int} {E : Int} {w w' : World} (h : runErr e f s hs = E) (hb : Below w.heap.size w w') (hE : E ≠ 0 := by omega) : OutInts (runOut e f s hs) (runErr e f s hs) w (.returned (.tuple #[.slice none 0 0, .int .i64 E])) w' := by
  have h1 : runOut e f s hs = [] := by unfold runOut; rw [if_neg (by omega)]
  rw [h1, h]
  exact ⟨none, 0, rfl, .inl rfl, by simp, hb⟩
theorem outMine {e f s : Int} {hs : List Int} {B : Nat} {v : Value} {w w' : World} (h : runErr e f s hs = 0) (hm : Mine B w' v (runL e f s hs)) (hb : Below w.heap.size w w') : OutInts (runOut e f s hs) (runErr e f s hs) w (.returned (.tuple #[v, .int .i64 0])) w' := by
  have h1 : runOut e f s hs = runL e f s hs := by unfold runOut; rw [if_pos h]
  rw [h1, h]
  obtain ⟨A, cap, rfl, hi, hl⟩ := hm.slice
  exact ⟨A, cap, rfl, hi, hl, hb⟩

def RunRel (e f s : Int) (hs : List Int) (n : Nat) (B : Nat) (w : World) (v7 v8 v21 : Value) (wr : World) : Prop :=
  ∃ k : Nat, k ≤ n ∧ v21 = .int .i64 k ∧ v8 = .int .i64 (afterK e f s hs k) ∧ Mine B wr v7 ((runL e f s hs).take k) ∧ Below B w wr ∧ (hs.take k).all isl = true

set_option maxHeartbeats 4000000 in
theorem prun (e f s : Int) (A : Option Addr) (n cap : Nat) (hs : List Int) (w : World) (he : In64 e) (hf : In64 f) (hs' : In64 s) (hn : hs.length = n) (hm : n ≤ maxLen) (hA : Ints w A hs) :
    Calls Try.prog 19 #[(.agg #[.int .i64 e, .int .i64 f, .int .i64 s]), .slice A n cap] w (OutInts (runOut e f s hs) (runErr e f s hs) w) := by
  unfold maxLen at hm
  have HN := Lib.hid hn
  clear hn
  by_cases h0 : chk e f s = 0
  · by_cases hlong : n ≤ 2000
    · have hnice := nice_of h0
      go_enter Try.func19, Try.ntmps19
      go_wp2_with (go_at_call 15; (apply Calls.mono; (focus ((first | (with_reducible exact pchk) | (apply pchk <;> first | (with_reducible assumption) | (first | omega | (simp only [Bool.not_eq_true', Bool.not_eq_false', beq_iff_eq, beq_eq_false_iff_ne, ne_eq, bne_iff_ne, bne_eq_false_iff_eq, Bool.not_eq_true, Bool.not_eq_false, decide_eq_true_eq, decide_eq_false_iff_not, Bool.and_eq_true, Bool.or_eq_true] at *; omega) | (simp only [Bool.not_eq_true', Bool.not_eq_false', beq_iff_eq, beq_eq_false_iff_ne, ne_eq, bne_iff_ne, bne_eq_false_iff_eq, Bool.not_eq_true, Bool.not_eq_false, decide_eq_true_eq, decide_eq_false_iff_not, Bool.and_eq_true, Bool.or_eq_true, wrap64] at *; omega)))); done))); rintro e w' ⟨rfl, hb⟩; obtain ⟨hc, hf⟩ := bcell (show Below w.heap.size w w' from (by repeat (first | exact Below.refl _ _ | apply keep_alloc | apply keep_drew | apply keep_drewN | refine keep_step (by assumption) ?_ (by rfl)))); obtain ⟨hx0, hx1, hx2⟩ := box3 (show Below (w.alloc (.cells #[.int .i64 e, .int .i64 f, .int .i64 s] 23)).heap.size (w.alloc (.cells #[.int .i64 e, .int .i64 f, .int .i64 s] 23)) w' from (by repeat (first | exact Below.refl _ _ | apply keep_alloc | apply keep_drew | apply keep_drewN | refine keep_step (by assumption) ?_ (by rfl)))))
      obtain ⟨w1, hw1⟩ : ∃ w1 : World, w1 = w' := ⟨_, rfl⟩
      subst hw1
      go_loopw [7, 8, 21] (RunRel e f s hs n w1.heap.size w1) (fun _ _ i _ => n - (intOf i).toNat)
      case atStart => exact ⟨0, by omega, rfl, rfl, Mine.nil _ _, Below.refl _ _, rfl⟩
      case round =>
        obtain ⟨k, hk, rfl, rfl, hown, hbl, hall⟩ := hrel
        have HALL := Lib.hid hall
        clear hall
        obtain ⟨hcr, hfr⟩ := bcell (show Below w.heap.size w wr from (by repeat (first | exact Below.refl _ _ | apply keep_alloc | apply keep_drew | apply keep_drewN | refine keep_step (by assumption) ?_ (by rfl))))
        obtain ⟨hr0, hr1, hr2⟩ := box3 (show Below (w.alloc (.cells #[.int .i64 e, .int .i64 f, .int .i64 s] 23)).heap.size (w.alloc (.cells #[.int .i64 e, .int .i64 f, .int .i64 s] 23)) wr from (by repeat (first | exact Below.refl _ _ | apply keep_alloc | apply keep_drew | apply keep_drewN | refine keep_step (by assumption) ?_ (by rfl))))
        by_cases hlt : k < n
        · have hkl : k < hs.length := by rw [HN.out]; exact hlt
          have hrng := afterK_rng e f s hs k (by omega)
          obtain ⟨b, o, rfl, hcs⟩ := (hA.step (w' := wr) (by repeat (first | exact Below.refl _ _ | apply keep_alloc | apply keep_drew | apply keep_drewN | refine keep_step (by assumption) ?_ (by rfl)))).cell hkl
          have hck := hcs k hkl
          clear hcs
          have STEP := Lib.hid (afterK_step e f s hs k hkl)
          by_cases hi : isl (nth hs k) = true
          · have hi1 : 0 ≤ nth hs k ∧ nth hs k ≤ 10000 := by simpa [isl] using hi
            have HALL2 := Lib.hid (all_take hkl HALL.out hi)
            clear hi
            by_cases hk0 : k = 0
            · have hkb : ((k : Int) == 0) = true := by simp [hk0]
              have HK := Lib.hid hk0
              clear hk0
              have hbr := bnd_rng e f s (nth hs k)
              go_wp2_with (first | (go_at_call 36; (apply Calls.mono; (focus ((first | (with_reducible exact pbandOf) | (apply pbandOf <;> first | (with_reducible assumption) | (first | omega | (simp only [Bool.not_eq_true', Bool.not_eq_false', beq_iff_eq, beq_eq_false_iff_ne, ne_eq, bne_iff_ne, bne_eq_false_iff_eq, Bool.not_eq_true, Bool.not_eq_false, decide_eq_true_eq, decide_eq_false_iff_not, Bool.and_eq_true, Bool.or_eq_true] at *; omega) | (simp only [Bool.not_eq_true', Bool.not_eq_false', beq_iff_eq, beq_eq_false_iff_ne, ne_eq, bne_iff_ne, bne_eq_false_iff_eq, Bool.not_eq_true, Bool.not_eq_false, decide_eq_true_eq, decide_eq_false_iff_not, Bool.and_eq_true, Bool.or_eq_true, wrap64] at *; omega)))); done))); rintro e w' ⟨rfl, hb⟩; obtain ⟨hc, hf⟩ := bcell (show Below w.heap.size w w' from (by repeat (first | exact Below.refl _ _ | apply keep_alloc | apply keep_drew | apply keep_drewN | refine keep_step (by assumption) ?_ (by rfl)))); obtain ⟨hx0, hx1, hx2⟩ := box3 (show Below (w.alloc (.cells #[.int .i64 e, .int .i64 f, .int .i64 s] 23)).heap.size (w.alloc (.cells #[.int .i64 e, .int .i64 f, .int .i64 s] 23)) w' from (by repeat (first | exact Below.refl _ _ | apply keep_alloc | apply keep_drew | apply keep_drewN | refine keep_step (by assumption) ?_ (by rfl))))) | (go_at_call 40; (apply Calls.mono; (focus ((first | (with_reducible exact pheld) | (apply pheld <;> first | (with_reducible assumption) | (first | omega | (simp only [Bool.not_eq_true', Bool.not_eq_false', beq_iff_eq, beq_eq_false_iff_ne, ne_eq, bne_iff_ne, bne_eq_false_iff_eq, Bool.not_eq_true, Bool.not_eq_false, decide_eq_true_eq, decide_eq_false_iff_not, Bool.and_eq_true, Bool.or_eq_true] at *; omega) | (simp only [Bool.not_eq_true', Bool.not_eq_false', beq_iff_eq, beq_eq_false_iff_ne, ne_eq, bne_iff_ne, bne_eq_false_iff_eq, Bool.not_eq_true, Bool.not_eq_false, decide_eq_true_eq, decide_eq_false_iff_not, Bool.and_eq_true, Bool.or_eq_true, wrap64] at *; omega)))); done))); rintro e w' ⟨rfl, hb⟩; obtain ⟨hc, hf⟩ := bcell (show Below w.heap.size w w' from (by repeat (first | exact Below.refl _ _ | apply keep_alloc | apply keep_drew | apply keep_drewN | refine keep_step (by assumption) ?_ (by rfl)))); obtain ⟨hx0, hx1, hx2⟩ := box3 (show Below (w.alloc (.cells #[.int .i64 e, .int .i64 f, .int .i64 s] 23)).heap.size (w.alloc (.cells #[.int .i64 e, .int .i64 f, .int .i64 s] 23)) w' from (by repeat (first | exact Below.refl _ _ | apply keep_alloc | apply keep_drew | apply keep_drewN | refine keep_step (by assumption) ?_ (by rfl))))) | (at_builtin; refine push_int rfl _ _ rfl w1 _ _ _ rfl rfl (hown.step (by repeat (first | exact Below.refl _ _ | apply keep_alloc | apply keep_drew | apply keep_drewN | refine keep_step (by assumption) ?_ (by rfl)))) (by repeat (first | exact Below.refl _ _ | apply keep_alloc | apply keep_drew | apply keep_drewN | refine keep_step (by assumption) ?_ (by rfl))) (by first | omega | (simp only [List.length_take]; omega)) ?_; intro v2 w2 hown0 hbl2; have hown2 := Lib.hid hown0; clear hown0) | go_in)
              have e1 : hld e f s (bnd e f s (nth hs k)) (nth hs k) = afterK e f s hs (k + 1) := by rw [STEP.out, if_pos HK.out, hld_bnd _ _ _ _ hnice]
              exact ⟨⟨k + 1, by omega, by go_num, by rw [e1], by rw [runL_take _ _ _ _ _ hkl, ← e1]; exact hown2.out, hbl2, HALL2.out⟩, by simp [intOf]; omega⟩
            · have hkb : ((k : Int) == 0) = false := by simp [hk0]
              have HK := Lib.hid hk0
              clear hk0
              go_wp2_with (first | (go_at_call 40; (apply Calls.mono; (focus ((first | (with_reducible exact pheld) | (apply pheld <;> first | (with_reducible assumption) | (first | omega | (simp only [Bool.not_eq_true', Bool.not_eq_false', beq_iff_eq, beq_eq_false_iff_ne, ne_eq, bne_iff_ne, bne_eq_false_iff_eq, Bool.not_eq_true, Bool.not_eq_false, decide_eq_true_eq, decide_eq_false_iff_not, Bool.and_eq_true, Bool.or_eq_true] at *; omega) | (simp only [Bool.not_eq_true', Bool.not_eq_false', beq_iff_eq, beq_eq_false_iff_ne, ne_eq, bne_iff_ne, bne_eq_false_iff_eq, Bool.not_eq_true, Bool.not_eq_false, decide_eq_true_eq, decide_eq_false_iff_not, Bool.and_eq_true, Bool.or_eq_true, wrap64] at *; omega)))); done))); rintro e w' ⟨rfl, hb⟩; obtain ⟨hc, hf⟩ := bcell (show Below w.heap.size w w' from (by repeat (first | exact Below.refl _ _ | apply keep_alloc | apply keep_drew | apply keep_drewN | refine keep_step (by assumption) ?_ (by rfl)))); obtain ⟨hx0, hx1, hx2⟩ := box3 (show Below (w.alloc (.cells #[.int .i64 e, .int .i64 f, .int .i64 s] 23)).heap.size (w.alloc (.cells #[.int .i64 e, .int .i64 f, .int .i64 s] 23)) w' from (by repeat (first | exact Below.refl _ _ | apply keep_alloc | apply keep_drew | apply keep_drewN | refine keep_step (by assumption) ?_ (by rfl))))) | (at_builtin; refine push_int rfl _ _ rfl w1 _ _ _ rfl rfl (hown.step (by repeat (first | exact Below.refl _ _ | apply keep_alloc | apply keep_drew | apply keep_drewN | refine keep_step (by assumption) ?_ (by rfl)))) (by repeat (first | exact Below.refl _ _ | apply keep_alloc | apply keep_drew | apply keep_drewN | refine keep_step (by assumption) ?_ (by rfl))) (by first | omega | (simp only [List.length_take]; omega)) ?_; intro v2 w2 hown0 hbl2; have hown2 := Lib.hid hown0; clear hown0) | go_in)
              have e1 : hld e f s (afterK e f s hs k) (nth hs k) = afterK e f s hs (k + 1) := by rw [STEP.out, if_neg HK.out]
              exact ⟨⟨k + 1, by omega, by go_num, by rw [e1], by rw [runL_take _ _ _ _ _ hkl, ← e1]; exact hown2.out, hbl2, HALL2.out⟩, by simp [intOf]; omega⟩
          · have hi1 : nth hs k < 0 ∨ 10000 < nth hs k := by simp [isl] at hi; omega
            have HE : Hid (runErr e f s hs = 2) := by
              refine Lib.hid ?_
              unfold runErr
              rw [if_neg (by omega), if_neg (by rw [HN.out]; omega), all_not hkl hi]; simp
            clear hi
            rcases hi1 with hi1 | hi1
            · have hd : decide (0 ≤ nth hs k) = false := by simp; omega
              go_wp2
              go_ret2
              exact outNone HE.out (by repeat (first | exact Below.refl _ _ | apply keep_alloc | apply keep_drew | apply keep_drewN | refine keep_step (by assumption) ?_ (by rfl)))
            · have hd : decide (nth hs k ≤ 10000) = false := by simp; omega
              go_wp2
              go_ret2
              exact outNone HE.out (by repeat (first | exact Below.refl _ _ | apply keep_alloc | apply keep_drew | apply keep_drewN | refine keep_step (by assumption) ?_ (by rfl)))
        · have HE : Hid (runErr e f s hs = 0) := by
            refine Lib.hid ?_
            have h3 := all_full (by rw [HN.out]; omega) HALL.out
            unfold runErr
            rw [if_neg (by omega), if_neg (by rw [HN.out]; omega), h3]; simp
          go_wp2
          go_ret2
          have hown' : Mine w1.heap.size wr u7 (runL e f s hs) := by rwa [List.take_of_length_le (by rw [runL_len, HN.out]; omega)] at hown
          exact outMine HE.out hown' (by repeat (first | exact Below.refl _ _ | apply keep_alloc | apply keep_drew | apply keep_drewN | refine keep_step (by assumption) ?_ (by rfl)))
    · have HE : Hid (runErr e f s hs = 4) := by
        refine Lib.hid ?_
        unfold runErr
        rw [if_neg (by omega), if_pos (by rw [HN.out]; omega)]
      go_enter Try.func19, Try.ntmps19
      go_wp2_with (go_at_call 15; (apply Calls.mono; (focus ((first | (with_reducible exact pchk) | (apply pchk <;> first | (with_reducible assumption) | (first | omega | (simp only [Bool.not_eq_true', Bool.not_eq_false', beq_iff_eq, beq_eq_false_iff_ne, ne_eq, bne_iff_ne, bne_eq_false_iff_eq, Bool.not_eq_true, Bool.not_eq_false, decide_eq_true_eq, decide_eq_false_iff_not, Bool.and_eq_true, Bool.or_eq_true] at *; omega) | (simp only [Bool.not_eq_true', Bool.not_eq_false', beq_iff_eq, beq_eq_false_iff_ne, ne_eq, bne_iff_ne, bne_eq_false_iff_eq, Bool.not_eq_true, Bool.not_eq_false, decide_eq_true_eq, decide_eq_false_iff_not, Bool.and_eq_true, Bool.or_eq_true, wrap64] at *; omega)))); done))); rintro e w' ⟨rfl, hb⟩; obtain ⟨hc, hf⟩ := bcell (show Below w.heap.size w w' from (by repeat (first | exact Below.refl _ _ | apply keep_alloc | apply keep_drew | apply keep_drewN | refine keep_step (by assumption) ?_ (by rfl)))); obtain ⟨hx0, hx1, hx2⟩ := box3 (show Below (w.alloc (.cells #[.int .i64 e, .int .i64 f, .int .i64 s] 23)).heap.size (w.alloc (.cells #[.int .i64 e, .int .i64 f, .int .i64 s] 23)) w' from (by repeat (first | exact Below.refl _ _ | apply keep_alloc | apply keep_drew | apply keep_drewN | refine keep_step (by assumption) ?_ (by rfl)))))
      go_ret2
      exact outNone HE.out (by repeat (first | exact Below.refl _ _ | apply keep_alloc | apply keep_drew | apply keep_drewN | refine keep_step (by assumption) ?_ (by rfl)))
  · have HE : Hid (runErr e f s hs = chk e f s) := by
      refine Lib.hid ?_
      unfold runErr
      rw [if_pos (by omega)]
    have hb0 : (chk e f s != 0) = true := by simp [h0]
    have H0 := Lib.hid h0
    clear h0
    go_enter Try.func19, Try.ntmps19
    go_wp2_with (go_at_call 15; (apply Calls.mono; (focus ((first | (with_reducible exact pchk) | (apply pchk <;> first | (with_reducible assumption) | (first | omega | (simp only [Bool.not_eq_true', Bool.not_eq_false', beq_iff_eq, beq_eq_false_iff_ne, ne_eq, bne_iff_ne, bne_eq_false_iff_eq, Bool.not_eq_true, Bool.not_eq_false, decide_eq_true_eq, decide_eq_false_iff_not, Bool.and_eq_true, Bool.or_eq_true] at *; omega) | (simp only [Bool.not_eq_true', Bool.not_eq_false', beq_iff_eq, beq_eq_false_iff_ne, ne_eq, bne_iff_ne, bne_eq_false_iff_eq, Bool.not_eq_true, Bool.not_eq_false, decide_eq_true_eq, decide_eq_false_iff_not, Bool.and_eq_true, Bool.or_eq_true, wrap64] at *; omega)))); done))); rintro e w' ⟨rfl, hb⟩; obtain ⟨hc, hf⟩ := bcell (show Below w.heap.size w w' from (by repeat (first | exact Below.refl _ _ | apply keep_alloc | apply keep_drew | apply keep_drewN | refine keep_step (by assumption) ?_ (by rfl)))); obtain ⟨hx0, hx1, hx2⟩ := box3 (show Below (w.alloc (.cells #[.int .i64 e, .int .i64 f, .int .i64 s] 23)).heap.size (w.alloc (.cells #[.int .i64 e, .int .i64 f, .int .i64 s] 23)) w' from (by repeat (first | exact Below.refl _ _ | apply keep_alloc | apply keep_drew | apply keep_drewN | refine keep_step (by assumption) ?_ (by rfl)))))
    go_ret2
    exact outNone HE.out (by repeat (first | exact Below.refl _ _ | apply keep_alloc | apply keep_drew | apply keep_drewN | refine keep_step (by assumption) ?_ (by rfl))) H0.out
end Go.Proofs.Ytfpeojpligkbjaa
