/- append, run and real. -/
import Derived.Test.YtpaojoahbmlolaaEvL
namespace Go.Proofs.Ytpaojoahbmlolaa
open Go Go.RowKit
set_option linter.unusedSectionVars false
set_option linter.unusedVariables false
set_option linter.unusedSimpArgs false
set_option linter.unnecessarySimpa false
section
variable {P : Program} [NoCx P] {σ : Ren} {B : Bd}

/-- only what has been read is another -/
structure Same (s s' : HS) : Prop where
  heap : s'.heap = s.heap
  next : s'.next = s.next
  wr : s'.wr = s.wr
  step : VStep s s'
theorem Same.refl (s : HS) : Same s s := ⟨rfl, rfl, rfl, .refl s⟩
theorem Same.read (s : HS) (k : Nat) : Same s (s.read k) := ⟨by rw [read_eq], by rw [read_eq], by rw [read_eq], .read s k⟩
theorem Same.trans {a b c : HS} (h : Same a b) (k : Same b c) : Same a c := ⟨k.heap.trans h.heap, k.next.trans h.next, k.wr.trans h.wr, h.step.trans k.step⟩
theorem Same.upd {a b : HS} (h : Same a b) (H : Nat → Option VO) : upd H b = upd H a := by
  funext i
  unfold Go.Proofs.Ytpaojoahbmlolaa.upd
  rw [h.wr, h.heap]
theorem Same.sim {a b : HS} (h : Same a b) {H : Nat → Option VO} (k : Sim a H) : Sim b H := ⟨fun i e => by rw [h.heap]; exact k.wr i (by rw [← h.wr]; exact e), fun i e => by rw [h.heap]; exact k.new i (by rw [← h.next]; exact e)⟩

/-- an address, or none -/
def BR (s : Ren) : Option Addr → Option Addr → Prop
  | some a, some b => PR s a b
  | none, none => True
  | _, _ => False

theorem lr_seg {c c' : Array Value} (hl : c.size ≤ c'.size) (h : ∀ (j : Nat) (v v' : Value), c[j]? = some v → c'[j]? = some v' → VRel σ v v') (o k : Nat) (hk : o + k ≤ c.size) :
    LR σ ((c.toList.drop o).take k) ((c'.toList.drop o).take k) := by
  refine LR.of _ _ (by simp; omega) fun i v v' x y => ?_
  have hi : i < k := by
    rcases Nat.lt_or_ge i k with h1 | h1
    · exact h1
    · rw [List.getElem?_eq_none (by simp; omega)] at x; cases x
  rw [List.getElem?_take_of_lt hi, List.getElem?_drop] at x y
  exact h (o + i) v v' (by simpa using x) (by simpa using y)

theorem cells_same {s s1 : HS} {base : Option Addr} {n size : Nat} {l : List Value} (hc : cellsV s base n size = some (l, s1)) : Same s s1 := by
  unfold cellsV at hc
  split at hc
  · split at hc
    · injection hc with hc; injection hc with h1 h2; subst h2; exact .refl _
    · cases hc
  · split at hc
    · split at hc
      · injection hc with hc; injection hc with h1 h2; subst h2; exact .read _ _
      · cases hc
    · cases hc
  · cases hc

theorem cells_sound {s s1 : HS} {base base' : Option Addr} {n size : Nat} {l : List Value} {H : Nat → Option VO} {w : World} (hc : cellsV s base n size = some (l, s1)) (hb : BR σ base base') (hm : Match P B σ H w)
    (ha : ∀ i, s1.rd.testBit i = true → H i = s.heap.get i) : ∃ l', LR σ l l' ∧ l'.length = n * size ∧ (base' = none → n = 0 ∧ l' = []) ∧ ∀ a', base' = some a' → ∀ (j : Nat) (u : Value), l'[j]? = some u → w.cell? (a'.add j) = some u := by
  unfold cellsV at hc
  split at hc
  · cases base' with
    | some _ => exact hb.elim
    | none =>
      split at hc
      · injection hc with hc; injection hc with h1 h2; subst h1
        exact ⟨[], trivial, by simp, fun _ => ⟨rfl, rfl⟩, fun a' e => by cases e⟩
      · cases hc
  · rename_i b o
    cases base' with
    | none => exact hb.elim
    | some a' =>
      obtain ⟨κ, h1, h2, h3⟩ := hb
      obtain ⟨b', o', p'⟩ := a'
      simp only at h1 h2 h3
      subst h2; subst h3
      split at hc
      · rename_i c e fz ex hg
        split at hc
        · rename_i hle
          injection hc with hc; injection hc with e1 e2; subst e1; subst e2
          have hle : o + n * size ≤ c.size := Nat.le_of_ble_eq_true hle
          have hH : H b = _ := (ha b (by rw [read_eq]; exact lor_rd b)).trans hg
          obtain ⟨q, hq, hor⟩ := hm.obj b b' κ _ ex h1 hH
          have key : ∃ c' fz', q = .cells c' e fz' ∧ c.size ≤ c'.size ∧ ∀ (j : Nat) (v v' : Value), c[j]? = some v → c'[j]? = some v' → VRel σ v v' := by
            cases hor with
            | cells e fz hc => exact ⟨_, _, rfl, Nat.le_of_eq hc.1, hc.2⟩
            | row e fz info hi hl hc hk hm => exact ⟨_, _, rfl, hl, hc⟩
            | srow e info hi hl hc hk hm => exact ⟨_, _, rfl, hl, hc⟩
          obtain ⟨c', fz', rfl, hl, hc'⟩ := key
          refine ⟨(c'.toList.drop o).take (n * size), lr_seg hl hc' o (n * size) hle, by simp; omega, (fun e => by cases e), fun a' e j u hu => ?_⟩
          injection e with e
          subst e
          have hj : j < n * size := by
            rcases Nat.lt_or_ge j (n * size) with h1 | h1
            · exact h1
            · rw [List.getElem?_eq_none (by simp; omega)] at hu; cases hu
          rw [List.getElem?_take_of_lt hj, List.getElem?_drop] at hu
          have : (⟨b', o, none⟩ : Addr).add j = ⟨b', o + j, none⟩ := by unfold Addr.add; split <;> simp_all
          rw [this]
          simp only [World.cell?, hq]
          simpa using hu
        · cases hc
      · cases hc
  · cases hc

theorem one_rel {v v' : Value} (h : VRel σ v v') (k : oneV v = true) : v'.oneCell' = true := by
  cases h <;> first | rfl | cases k
theorem one_all : ∀ {l l' : List Value}, LR σ l l' → l.all oneV = true → ∀ u ∈ l', u.oneCell' = true
  | [], [], _, _, u, hu => by cases hu
  | a :: l, b :: l', h, k, u, hu => by
    simp only [List.all_cons, Bool.and_eq_true] at k
    cases hu with
    | head => exact one_rel h.1 k.1
    | tail _ hu => exact one_all h.2 k.2 u hu
  | [], _ :: _, k, _, _, _ => k.elim
  | _ :: _, [], k, _, _, _ => k.elim

theorem src_same {t : TypeId} {x : Value} {size m : Nat} {s s1 : HS} {l : List Value} (hc : srcV P t x size s = some (m, l, s1)) : Same s s1 := by
  unfold srcV at hc
  split at hc
  · split at hc
    · rename_i h
      injection hc with hc; injection hc with h1 h2; injection h2 with h2 h3; subst h3
      exact cells_same h
    · cases hc
  · split at hc
    · injection hc with hc; injection hc with h1 h2; injection h2 with h2 h3; subst h3; exact .refl _
    · cases hc
  · cases hc

theorem src_sound {t : TypeId} {x x' : Value} {size m : Nat} {s s1 : HS} {l : List Value} {H : Nat → Option VO} {w : World} (hc : srcV P t x size s = some (m, l, s1)) (hx : VRel σ x x') (hm : Match P B σ H w)
    (ha : ∀ i, s1.rd.testBit i = true → H i = s.heap.get i) (h1 : l.all oneV = true) : ∃ l', LR σ l l' ∧ Src P size t x' m l' w := by
  unfold srcV at hc
  split at hc
  · rename_i e base m0 c0 ht
    split at hc
    · rename_i l0 s0 hcv
      injection hc with hc; injection hc with e1 e2; injection e2 with e2 e3; subst e1; subst e2; subst e3
      cases hx with
      | sliceNil =>
        obtain ⟨l', g1, g2, g3, g4⟩ := cells_sound (base' := none) hcv trivial hm ha
        obtain ⟨rfl, rfl⟩ := g3 rfl
        exact ⟨[], g1, Src.ofNil w ht _⟩
      | slice _ q0 q1 q2 q3 =>
        obtain ⟨l', g1, g2, g3, g4⟩ := cells_sound (base' := some ⟨_, _, _⟩) hcv (PR.of_slice q0) hm ha
        exact ⟨l', g1, Src.ofSlice w ht _ _ _ l' g2 (g4 _ rfl) (one_all g1 h1)⟩
    · cases hc
  · rename_i b ht
    split at hc
    · rename_i hsz
      injection hc with hc; injection hc with e1 e2; injection e2 with e2 e3; subst e1; subst e2; subst e3
      have := Nat.eq_of_beq_eq_true hsz
      subst this
      cases hx
      refine ⟨_, ?_, Src.ofString w ht b⟩
      refine LR.of _ _ rfl fun i v v' x y => ?_
      unfold byteCells at y
      rw [x] at y
      injection y with y; subst y
      simp only [List.getElem?_map, Option.map_eq_some_iff] at x
      obtain ⟨_, _, rfl⟩ := x
      exact .int _ _
    · cases hc
  · cases hc

theorem run_append_row (w : World) (t tx ty e : TypeId) (i : TypeInfo) (ht : P.underlying t = some (.slice e)) (hi : P.info? e = some i) (b off sLen sCap : Nat) (x : Value) (n : Nat) (news : List Value) (hs : Src P i.size tx x n news w)
    (hroom : sLen + n ≤ sCap) (cur : Array Value) (e' : TypeId) (hg : w.heap[b]? = some (.cells cur e' (0, 0))) (hfit : off + sLen * i.size + news.length ≤ cur.size) :
    (Builtin.append_ #[t, tx] ty #[.slice (some ⟨b, off, none⟩) sLen sCap, x]).run P w =
      .ok (.slice (some ⟨b, off, none⟩) (sLen + n) sCap) (w.setRow b (cur.toList.take (off + sLen * i.size) ++ news ++ cur.toList.drop (off + sLen * i.size + news.length)).toArray) := by
  have hst := run_storeCells_at P b (off + sLen * i.size) e' news 0 cur w hg (by simpa using hfit) hs.one
  simp only [Nat.add_zero] at hst
  rcases hs.kind with ⟨e2, hk⟩ | hk <;> simp [Builtin.append_, run_underlying ht, run_underlying hk, sizeOf, typeInfo, hi, hs.len, hroom, hs.cells, Addr.add_lit, hst]
theorem grow_ok {e : TypeId} {k : Nat} {i : TypeInfo} (hi : P.info? e = some i) (h : growOk P e k = true) : 0 < i.size ∧ 0 < i.bytes ∧ k * i.bytes < 1000000000 ∧ ∃ z, i.zero = some z ∧ z.cells.size = i.size := by
  unfold growOk at h
  rw [hi] at h
  simp only [Bool.and_eq_true, blt_iff] at h
  obtain ⟨⟨⟨h1, h2⟩, h3⟩, h4⟩ := h
  refine ⟨h1, h2, h3, ?_⟩
  split at h4
  · exact ⟨_, by assumption, Nat.eq_of_beq_eq_true h4⟩
  · cases h4

/-- a new row of unknown length -/
theorem Match.row {H H' : Nat → Option VO} {w w' : World} (h : Match P B σ H w) {i κ : Nat} {l l' : List Value} {z : Array Value} {e : TypeId} {info : TypeInfo} (hi : P.info? e = some info)
    (h0 : H i = none) (h1 : H' i = some (.live (.cells l.toArray e (0, 0)) false)) (h2 : ∀ j, j ≠ i → H' j = H j) (hw : w'.heap = w.heap.push (.cells (l'.toArray ++ z) e (0, 0))) (hB : Ok B w) (hl : LR σ l l')
    (hz : l'.length + z.size = κ * info.size) (hk : κ ≤ maxLen) : Match P B (σ.ext i (w.heap.size, κ)) H' w' := by
  refine h.new h0 h1 h2 hw hB.size (.row e (0, 0) info hi (by simp [hl.length]) (fun j v v' x y => ?_) (by simpa using hz) hk)
  have hj : j < l'.length := by
    have := (Array.getElem?_eq_some_iff.1 x).1
    simp at this
    rw [← hl.length]; exact this
  rw [Array.getElem?_append_left (by simpa using hj)] at y
  exact hl.at j v v' (by simpa using x) (by simpa using y)

theorem hb48 {n m bytes : Nat} (h : (n + m) * bytes < 1000000000) : (n + m) * bytes ≤ 140737488355328 := by omega
theorem small {k bytes : Nat} (hb : 0 < bytes) (h : k * bytes < 1000000000) : k < 1000000000 := Nat.lt_of_le_of_lt (Nat.le_mul_of_pos_right k hb) h
theorem LR.append : ∀ {a a' b b' : List Value}, LR σ a a' → LR σ b b' → LR σ (a ++ b) (a' ++ b')
  | [], [], _, _, _, k => k
  | _ :: _, _ :: _, _, _, h, k => ⟨h.1, LR.append h.2 k⟩
  | [], _ :: _, _, _, k, _ => k.elim
  | _ :: _, [], _, _, k, _ => k.elim

theorem room_step {i : TypeInfo} {base : Option Addr} {n cap m : Nat} {new : List Value} {r : Value} {s s' : HS} (hr : roomK i base n cap m new s = some (r, s')) : VStep s s' := by
  unfold roomK at hr
  split at hr
  · injection hr with hr; injection hr with e1 e2; subst e2; exact .refl _
  · split at hr
    · split at hr
      · rename_i hg
        split at hr
        · split at hr
          · rename_i hp
            injection hr with hr; injection hr with e1 e2; subst e2
            exact VStep.put hp (by rw [hg]; simp)
          · cases hr
        · cases hr
      · cases hr
    · cases hr
theorem grow_step {e : TypeId} {i : TypeInfo} {base : Option Addr} {n m : Nat} {new : List Value} {r : Value} {s s' : HS} (hr : growK e i base n m new s = some (r, s')) : VStep s s' := by
  unfold growK at hr
  split at hr
  · rename_i hc
    split at hr
    · rename_i hp
      injection hr with hr; injection hr with e1 e2; subst e2
      exact (cells_same hc).step.trans (VStep.new hp)
    · cases hr
  · cases hr
theorem doubt_step {e : TypeId} {i : TypeInfo} {base : Option Addr} {n m : Nat} {new : List Value} {r : Value} {s s' : HS} (hr : doubtK e i base n m new s = some (r, s')) : VStep s s' := by
  unfold doubtK at hr
  split at hr
  · split at hr
    · rename_i hg
      split at hr
      · split at hr
        · rename_i hp
          split at hr
          · rename_i hq
            injection hr with hr; injection hr with e1 e2; subst e2
            exact (VStep.put hp (by rw [hg]; simp)).trans (VStep.new hq)
          · cases hr
        · cases hr
      · cases hr
    · cases hr
  · cases hr
theorem roomR_step {e : TypeId} {i : TypeInfo} {base : Option Addr} {n m : Nat} {new : List Value} {r : Value} {s s' : HS} (hr : roomR e i base n m new s = some (r, s')) : VStep s s' := by
  unfold roomR at hr
  repeat' split at hr
  all_goals first | cases hr | skip
  rename_i hp
  exact VStep.put hp (by simp_all)
theorem append_step {t t' : TypeId} {v x r : Value} {s s' : HS} (hr : appendV P t t' v x s = some (r, s')) : VStep s s' := by
  unfold appendV at hr
  split at hr
  · split at hr
    · split at hr
      · rename_i hs
        split at hr
        · split at hr
          · split at hr
            · exact (src_same hs).step.trans (room_step hr)
            · exact (src_same hs).step.trans (grow_step hr)
          · split at hr
            · rename_i hrr
              injection hr with hr; subst hr
              exact (src_same hs).step.trans (roomR_step hrr)
            · exact (src_same hs).step.trans (doubt_step hr)
        · cases hr
      · cases hr
    · cases hr
  · cases hr

theorem room_sound {t t' ty e : TypeId} {i : TypeInfo} {base base' : Option Addr} {n cap m : Nat} {new new' : List Value} {x' r : Value} {s s' : HS} {H : Nat → Option VO} {w : World}
    (ht : P.underlying t = some (.slice e)) (hi : P.info? e = some i) (hr : roomK i base n cap m new s = some (r, s')) (hb : BR σ base base') (hm : Match P B σ H w) (hs : Sim s H) (ha : Agree s s' H)
    (hx : Src P i.size t' x' m new' w) (hl : LR σ new new') (hroom : n + m ≤ cap) (hcap : cap < inf) : Sound P B σ H w s' r (Builtin.append_ #[t, t'] ty #[.slice base' n cap, x']) := by
  unfold roomK at hr
  split at hr
  · injection hr with hr; injection hr with e1 e2; subst e1; subst e2
    have hn : new' = [] := List.length_eq_zero_iff.1 (by simpa using hx.newsLen)
    subst hn
    refine ⟨σ, _, w, run_append_nothing w t t' ty e i ht hi base' n cap (by omega) x' hx, Ren.le_refl _, ?_, by rw [hs.upd]; exact hm, Below.refl _ _⟩
    cases base with
    | none => cases base' with
      | none => exact .sliceNil _ _
      | some _ => exact hb.elim
    | some a => cases base' with
      | none => exact hb.elim
      | some a' => exact hb.slice hcap (by omega)
  · split at hr
    · rename_i b o
      split at hr
      · rename_i c e' hg
        split at hr
        · rename_i hfit
          split at hr
          · rename_i s1 hp
            injection hr with hr; injection hr with e1 e2; subst e1; subst e2
            have hfit : o + n * i.size + new.length ≤ c.size := Nat.le_of_ble_eq_true hfit
            cases base' with
            | none => exact hb.elim
            | some a' =>
              obtain ⟨κ, h1, h2, h3⟩ := hb
              obtain ⟨b', o', p'⟩ := a'
              simp only at h1 h2 h3
              subst h2; subst h3
              have hH : H b = _ := (ha.rd b (by rw [(put_spec hp).2.2.1]; simp)).trans hg
              obtain ⟨q, hq, hor⟩ := hm.obj b b' κ _ _ h1 hH
              cases hor with
              | cells _ _ hc =>
                rename_i c'
                have hll := hl.length
                have hcc := hc.1
                have hrow := run_append_row w t t' ty e i ht hi b' o n cap x' m new' hx hroom c' e' hq (by omega)
                refine ⟨σ, _, _, hrow, Ren.le_refl _, (PR.of_slice h1).slice hcap (by show n + m ≤ cap; omega), ?_, ?_⟩
                · obtain ⟨u1, u2⟩ := upd_put hs hp
                  refine hm.put h1 hH u1 u2 (setRow_heap w b' c' _ e' _ hq) (.cells e' (0, 0) ?_) (by simp [World.setRow]) (fun k hk => setRow_other w b' k _ hk)
                  have hLL := AR.list hc
                  have key : ∀ (k : Nat), LR σ (c.toList.take k) (c'.toList.take k) ∧ LR σ (c.toList.drop k) (c'.toList.drop k) := fun k => by
                    constructor
                    · refine LR.of _ _ (by simp [hcc]) fun j v v' x y => ?_
                      rw [List.getElem?_take] at x y
                      split at x
                      · rename_i hj; rw [if_pos hj] at y; exact hLL.at j v v' x y
                      · cases x
                    · refine LR.of _ _ (by simp [hcc]) fun j v v' x y => ?_
                      rw [List.getElem?_drop] at x y
                      exact hLL.at _ v v' x y
                  have := ((key (o + n * i.size)).1.append hl).append (key (o + n * i.size + new.length)).2
                  rw [← hll]
                  exact this.array
                · have := hm.old b b' κ _ h1 hH rfl
                  exact ⟨rfl, rfl, rfl, by simp [World.setRow], fun k hk => setRow_other w b' k _ (by omega)⟩
          · cases hr
        · cases hr
      · cases hr
    · cases hr

theorem grow_sound {t t' ty e : TypeId} {i : TypeInfo} {base base' : Option Addr} {n cap m : Nat} {new new' : List Value} {x' r : Value} {s s' : HS} {H : Nat → Option VO} {w : World}
    (ht : P.underlying t = some (.slice e)) (hi : P.info? e = some i) (hr : growK e i base n m new s = some (r, s')) (hb : BR σ base base') (hm : Match P B σ H w) (hs : Sim s H) (ha : Agree s s' H) (hB : Ok B w)
    (hx : Src P i.size t' x' m new' w) (hl : LR σ new new') (hroom : cap < n + m) (hok : growOk P e (n + m) = true) : Sound P B σ H w s' r (Builtin.append_ #[t, t'] ty #[.slice base' n cap, x']) := by
  obtain ⟨g1, g2, g3, z, g4, g5⟩ := grow_ok hi hok
  have hnm := small g2 g3
  have hm63 : n + m ≤ maxLen := by unfold maxLen; omega
  unfold growK at hr
  split at hr
  · rename_i old s1 hc
    split at hr
    · rename_i s2 hp
      injection hr with hr; injection hr with e1 e2; subst e1; subst e2
      have hsame := cells_same hc
      have hst2 := VStep.new hp
      obtain ⟨old', c1, c2, c3, c4⟩ := cells_sound hc hb hm (fun i e => ha.rd i (hst2.rd i e))
      have hfc : (Builtin.firstCells i.size n (.slice base' n cap)).run P w.drew = .ok old'.toArray w.drew := by
        cases base' with
        | none =>
          obtain ⟨_, rfl⟩ := c3 rfl
          exact run_firstCells_none w.drew _ _ _ _
        | some a' => exact run_firstCells_some w.drew _ _ _ _ _ _ c2 (by simpa using c4 a' rfl)
      have hrun := run_append_grow_src w t t' ty e i z ht hi g4 base' n cap old' hfc x' m new' hx hroom (by omega) (growslice_fits hroom (hb48 g3))
      have hcm := grownCap_le_maxLen w (n + m) cap e hm63
      have hge := grownCap_ge w (n + m) cap e
      have hsim := hsame.sim hs
      obtain ⟨u1, u2⟩ := upd_new hsim hp
      have hn : H s1.next = none := ha.new s1.next (by rw [hsame.next]; exact Nat.le_refl _) (by have := (new_spec hp).1; omega)
      have hσ := (hm.dom _).2 hn
      have hmm : Match P B (Ren.ext σ s1.next (w.heap.size, grownCap w (n + m) cap e)) (upd H s2) (w.drew.alloc (.cells ((old' ++ new').toArray ++ Builtin.zeroCells z.cells (grownCap w (n + m) cap e - (n + m))) e)) := by
        refine hm.row hi hn u1 u2 rfl hB (c1.append hl) ?_ hcm
        rw [size_zeroCells, g5, List.length_append, c2, hx.newsLen, ← Nat.add_mul, ← Nat.add_mul]
        exact congrArg (· * i.size) (by omega)
      refine ⟨_, _, _, hrun, Ren.le_ext _ hσ, ?_, hmm, ?_⟩
      · exact .slice _ (by simp [Ren.ext]) hge (fun hlt => absurd hlt (Nat.lt_irrefl _)) (fun _ _ => rfl)
      · exact ((Below.refl B.b w).drew).alloc (by simpa using hB.size) _
    · cases hr
  · cases hr

theorem Match.kill {H H' : Nat → Option VO} {w : World} (h : Match P B σ H w) {i : Nat} (h0 : H i ≠ none) (h1 : H' i = some .dead) (h2 : ∀ j, j ≠ i → H' j = H j) : Match P B σ H' w := by
  have other : ∀ j v, H' j = some v → v ≠ .dead → H j = some v := fun j v e hv => by
    have ej : j ≠ i := fun e' => by subst e'; rw [h1] at e; injection e with e; exact hv e.symm
    rw [← h2 j ej]; exact e
  have al : ∀ v : VO, v.alive = true → v ≠ .dead := fun v hv e => by subst e; cases hv
  refine ⟨fun j => ?_, fun j b κ o ex e1 e2 => h.old j b κ o ex (other j o e1 (al o e2)) e2, fun j b κ o ex e1 e2 => h.objX j b κ o ex (other j o e1 (al o e2)) e2, fun j l c κ1 κ2 p q e1 e2 e3 e4 e5 e6 => h.injX j l c κ1 κ2 p q e1 e2 (other j p e3 (al p e5)) (other l q e4 (al q e6)) e5 e6, h.low, fun j c e e1 => h.glob j c e (other j _ e1 (fun e => by cases e)), fun j b κ v e1 e2 => ?_, fun j l c κ1 κ2 p q e1 e2 e3 e4 e5 e6 => ?_⟩
  · by_cases e : j = i
    · subst e
      rw [h1, h.dom]
      simp [h0]
    · rw [h2 j e]; exact h.dom j
  · by_cases e : v = .dead
    · subst e; trivial
    · exact h.non j b κ v e1 (other j v e2 e)
  · exact h.sep j l c κ1 κ2 p q e1 e2 (other j p e3 (fun e => by subst e; cases e5)) (other l q e4 (al q e6)) e5 e6

/-- a block of the run has grown where its real one lies -/
theorem Match.shareK {H H' : Nat → Option VO} {w w' : World} (h : Match P B σ H w) {i nid b κ0 κ : Nat} {v0 v : VO} {o' : Obj} (hs : σ i = some (b, κ0)) (h0 : H i = some v0) (a0 : v0.alive = true) (hn : H nid = none)
    (h1 : H' i = some .dead) (h2 : H' nid = some v) (a1 : v.alive = true) (h3 : ∀ j, j ≠ i → j ≠ nid → H' j = H j) (hw : w'.heap[b]? = some o') (hr : XRel P σ κ v o') (hz : w'.heap.size = w.heap.size) (hk : ∀ k, k ≠ b → w'.heap[k]? = w.heap[k]?) :
    Match P B (σ.ext nid (b, κ)) H' w' := by
  have hsn : σ nid = none := (h.dom nid).2 hn
  have hle := Ren.le_ext (b, κ) hsn
  have hin : i ≠ nid := fun e => by subst e; rw [h0] at hn; cases hn
  have hat : ∀ j, j ≠ nid → Ren.ext σ nid (b, κ) j = σ j := fun j e => by simp [Ren.ext, e]
  have hii : Ren.ext σ nid (b, κ) nid = some (b, κ) := by simp [Ren.ext]
  have live : ∀ j v, H' j = some v → v ≠ .dead → j = nid ∨ (j ≠ i ∧ j ≠ nid ∧ H j = some v) := fun j v e hv => by
    by_cases e1 : j = nid
    · exact .inl e1
    · have e2 : j ≠ i := fun e2 => by subst e2; rw [h1] at e; injection e with e; exact hv e.symm
      exact .inr ⟨e2, e1, by rw [← h3 j e2 e1]; exact e⟩
  have al : ∀ v : VO, v.alive = true → v ≠ .dead := fun v hv e => by subst e; cases hv
  refine ⟨fun j => ?_, fun j c κ2 p e1 e2 e3 => ?_, fun j c κ2 p e1 e2 e3 => ?_, fun j l c κ1 κ2 p q e1 e2 e3 e4 e5 e6 => ?_, fun g hg => ?_, fun j c e e1 => ?_, fun j c κ2 p e1 e2 => ?_, fun j l c κ1 κ2 p q e1 e2 e3 e4 e5 e6 => ?_⟩
  · by_cases ej : j = nid
    · subst ej; rw [hii, h2]; simp
    · rw [hat j ej]
      by_cases e : j = i
      · subst e; rw [h1, hs]; simp
      · rw [h3 j e ej]; exact h.dom j
  · rcases live j p e2 (al p e3) with rfl | ⟨ei, ej, e2⟩
    · rw [hii] at e1; injection e1 with e1; injection e1 with ea eb; subst ea
      exact h.old i b κ0 _ hs h0 a0
    · rw [hat j ej] at e1
      exact h.old j c κ2 p e1 e2 e3
  · rcases live j p e2 (al p e3) with rfl | ⟨ei, ej, e2⟩
    · rw [hii] at e1; injection e1 with e1; injection e1 with ea eb; subst ea; subst eb
      rw [h2] at e2; injection e2 with e2; subst e2
      exact ⟨o', hw, hr.mono hle⟩
    · rw [hat j ej] at e1
      obtain ⟨q, hq, hqr⟩ := h.objX j c κ2 p e1 e2 e3
      refine ⟨q, ?_, hqr.mono hle⟩
      rw [hk c, hq]
      rintro rfl
      exact ei (h.injX j i _ _ _ _ _ e1 hs e2 h0 e3 a0)
  · rcases live j p e3 (al p e5) with rfl | ⟨ei, ej, e3⟩
    · rcases live l q e4 (al q e6) with rfl | ⟨fi, fj, e4⟩
      · rfl
      · exfalso
        rw [hii] at e1; injection e1 with e1; injection e1 with ea eb; subst ea
        rw [hat l fj] at e2
        exact fi (h.injX l i _ _ _ _ _ e2 hs e4 h0 e6 a0)
    · rcases live l q e4 (al q e6) with rfl | ⟨fi, fj, e4⟩
      · exfalso
        rw [hii] at e2; injection e2 with e2; injection e2 with ea eb; subst ea
        rw [hat j ej] at e1
        exact ei (h.injX j i _ _ _ _ _ e1 hs e3 h0 e5 a0)
      · rw [hat j ej] at e1
        rw [hat l fj] at e2
        exact h.injX j l c κ1 κ2 _ _ e1 e2 e3 e4 e5 e6
  · have e : g ≠ nid := by
      rintro rfl
      have := h.low g hg
      rw [hsn] at this; cases this
    rw [hat g e]; exact h.low g hg
  · rcases live j _ e1 (fun e => by cases e) with rfl | ⟨ei, ej, e1⟩
    · rw [h2] at e1; injection e1 with e1; subst e1; cases a1
    · obtain ⟨g1, g2, g3⟩ := h.glob j c e e1
      refine ⟨g1, ?_, g3⟩
      have := h.old i b κ0 _ hs h0 a0
      have := B.low
      rw [hk j (by unfold Bd.g at g1; omega)]; exact g2
  · by_cases ed : p = .dead
    · subst ed; trivial
    · rcases live j p e2 ed with rfl | ⟨ei, ej, e2⟩
      · rw [h2] at e2; injection e2 with e2; subst e2
        exact .of_alive a1
      · rw [hat j ej] at e1
        refine ((h.non j c κ2 p e1 e2).world fun hst => hk c ?_).mono hle
        rintro rfl
        exact h.sep j i _ _ _ _ _ e1 hs e2 h0 hst a0
  · have hpd : p ≠ .dead := fun e => by subst e; cases e5
    rcases live j p e3 hpd with rfl | ⟨ei, ej, e3⟩
    · rw [h2] at e3; injection e3 with e3; subst e3
      exact VO.still_alive e5 a1
    · rw [hat j ej] at e1
      rcases live l q e4 (al q e6) with rfl | ⟨fi, fj, e4⟩
      · rw [hii] at e2; injection e2 with e2; injection e2 with ea eb; subst ea
        exact h.sep j i _ _ _ _ _ e1 hs e3 h0 e5 a0
      · rw [hat l fj] at e2
        exact h.sep j l c κ1 κ2 _ _ e1 e2 e3 e4 e5 e6
theorem Match.shareX {H H' : Nat → Option VO} {w w' : World} (h : Match P B σ H w) {i nid b κ : Nat} {v0 v : VO} {o' : Obj} (hs : σ i = some (b, κ)) (h0 : H i = some v0) (a0 : v0.alive = true) (hn : H nid = none)
    (h1 : H' i = some .dead) (h2 : H' nid = some v) (a1 : v.alive = true) (h3 : ∀ j, j ≠ i → j ≠ nid → H' j = H j) (hw : w'.heap[b]? = some o') (hr : XRel P σ κ v o') (hz : w'.heap.size = w.heap.size) (hk : ∀ k, k ≠ b → w'.heap[k]? = w.heap[k]?) :
    Match P B (σ.ext nid (b, κ)) H' w' := h.shareK hs h0 a0 hn h1 h2 a1 h3 hw hr hz hk
theorem Match.share {H H' : Nat → Option VO} {w w' : World} (h : Match P B σ H w) {i nid b κ : Nat} {o0 o o' : Obj} {ex0 ex : Bool} (hs : σ i = some (b, κ)) (h0 : H i = some (.live o0 ex0)) (hn : H nid = none)
    (h1 : H' i = some .dead) (h2 : H' nid = some (.live o ex)) (h3 : ∀ j, j ≠ i → j ≠ nid → H' j = H j) (hw : w'.heap[b]? = some o') (hr : ORel P σ κ ex o o') (hz : w'.heap.size = w.heap.size) (hk : ∀ k, k ≠ b → w'.heap[k]? = w.heap[k]?) :
    Match P B (σ.ext nid (b, κ)) H' w' := h.shareX hs h0 rfl hn h1 h2 rfl h3 hw (.live hr) hz hk

theorem doubt_sound {t t' ty e : TypeId} {i : TypeInfo} {base base' : Option Addr} {n cap cap' m : Nat} {new new' : List Value} {x' r : Value} {s s' : HS} {H : Nat → Option VO} {w : World}
    (ht : P.underlying t = some (.slice e)) (hi : P.info? e = some i) (hr : doubtK e i base n m new s = some (r, s')) (hv : VRel σ (.slice base n cap) (.slice base' n cap')) (hcap : inf ≤ cap) (hm : Match P B σ H w) (hs : Sim s H) (ha : Agree s s' H) (hB : Ok B w)
    (hx : Src P i.size t' x' m new' w) (hl : LR σ new new') (hok : growOk P e (n + m) = true) : Sound P B σ H w s' r (Builtin.append_ #[t, t'] ty #[.slice base' n cap', x']) := by
  obtain ⟨g1, g2, g3, z, g4, g5⟩ := grow_ok hi hok
  have hnm := small g2 g3
  have hm63 : n + m ≤ maxLen := by unfold maxLen; omega
  unfold doubtK at hr
  split at hr
  · rename_i b
    split at hr
    · rename_i c e' hg
      split at hr
      · rename_i hcond
        simp only [Bool.and_eq_true] at hcond
        have hcs : c.size = n * i.size := Nat.eq_of_beq_eq_true hcond.1
        obtain rfl : e' = e := Nat.eq_of_beq_eq_true hcond.2
        split at hr
        · rename_i s1 hp
          split at hr
          · rename_i s2 hq
            injection hr with hr; injection hr with e1 e2; subst e1; subst e2
            have hst1 := VStep.put hp (by rw [hg]; simp)
            have hst2 := VStep.new hq
            cases hv with
            | slice _ q0 q1 q2 q3 =>
              rename_i b' κ
              obtain rfl := q3 hcap rfl
              have hH : H b = _ := (ha.rd b (hst2.rd b (by rw [(put_spec hp).2.2.1]; simp))).trans hg
              obtain ⟨q, hqq, hor⟩ := hm.obj b b' cap' _ _ q0 hH
              cases hor with
              | row _ _ info hi2 hlc hc hk hmx =>
                rename_i c'
                obtain rfl : info = i := by rw [hi] at hi2; exact (Option.some.inj hi2).symm
                have hll := hl.length
                have hxl := hx.newsLen
                obtain ⟨u1, u2⟩ := upd_put hs hp
                have hs1 := hs.step hst1
                obtain ⟨u3, u4⟩ := upd_new hs1 hq
                rw [upd_upd hst2] at u3 u4
                have hne : s1.next ≠ b := fun e => by
                  have := hs.new b (by rw [← e, (put_spec hp).1]; exact Nat.le_refl _)
                  rw [hg] at this; cases this
                have hnn : H s1.next = none := ha.new s1.next (by rw [(put_spec hp).1]; exact Nat.le_refl _) (by have := (new_spec hq).1; omega)
                have hσ := (hm.dom _).2 hnn
                have d1 : upd H s2 b = some .dead := by rw [u4 b (Ne.symm hne)]; exact u1
                have d3 : ∀ j, j ≠ b → j ≠ s1.next → upd H s2 j = H j := fun j e1 e2 => (u4 j e2).trans (u2 j e1)
                have hold : LR σ c.toList ((c'.toList.drop 0).take (n * info.size)) := by
                  have := lr_seg hlc hc 0 (n * info.size) (by omega)
                  have e0 : (c.toList.drop 0).take (n * info.size) = c.toList := by rw [List.drop_zero, ← hcs]; exact List.take_of_length_le (by simp)
                  rwa [e0] at this
                rw [List.drop_zero] at hold
                by_cases hroom : n + m ≤ cap'
                · have hfit : 0 + n * info.size + new'.length ≤ c'.size := by
                    rw [hxl, Nat.zero_add, ← Nat.add_mul, hk]; exact Nat.mul_le_mul_right _ hroom
                  have hrow := run_append_row w t t' ty e' info ht hi b' 0 n cap' x' m new' hx hroom c' e' hqq hfit
                  rw [Nat.zero_add] at hrow hfit
                  refine ⟨_, _, _, hrow, Ren.le_ext _ hσ, ?_, hm.share q0 hH hnn d1 u3 d3 (setRow_heap w b' c' _ e' _ hqq) (.row e' (0, 0) info hi ?_ ?_ ?_ hmx) (by simp [World.setRow]) (fun k hk => setRow_other w b' k _ hk), ?_⟩
                  · exact .slice _ (by simp [Ren.ext]) hroom (fun hlt => absurd hlt (Nat.lt_irrefl _)) (fun _ _ => rfl)
                  · simp only [List.size_toArray, List.length_append, Array.length_toList, List.length_take, List.length_drop]; omega
                  · intro j v v' a a'
                    have hj : j < c.size + new.length := by
                      have := (Array.getElem?_eq_some_iff.1 a).1
                      simpa using this
                    have hLR := hold.append hl
                    refine hLR.at j v v' (by simpa using a) ?_
                    simp only [List.getElem?_toArray] at a'
                    rw [List.getElem?_append_left (by simp; omega)] at a'
                    exact a'
                  · simp only [List.size_toArray, List.length_append, Array.length_toList, List.length_take, List.length_drop]; omega
                  · have := hm.old b b' cap' _ q0 hH rfl
                    exact ⟨rfl, rfl, rfl, by simp [World.setRow], fun k hk => setRow_other w b' k _ (by omega)⟩
                · have hgr : cap' < n + m := by omega
                  have hfc : (Builtin.firstCells info.size n (.slice (some ⟨b', 0, none⟩) n cap')).run P w.drew = .ok (c'.toList.take (n * info.size)).toArray w.drew := by
                    refine run_firstCells_some w.drew _ _ _ _ _ _ (by simp; omega) fun j u hu => ?_
                    have hj : j < n * info.size := by
                      rcases Nat.lt_or_ge j (n * info.size) with h1 | h1
                      · exact h1
                      · rw [List.getElem?_eq_none (by simp; omega)] at hu; cases hu
                    rw [List.getElem?_take_of_lt hj] at hu
                    have : (⟨b', 0, none⟩ : Addr).add j = ⟨b', j, none⟩ := by unfold Addr.add; split <;> simp_all
                    rw [this]
                    have e2 : w.drew.heap = w.heap := rfl
                    simp only [World.cell?, e2, hqq]
                    simpa using hu
                  have hrun := run_append_grow_src w t t' ty e' info z ht hi g4 (some ⟨b', 0, none⟩) n cap' _ hfc x' m new' hx hgr (by omega) (growslice_fits hgr (hb48 g3))
                  have hcm := grownCap_le_maxLen w (n + m) cap' e' hm63
                  have hge := grownCap_ge w (n + m) cap' e'
                  have hm1 : Match P B σ (upd H s1) w := hm.kill (by rw [hH]; simp) u1 u2
                  have hnn1 : upd H s1 s1.next = none := (u2 _ hne).trans hnn
                  have hmm : Match P B (Ren.ext σ s1.next (w.heap.size, grownCap w (n + m) cap' e')) (upd H s2) (w.drew.alloc (.cells ((c'.toList.take (n * info.size) ++ new').toArray ++ Builtin.zeroCells z.cells (grownCap w (n + m) cap' e' - (n + m))) e')) := by
                    refine hm1.row hi hnn1 u3 u4 rfl hB (hold.append hl) ?_ hcm
                    rw [size_zeroCells, g5, List.length_append, hxl]
                    have : (c'.toList.take (n * info.size)).length = n * info.size := by simp; omega
                    rw [this, ← Nat.add_mul, ← Nat.add_mul]
                    exact congrArg (· * info.size) (by omega)
                  refine ⟨_, _, _, hrun, Ren.le_ext _ hσ, ?_, hmm, ?_⟩
                  · exact .slice _ (by simp [Ren.ext]) hge (fun hlt => absurd hlt (Nat.lt_irrefl _)) (fun _ _ => rfl)
                  · exact ((Below.refl B.b w).drew).alloc (by simpa using hB.size) _
          · cases hr
        · cases hr
      · cases hr
    · cases hr
  · cases hr

theorem roomR_sound {t t' ty e : TypeId} {i : TypeInfo} {base base' : Option Addr} {n cap cap' m : Nat} {new new' : List Value} {x' r : Value} {s s' : HS} {H : Nat → Option VO} {w : World}
    (ht : P.underlying t = some (.slice e)) (hi : P.info? e = some i) (hr : roomR e i base n m new s = some (r, s')) (hv : VRel σ (.slice base n cap) (.slice base' n cap')) (hcap : inf ≤ cap) (hm : Match P B σ H w) (hs : Sim s H) (ha : Agree s s' H)
    (hx : Src P i.size t' x' m new' w) (hl : LR σ new new') (hok : growOk P e (n + m) = true) : Sound P B σ H w s' r (Builtin.append_ #[t, t'] ty #[.slice base' n cap', x']) := by
  obtain ⟨g1, g2, g3, z, g4, g5⟩ := grow_ok hi hok
  unfold roomR at hr
  split at hr
  · rename_i b
    split at hr
    · rename_i c e' hg
      split at hr
      · rename_i hcond
        simp only [Bool.and_eq_true, blt_iff, Nat.ble_eq] at hcond
        obtain ⟨⟨hm0, hfit⟩, hee⟩ := hcond
        have hee := Nat.eq_of_beq_eq_true hee
        split at hr
        · rename_i s1 hp
          injection hr with hr; injection hr with e1 e2; subst e1; subst e2
          cases hv with
          | slice _ q0 q1 q2 q3 =>
            rename_i b' κ
            obtain rfl := q3 hcap rfl
            have hH : H b = _ := (ha.rd b (by rw [(put_spec hp).2.2.1]; simp)).trans hg
            obtain ⟨q, hqq, hor⟩ := hm.obj b b' cap' _ _ q0 hH
            cases hor with
            | row _ _ info hi2 hlc hc hk hmx =>
              rename_i c'
              have hll := hl.length
              have hxl := hx.newsLen
              have hfit2 : (n + m) * i.size ≤ c.size := hfit
              have hadd : (n + m) * i.size = n * i.size + m * i.size := Nat.add_mul _ _ _
              obtain ⟨u1, u2⟩ := upd_put hs hp
              -- the real capacity
              · subst hee
                obtain rfl : info = i := by rw [hi] at hi2; exact (Option.some.inj hi2).symm
                have hroom : n + m ≤ cap' := by
                  have : (n + m) * info.size ≤ cap' * info.size := by rw [← hk]; omega
                  exact Nat.le_of_mul_le_mul_right this g1
                have hrow := run_append_row w t t' ty e' info ht hi b' 0 n cap' x' m new' hx hroom c' e' hqq (by omega)
                rw [Nat.zero_add] at hrow
                refine ⟨σ, _, _, hrow, Ren.le_refl _, .slice _ q0 hroom (fun hlt => absurd hlt (Nat.lt_irrefl _)) (fun _ _ => rfl), ?_, ?_⟩
                · refine hm.put q0 hH u1 u2 (setRow_heap w b' c' _ e' _ hqq) (.row e' (0, 0) info hi ?_ ?_ ?_ hmx) (by simp [World.setRow]) (fun k hk => setRow_other w b' k _ hk)
                  · have hn1 : Nat.mul n info.size = n * info.size := rfl
                    have hn2 : Nat.add (n * info.size) new.length = n * info.size + new.length := rfl
                    simp only [List.size_toArray, List.length_append, Array.length_toList, List.length_take, List.length_drop, hn1, hn2]; omega
                  · intro j v v' a a'
                    simp only [List.getElem?_toArray] at a a'
                    have hn1 : Nat.mul n info.size = n * info.size := rfl
                    have hn2 : Nat.add (n * info.size) new.length = n * info.size + new.length := rfl
                    rw [hn1, hn2] at a
                    rw [List.append_assoc] at a a'
                    have t1 : (c.toList.take (n * info.size)).length = n * info.size := by simp; omega
                    have t2 : (c'.toList.take (n * info.size)).length = n * info.size := by simp; omega
                    rw [List.getElem?_append, t1] at a
                    rw [List.getElem?_append, t2] at a'
                    split at a
                    · rename_i hj
                      rw [if_pos hj] at a'
                      rw [List.getElem?_take_of_lt hj] at a a'
                      exact hc j v v' (by simpa using a) (by simpa using a')
                    · rename_i hj
                      rw [if_neg hj] at a'
                      rw [List.getElem?_append] at a a'
                      split at a
                      · rename_i hj2
                        rw [if_pos (by rw [← hll]; exact hj2)] at a'
                        exact hl.at _ v v' a a'
                      · rename_i hj2
                        rw [if_neg (by rw [← hll]; exact hj2)] at a'
                        rw [List.getElem?_drop] at a a'
                        rw [← hll] at a'
                        exact hc _ v v' (by simpa using a) (by simpa using a')
                  · simp only [List.size_toArray, List.length_append, Array.length_toList, List.length_take, List.length_drop]; omega
                · have := hm.old b b' cap' _ q0 hH rfl
                  exact ⟨rfl, rfl, rfl, by simp [World.setRow], fun k hk => setRow_other w b' k _ (by omega)⟩
        · cases hr
      · cases hr
    · cases hr
  · cases hr

theorem append_sound {t t' ty : TypeId} {v v' x x' r : Value} {s s' : HS} {H : Nat → Option VO} {w : World} (hr : appendV P t t' v x s = some (r, s')) (hv : VRel σ v v') (hx : VRel σ x x') (hm : Match P B σ H w) (hs : Sim s H) (ha : Agree s s' H) (hB : Ok B w) :
    Sound P B σ H w s' r (Builtin.append_ #[t, t'] ty #[v', x']) := by
  unfold appendV at hr
  split at hr
  · rename_i e base n cap ht
    split at hr
    · rename_i i hi
      split at hr
      · rename_i m new s1 hsrc
        split at hr
        · rename_i hcond
          simp only [Bool.and_eq_true] at hcond
          have hsame := src_same hsrc
          have hs1 := hsame.sim hs
          have ag : ∀ {s2 : HS}, s2 = s' → VStep s1 s' → Agree s1 s' H := fun _ _ => ⟨fun i e => by rw [hsame.heap]; exact ha.rd i e, fun i e f => ha.new i (by rw [← hsame.next]; exact e) f⟩
          have src : VStep s1 s' → ∃ new', LR σ new new' ∧ Src P i.size t' x' m new' w := fun hst => src_sound hsrc hx hm (fun j e => ha.rd j (hst.rd j e)) hcond.1
          have hbase : ∃ base' cap', v' = .slice base' n cap' ∧ BR σ base base' ∧ (cap < inf → cap' = cap) := by
            cases hv with
            | sliceNil => exact ⟨_, _, rfl, trivial, fun _ => rfl⟩
            | slice _ q0 q1 q2 q3 => exact ⟨_, _, rfl, PR.of_slice q0, q2⟩
          obtain ⟨base', cap', rfl, hb, hcc⟩ := hbase
          split at hr
          · rename_i hlt
            have hlt := blt_iff.1 hlt
            obtain rfl := hcc hlt
            split at hr
            · rename_i hroom
              obtain ⟨new', l1, l2⟩ := src (room_step hr)
              exact room_sound ht hi hr hb hm hs1 (ag rfl (room_step hr)) l2 l1 (Nat.le_of_ble_eq_true hroom) hlt
            · rename_i hroom
              obtain ⟨new', l1, l2⟩ := src (grow_step hr)
              have : cap' < n + m := by
                rcases Nat.lt_or_ge cap' (n + m) with h1 | h1
                · exact h1
                · have e9 : (Nat.add n m).ble cap' = true := Nat.ble_eq_true_of_le h1
                  rw [e9] at hroom; cases hroom
              exact grow_sound ht hi hr hb hm hs1 (ag rfl (grow_step hr)) hB l2 l1 this hcond.2
          · rename_i hlt
            have this : inf ≤ cap := by
              rcases Nat.lt_or_ge cap inf with h1 | h1
              · rw [blt_iff.2 h1] at hlt; cases hlt
              · exact h1
            split at hr
            · rename_i hrr
              injection hr with hr; subst hr
              obtain ⟨new', l1, l2⟩ := src (roomR_step hrr)
              exact roomR_sound ht hi hrr hv this hm hs1 (ag rfl (roomR_step hrr)) l2 l1 hcond.2
            · obtain ⟨new', l1, l2⟩ := src (doubt_step hr)
              exact doubt_sound ht hi hr hv this hm hs1 (ag rfl (doubt_step hr)) hB l2 l1 hcond.2
        · cases hr
      · cases hr
    · cases hr
  · cases hr
end
end Go.Proofs.Ytpaojoahbmlolaa
