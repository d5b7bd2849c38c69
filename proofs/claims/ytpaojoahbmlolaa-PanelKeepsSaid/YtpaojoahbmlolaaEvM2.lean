/- Lists that are known by their block: what grows, and parts. -/
import Derived.Test.YtpaojoahbmlolaaEvM1
namespace Go.Proofs.Ytpaojoahbmlolaa
open Go Go.RowKit
set_option linter.unusedSectionVars false
set_option linter.unusedVariables false
set_option linter.unusedSimpArgs false
set_option linter.unnecessarySimpa false
section
variable {P : Program} [NoCx P] {σ : Ren} {B : Bd}

theorem Ren.ext_self {σ : Ren} {i : Nat} {p : Nat × Nat} : σ.ext i p i = some p := by simp [Ren.ext]
theorem srcC_same {t : TypeId} {x : Value} {size m : Nat} {s s1 : HS} {l : List Value} (hc : srcC P t x size s = some (m, l, s1)) : Same s s1 := by
  unfold srcC at hc
  split at hc
  · split at hc
    · split at hc
      · rename_i h
        injection hc with hc; injection hc with h1 h2; injection h2 with h2 h3; subst h3
        exact read_same h
      · cases hc
    · cases hc
  · split at hc
    · rename_i h
      split at hc
      · injection hc with hc; injection hc with h1 h2; injection h2 with h2 h3; subst h3
        exact src_same h
      · cases hc
    · cases hc
theorem srcC_sound {t : TypeId} {x x' : Value} {size m : Nat} {s s1 : HS} {l : List Value} {H : Nat → Option VO} {w : World} (hc : srcC P t x size s = some (m, l, s1)) (hx : VRel σ x x') (hm : Match P B σ H w) (hsz : 0 < size)
    (ha : ∀ i, s1.rd.testBit i = true → H i = s.heap.get i) : ∃ l', LR σ l l' ∧ Src P size t x' m l' w ∧ l.all okC = true := by
  unfold srcC at hc
  split at hc
  · rename_i b m0
    split at hc
    · rename_i e hu
      split at hc
      · rename_i l0 s0 hr
        injection hc with hc; injection hc with h1 h2; injection h2 with h2 h3; subst h1; subst h2; subst h3
        cases hx with
        | rowS hb hat =>
          rename_i r κ cp a
          rcases read_sound hr ha hb hm with ⟨q, rfl⟩ | ⟨k2, l', g1, g2, g3, g4⟩
          · have q : m0 * size = 0 := q
            have hm0 : m0 = 0 := by
              rcases Nat.mul_eq_zero.1 q with q | q
              · exact q
              · omega
            subst hm0
            refine ⟨[], trivial, ?_, rfl⟩
            cases a with
            | none => exact Src.ofNil w hu _
            | some a => exact Src.ofSlice w hu a 0 cp [] (by simp) (fun j u h => by simp at h) (fun u h => by simp at h)
          · have g2 : l'.length = m0 * size := g2
            rcases hat with ⟨q, _⟩ | ⟨q, _⟩ | ⟨_, rfl, rfl, hle⟩
            · omega
            · omega
            · refine ⟨l', g1, Src.ofSlice w hu _ m0 _ l' g2 (fun j u h => ?_) (one_all g1 (okC_one g3)), g3⟩
              have := g4 j u h
              rw [Nat.add_zero] at this
              have hadd : (⟨r, vOff κ, none⟩ : Addr).add j = ⟨r, vOff κ + j, none⟩ := by unfold Addr.add; split <;> simp_all
              rw [hadd]; exact this
      · cases hc
    · cases hc
  · split at hc
    · rename_i h
      split at hc
      · rename_i hone
        injection hc with hc; injection hc with h1 h2; injection h2 with h2 h3; subst h1; subst h2; subst h3
        obtain ⟨l', g1, g2⟩ := src_sound h hx hm ha (okC_one hone)
        exact ⟨l', g1, g2, hone⟩
      · cases hc
    · cases hc

/-- one more block without a real one of its own -/
theorem Match.newN {H H' : Nat → Option VO} {w : World} (h : Match P B σ H w) {i b κ : Nat} {v : VO} (h0 : H i = none) (h1 : H' i = some v) (a1 : v.alive = false) (hng : ∀ c e, v ≠ .glob c e) (h2 : ∀ j, j ≠ i → H' j = H j)
    (hn : NRel (σ.ext i (b, κ)) w b κ v) (hsep : v.still = true → ∀ j κ' v', σ j = some (b, κ') → H j = some v' → v'.alive = true → False) : Match P B (σ.ext i (b, κ)) H' w := by
  have hsi : σ i = none := (h.dom i).2 h0
  have hle := Ren.le_ext (b, κ) hsi
  have hat : ∀ j, j ≠ i → Ren.ext σ i (b, κ) j = σ j := fun j e => by simp [Ren.ext, e]
  have hii : Ren.ext σ i (b, κ) i = some (b, κ) := by simp [Ren.ext]
  have al : ∀ j p, H' j = some p → p.alive = true → j ≠ i := fun j p e ea => by
    rintro rfl
    rw [h1] at e; injection e with e; subst e; rw [a1] at ea; cases ea
  refine ⟨fun j => ?_, fun j c κ2 p e1 e2 e3 => ?_, fun j c κ2 p e1 e2 e3 => ?_, fun j l c κ1 κ2 p q e1 e2 e3 e4 e5 e6 => ?_, fun g hg => ?_, fun j c e e1 => ?_, fun j c κ2 p e1 e2 => ?_, fun j l c κ1 κ2 p q e1 e2 e3 e4 e5 e6 => ?_⟩
  · by_cases e : j = i
    · subst e; rw [hii, h1]; simp
    · rw [hat j e, h2 j e]; exact h.dom j
  · have ej := al j p e2 e3
    rw [hat j ej] at e1
    rw [h2 j ej] at e2
    exact h.old j c κ2 p e1 e2 e3
  · have ej := al j p e2 e3
    rw [hat j ej] at e1
    rw [h2 j ej] at e2
    obtain ⟨q, hq, hqr⟩ := h.objX j c κ2 p e1 e2 e3
    exact ⟨q, hq, hqr.mono hle⟩
  · have ej := al j p e3 e5
    have el := al l q e4 e6
    rw [hat j ej] at e1
    rw [hat l el] at e2
    rw [h2 j ej] at e3
    rw [h2 l el] at e4
    exact h.injX j l c κ1 κ2 _ _ e1 e2 e3 e4 e5 e6
  · have e : g ≠ i := by
      rintro rfl
      have := h.low g hg
      rw [hsi] at this; cases this
    rw [hat g e]; exact h.low g hg
  · have e' : j ≠ i := by
      rintro rfl
      rw [h1] at e1; injection e1 with e1; exact hng c e e1
    rw [h2 j e'] at e1
    exact h.glob j c e e1
  · by_cases ej : j = i
    · subst ej
      rw [hii] at e1; injection e1 with e1; injection e1 with ea eb; subst ea; subst eb
      rw [h1] at e2; injection e2 with e2; subst e2
      exact hn
    · rw [hat j ej] at e1
      rw [h2 j ej] at e2
      exact (h.non j c κ2 p e1 e2).mono hle
  · have el := al l q e4 e6
    rw [hat l el] at e2
    rw [h2 l el] at e4
    by_cases ej : j = i
    · subst ej
      rw [hii] at e1; injection e1 with e1; injection e1 with ea eb; subst ea
      rw [h1] at e3; injection e3 with e3; subst e3
      exact hsep e5 l κ2 q e2 e4 e6
    · rw [hat j ej] at e1
      rw [h2 j ej] at e3
      exact h.sep j l c κ1 κ2 p q e1 e2 e3 e4 e5 e6

theorem maxLen_lt : maxLen < 18446744073709551616 := by unfold maxLen; omega
theorem all_toArray {l : List Value} : l.toArray.toList.all okC = l.all okC := by simp

/-- a new list -/
theorem Match.list {H H' : Nat → Option VO} {w w' : World} (h : Match P B σ H w) {i cap : Nat} {l l' : List Value} {z : Array Value} {e : TypeId} {info : TypeInfo} (hi : P.info? e = some info)
    (h0 : H i = none) (h1 : H' i = some (.row l.toArray e)) (h2 : ∀ j, j ≠ i → H' j = H j) (hw : w'.heap = w.heap.push (.cells (l'.toArray ++ z) e (0, 0))) (hB : Ok B w) (hl : LR σ l l') (hone : l.all okC = true) (hne : l ≠ [])
    (hz : l'.length + z.size = cap * info.size) (hk : cap ≤ maxLen) : Match P B (σ.ext i (w.heap.size, vk 0 cap)) H' w' := by
  have hlt := Nat.lt_of_le_of_lt hk maxLen_lt
  refine h.newX h0 h1 (by cases l with | nil => exact absurd rfl hne | cons a t => simp [VO.alive]) h2 hw hB.size ?_
  refine .row e info hi (by simp [hl.length]) (fun j v v' x y => ?_) (two_vk _ _) (vOff_vk hlt) (by rw [vCap_vk hlt]; simpa using hz) (by rw [vCap_vk hlt]; exact hk) (by simpa using hone)
  have hj : j < l'.length := by
    have := (Array.getElem?_eq_some_iff.1 x).1
    simp at this
    rw [← hl.length]; exact this
  rw [Array.getElem?_append_left (by simpa using hj)] at y
  exact hl.at j v v' (by simpa using x) (by simpa using y)
theorem handle_new {σ : Ren} {i r cap n : Nat} (h : σ i = some (r, vk 0 cap)) (hc : cap ≤ maxLen) (hn : n ≤ cap) : VRel σ (.complex .f64 i n) (.slice (some ⟨r, 0, none⟩) n cap) := by
  have hlt := Nat.lt_of_le_of_lt hc maxLen_lt
  exact .rowS h (.inr (.inr ⟨two_vk _ _, by rw [vOff_vk hlt], by rw [vCap_vk hlt], hn⟩))

/-- append to nothing -/
theorem append_empty {t t' ty e : TypeId} {i : TypeInfo} {base' : Option Addr} {m : Nat} {new new' : List Value} {x' : Value} {s s' : HS} {H : Nat → Option VO} {w : World} (ht : P.underlying t = some (.slice e)) (hi : P.info? e = some i)
    (hn : s.new (.row new.toArray e) = some s') (hm : Match P B σ H w) (hs : Sim s H) (hnn : H s.next = none) (hB : Ok B w) (hx : Src P i.size t' x' m new' w) (hl : LR σ new new') (hone : new.all okC = true) (hok : growOk P e m = true) :
    Sound P B σ H w s' (.complex .f64 s.next m) (Builtin.append_ #[t, t'] ty #[.slice base' 0 0, x']) := by
  obtain ⟨g1, g2, g3, z, g4, g5⟩ := grow_ok hi hok
  have hsm := small g2 g3
  obtain ⟨u1, u2⟩ := upd_new hs hn
  have hxl := hx.newsLen
  have hll := hl.length
  have hσ := (hm.dom _).2 hnn
  by_cases h0 : m = 0
  · subst h0
    have hn' : new' = [] := List.length_eq_zero_iff.1 (by rw [hxl]; simp)
    subst hn'
    have hnew : new = [] := List.length_eq_zero_iff.1 (by rw [hll]; rfl)
    subst hnew
    refine ⟨σ.ext s.next (0, 0), _, w, run_append_nothing w t t' ty e i ht hi base' 0 0 (Nat.le_refl _) x' hx, Ren.le_ext _ hσ, .rowS Ren.ext_self (.inl ⟨rfl, rfl, rfl⟩), ?_, Below.refl _ _⟩
    exact hm.newN hnn u1 rfl (fun c e x => by cases x) u2 (fun _ => rfl) (fun h => by cases h)
  · have hfc : (Builtin.firstCells i.size 0 (.slice base' 0 0)).run P w.drew = .ok (([] : List Value)).toArray w.drew := by
      cases base' with
      | none => exact run_firstCells_none w.drew _ _ _ _
      | some a => exact run_firstCells_some w.drew _ _ _ _ _ _ (by simp) fun j u hu => by simp at hu
    have hgr : (0 : Nat) < 0 + m := by omega
    have hrun := run_append_grow_src w t t' ty e i z ht hi g4 base' 0 0 [] hfc x' m new' hx hgr (by omega) (growslice_fits hgr (by rw [Nat.zero_add]; omega))
    have hcm := grownCap_le_maxLen w (0 + m) 0 e (by unfold maxLen; omega)
    have hge := grownCap_ge w (0 + m) 0 e
    rw [List.nil_append] at hrun
    refine ⟨σ.ext s.next (w.heap.size, vk 0 (grownCap w (0 + m) 0 e)), _, _, hrun, Ren.le_ext _ hσ, ?_, ?_, ?_⟩
    · have := handle_new (σ := σ.ext s.next (w.heap.size, vk 0 (grownCap w (0 + m) 0 e))) (i := s.next) (n := 0 + m) Ren.ext_self hcm hge
      rw [Nat.zero_add] at this ⊢
      exact this
    · refine hm.list hi hnn u1 u2 rfl hB hl hone ?_ ?_ hcm
      · intro e0
        rw [e0] at hll
        have : new'.length = 0 := hll.symm
        rw [hxl] at this
        rcases Nat.mul_eq_zero.1 this with q | q <;> omega
      · rw [size_zeroCells, g5, hxl, ← Nat.add_mul]
        exact congrArg (· * i.size) (by omega)
    · exact ((Below.refl B.b w).drew).alloc (by simpa using hB.size) _

theorem append_list {t t' ty e : TypeId} {i : TypeInfo} {b n m r κ cap : Nat} {a : Option Addr} {c : Array Value} {new new' : List Value} {x' : Value} {s s1 s2 : HS} {H : Nat → Option VO} {w : World} (ht : P.underlying t = some (.slice e)) (hi : P.info? e = some i)
    (hg : s.heap.get b = some (.row c e)) (hp : s.put b .dead = some s1) (hq : s1.new (.row (c.toList ++ new).toArray e) = some s2) (hcs : c.size = n * i.size) (hb : σ b = some (r, κ)) (hat : HandleAt r κ n a cap)
    (hm : Match P B σ H w) (hs : Sim s H) (ha : Agree s s2 H) (hB : Ok B w) (hx : Src P i.size t' x' m new' w) (hl : LR σ new new') (hone : new.all okC = true) (hok : growOk P e (n + m) = true) :
    Sound P B σ H w s2 (.complex .f64 s1.next (n + m)) (Builtin.append_ #[t, t'] ty #[.slice a n cap, x']) := by
  obtain ⟨g1, g2, g3, z, g4, g5⟩ := grow_ok hi hok
  have hnm := small g2 g3
  have hm63 : n + m ≤ maxLen := by unfold maxLen; omega
  have hst1 := VStep.put hp (by rw [hg]; simp)
  have hst2 := VStep.new hq
  have hH : H b = _ := (ha.rd b (hst2.rd b (by rw [(put_spec hp).2.2.1]; simp))).trans hg
  obtain ⟨u1, u2⟩ := upd_put hs hp
  have hs1 := hs.step hst1
  obtain ⟨u3, u4⟩ := upd_new hs1 hq
  have hne : s1.next ≠ b := fun e => by
    have := hs.new b (by rw [← e, (put_spec hp).1]; exact Nat.le_refl _)
    rw [hg] at this; cases this
  have hnn : H s1.next = none := ha.new s1.next (by rw [(put_spec hp).1]; exact Nat.le_refl _) (by have := (new_spec hq).1; omega)
  have hm1 : Match P B σ (upd H s1) w := hm.kill (by rw [hH]; simp) u1 u2
  have hnn1 : upd H s1 s1.next = none := (u2 _ hne).trans hnn
  by_cases h0 : c.size = 0
  · have hn0 : n = 0 := by
      rw [h0] at hcs
      rcases Nat.mul_eq_zero.1 hcs.symm with q | q
      · exact q
      · omega
    subst hn0
    have hκ : κ = 0 := hm.non b r κ _ hb hH h0
    subst hκ
    have hcap : cap = 0 := by
      rcases hat with ⟨_, _, q⟩ | ⟨q, _⟩ | ⟨q, _⟩
      · exact q
      · omega
      · omega
    subst hcap
    have hc0 : c.toList = [] := List.length_eq_zero_iff.1 (by rw [Array.length_toList]; exact h0)
    rw [hc0, List.nil_append] at hq
    have := append_empty (σ := σ) (B := B) (ty := ty) (base' := a) ht hi hq hm1 hs1 hnn1 hB hx hl hone (by rw [Nat.zero_add] at hok; exact hok)
    rw [Nat.zero_add]
    obtain ⟨σ', v', w', q1, q2, q3, q4, q5⟩ := this
    exact ⟨σ', v', w', q1, q2, q3, by rw [upd_upd hst2] at q4; exact q4, q5⟩
  · rw [upd_upd hst2] at u3 u4
    have d1 : upd H s2 b = some .dead := by rw [u4 b (Ne.symm hne)]; exact u1
    have d3 : ∀ j, j ≠ b → j ≠ s1.next → upd H s2 j = H j := fun j e1 e2 => (u4 j e2).trans (u2 j e1)
    have hσ := (hm.dom _).2 hnn
    obtain ⟨o', hq1, hor⟩ := hm.objX b r κ _ hb hH (by simp [VO.alive, h0])
    cases hor with
    | row _ info hi2 hlc hc k2 k0 hk hmx h1 =>
      rename_i c'
      obtain rfl : info = i := by rw [hi] at hi2; exact (Option.some.inj hi2).symm
      rcases hat with ⟨q, _⟩ | ⟨q, _⟩ | ⟨_, rfl, rfl, hle⟩
      · omega
      · omega
      have hll := hl.length
      have hxl := hx.newsLen
      rw [k0]
      have hold : LR σ c.toList (c'.toList.take (n * info.size)) := by
        have := lr_seg hlc hc 0 (n * info.size) (by omega)
        have e0 : (c.toList.drop 0).take (n * info.size) = c.toList := by rw [List.drop_zero, ← hcs]; exact List.take_of_length_le (by simp)
        rw [e0, List.drop_zero] at this
        exact this
      have hone2 : (c.toList ++ new).all okC = true := by rw [List.all_append, h1, hone]; rfl
      have hne2 : c.toList ++ new ≠ [] := fun e => by
        have := (List.append_eq_nil_iff.1 e).1
        rw [← Array.length_toList, this] at h0
        exact h0 rfl
      by_cases hroom : n + m ≤ vCap κ
      · have hfit : 0 + n * info.size + new'.length ≤ c'.size := by
          rw [hxl, Nat.zero_add, ← Nat.add_mul, hk]; exact Nat.mul_le_mul_right _ hroom
        have hrow := run_append_row w t t' ty e info ht hi r 0 n (vCap κ) x' m new' hx hroom c' e hq1 hfit
        rw [Nat.zero_add] at hrow hfit
        refine ⟨_, _, _, hrow, Ren.le_ext _ hσ, ?_, hm.shareX hb hH (by simp [VO.alive, h0]) hnn d1 u3 (by
            have : ¬ (c.toList ++ new).toArray.size = 0 := fun e => hne2 (List.length_eq_zero_iff.1 (by simpa using e))
            simp only [VO.alive, beq_iff_eq, Bool.not_eq_true', beq_eq_false_iff_ne]; simpa using this) d3 (setRow_heap w r c' _ e _ hq1) (.row e info hi ?_ ?_ k2 k0 ?_ hmx (by simpa using hone2)) (by simp [World.setRow]) (fun k hk => setRow_other w r k _ hk), ?_⟩
        · exact .rowS Ren.ext_self (.inr (.inr ⟨k2, by rw [k0], rfl, hroom⟩))
        · simp only [List.size_toArray, List.length_append, Array.length_toList, List.length_take, List.length_drop]; omega
        · intro j v v' x y
          have hj : j < c.size + new.length := by
            have := (Array.getElem?_eq_some_iff.1 x).1
            simpa using this
          have hLR := hold.append hl
          refine hLR.at j v v' (by simpa using x) ?_
          simp only [List.getElem?_toArray] at y
          rw [List.getElem?_append_left (by simp; omega)] at y
          exact y
        · simp only [List.size_toArray, List.length_append, Array.length_toList, List.length_take, List.length_drop]; omega
        · have := hm.old b r κ _ hb hH (by simp [VO.alive, h0])
          exact ⟨rfl, rfl, rfl, by simp [World.setRow], fun k hk => setRow_other w r k _ (by omega)⟩
      · have hgr : vCap κ < n + m := by omega
        have hfc : (Builtin.firstCells info.size n (.slice (some ⟨r, 0, none⟩) n (vCap κ))).run P w.drew = .ok (c'.toList.take (n * info.size)).toArray w.drew := by
          refine run_firstCells_some w.drew _ _ _ _ _ _ (by simp; omega) fun j u hu => ?_
          have hj : j < n * info.size := by
            rcases Nat.lt_or_ge j (n * info.size) with h1 | h1
            · exact h1
            · rw [List.getElem?_eq_none (by simp; omega)] at hu; cases hu
          rw [List.getElem?_take_of_lt hj] at hu
          have : (⟨r, 0, none⟩ : Addr).add j = ⟨r, j, none⟩ := by unfold Addr.add; split <;> simp_all
          rw [this]
          have e2 : w.drew.heap = w.heap := rfl
          simp only [World.cell?, e2, hq1]
          simpa using hu
        have hrun := run_append_grow_src w t t' ty e info z ht hi g4 (some ⟨r, 0, none⟩) n (vCap κ) _ hfc x' m new' hx hgr (by omega) (growslice_fits hgr (hb48 g3))
        have hcm := grownCap_le_maxLen w (n + m) (vCap κ) e hm63
        have hge := grownCap_ge w (n + m) (vCap κ) e
        have hmm : Match P B (Ren.ext σ s1.next (w.heap.size, vk 0 (grownCap w (n + m) (vCap κ) e))) (upd H s2) (w.drew.alloc (.cells ((c'.toList.take (n * info.size) ++ new').toArray ++ Builtin.zeroCells z.cells (grownCap w (n + m) (vCap κ) e - (n + m))) e)) := by
          refine hm1.list hi hnn1 u3 (fun j hj => ?_) rfl hB (hold.append hl) hone2 hne2 ?_ hcm
          · by_cases ej : j = b
            · subst ej; rw [d1, u1]
            · rw [d3 j ej hj, u2 j ej]
          · rw [size_zeroCells, g5, List.length_append, hxl]
            have : (c'.toList.take (n * info.size)).length = n * info.size := by simp; omega
            rw [this, ← Nat.add_mul, ← Nat.add_mul]
            exact congrArg (· * info.size) (by omega)
        refine ⟨_, _, _, hrun, Ren.le_ext _ hσ, ?_, hmm, ?_⟩
        · exact handle_new Ren.ext_self hcm hge
        · exact ((Below.refl B.b w).drew).alloc (by simpa using hB.size) _
end
end Go.Proofs.Ytpaojoahbmlolaa
