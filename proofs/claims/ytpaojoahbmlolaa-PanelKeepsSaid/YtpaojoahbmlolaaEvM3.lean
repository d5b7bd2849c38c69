/- Lists that are known by their block: parts, stores, and all of it together. -/
import Derived.Test.YtpaojoahbmlolaaEvM2
namespace Go.Proofs.Ytpaojoahbmlolaa
open Go Go.RowKit
set_option linter.unusedSectionVars false
set_option linter.unusedVariables false
set_option linter.unusedSimpArgs false
set_option linter.unnecessarySimpa false
section
variable {P : Program} [NoCx P] {σ : Ren} {B : Bd}

/-- a list that grows no more -/
theorem Match.freeze {H H' : Nat → Option VO} {w : World} (h : Match P B σ H w) {i b κ : Nat} {c : Array Value} {e : TypeId} (hs : σ i = some (b, κ)) (h0 : H i = some (.row c e)) (h1 : H' i = some (.ro c e)) (h2 : ∀ j, j ≠ i → H' j = H j) : Match P B σ H' w := by
  have al : ∀ j p, H' j = some p → p.alive = true → j ≠ i ∧ H j = some p := fun j p e ea => by
    have ej : j ≠ i := by
      rintro rfl
      rw [h1] at e; injection e with e; subst e; exact absurd ea (by simp [VO.alive])
    exact ⟨ej, by rw [← h2 j ej]; exact e⟩
  have hc : CellsAt σ w b κ c := by
    by_cases hz : c.size = 0
    · have : κ = 0 := h.non i b κ _ hs h0 hz
      exact .inl ⟨hz, by omega⟩
    · obtain ⟨o', g1, g2⟩ := h.objX i b κ _ hs h0 (by simp [VO.alive, hz])
      cases g2 with
      | row e i hi hl hc k2 k0 hk hmx h1 => exact .inr ⟨hz, k2, _, _, _, g1, by rw [k0]; omega, h1, fun j v v' x y => hc j v v' x (by rw [k0, Nat.zero_add] at y; exact y)⟩
  refine ⟨fun j => ?_, fun j c κ2 p e1 e2 e3 => ?_, fun j c κ2 p e1 e2 e3 => ?_, fun j l c κ1 κ2 p q e1 e2 e3 e4 e5 e6 => ?_, h.low, fun j c e e1 => ?_, fun j c κ2 p e1 e2 => ?_, fun j l r κ1 κ2 p q e1 e2 e3 e4 e5 e6 => ?_⟩
  · by_cases e : j = i
    · subst e; rw [hs, h1]; simp
    · rw [h2 j e]; exact h.dom j
  · exact h.old j c κ2 p e1 (al j p e2 e3).2 e3
  · exact h.objX j c κ2 p e1 (al j p e2 e3).2 e3
  · exact h.injX j l c κ1 κ2 p q e1 e2 (al j p e3 e5).2 (al l q e4 e6).2 e5 e6
  · have e' : j ≠ i := by
      rintro rfl
      rw [h1] at e1; injection e1 with e1; cases e1
    rw [h2 j e'] at e1
    exact h.glob j c e e1
  · by_cases ej : j = i
    · subst ej
      rw [hs] at e1; injection e1 with e1; injection e1 with ea eb; subst ea; subst eb
      rw [h1] at e2; injection e2 with e2; subst e2
      exact hc
    · rw [h2 j ej] at e2
      exact h.non j c κ2 p e1 e2
  · obtain ⟨el, e4'⟩ := al l q e4 e6
    by_cases ej : j = i
    · subst ej
      rw [h1] at e3; injection e3 with e3; subst e3
      by_cases hz : c.size = 0
      · simp [VO.still, hz] at e5
      · exact el (h.injX l j r κ2 κ1 q _ e2 e1 e4' h0 e6 (by simp [VO.alive, hz]))
    · rw [h2 j ej] at e3
      exact h.sep j l r κ1 κ2 p q e1 e2 e3 e4' e5 e6

/-- a part of a list that is only read -/
theorem part_at {w : World} {r κ : Nat} {c : Array Value} (h : CellsAt σ w r κ c) (o n cap : Nat) (hle : o + n ≤ c.size) (hn : n ≠ 0) (hcap : cap < 18446744073709551616) : 2 ≤ κ ∧ CellsAt σ w r (vk (vOff κ + o) cap) ((c.toList.drop o).take n).toArray := by
  rcases h with ⟨h, _⟩ | ⟨hnz, k2, c', e', fz, h1, h2, h3, h4⟩
  · omega
  · refine ⟨k2, .inr ⟨by simp; omega, two_vk _ _, c', e', fz, h1, ?_, ?_, fun j v v' x y => ?_⟩⟩
    · rw [vOff_vk hcap]; simp; omega
    · refine List.all_eq_true.2 fun x hx => List.all_eq_true.1 h3 x ?_
      have : x ∈ (c.toList.drop o).take n := by simpa using hx
      exact List.mem_of_mem_drop (List.mem_of_mem_take this)
    · rw [vOff_vk hcap] at y
      have hj : j < n := by
        have := (Array.getElem?_eq_some_iff.1 x).1
        simp at this; omega
      simp only [List.getElem?_toArray] at x
      rw [List.getElem?_take_of_lt hj, List.getElem?_drop] at x
      exact h4 (o + j) v v' (by simpa using x) (by rw [← Nat.add_assoc]; exact y)
theorem bound_int {d : Nat} {x x' : Option Value} {z : Int} (h : boundC d x = some z) (k : OV σ x x') : (x' = none ∧ z = (d : Int)) ∨ ∃ ik, x' = some (.int ik z) := by
  unfold boundC at h
  split at h
  · injection h with h; subst h
    cases x' with
    | none => exact .inl ⟨rfl, rfl⟩
    | some _ => exact k.elim
  · injection h with h; subst h
    cases x' with
    | none => exact k.elim
    | some y =>
      cases k with
      | int _ _ => exact .inr ⟨_, rfl⟩
  · cases h
theorem run_boundC {ik : IntKind} {z : Int} {y : Nat} {cd : BoundsCode} (w : World) (h0 : 0 ≤ z) (h1 : z ≤ (y : Int)) : (Instr.sliceBound (.int ik z) y cd).run P w = .ok z.toNat w := by
  unfold Instr.sliceBound
  simp [asIntOf, h0, h1]
theorem slice_run {t e : TypeId} {i : TypeInfo} (ht : P.underlying t = some (.slice e)) (hi : P.info? e = some i) {a : Option Addr} {n cap : Nat} {lo' hi' : Option Value} {l h : Int} (w : World)
    (hl : (lo' = none ∧ l = ((0 : Nat) : Int)) ∨ ∃ ik, lo' = some (.int ik l)) (hh : (hi' = none ∧ h = (n : Int)) ∨ ∃ ik, hi' = some (.int ik h)) (h0 : 0 ≤ l) (h1 : l ≤ h) (h2 : h ≤ (n : Int)) (hc : n ≤ cap ∨ (n = 0)) :
    (Instr.sliceAt t (.slice a n cap) lo' hi' none).run P w = .ok (.slice (if cap = l.toNat then a else a.map (·.add (l.toNat * i.size))) (h.toNat - l.toNat) (cap - l.toNat)) w := by
  have hb : (Instr.sliceBounds true n cap lo' hi' none).run P w = .ok (l.toNat, h.toNat, cap) w := by
    unfold Instr.sliceBounds
    have hcap : h ≤ (cap : Int) := by omega
    rcases hh with ⟨rfl, rfl⟩ | ⟨ik, rfl⟩
    · rcases hl with ⟨rfl, rfl⟩ | ⟨ik2, rfl⟩
      · simp
      · simp [run_boundC (ik := ik2) (z := l) w h0 h1]
    · rcases hl with ⟨rfl, rfl⟩ | ⟨ik2, rfl⟩
      · simp [run_boundC (ik := ik) (z := h) w (by omega) hcap]
      · have h3 : l ≤ ((h.toNat : Nat) : Int) := by omega
        simp [run_boundC (ik := ik) (z := h) w (by omega) hcap, run_boundC (ik := ik2) (z := l) w h0 h3]
  unfold Instr.sliceAt
  simp only [Sem.run_bind, run_underlying ht, Result.andThen_ok]
  unfold Instr.slice
  simp only [Sem.run_bind, run_underlying ht, Result.andThen_ok, hb, sizeOf, typeInfo, Sem.run_pure]
  simp [hi]
theorem sliceC_step {t : TypeId} {b n : Nat} {lo hi : Option Value} {v : Value} {s s' : HS} (h : sliceC P t b n lo hi s = some (v, s')) : VStep s s' := by
  unfold sliceC at h
  split at h
  · split at h
    · split at h
      · split at h
        · split at h
          · rename_i c e' gr hlc
            split at h
            · split at h
              · rename_i s1 hs1
                split at h
                · rename_i s2 hs2
                  injection h with h; injection h with h1 h2; subst h2
                  refine VStep.trans ?_ (VStep.new hs2)
                  cases gr with
                  | true => exact VStep.put hs1 (by
                      unfold listC at hlc
                      split at hlc
                      · rename_i hg; rw [hg]; simp
                      · rename_i hg; rw [hg]; simp
                      · cases hlc)
                  | false => injection hs1 with hs1; subst hs1; exact .read _ _
                · cases h
              · cases h
            · cases h
          · cases h
        · cases h
      · cases h
    · cases h
  · cases h
theorem sliceC_sound {t : TypeId} {b n : Nat} {lo hi lo' hi' : Option Value} {v x' : Value} {s s' : HS} (h : sliceC P t b n lo hi s = some (v, s')) (hx : VRel σ (.complex .f64 b n) x') (hlo : OV σ lo lo') (hhi : OV σ hi hi')
    {H : Nat → Option VO} {w : World} (hm : Match P B σ H w) (hs : Sim s H) (ha : Agree s s' H) (hB : Ok B w) : Sound P B σ H w s' v (Instr.sliceAt t x' lo' hi' none) := by
  have hst := sliceC_step h
  unfold sliceC at h
  split at h
  · rename_i e ht
    split at h
    · rename_i i hi0
      split at h
      · rename_i l h' hbl hbh
        split at h
        · rename_i hz
          simp only [Bool.and_eq_true, decide_eq_true_eq] at hz
          obtain ⟨z0, z1, z2⟩ := hz
          split at h
          · rename_i c e' gr hlc
            split at h
            · rename_i hcs
              simp only [Bool.and_eq_true] at hcs
              have hi0p : 0 < i.size := blt_iff.1 hcs.2
              have hcs : c.size = n * i.size := Nat.eq_of_beq_eq_true hcs.1
              split at h
              · rename_i s1 hs1
                split at h
                · rename_i s2 hs2
                  injection h with h; injection h with h1 h2; subst h1; subst h2
                  have hs2 : s1.new (.ro ((c.toList.drop (l.toNat * i.size)).take ((h'.toNat - l.toNat) * i.size)).toArray e') = some s2 := hs2
                  show Sound P B σ H w s2 (.complex .f64 s1.next (h'.toNat - l.toNat)) _
                  cases hx with
                  | rowS hb hat =>
                    rename_i r κ cap a
                    have hrd : s2.rd.testBit b = true := by
                      cases gr with
                      | true => exact (VStep.new hs2).rd b (by rw [(put_spec hs1).2.2.1]; simp)
                      | false => injection hs1 with hs1; subst hs1; exact (VStep.new hs2).rd b (by rw [read_eq]; exact lor_rd b)
                    have hH : H b = s.heap.get b := ha.rd b hrd
                    have hcells := list_at hlc hH hb hm
                    have hncap : n ≤ cap ∨ n = 0 := by
                      rcases hat with ⟨_, q, _⟩ | ⟨_, q⟩ | ⟨_, _, _, q⟩
                      · exact .inr q
                      · exact .inr q
                      · exact .inl q
                    have hrun := slice_run (P := P) (a := a) (cap := cap) ht hi0 w (bound_int hbl hlo) (bound_int hbh hhi) z0 z1 z2 hncap
                    -- frozen
                    obtain ⟨hs1', hm1, hstp, hnx⟩ : Sim s1 (upd H s1) ∧ Match P B σ (upd H s1) w ∧ VStep s s1 ∧ s1.next = s.next := by
                      cases gr with
                      | false =>
                        injection hs1 with hs1; subst hs1
                        have sm := Same.read s b
                        exact ⟨hs.step sm.step, by rw [sm.upd, hs.upd]; exact hm, sm.step, sm.next⟩
                      | true =>
                        have hg : s.heap.get b = some (.row c e') := by
                          unfold listC at hlc
                          split at hlc
                          · rename_i hg; injection hlc with q; injection q with q1 q2; injection q2 with q2 q3; subst q1; subst q2; exact hg
                          · rename_i hg; injection hlc with q; injection q with q1 q2; injection q2 with q2 q3; cases q3
                          · cases hlc
                        have st := VStep.put hs1 (by rw [hg]; simp)
                        obtain ⟨u1, u2⟩ := upd_put hs hs1
                        exact ⟨hs.step st, hm.freeze hb (hH.trans hg) u1 u2, st, (put_spec hs1).1⟩
                    have hH1 : ∃ e2, upd H s1 b = some (.ro c e2) := by
                      cases gr with
                      | true => exact ⟨_, (upd_put hs hs1).1⟩
                      | false =>
                        injection hs1 with hs1; subst hs1
                        have sm := Same.read s b
                        rw [sm.upd, hs.upd, hH]
                        unfold listC at hlc
                        split at hlc
                        · rename_i hg; injection hlc with q; injection q with q1 q2; injection q2 with q2 q3; cases q3
                        · rename_i hg; injection hlc with q; injection q with q1 q2; injection q2 with q2 q3; subst q1; exact ⟨_, hg⟩
                        · cases hlc
                    obtain ⟨e2, hH1⟩ := hH1
                    have st2 := VStep.new hs2
                    obtain ⟨u3, u4⟩ := upd_new hs1' hs2
                    rw [upd_upd st2] at u3 u4
                    have hnn : upd H s1 s1.next = none := by
                      cases hw : s1.wr.testBit s1.next with
                      | true => rw [upd_at hw]; exact hs1'.new _ (Nat.le_refl _)
                      | false => rw [upd_else hw]; exact ha.new s1.next (by rw [hnx]; exact Nat.le_refl _) (by have := (new_spec hs2).1; omega)
                    have hσ := (hm1.dom _).2 hnn
                    by_cases hn0 : (h'.toNat - l.toNat) * i.size = 0
                    · -- an empty part
                      have hdisj : h'.toNat - l.toNat = 0 ∨ i.size = 0 := Nat.mul_eq_zero.1 hn0
                      by_cases hq : h'.toNat - l.toNat = 0
                      · rw [hq] at hrun u3
                        rw [hq]
                        refine ⟨σ.ext s1.next (r, 1), _, w, hrun, Ren.le_ext _ hσ, .rowS Ren.ext_self (.inr (.inl ⟨rfl, rfl⟩)), ?_, Below.refl _ _⟩
                        refine hm1.newN hnn u3 rfl (fun c e x => by cases x) u4 ?_ (fun hstill => ?_)
                        · exact .inl ⟨by rw [Nat.zero_mul, List.take_zero]; rfl, Nat.le_refl _⟩
                        · rw [Nat.zero_mul, List.take_zero] at hstill; simp [VO.still] at hstill
                      · rcases hdisj with q2 | q2
                        · exact absurd q2 hq
                        · omega
                    · rcases hat with ⟨_, q, _⟩ | ⟨_, q⟩ | ⟨k2, rfl, rfl, q⟩
                      · exact absurd (by have : h'.toNat - l.toNat = 0 := by omega
                                         rw [this, Nat.zero_mul]) hn0
                      · exact absurd (by have : h'.toNat - l.toNat = 0 := by omega
                                         rw [this, Nat.zero_mul]) hn0
                      · have hq : h'.toNat - l.toNat ≠ 0 := fun q => hn0 (by rw [q, Nat.zero_mul])
                        have hne : ¬ vCap κ = l.toNat := by omega
                        have hcl : vCap κ < 18446744073709551616 := Nat.mod_lt _ (by decide)
                        have hfit : l.toNat * i.size + (h'.toNat - l.toNat) * i.size ≤ c.size := by rw [hcs, ← Nat.add_mul]; exact Nat.mul_le_mul_right _ (by omega)
                        obtain ⟨_, hpart⟩ := part_at hcells (l.toNat * i.size) ((h'.toNat - l.toNat) * i.size) (vCap κ - l.toNat) hfit hn0 (by omega)
                        have hadd : (⟨r, vOff κ, none⟩ : Addr).add (l.toNat * i.size) = ⟨r, vOff κ + l.toNat * i.size, none⟩ := by unfold Addr.add; split <;> simp_all
                        rw [if_neg hne] at hrun
                        refine ⟨σ.ext s1.next (r, vk (vOff κ + l.toNat * i.size) (vCap κ - l.toNat)), _, w, hrun, Ren.le_ext _ hσ, .rowS Ren.ext_self (.inr (.inr ⟨two_vk _ _, ?_, ?_, by omega⟩)), ?_, Below.refl _ _⟩
                        · rw [vOff_vk (by omega)]; simp [hadd]
                        · rw [vCap_vk (by omega)]
                        · refine hm1.newN hnn u3 rfl (fun c e x => by cases x) u4 ?_ (fun _ j κ' v' e1 e2 e3 => ?_)
                          · exact NRel.mono (v := .ro _ e') (Ren.le_ext _ hσ) hpart
                          · have hcz : c.size ≠ 0 := by
                              intro q2
                              rw [q2] at hfit
                              omega
                            exact hm1.sep b j r κ κ' _ _ hb e1 hH1 e2 (by simp [VO.still, hcz]) e3
                · cases h
              · cases h
            · cases h
          · cases h
        · cases h
      · cases h
    · cases h
  · cases h

/-! stores -/
theorem store_step {t : TypeId} {b o : Nat} {v r : Value} {s s' : HS} (h : storeC P t b o v s = some (r, s')) : VStep s s' := by
  unfold storeC at h
  repeat' split at h
  all_goals first | cases h | skip
  rename_i hg _ _ _ hp
  exact VStep.put hp (by simp_all)
theorem storeC_sound {t : TypeId} {b o r κ : Nat} {v v' u : Value} {s s' : HS} (h : storeC P t b o v s = some (u, s')) (hv : VRel σ v v') (hb : σ b = some (r, κ)) {H : Nat → Option VO} {w : World} (hm : Match P B σ H w) (hs : Sim s H) (ha : Agree s s' H) :
    u = undef ∧ ∃ w', (Instr.storeAt t (.pointer (some ⟨r, vOff κ + o, none⟩)) v').run P w = .ok () w' ∧ Match P B σ (upd H s') w' ∧ Below B.b w w' := by
  have hst := store_step h
  unfold storeC at h
  split at h
  · rename_i i hi
    split at h
    · rename_i hcond
      simp only [Bool.and_eq_true] at hcond
      have hsz : v.cells.size = i.size := Nat.eq_of_beq_eq_true hcond.1
      have hone := hcond.2
      split at h
      · rename_i c e hg
        split at h
        · rename_i hle
          have hle : o + i.size ≤ c.size := Nat.le_of_ble_eq_true hle
          split at h
          · rename_i s1 hp
            injection h with h; injection h with h1 h2; subst h2
            refine ⟨h1.symm, ?_⟩
            have hH : H b = _ := (ha.rd b (by rw [(put_spec hp).2.2.1]; simp)).trans hg
            obtain ⟨u1, u2⟩ := upd_put hs hp
            have hcl := (AR.cells hv)
            have hll := hcl.list
            by_cases h0 : i.size = 0
            · -- nothing is stored
              have e1 : v.cells.toList = [] := List.length_eq_zero_iff.1 (by rw [Array.length_toList, hsz, h0])
              have e2 : v'.cells.toList = [] := List.length_eq_zero_iff.1 (by rw [Array.length_toList, ← hcl.1, hsz, h0])
              have hc : spliceC c o v.cells.toList = c := by
                unfold spliceC
                rw [e1]
                show (c.toList.take o ++ [] ++ c.toList.drop (o + 0)).toArray = c
                rw [List.append_nil, Nat.add_zero, List.take_append_drop, Array.toArray_toList]
              have hsame : upd H s1 = H := by
                funext j
                by_cases ej : j = b
                · subst ej; rw [u1, hc, hH]
                · exact u2 j ej
              refine ⟨w, ?_, by rw [hsame]; exact hm, Below.refl _ _⟩
              have hsz' : v'.cells.size = 0 := by rw [← hcl.1, hsz, h0]
              simp [Instr.storeAt, Instr.sureAddr, storeVar, sizeOf, typeInfo, hi, hsz', h0, e2, storeCells]
            · have hne : ¬ c.size = 0 := by omega
              obtain ⟨o', hq1, hor⟩ := hm.objX b r κ _ hb hH (by simp [VO.alive, hne])
              cases hor with
              | row _ info hi2 hlc hc k2 k0 hk hmx h1 =>
                rename_i c'
                have hsz' : v'.cells.toList.length = i.size := by rw [Array.length_toList, ← hcl.1, hsz]
                have hrow := run_storeCells_at P r o e v'.cells.toList 0 c' w hq1 (by omega) (one_all hll (okC_one hone))
                rw [Nat.add_zero, hsz'] at hrow
                rw [k0, Nat.zero_add]
                have hq : v'.cells.size = i.size := by rw [← hcl.1, hsz]
                have hlen : v.cells.toList.length = i.size := by rw [Array.length_toList, hsz]
                have hspl : spliceC c o v.cells.toList = (c.toList.take o ++ v.cells.toList ++ c.toList.drop (o + i.size)).toArray := by
                  unfold spliceC; rw [hlen]; rfl
                have hsize : (spliceC c o v.cells.toList).size = c.size := by rw [hspl]; simp; omega
                refine ⟨w.setRow r (c'.toList.take o ++ v'.cells.toList ++ c'.toList.drop (o + i.size)).toArray, ?_, hm.putX hb hH (by simp [VO.alive, hne]) u1 (by simp [VO.alive, hsize, hne]) u2 (setRow_heap w r c' _ e _ hq1) (.row e info hi2 ?_ ?_ k2 k0 ?_ hmx ?_) (by simp [World.setRow]) (fun k hk => setRow_other w r k _ hk), ?_⟩
                · simp only [Instr.storeAt, Instr.sureAddr, Sem.run_bind, Sem.run_pure, Result.andThen_ok, storeVar, sizeOf, typeInfo]
                  simp [hi, hq, hrow]
                · rw [hsize]; simp; omega
                · rw [hspl]
                  intro j x x' a a'
                  simp only [List.getElem?_toArray] at a a'
                  rw [List.append_assoc] at a a'
                  have t1 : (c.toList.take o).length = o := by simp; omega
                  have t2 : (c'.toList.take o).length = o := by simp; omega
                  rw [List.getElem?_append, t1] at a
                  rw [List.getElem?_append, t2] at a'
                  split at a
                  · rename_i hj
                    rw [if_pos hj] at a'
                    rw [List.getElem?_take_of_lt hj] at a a'
                    exact hc j x x' (by simpa using a) (by simpa using a')
                  · rename_i hj
                    rw [if_neg hj] at a'
                    rw [List.getElem?_append, hlen] at a
                    rw [List.getElem?_append, hsz'] at a'
                    split at a
                    · rename_i hj2
                      rw [if_pos hj2] at a'
                      exact hll.at _ x x' a a'
                    · rename_i hj2
                      rw [if_neg hj2] at a'
                      rw [List.getElem?_drop] at a a'
                      exact hc _ x x' (by simpa using a) (by simpa using a')
                · simp; omega
                · rw [hspl]
                  simp only [List.all_append, Bool.and_eq_true]
                  refine ⟨⟨?_, hone⟩, ?_⟩
                  · exact List.all_eq_true.2 fun x hx => List.all_eq_true.1 h1 x (List.mem_of_mem_take hx)
                  · exact List.all_eq_true.2 fun x hx => List.all_eq_true.1 h1 x (List.mem_of_mem_drop hx)
                · have := hm.old b r κ _ hb hH (by simp [VO.alive, hne])
                  exact ⟨rfl, rfl, rfl, by simp [World.setRow], fun k hk => setRow_other w r k _ (by omega)⟩
          · cases h
        · cases h
      · cases h
    · cases h
  · cases h

/-! append -/
theorem appendC_step {t t' : TypeId} {v x r : Value} {s s' : HS} (h : appendC P t t' v x s = some (r, s')) : VStep s s' := by
  unfold appendC at h
  split at h
  · split at h
    · split at h
      · rename_i m new s1 hsrc
        have hsame := srcC_same hsrc
        split at h
        · split at h
          · rename_i c e' hg
            split at h
            · split at h
              · rename_i s2 hp
                split at h
                · rename_i s3 hq
                  injection h with h; injection h with h1 h2; subst h2
                  exact hsame.step.trans ((VStep.put hp (by rw [hg]; simp)).trans (VStep.new hq))
                · cases h
              · cases h
            · cases h
          · cases h
        · split at h
          · split at h
            · rename_i s2 hq
              injection h with h; injection h with h1 h2; subst h2
              exact hsame.step.trans (VStep.new hq)
            · cases h
          · cases h
        · cases h
      · cases h
    · cases h
  · cases h
theorem appendC_sound {t t' ty : TypeId} {v v' x x' r : Value} {s s' : HS} {H : Nat → Option VO} {w : World} (h : appendC P t t' v x s = some (r, s')) (hv : VRel σ v v') (hx : VRel σ x x') (hm : Match P B σ H w) (hs : Sim s H) (ha : Agree s s' H) (hB : Ok B w) :
    Sound P B σ H w s' r (Builtin.append_ #[t, t'] ty #[v', x']) := by
  unfold appendC at h
  split at h
  · rename_i e ht
    split at h
    · rename_i i hi
      split at h
      · rename_i m new s1 hsrc
        have hsame := srcC_same hsrc
        have hs1 := hsame.sim hs
        have src : VStep s1 s' → 0 < i.size → ∃ new', LR σ new new' ∧ Src P i.size t' x' m new' w ∧ new.all okC = true := fun hst h0 => srcC_sound hsrc hx hm h0 (fun j e => ha.rd j (hst.rd j e))
        split at h
        · rename_i b n
          split at h
          · rename_i c e' hg
            split at h
            · rename_i hcond
              simp only [Bool.and_eq_true] at hcond
              obtain ⟨hok, hcs, hee⟩ := hcond
              have hcs : c.size = n * i.size := Nat.eq_of_beq_eq_true hcs
              obtain rfl : e' = e := Nat.eq_of_beq_eq_true hee
              split at h
              · rename_i s2 hp
                split at h
                · rename_i s3 hq
                  injection h with h; injection h with h1 h2; subst h1; subst h2
                  have hst := (VStep.put hp (by rw [hg]; simp)).trans (VStep.new hq)
                  obtain ⟨g1, _⟩ := grow_ok hi hok
                  obtain ⟨new', l1, l2, l3⟩ := src hst g1
                  cases hv with
                  | rowS hb hat =>
                    exact append_list ht hi hg hp hq hcs hb hat hm hs1 ⟨fun i e => by rw [hsame.heap]; exact ha.rd i e, fun i e f => ha.new i (by rw [← hsame.next]; exact e) f⟩ hB l2 l1 l3 hok
                · cases h
              · cases h
            · cases h
          · cases h
        · rename_i x0
          split at h
          · rename_i hcond
            simp only [Bool.and_eq_true] at hcond
            obtain ⟨hok, hhx⟩ := hcond
            split at h
            · rename_i s2 hq
              injection h with h; injection h with h1 h2; subst h1; subst h2
              have hst := VStep.new hq
              obtain ⟨g1, _⟩ := grow_ok hi hok
              obtain ⟨new', l1, l2, l3⟩ := src hst g1
              have hbase : ∃ base', v' = .slice base' 0 0 := by
                cases hv with
                | sliceNil => exact ⟨_, rfl⟩
                | slice _ q0 q1 q2 q3 => exact ⟨_, by rw [q2 (by unfold inf; omega)]⟩
              obtain ⟨base', rfl⟩ := hbase
              have hnn : H s1.next = none := ha.new s1.next (by rw [hsame.next]; exact Nat.le_refl _) (by have := (new_spec hq).1; omega)
              exact append_empty ht hi hq hm hs1 hnn hB l2 l1 l3 hok
            · cases h
          · cases h
        · cases h
      · cases h
    · cases h
  · cases h

/-! all of it -/
theorem rowV_step {o : Oper} {s : St} {v : Value} {hs' : HS} (h : rowV P o s = some (v, hs')) : VStep s.hs hs' := by
  unfold rowV at h
  split at h
  · repeat' split at h
    all_goals first | cases h | skip
    exact .refl _
  · repeat' split at h
    all_goals first | cases h | skip
    exact .refl _
  · split at h
    · exact (load_step h).step
    · cases h
  · repeat' split at h
    all_goals first | cases h | skip
    exact .refl _
  · repeat' split at h
    all_goals first | cases h | skip
    exact .refl _
  · split at h
    · exact store_step h
    · cases h
  · split at h
    · split at h
      · exact appendC_step h
      · cases h
    · cases h
  · split at h
    · exact sliceC_step h
    · cases h
  · cases h
/-- THE LAW of the operations on lists. -/
theorem rowV_sound {o : Oper} {s : St} {v : Value} {hs' : HS} (h : rowV P o s = some (v, hs')) {a : Act} {H : Nat → Option VO} {w : World} (hx : ∀ x ∈ o.op.operands, VRel σ (evalV s.tmps x) (a.eval x))
    (hm : Match P B σ H w) (hs : Sim s.hs H) (ha : Agree s.hs hs' H) (hB : Ok B w) :
    (∀ c, o.op ≠ .defer c) ∧ ∃ nx σ' v' w', (execOp a.eval o).run P w = .ok nx w' ∧ (nx = .value v' ∨ (nx = .skip ∧ v' = undef)) ∧ Ren.le σ σ' ∧ VRel σ' v v' ∧ Match P B σ' (upd H hs') w' ∧ Below B.b w w' := by
  have stay : ∀ {v : Value}, hs' = s.hs → ∀ {u : Value}, VRel σ v u → (execOp a.eval o).run P w = .ok (.value u) w → ∃ nx σ' v' w', (execOp a.eval o).run P w = .ok nx w' ∧ (nx = .value v' ∨ (nx = .skip ∧ v' = undef)) ∧ Ren.le σ σ' ∧ VRel σ' v v' ∧ Match P B σ' (upd H hs') w' ∧ Below B.b w w' := by
    intro v e u hv hr
    subst e
    exact ⟨_, σ, u, w, hr, .inl rfl, Ren.le_refl _, hv, by rw [hs.upd]; exact hm, Below.refl _ _⟩
  have whole : ∀ {v : Value} {m : Sem Value}, Sound P B σ H w hs' v m → (∀ v' w', m.run P w = .ok v' w' → (execOp a.eval o).run P w = .ok (.value v') w') → ∃ nx σ' v' w', (execOp a.eval o).run P w = .ok nx w' ∧ (nx = .value v' ∨ (nx = .skip ∧ v' = undef)) ∧ Ren.le σ σ' ∧ VRel σ' v v' ∧ Match P B σ' (upd H hs') w' ∧ Below B.b w w' := by
    rintro v m ⟨σ', v', w', g1, g2, g3, g4, g5⟩ e
    exact ⟨.value v', σ', v', w', e v' w' g1, .inl rfl, g2, g3, g4, g5⟩
  unfold rowV at h
  split at h
  · -- len
    rename_i args argTypes ho
    refine ⟨fun c e => (by rw [ho] at e; cases e), ?_⟩
    rw [ho] at hx
    simp only [Op.operands, Call.operands] at hx
    split at h
    · rename_i t y e1 e2
      split at h
      · rename_i el b n hu hv
        injection h with h; injection h with h1 h2; subst h1
        have hy := hx y (by have := Array.mem_of_getElem? e2; simp [this])
        rw [hv] at hy
        generalize hay : a.eval y = ay at hy
        cases hy with
        | rowS hb hat =>
          refine stay h2.symm (.int .i64 _) ?_
          unfold execOp
          rw [ho]
          simp only [resolve, invoke, builtin]
          have e3 : (args.map a.eval)[0]? = some (a.eval y) := by simp [e2]
          simp [Builtin.len_, e1, e2, hay, run_underlying hu, goInt]
      · cases h
    · cases h
  · -- where an element begins
    rename_i t x ix ho
    refine ⟨fun c e => (by rw [ho] at e; cases e), ?_⟩
    rw [ho] at hx
    simp only [Op.operands] at hx
    split at h
    · rename_i b n k z hvx hvi
      split at h
      · rename_i v0 hic
        injection h with h; injection h with h1 h2; subst h1
        have h3 := hx x (by simp)
        rw [hvx] at h3
        have h4 := hx ix (by simp)
        rw [hvi] at h4
        obtain ⟨u, hr, hu⟩ := indexC_sound (k := k) hic h3 w
        have hint : a.eval ix = .int k z := by generalize a.eval ix = q at h4; cases h4; rfl
        refine stay h2.symm hu ?_
        unfold execOp
        rw [ho]
        simp only [hint, Sem.run_bind, hr, Result.andThen_ok, Sem.run_pure]
      · cases h
    · cases h
  · -- load
    rename_i t x ho
    refine ⟨fun c e => (by rw [ho] at e; cases e), ?_⟩
    rw [ho] at hx
    simp only [Op.operands] at hx
    split at h
    · rename_i b p hvx
      have h3 := hx x (by simp)
      rw [hvx] at h3
      have hsame := load_step h
      generalize hax : a.eval x = ax at h3
      cases h3 with
      | rowP hb hk =>
        obtain ⟨u, hr, hu⟩ := loadC_sound h (fun i e => ha.rd i e) hb hm
        refine ⟨.value u, σ, u, w, ?_, .inl rfl, Ren.le_refl _, hu, by rw [hsame.upd, hs.upd]; exact hm, Below.refl _ _⟩
        unfold execOp
        rw [ho]
        simp only [hax, Sem.run_bind, hr, Result.andThen_ok, Sem.run_pure]
    · cases h
  · -- nilCheck
    rename_i x ho
    refine ⟨fun c e => (by rw [ho] at e; cases e), ?_⟩
    rw [ho] at hx
    simp only [Op.operands] at hx
    split at h
    · rename_i b p hvx
      injection h with h; injection h with h1 h2; subst h1
      have h3 := hx x (by simp)
      rw [hvx] at h3
      generalize hax : a.eval x = ax at h3
      cases h3 with
      | rowP hb hk =>
        refine stay h2.symm (.rowP hb hk) ?_
        unfold execOp
        rw [ho]
        dsimp only
        rw [hax]
        rfl
    · cases h
  · -- a field
    rename_i t x i ho
    refine ⟨fun c e => (by rw [ho] at e; cases e), ?_⟩
    rw [ho] at hx
    simp only [Op.operands] at hx
    split at h
    · rename_i off hf
      split at h
      · rename_i b p hvx
        injection h with h; injection h with h1 h2; subst h1
        have h3 := hx x (by simp)
        rw [hvx] at h3
        obtain ⟨u, hr, hu⟩ := fieldC_sound hf h3 w
        refine stay h2.symm hu ?_
        unfold execOp
        rw [ho]
        simp only [Sem.run_bind, hr, Result.andThen_ok, Sem.run_pure]
      · cases h
    · cases h
  · -- store
    rename_i t x y ho
    refine ⟨fun c e => (by rw [ho] at e; cases e), ?_⟩
    rw [ho] at hx
    simp only [Op.operands] at hx
    split at h
    · rename_i b p hvx
      have h3 := hx x (by simp)
      rw [hvx] at h3
      generalize hax : a.eval x = ax at h3
      cases h3 with
      | rowP hb hk =>
        obtain ⟨e, w', hr, hm', hbel⟩ := storeC_sound h (hx y (by simp)) hb hm hs ha
        subst e
        refine ⟨.skip, σ, undef, w', ?_, .inr ⟨rfl, rfl⟩, Ren.le_refl _, VRel.tuple rfl (fun i v v' x => by simp at x), hm', hbel⟩
        unfold execOp
        rw [ho]
        simp only [hax, Sem.run_bind, hr, Result.andThen_ok, Sem.run_pure]
    · cases h
  · -- append
    rename_i args argTypes ho
    refine ⟨fun c e => (by rw [ho] at e; cases e), ?_⟩
    split at h
    · rename_i t t' x y e1 e2 e3 e4
      split at h
      · rename_i hsz
        simp only [Bool.and_eq_true] at hsz
        have z1 : args.size = 2 := Nat.eq_of_beq_eq_true hsz.1
        have z2 : argTypes.size = 2 := Nat.eq_of_beq_eq_true hsz.2
        have a1 : args = #[x, y] := by
          apply Array.ext
          · simp [z1]
          · intro i h1 h2
            have : i = 0 ∨ i = 1 := by omega
            rcases this with rfl | rfl
            · have := Array.getElem?_eq_some_iff.1 e3; simpa using this.2
            · have := Array.getElem?_eq_some_iff.1 e4; simpa using this.2
        have a2 : argTypes = #[t, t'] := by
          apply Array.ext
          · simp [z2]
          · intro i h1 h2
            have : i = 0 ∨ i = 1 := by omega
            rcases this with rfl | rfl
            · have := Array.getElem?_eq_some_iff.1 e1; simpa using this.2
            · have := Array.getElem?_eq_some_iff.1 e2; simpa using this.2
        subst a1; subst a2
        rw [ho] at hx
        simp only [Op.operands, Call.operands] at hx
        refine whole (appendC_sound (ty := o.type) h (hx x (by simp)) (hx y (by simp)) hm hs ha hB) fun v' w' g1 => ?_
        unfold execOp
        rw [ho]
        simp only [resolve, invoke, builtin, Sem.run_bind, Sem.run_pure, Result.andThen_ok, List.map_toArray, List.map_cons, List.map_nil, g1]
      · cases h
    · cases h
  · -- a part
    rename_i t x lo hi ho
    refine ⟨fun c e => (by rw [ho] at e; cases e), ?_⟩
    rw [ho] at hx
    simp only [Op.operands] at hx
    split at h
    · rename_i b n hvx
      have h3 := hx x (by simp)
      rw [hvx] at h3
      refine whole (sliceC_sound h h3 (opt_rel fun y hy => hx y (by simp [hy])) (opt_rel fun y hy => hx y (by simp [hy])) hm hs ha hB) fun v' w' g1 => ?_
      unfold execOp
      rw [ho]
      simp only [Option.map_none, Sem.run_bind, Sem.run_pure, Result.andThen_ok, g1]
    · cases h
  · cases h
end
end Go.Proofs.Ytpaojoahbmlolaa
