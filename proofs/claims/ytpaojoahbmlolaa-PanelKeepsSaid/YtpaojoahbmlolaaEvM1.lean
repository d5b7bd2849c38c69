/- Lists that are known by their block: reading, and places. -/
import Derived.Test.YtpaojoahbmlolaaEvM
import Derived.Deep.MidRow
namespace Go.Proofs.Ytpaojoahbmlolaa
open Go Go.RowKit
set_option linter.unusedSectionVars false
set_option linter.unusedVariables false
set_option linter.unusedSimpArgs false
set_option linter.unnecessarySimpa false
section
variable {P : Program} [NoCx P] {σ : Ren} {B : Bd}

theorem okC_one {l : List Value} (h : l.all okC = true) : l.all oneV = true := List.all_eq_true.2 fun x hx => by
  have := List.all_eq_true.1 h x hx
  unfold okC at this
  simp only [Bool.and_eq_true] at this
  exact this.1
theorem okC_flat {v : Value} (h : okC v = true) : flatV 50 v = true := by
  unfold okC at h
  simp only [Bool.and_eq_true] at h
  exact h.2
theorem read_same {s s1 : HS} {b o n : Nat} {l : List Value} (h : readC s b o n = some (l, s1)) : Same s s1 := by
  unfold readC segC at h
  split at h
  · split at h
    · injection h with h; injection h with h1 h2; subst h2; exact .read _ _
    · cases h
  · cases h
/-- a list's cells, run and real -/
def CellsAt (σ : Ren) (w : World) (r κ : Nat) (c : Array Value) : Prop := (c.size = 0 ∧ κ ≤ 1) ∨ (c.size ≠ 0 ∧ 2 ≤ κ ∧ ∃ c' e' fz, w.heap[r]? = some (.cells c' e' fz) ∧ vOff κ + c.size ≤ c'.size ∧ c.toList.all okC = true ∧ ∀ (j : Nat) (v v' : Value), c[j]? = some v → c'[vOff κ + j]? = some v' → VRel σ v v')
theorem list_at {s : HS} {b r κ : Nat} {c : Array Value} {e : TypeId} {gr : Bool} (h : listC s b = some (c, e, gr)) {H : Nat → Option VO} {w : World} (hH : H b = s.heap.get b) (hb : σ b = some (r, κ)) (hm : Match P B σ H w) : CellsAt σ w r κ c := by
  unfold listC at h
  split at h
  · rename_i c0 e0 hg
    injection h with h; injection h with h1 h2; injection h2 with h2 h3; subst h1; subst h2; subst h3
    rw [hg] at hH
    by_cases h0 : c0.size = 0
    · have : κ = 0 := hm.non b r κ _ hb hH h0
      exact .inl ⟨h0, by omega⟩
    · obtain ⟨o', g1, g2⟩ := hm.objX b r κ _ hb hH (by simp [VO.alive, h0])
      cases g2 with
      | row e i hi hl hc k2 k0 hk hmx h1 => exact .inr ⟨h0, k2, _, _, _, g1, by rw [k0]; omega, h1, fun j v v' x y => hc j v v' x (by rw [k0, Nat.zero_add] at y; exact y)⟩
  · rename_i c0 e0 hg
    injection h with h; injection h with h1 h2; injection h2 with h2 h3; subst h1; subst h2; subst h3
    rw [hg] at hH
    exact hm.non b r κ _ hb hH
  · cases h
theorem cells_seg {w : World} {r κ : Nat} {c : Array Value} (h : CellsAt σ w r κ c) (o n : Nat) (hle : o + n ≤ c.size) : n = 0 ∨ (2 ≤ κ ∧ ∃ l', LR σ ((c.toList.drop o).take n) l' ∧ l'.length = n ∧ ((c.toList.drop o).take n).all okC = true ∧ ∀ (j : Nat) (u : Value), l'[j]? = some u → w.cell? ⟨r, vOff κ + o + j, none⟩ = some u) := by
  rcases h with ⟨h, _⟩ | ⟨hn, k2, c', e', fz, h1, h2, h3, h4⟩
  · exact .inl (by omega)
  · refine .inr ⟨k2, (c'.toList.drop (vOff κ + o)).take n, ?_, by simp; omega, ?_, fun j u hu => ?_⟩
    · refine LR.of _ _ (by simp; omega) fun i v v' x y => ?_
      have hi : i < n := by
        rcases Nat.lt_or_ge i n with q | q
        · exact q
        · rw [List.getElem?_eq_none (by simp; omega)] at x; cases x
      rw [List.getElem?_take_of_lt hi, List.getElem?_drop] at x y
      refine h4 (o + i) v v' (by simpa using x) ?_
      rw [← Nat.add_assoc]; simpa using y
    · refine List.all_eq_true.2 fun x hx => List.all_eq_true.1 h3 x (List.mem_of_mem_drop (List.mem_of_mem_take hx))
    · have hj : j < n := by
        rcases Nat.lt_or_ge j n with q | q
        · exact q
        · rw [List.getElem?_eq_none (by simp; omega)] at hu; cases hu
      rw [List.getElem?_take_of_lt hj, List.getElem?_drop] at hu
      simp only [World.cell?, h1]
      simpa using hu
theorem read_sound {s s1 : HS} {b o n r κ : Nat} {l : List Value} (h : readC s b o n = some (l, s1)) {H : Nat → Option VO} {w : World} (ha : ∀ i, s1.rd.testBit i = true → H i = s.heap.get i) (hb : σ b = some (r, κ)) (hm : Match P B σ H w) :
    (n = 0 ∧ l = []) ∨ (2 ≤ κ ∧ ∃ l', LR σ l l' ∧ l'.length = n ∧ l.all okC = true ∧ ∀ (j : Nat) (u : Value), l'[j]? = some u → w.cell? ⟨r, vOff κ + o + j, none⟩ = some u) := by
  unfold readC segC at h
  split at h
  · rename_i c e gr hl
    split at h
    · rename_i l0 hle
      injection h with h; injection h with h1 h2; subst h1; subst h2
      split at hle
      case h_2 => cases hle
      rename_i hle2
      injection hle with hle; subst hle
      have hle := hle2
      have hle : o + n ≤ c.size := Nat.le_of_ble_eq_true hle
      have hH : H b = s.heap.get b := ha b (by rw [read_eq]; exact lor_rd b)
      rcases cells_seg (list_at hl hH hb hm) o n hle with h | h
      · subst h; exact .inl ⟨rfl, by simp⟩
      · exact .inr h
    · cases h
  · cases h

theorem one_cell {v : Value} {l : List Value} (h : LR σ [v] l) : ∃ u, l = [u] ∧ VRel σ v u := by
  cases l with
  | nil => exact h.elim
  | cons u t => cases t with
    | nil => exact ⟨u, rfl, h.1⟩
    | cons _ _ => exact h.2.elim
theorem load_step {t : TypeId} {b o : Nat} {v : Value} {s s1 : HS} (h : loadC P t b o s = some (v, s1)) : Same s s1 := by
  unfold loadC at h
  repeat' split at h
  all_goals first | cases h | skip
  all_goals (rename_i hr; exact read_same hr)
theorem loadC_sound {t : TypeId} {b o r κ : Nat} {v : Value} {s s1 : HS} (h : loadC P t b o s = some (v, s1)) {H : Nat → Option VO} {w : World} (ha : ∀ i, s1.rd.testBit i = true → H i = s.heap.get i) (hb : σ b = some (r, κ)) (hm : Match P B σ H w) :
    ∃ u, (Instr.loadAt t (.pointer (some ⟨r, vOff κ + o, none⟩))).run P w = .ok u w ∧ VRel σ v u := by
  have hrun : (Instr.loadAt t (.pointer (some ⟨r, vOff κ + o, none⟩))).run P w = (loadVar t ⟨r, vOff κ + o, none⟩).run P w := by
    simp only [Instr.loadAt, Instr.sureAddr, Sem.run_bind, Sem.run_pure, Result.andThen_ok]
  rw [hrun]
  unfold loadC at h
  split at h
  · rename_i hagg
    split at h
    · rename_i v0 s0 hr
      injection h with h; injection h with h1 h2; subst h1; subst h2
      rcases read_sound hr ha hb hm with ⟨q, _⟩ | ⟨k2, l', g1, g2, g3, g4⟩
      · cases q
      · obtain ⟨u, rfl, g5⟩ := one_cell g1
        refine ⟨u, ?_, g5⟩
        unfold aggT at hagg
        have hcell := g4 0 u rfl
        rw [Nat.add_zero] at hcell
        cases hu : P.underlying t with
        | none => rw [hu] at hagg; cases hagg
        | some d =>
          rw [hu] at hagg
          have hisagg : (isAgg t).run P w = .ok false w := by
            unfold isAgg
            rw [Sem.run_bind, run_underlying hu w]
            cases d <;> first | rfl | cases hagg
          simp only [loadVar, Sem.run_bind, hisagg, Result.andThen_ok]
          simp [load, Sem.run, hcell]
    · cases h
  · rename_i hagg
    split at h
    · rename_i i hi
      split at h
      · rename_i l s0 hr
        injection h with h; injection h with h1 h2; subst h1; subst h2
        unfold aggT at hagg
        cases hu : P.underlying t with
        | none => rw [hu] at hagg; cases hagg
        | some d =>
          rw [hu] at hagg
          have hrow : d.isRow = true := by cases d <;> first | rfl | cases hagg
          rcases read_sound hr ha hb hm with ⟨q, rfl⟩ | ⟨k2, l', g1, g2, g3, g4⟩
          · exact ⟨_, run_loadVar_mid w r (vOff κ + o) t [] d (fun j v x => by cases x) hu hrow (by simp [hi, q]), AR.cells (v := .agg #[]) (v' := .agg #[]) (.agg rfl fun i v v' x => by simp at x) |> fun h => .agg h.1 h.2⟩
          · refine ⟨_, run_loadVar_mid w r (vOff κ + o) t l' d (fun j v x => g4 j v x) hu hrow (by simp [hi, g2]), ?_⟩
            have := g1.array
            exact .agg this.1 this.2
      · cases h
    · cases h
  · cases h

theorem indexC_sound {t : TypeId} {b n : Nat} {z : Int} {v x' : Value} {k : IntKind} (h : indexC P t b n z = some v) (hx : VRel σ (.complex .f64 b n) x') (w : World) :
    ∃ u, (Instr.indexAt t x' (.int k z)).run P w = .ok u w ∧ VRel σ v u := by
  unfold indexC at h
  split at h
  · rename_i e hu
    split at h
    · rename_i i hi
      split at h
      · rename_i hz
        injection h with h; subst h
        simp only [Bool.and_eq_true, decide_eq_true_eq] at hz
        cases hx with
        | rowS hb hat =>
          rename_i r κ c x
          rcases hat with ⟨_, q, _⟩ | ⟨_, q⟩ | ⟨k2, rfl, rfl, hle⟩
          · omega
          · omega
          · have hadd : (⟨r, vOff κ, none⟩ : Addr).add (z.toNat * i.size) = ⟨r, vOff κ + z.toNat * i.size, none⟩ := by unfold Addr.add; split <;> simp_all
            refine ⟨.pointer (some ⟨r, vOff κ + z.toNat * i.size, none⟩), ?_, .rowP hb k2⟩
            unfold Instr.indexAt
            simp [asIntOf, run_underlying hu, hz.1, hz.2, sizeOf, typeInfo, hi, hadd]
      · cases h
    · cases h
  · cases h
theorem fieldC_sound {t : TypeId} {i off b o : Nat} {x' : Value} (hf : fieldV P t i = some off) (hx : VRel σ (.complex .f32 b o) x') (w : World) :
    ∃ u, (Instr.fieldAt t x' i).run P w = .ok u w ∧ VRel σ (.complex .f32 b (Nat.add o off)) u := by
  cases hx with
  | rowP hb hk =>
    rename_i r κ
    unfold fieldV at hf
    split at hf
    · rename_i fs hu
      split at hf
      · rename_i f hfi
        split at hf
        · rename_i j hj
          split at hf
          · cases hf
          · rename_i hz
            injection hf with hf
            subst hf
            have hz' : ¬ j.size = 0 := fun e => by rw [e] at hz; cases hz
            have hadd : (⟨r, vOff κ + o, none⟩ : Addr).add f.offset = ⟨r, vOff κ + (o + f.offset), none⟩ := by unfold Addr.add; split <;> simp_all [Nat.add_assoc]
            refine ⟨.pointer (some ⟨r, vOff κ + (o + f.offset), none⟩), ?_, .rowP hb hk⟩
            unfold Instr.fieldAt
            simp [run_underlying hu, hfi, Instr.sureAddr, fieldPlace, sizeOf, typeInfo, hj, hz', hadd]
        · cases hf
      · cases hf
    · cases hf
end
end Go.Proofs.Ytpaojoahbmlolaa
