/- The evaluator: EvZ6 to EvZ7. -/
import Derived.Test.YtbcbldpppjbkhaaEv3
/- Lists as cells: what is read of them, what is put behind them. -/
namespace Go.Proofs.Ytbcbldpppjbkhaa
open Go Go.RowKit
set_option linter.unusedSectionVars false
set_option linter.unusedVariables false
set_option linter.unusedSimpArgs false
theorem hid_ex (c : Array Value) : ∃ d : Array Value, d = c := ⟨c, rfl⟩
noncomputable def hidC (c : Array Value) : Array Value := Classical.choose (hid_ex c)
theorem hidC_eq (c : Array Value) : hidC c = c := Classical.choose_spec (hid_ex c)
noncomputable def rowA {α : Type} (g : α → List Value) (l : List α) : Array Value := hidC ⟨l.flatMap g⟩
theorem rowA_eq {α : Type} (g : α → List Value) (l : List α) : rowA g l = ⟨l.flatMap g⟩ := hidC_eq _
def el {α : Type} [Inhabited α] (l : List α) (z : Int) : α := l.getD z.toNat default
def gI (z : Int) : List Value := [.int .i64 z]
def gB (b : Bool) : List Value := [.bool b]
def gU8 (z : Int) : List Value := [.int .u8 z]
section
variable {α : Type} {g : α → List Value} {k : Nat}
theorem flat_len (hg : ∀ a, (g a).length = k) : ∀ l : List α, (l.flatMap g).length = l.length * k
  | [] => by simp
  | a :: l => by
    simp only [List.flatMap_cons, List.length_append, hg a, flat_len hg l, List.length_cons]
    rw [Nat.add_mul, Nat.one_mul, Nat.add_comm]
theorem rowA_size (hg : ∀ a, (g a).length = k) (l : List α) : (rowA g l).size = l.length * k := by
  rw [rowA_eq]; exact flat_len hg l
theorem flat_drop (hg : ∀ a, (g a).length = k) : ∀ (l : List α) (n : Nat), (l.flatMap g).drop (n * k) = (l.drop n).flatMap g
  | l, 0 => by simp
  | [], n + 1 => by simp
  | a :: l, n + 1 => by
    rw [List.flatMap_cons, List.drop_succ_cons, ← flat_drop hg l n, Nat.add_mul, Nat.one_mul, Nat.add_comm (n * k) k]
    rw [← List.drop_drop, List.drop_left' (hg a)]
theorem flat_take (hg : ∀ a, (g a).length = k) : ∀ (l : List α) (n : Nat), (l.flatMap g).take (n * k) = (l.take n).flatMap g
  | l, 0 => by simp
  | [], n + 1 => by simp
  | a :: l, n + 1 => by
    rw [List.flatMap_cons, List.take_succ_cons, List.flatMap_cons, ← flat_take hg l n, Nat.add_mul, Nat.one_mul, Nat.add_comm (n * k) k]
    rw [List.take_append, hg a, List.take_of_length_le (by rw [hg a]; omega)]
    simp
theorem seg_row [Inhabited α] (hg : ∀ a, (g a).length = k) {l : List α} {z : Int} {off n : Nat} {v : List Value} (h0 : 0 ≤ z) (h1 : z < (l.length : Int)) (ho : off + n ≤ k) (hv : ((g (el l z)).drop off).take n = v) : segC (rowA g l) (z.toNat * k + off) n = some v := by
  have hz : z.toNat < l.length := by omega
  unfold segC
  have hle : Nat.ble (Nat.add (z.toNat * k + off) n) (rowA g l).size = true := by
    rw [rowA_size hg]
    refine Nat.ble_eq_true_of_le ?_
    show z.toNat * k + off + n ≤ l.length * k
    have : (z.toNat + 1) * k ≤ l.length * k := Nat.mul_le_mul_right k hz
    rw [Nat.add_mul, Nat.one_mul] at this
    omega
  rw [hle]
  simp only
  rw [← hv, rowA_eq]
  simp only [Option.some.injEq]
  rw [← List.drop_drop, flat_drop hg]
  have hd : l.drop z.toNat = el l z :: l.drop (z.toNat + 1) := by
    rw [List.drop_eq_getElem_cons hz]
    congr 1
    unfold el
    rw [List.getD_eq_getElem?_getD, List.getElem?_eq_getElem hz]
    rfl
  rw [hd, List.flatMap_cons, List.drop_append, hg]
  rw [show off - k = 0 by omega, List.drop_zero, List.take_append]
  rw [show n - ((g (el l z)).drop off).length = 0 by rw [List.length_drop, hg]; omega]
  simp
theorem seg_all (hg : ∀ a, (g a).length = k) {l : List α} {v : List Value} (hv : l.flatMap g = v) : segC (rowA g l) 0 (l.length * k) = some v := by
  unfold segC
  have hle : Nat.ble (Nat.add 0 (l.length * k)) (rowA g l).size = true := by
    rw [rowA_size hg]
    exact Nat.ble_eq_true_of_le (Nat.le_of_eq (Nat.zero_add _))
  rw [hle]
  simp only
  rw [rowA_eq, List.drop_zero, List.take_of_length_le (by rw [flat_len hg]; exact Nat.le_refl _), hv]
theorem row_snoc {l : List α} {a : α} {v : List Value} (hv : g a = v) : ((rowA g l.reverse).toList ++ v).toArray = rowA g (a :: l).reverse := by
  rw [rowA_eq, rowA_eq, ← hv]
  simp
theorem row_app {l m : List α} {v : List Value} (hv : m.flatMap g = v) : ((rowA g l).toList ++ v).toArray = rowA g (l ++ m) := by
  rw [rowA_eq, rowA_eq, ← hv]
  simp
theorem row_new {l : List α} {v : List Value} (hv : l.flatMap g = v) : v.toArray = rowA g l := by
  rw [rowA_eq, ← hv]
theorem fact_size (hg : ∀ a, (g a).length = k) {l : List α} {n : Nat} (hn : n = l.length) : Nat.beq (rowA g l).size (Nat.mul n k) = true := by
  rw [rowA_size hg, hn]
  exact Nat.beq_refl _
theorem fact_room {l : List α} {z : Int} {off n : Nat} (hg : ∀ a, (g a).length = k) (h0 : 0 ≤ z) (h1 : z < (l.length : Int)) (ho : off + n ≤ k) : Nat.ble (Nat.add (z.toNat * k + off) n) (rowA g l).size = true := by
  have hz : z.toNat < l.length := by omega
  rw [rowA_size hg]
  refine Nat.ble_eq_true_of_le ?_
  show z.toNat * k + off + n ≤ l.length * k
  have : (z.toNat + 1) * k ≤ l.length * k := Nat.mul_le_mul_right k hz
  rw [Nat.add_mul, Nat.one_mul] at this
  omega
theorem row_set [Inhabited α] (hg : ∀ a, (g a).length = k) {l : List α} {z : Int} {off : Nat} {v : List Value} {x : α} (h0 : 0 ≤ z) (h1 : z < (l.length : Int)) (ho : off + v.length ≤ k) (hv : (g (el l z)).take off ++ (v ++ (g (el l z)).drop (off + v.length)) = g x) : spliceC (rowA g l) (z.toNat * k + off) v = rowA g (l.set z.toNat x) := by
  have hz : z.toNat < l.length := by omega
  unfold spliceC
  rw [rowA_eq, rowA_eq]
  have hd : l.drop z.toNat = el l z :: l.drop (z.toNat + 1) := by
    rw [List.drop_eq_getElem_cons hz]
    congr 1
    unfold el
    rw [List.getD_eq_getElem?_getD, List.getElem?_eq_getElem hz]
    rfl
  have hl : l.flatMap g = (l.take z.toNat).flatMap g ++ (g (el l z) ++ (l.drop (z.toNat + 1)).flatMap g) := by
    have : l = l.take z.toNat ++ l.drop z.toNat := (List.take_append_drop _ _).symm
    rw [hd] at this
    conv => lhs; rw [this]
    rw [List.flatMap_append, List.flatMap_cons]
  have ha : ((l.take z.toNat).flatMap g).length = z.toNat * k := by
    rw [flat_len hg, List.length_take, Nat.min_eq_left (Nat.le_of_lt hz)]
  have e1 : (l.flatMap g).take (z.toNat * k + off) = (l.take z.toNat).flatMap g ++ (g (el l z)).take off := by
    rw [hl, List.take_append, ha, List.take_of_length_le (by rw [ha]; omega), show z.toNat * k + off - z.toNat * k = off by omega, List.take_append, hg, show off - k = 0 by omega]
    simp
  have e2 : (l.flatMap g).drop (Nat.add (z.toNat * k + off) v.length) = (g (el l z)).drop (off + v.length) ++ (l.drop (z.toNat + 1)).flatMap g := by
    show (l.flatMap g).drop (z.toNat * k + off + v.length) = _
    rw [hl, List.drop_append, ha, List.drop_of_length_le (by rw [ha]; omega), show z.toNat * k + off + v.length - z.toNat * k = off + v.length by omega, List.drop_append, hg, show off + v.length - k = 0 by omega]
    simp
  have e3 : (l.set z.toNat x).flatMap g = (l.take z.toNat).flatMap g ++ (g x ++ (l.drop (z.toNat + 1)).flatMap g) := by
    rw [List.set_eq_take_append_cons_drop, if_pos hz, List.flatMap_append, List.flatMap_cons]
  simp only
  rw [e1, e2, e3, ← hv]
  simp only [List.append_assoc]
theorem row_zero {d : α} {z : Value} {n : Nat} (h : g d = z.cells.toList) : (zerosC z n).toArray = rowA g (List.replicate n d) := by
  rw [rowA_eq]
  unfold zerosC
  rw [← h]
  congr 1
  induction n with
  | zero => rfl
  | succ n ih => rw [List.replicate_succ, List.replicate_succ, List.flatten_cons, List.flatMap_cons, ih]
theorem row_part (hg : ∀ a, (g a).length = k) {l : List α} {a n : Nat} : (((rowA g l).toList.drop (a * k)).take (n * k)).toArray = rowA g ((l.drop a).take n) := by
  rw [rowA_eq, rowA_eq]
  show List.toArray _ = List.toArray _
  rw [flat_drop hg, flat_take hg]
theorem row_seen {l : List α} {c : List Value} (h : l.flatMap g = c) : rowA g l = ⟨c⟩ := by rw [rowA_eq, h]
theorem row_okC (hg : ∀ a, (g a).all okC = true) (l : List α) : (rowA g l).toList.all okC = true := by
  rw [rowA_eq]
  simp only [List.all_flatMap, List.all_eq_true]
  intro a _
  exact List.all_eq_true.1 (hg a)
theorem row_inj (hg : ∀ a, (g a).length = k) (hk : 0 < k) (hi : ∀ a b, g a = g b → a = b) : ∀ {l m : List α}, rowA g l = rowA g m → l = m := by
  have key : ∀ (l m : List α), l.flatMap g = m.flatMap g → l = m := by
    intro l
    induction l with
    | nil =>
      intro m h
      cases m with
      | nil => rfl
      | cons b m =>
        exfalso
        have := congrArg List.length h
        simp only [List.flatMap_nil, List.flatMap_cons, List.length_append, hg b, List.length_nil] at this
        omega
    | cons a l ih =>
      intro m h
      cases m with
      | nil =>
        exfalso
        have := congrArg List.length h
        simp only [List.flatMap_nil, List.flatMap_cons, List.length_append, hg a, List.length_nil] at this
        omega
      | cons b m =>
        simp only [List.flatMap_cons] at h
        obtain ⟨h1, h2⟩ := List.append_inj h (by rw [hg a, hg b])
        rw [hi _ _ h1, ih _ h2]
  intro l m h
  rw [rowA_eq, rowA_eq] at h
  injection h with h
  exact key _ _ h
end
/-! maps as lists of pairs: what is found in them, what is put into them -/
theorem hidE_ex (c : Array MapEntry) : ∃ d : Array MapEntry, d = c := ⟨c, rfl⟩
noncomputable def hidE (c : Array MapEntry) : Array MapEntry := Classical.choose (hidE_ex c)
theorem hidE_eq (c : Array MapEntry) : hidE c = c := Classical.choose_spec (hidE_ex c)
section
variable {κ υ : Type}
def entM (gk : κ → Value) (gv : υ → Value) : List (κ × υ) → Nat → List MapEntry
  | [], _ => []
  | p :: l, i => { key := gk p.1, val := gv p.2, born := i } :: entM gk gv l (i + 1)
noncomputable def mapA (gk : κ → Value) (gv : υ → Value) (l : List (κ × υ)) : Array MapEntry := hidE ⟨entM gk gv l 0⟩
theorem mapA_eq (gk : κ → Value) (gv : υ → Value) (l : List (κ × υ)) : mapA gk gv l = ⟨entM gk gv l 0⟩ := hidE_eq _
theorem mapA_nil (gk : κ → Value) (gv : υ → Value) : mapA gk gv [] = #[] := by rw [mapA_eq]; rfl
variable [DecidableEq κ]
def hasM : List (κ × υ) → κ → Bool
  | [], _ => false
  | p :: l, k => decide (k = p.1) || hasM l k
def valM [Inhabited υ] : List (κ × υ) → κ → υ
  | [], _ => default
  | p :: l, k => bif decide (k = p.1) then p.2 else valM l k
def idxM : List (κ × υ) → κ → Nat
  | [], _ => 0
  | p :: l, k => bif decide (k = p.1) then 0 else idxM l k + 1
def putM : List (κ × υ) → κ → υ → List (κ × υ)
  | [], k, v => [(k, v)]
  | p :: l, k, v => bif decide (k = p.1) then (k, v) :: l else p :: putM l k v
theorem hasM_put : ∀ (l : List (κ × υ)) (k j : κ) (v : υ), hasM (putM l k v) j = (decide (j = k) || hasM l j)
  | [], k, j, v => by simp [putM, hasM]
  | p :: l, k, j, v => by
    unfold putM
    by_cases h : k = p.1
    · rw [decide_eq_true h, cond_true]
      simp only [hasM]
      rw [← h]
      cases decide (j = k) <;> rfl
    · rw [decide_eq_false h, cond_false]
      simp only [hasM, hasM_put l k j v]
      cases decide (j = p.1) <;> cases decide (j = k) <;> rfl
theorem valM_put [Inhabited υ] : ∀ (l : List (κ × υ)) (k j : κ) (v : υ), valM (putM l k v) j = if j = k then v else valM l j
  | [], k, j, v => by
    unfold putM
    simp only [valM]
    by_cases h : j = k
    · rw [decide_eq_true h, if_pos h]; rfl
    · rw [decide_eq_false h, if_neg h]; rfl
  | p :: l, k, j, v => by
    unfold putM
    by_cases h : k = p.1
    · rw [decide_eq_true h, cond_true]
      simp only [valM]
      by_cases hj : j = k
      · rw [decide_eq_true hj, if_pos hj]; rfl
      · rw [decide_eq_false hj, if_neg hj, cond_false, decide_eq_false (by rw [← h]; exact hj), cond_false]
    · rw [decide_eq_false h, cond_false]
      simp only [valM, valM_put l k j v]
      by_cases hj : j = k
      · rw [if_pos hj, if_pos hj, decide_eq_false (by rw [hj]; exact h), cond_false]
      · rw [if_neg hj, if_neg hj]
theorem valM_no [Inhabited υ] : ∀ (l : List (κ × υ)) (k : κ), hasM l k = false → valM l k = default
  | [], k, h => rfl
  | p :: l, k, h => by
    simp only [hasM, Bool.or_eq_false_iff] at h
    simp only [valM, h.1, cond_false]
    exact valM_no l k h.2
variable {P : Program} {kt : TypeId} {gk : κ → Value} {gv : υ → Value}
theorem find_ent [Inhabited υ] (heq : ∀ a b, eqS P Op.maxDepth kt (gk a) (gk b) = some (decide (a = b))) (k : κ) : ∀ (l : List (κ × υ)) (j i : Nat), findS P kt (gk k) (entM gk gv l j) i = some (if hasM l k = true then some (i + idxM l k, gv (valM l k)) else none)
  | [], j, i => rfl
  | p :: l, j, i => by
    unfold entM findS
    simp only [heq]
    by_cases h : k = p.1
    · rw [decide_eq_true h]
      simp only [hasM, valM, idxM, decide_eq_true h, Bool.true_or, cond_true, if_true]
      rfl
    · rw [decide_eq_false h]
      simp only [hasM, valM, idxM, decide_eq_false h, Bool.false_or, cond_false]
      rw [find_ent heq k l (j + 1) (Nat.add i 1)]
      show some (if _ then some (i + 1 + idxM l k, _) else none) = _
      rw [show i + 1 + idxM l k = i + (idxM l k + 1) by omega]
theorem find_yes [Inhabited υ] {l : List (κ × υ)} {k : κ} (heq : ∀ a b, eqS P Op.maxDepth kt (gk a) (gk b) = some (decide (a = b))) (h : hasM l k = true) : findS P kt (gk k) (mapA gk gv l).toList 0 = some (some (idxM l k, gv (valM l k))) := by
  rw [mapA_eq]
  show findS P kt (gk k) (entM gk gv l 0) 0 = _
  rw [find_ent heq, if_pos h, Nat.zero_add]
theorem find_no [Inhabited υ] {l : List (κ × υ)} {k : κ} (heq : ∀ a b, eqS P Op.maxDepth kt (gk a) (gk b) = some (decide (a = b))) (h : hasM l k = false) : findS P kt (gk k) (mapA gk gv l).toList 0 = some none := by
  rw [mapA_eq]
  show findS P kt (gk k) (entM gk gv l 0) 0 = _
  rw [find_ent heq, if_neg (by rw [h]; decide)]
theorem ent_len : ∀ (l : List (κ × υ)) (j : Nat), (entM gk gv l j).length = l.length
  | [], _ => rfl
  | p :: l, j => by unfold entM; simp [ent_len l (j + 1)]
theorem ent_at : ∀ (l : List (κ × υ)) (k : κ) (j : Nat), hasM l k = true → ∃ e, (entM gk gv l j)[idxM l k]? = some e ∧ e.key = gk k
  | [], k, j, h => by cases h
  | p :: l, k, j, h => by
    unfold entM idxM
    by_cases hk : k = p.1
    · rw [decide_eq_true hk, cond_true]
      exact ⟨_, rfl, by rw [hk]⟩
    · rw [decide_eq_false hk, cond_false]
      simp only [hasM, decide_eq_false hk, Bool.false_or] at h
      simp only [List.getElem?_cons_succ]
      exact ent_at l k (j + 1) h
theorem same_map {l : List (κ × υ)} {k : κ} (hs : ∀ a, Instr.sameBits 10000 (gk a) (gk a) = true) (h : hasM l k = true) : Instr.sameBits 10000 ((((mapA gk gv l)[idxM l k]?).map (·.key)).getD (gk k)) (gk k) = true := by
  rw [mapA_eq]
  obtain ⟨e, h1, h2⟩ := ent_at (gk := gk) (gv := gv) l k 0 h
  have : (⟨entM gk gv l 0⟩ : Array MapEntry)[idxM l k]? = some e := by simpa using h1
  rw [this]
  simp only [Option.map_some, Option.getD_some]
  rw [h2]
  exact hs k
theorem ent_mod {v : υ} : ∀ (l : List (κ × υ)) (k : κ) (j : Nat), hasM l k = true → (entM gk gv l j).modify (idxM l k) (fun e => { e with key := gk k, val := gv v }) = entM gk gv (putM l k v) j
  | [], k, j, h => by cases h
  | p :: l, k, j, h => by
    unfold putM
    by_cases hk : k = p.1
    · simp only [idxM, decide_eq_true hk, cond_true]
      unfold entM
      rfl
    · simp only [idxM, decide_eq_false hk, cond_false]
      simp only [hasM, decide_eq_false hk, Bool.false_or] at h
      unfold entM
      rw [List.modify_succ_cons, ent_mod l k (j + 1) h]
theorem put_len : ∀ (l : List (κ × υ)) (k : κ) (v : υ), (putM l k v).length = l.length + (bif hasM l k then 0 else 1)
  | [], k, v => rfl
  | p :: l, k, v => by
    unfold putM
    by_cases hk : k = p.1
    · simp [hasM, decide_eq_true hk]
    · simp only [hasM, decide_eq_false hk, cond_false, List.length_cons, put_len l k v, Bool.false_or]; omega
theorem mod_map {l : List (κ × υ)} {k : κ} {v : υ} (h : hasM l k = true) : ((mapA gk gv l).modify (idxM l k) (fun e => { e with key := gk k, val := gv v }), l.length) = (mapA gk gv (putM l k v), (putM l k v).length) := by
  rw [mapA_eq, mapA_eq, put_len, h]
  congr 1
  apply Array.toList_inj.1
  simp only [Array.toList_modify]
  exact ent_mod l k 0 h
theorem ent_push {v : υ} : ∀ (l : List (κ × υ)) (k : κ) (j : Nat), hasM l k = false → entM gk gv l j ++ [{ key := gk k, val := gv v, born := j + l.length }] = entM gk gv (putM l k v) j
  | [], k, j, h => rfl
  | p :: l, k, j, h => by
    simp only [hasM, Bool.or_eq_false_iff] at h
    unfold putM
    rw [h.1, cond_false]
    unfold entM
    rw [List.cons_append, ← ent_push l k (j + 1) h.2]
    simp only [List.length_cons]
    rw [show j + 1 + l.length = j + (l.length + 1) by omega]
theorem push_map {l : List (κ × υ)} {k : κ} {v : υ} (h : hasM l k = false) : ((mapA gk gv l).push { key := gk k, val := gv v, born := l.length }, Nat.add l.length 1) = (mapA gk gv (putM l k v), (putM l k v).length) := by
  rw [mapA_eq, mapA_eq, put_len, h]
  congr 1
  apply Array.toList_inj.1
  have := ent_push (gk := gk) (gv := gv) (v := v) l k 0 h
  rw [Nat.zero_add] at this
  simpa using this
end
theorem findS_no {P : Program} {kt : TypeId} {key : Value} {e : MapEntry} {es : List MapEntry} {i : Nat} {c : Bool} (h : eqS P Op.maxDepth kt key e.key = some c) (hc : c = false) : findS P kt key (e :: es) i = findS P kt key es (Nat.add i 1) := by
  subst hc; rw [findS]; rw [h]
theorem findS_yes {P : Program} {kt : TypeId} {key : Value} {e : MapEntry} {es : List MapEntry} {i : Nat} {c : Bool} (h : eqS P Op.maxDepth kt key e.key = some c) (hc : c = true) : findS P kt key (e :: es) i = some (some (i, e.val)) := by
  subst hc; rw [findS]; rw [h]
def gkI (z : Int) : Value := .int .i64 z
theorem gkI_same (a : Int) : Instr.sameBits 10000 (gkI a) (gkI a) = true := by unfold gkI; simp [Instr.sameBits]
def gvI (z : Int) : Value := .int .i64 z
def gvB (b : Bool) : Value := .bool b
end Go.Proofs.Ytbcbldpppjbkhaa

/- Calls and loops with lists: heads, states, contracts. -/
namespace Go.Proofs.Ytbcbldpppjbkhaa
open Go Go.RowKit
set_option linter.unusedSectionVars false
set_option linter.unusedVariables false
set_option linter.unusedSimpArgs false
noncomputable def headD (P : Program) (L : Vars) (T : GTab) (fuel : Nat) (f : FuncId) (ds : List D) (ans : List (Nat × Ans)) : Hd :=
  match startD L ds with
  | some (vs, hs) => match callO P (evO P L.length T (fun ro a s _ => s.fcv fun s => some (Hd.mk ro a s)) (fun _ => none) fuel) f vs.toArray hs ⟨0, ans, []⟩ fun _ _ _ => none with
    | some h => h
    | none => ⟨none, .skip, ⟨.nil, ⟨.nil, 0, 0, 0⟩, []⟩⟩
  | none => ⟨none, .skip, ⟨.nil, ⟨.nil, 0, 0, 0⟩, []⟩⟩
def sameB (n : Nat) : Nat → List (Nat × Nat)
  | 0 => []
  | k + 1 => sameB n k ++ [(Nat.add n k, Nat.add n k)]
def entryR (P : Program) (l : List (Pl × TypeId)) (n m : Nat) (js : List Nat) (xr xw : Nat) (s : St) : St := match convs P l s with
  | some s1 => match canonS n m (sameB n l.length) js (Nat.add n l.length) xr xw s1 with
    | some s' => s'.fc fun s' => s'
    | none => s
  | none => s
def beginS (P : Program) (l : List (Pl × TypeId)) (n m : Nat) (ρ : List (Nat × Nat)) (js : List Nat) (nx xr xw : Nat) (s : St) : Option St := match convs P l s with
  | some s1 => canonS n m ρ js nx xr xw s1
  | none => none
def canonOkF (n m : Nat) (ρ : List (Nat × Nat)) (nx : Nat) (s : St) : Bool := force s.hs.rd fun rd => force s.hs.wr fun wr => force s.hs.next fun next => canonOk n m ρ nx ⟨.nil, ⟨.nil, next, rd, wr⟩, []⟩
theorem canonOkF_eq {n m : Nat} {ρ : List (Nat × Nat)} {nx : Nat} {s : St} : canonOkF n m ρ nx s = canonOk n m ρ nx s := by
  unfold canonOkF
  simp only [force_eq]
  rfl
def beginOk (P : Program) (l : List (Pl × TypeId)) (n m : Nat) (ρ : List (Nat × Nat)) (nx : Nat) (s : St) : Bool := match convs P l s with
  | some s1 => canonOkF n m ρ nx s1
  | none => false
theorem begin_open {P : Program} {l : List (Pl × TypeId)} {n m : Nat} {ρ : List (Nat × Nat)} {js : List Nat} {nx xr xw : Nat} {s S : St} (h : beginS P l n m ρ js nx xr xw s = some S) (h2 : beginOk P l n m ρ nx s = true) : ∃ s1, convs P l s = some s1 ∧ canonS n m ρ js nx xr xw s1 = some S ∧ canonOk n m ρ nx s1 = true := by
  unfold beginS at h
  unfold beginOk at h2
  split at h
  · rename_i s1 e
    rw [e] at h2
    exact ⟨s1, e, h, canonOkF_eq.symm.trans h2⟩
  · cases h
def Tr.rows : Tr → List (Nat × Array Value × TypeId) → Tr
  | t, [] => t
  | t, (b, c, e) :: l => match Tr.set 64 t b (.row c e) with
    | some t => Tr.rows t l
    | none => t
def St.rows (s : St) (l : List (Nat × Array Value × TypeId)) : St := ⟨s.tmps, ⟨s.hs.heap.rows l, s.hs.next, s.hs.rd, s.hs.wr⟩, s.defs⟩
def Tr.mps : Tr → List (Nat × Array MapEntry × Nat) → Tr
  | t, [] => t
  | t, (b, c, n) :: l => match Tr.set 64 t b (.live (.map c n) true) with
    | some t => Tr.mps t l
    | none => t
def St.mps (s : St) (l : List (Nat × Array MapEntry × Nat)) : St := ⟨s.tmps, ⟨s.hs.heap.mps l, s.hs.next, s.hs.rd, s.hs.wr⟩, s.defs⟩
theorem loop_known2 {P : Program} {G : Nat} {T : GTab} {ro : Option Nat} {a : Code} {s : St} {x : VX} {s' : St} (h : T.loop ro a s = some (x, s')) : LoopRes P G T ro a s x s' := by
  refine (Evt.all fun _ => trivial).succ (p := fun _ => True) fun n _ => ?_
  unfold evC
  simp only [hook_loop]
  rw [h]
theorem add_eq {T : GTab} {key : Nat} {ro : Option Nat} {a : Code} {s : St} {x : VX} {s' : St} {hk : loopKey a = key} : (T.add key ro a s x s' hk).loop ro a s = some (x, s') := by
  unfold GTab.add
  simp
theorem add_ne {T : GTab} {key : Nat} {ro ro2 : Option Nat} {a a2 : Code} {s s2 : St} {x x2 : VX} {s' s2' : St} {hk : loopKey a2 = key} (hn : Nat.beq (loopKey a) key = false) (h : T.loop ro a s = some (x, s')) : (T.add key ro2 a2 s2 x2 s2' hk).loop ro a s = some (x, s') := by
  unfold GTab.add
  simp only
  rw [if_neg (fun e => by rw [e.2.1, hk, Nat.beq_refl] at hn; cases hn)]
  exact h
theorem rowA_nil {α : Type} (g : α → List Value) : rowA g [] = #[] := by rw [rowA_eq]; rfl
theorem knownR_eq {P : Program} {L : Vars} {f : FuncId} {ds : List D} {v v' : Value} {bs bs' : Outs} (h : KnownR P L f ds v bs) (hv : v = v') (hb : bs = bs') : KnownR P L f ds v' bs' := by subst hv; subst hb; exact h
noncomputable def fnP {π : Type} (A : π → List D) (C : π → Prop) (R : π → Value × Outs) (ds : List D) : Option (Value × Outs) := by
  classical exact if h : ∃ p, C p ∧ ds = A p then some (R (Classical.choose h)) else none
theorem fnP_at {π : Type} {A : π → List D} {C : π → Prop} {R : π → Value × Outs} (inj : ∀ p q, C p → C q → A p = A q → R p = R q) {p : π} {ds : List D} {v : Value} {bs : Outs} (hc : C p) (hd : ds = A p) (hr : R p = (v, bs)) : fnP A C R ds = some (v, bs) := by
  have h : ∃ p, C p ∧ ds = A p := ⟨p, hc, hd⟩
  unfold fnP
  rw [dif_pos h]
  have := Classical.choose_spec h
  rw [inj _ p this.1 hc (this.2.symm.trans hd), hr]
theorem fnP_ok {P : Program} {L : Vars} {f : FuncId} {π : Type} {A : π → List D} {C : π → Prop} {R : π → Value × Outs} (h : ∀ p, C p → KnownR P L f (A p) (R p).1 (R p).2) : ∀ ds v bs, fnP A C R ds = some (v, bs) → KnownR P L f ds v bs := by
  intro ds v bs e
  unfold fnP at e
  split at e
  · rename_i hx
    injection e with e
    have := Classical.choose_spec hx
    have k := h _ this.1
    rw [← this.2, e] at k
    exact k
  · cases e
theorem seg_all2 {α : Type} {g : α → List Value} {k : Nat} (hg : ∀ a, (g a).length = k) {l : List α} {m : Nat} (hm : m = l.length) : segC (rowA g l) 0 (m * k) = some (l.flatMap g) := by rw [hm]; exact seg_all hg rfl
theorem gI_inj {l m : List Int} : rowA gI l = rowA gI m ↔ l = m := ⟨row_inj (k := 1) (fun _ => rfl) (by decide) (fun a b h => by simpa [gI] using h), fun h => by rw [h]⟩
theorem gB_inj {l m : List Bool} : rowA gB l = rowA gB m ↔ l = m := ⟨row_inj (k := 1) (fun _ => rfl) (by decide) (fun a b h => by simpa [gB] using h), fun h => by rw [h]⟩
end Go.Proofs.Ytbcbldpppjbkhaa
