/- Values numbered anew. -/
import Derived.Test.YtpaojoahbmlolaaEvR
namespace Go.Proofs.Ytpaojoahbmlolaa
open Go Go.RowKit
set_option linter.unusedSectionVars false
set_option linter.unusedVariables false
set_option linter.unusedSimpArgs false
set_option linter.unnecessarySimpa false
section
variable {P : Program} [NoCx P] {B : Bd}
theorem renL_spec {f : Value → Option Value} : ∀ {l m : List Value}, renL f l = some m → m.length = l.length ∧ ∀ (i : Nat) (v u : Value), l[i]? = some v → m[i]? = some u → f v = some u
  | [], m, h => by
    simp only [renL] at h; injection h with h; subst h
    exact ⟨rfl, fun i v u e => by simp at e⟩
  | x :: l, m, h => by
    simp only [renL] at h
    split at h
    · rename_i y hy
      split at h
      · rename_i k hk
        injection h with h; subst h
        obtain ⟨h1, h2⟩ := renL_spec hk
        refine ⟨by simp [h1], fun i v u e1 e2 => ?_⟩
        cases i with
        | zero => simp at e1 e2; subst e1; subst e2; exact hy
        | succ i => exact h2 i v u (by simpa using e1) (by simpa using e2)
      · cases h
    · cases h
theorem renL_back {f : Value → Option Value} {l m : List Value} (h : renL f l = some m) {j : Nat} {u : Value} (e : (⟨m⟩ : Array Value)[j]? = some u) : ∃ v, (⟨l⟩ : Array Value)[j]? = some v ∧ f v = some u := by
  obtain ⟨h1, h2⟩ := renL_spec h
  have e' : m[j]? = some u := by simpa using e
  have hj : j < l.length := by rw [← h1]; exact (List.getElem?_eq_some_iff.1 e').1
  exact ⟨l[j], by simp [hj], h2 j _ _ (by simp [hj]) e'⟩
/-- numbers that stand for each other -/
def Renum (n : Nat) (ρ : List (Nat × Nat)) (σ σ2 : Ren) : Prop := ∀ b b' p, renB n ρ b = some b' → σ b = some p → σ2 b' = some p
theorem renArr {σ σ2 : Ren} {f : Value → Option Value} (ih : ∀ v u v', f v = some u → VRel σ v v' → VRel σ2 u v') {l m : List Value} (h : renL f l = some m) {a' : Array Value} (k : AR σ ⟨l⟩ a') : AR σ2 ⟨m⟩ a' := by
  obtain ⟨h1, h2⟩ := renL_spec h
  refine ⟨by simpa [h1] using k.1, fun i u v' e1 e2 => ?_⟩
  have hi : i < l.length := by rw [← h1]; exact (List.getElem?_eq_some_iff.1 (by simpa using e1)).1
  exact ih l[i] u v' (h2 i _ _ (by simp [hi]) (by simpa using e1)) (k.2 i _ v' (by simp [hi]) e2)
theorem renV_rel {n : Nat} {ρ : List (Nat × Nat)} {σ σ2 : Ren} (hb : Renum n ρ σ σ2) : ∀ (d : Nat) (v u v' : Value), renV n ρ d v = some u → VRel σ v v' → VRel σ2 u v'
  | 0, v, u, v', h, k => by cases h
  | d + 1, v, u, v', h, k => by
    have ih := renV_rel hb d
    unfold renV at h
    split at h
    · injection h with h; subst h; cases k; exact .bool _
    · injection h with h; subst h; cases k; exact .int _ _
    · injection h with h; subst h; cases k; exact .string _
    · injection h with h; subst h; cases k; exact .ptrNil
    · split at h
      · rename_i hr; injection h with h; subst h; cases k with
        | ptr q => exact .ptr (hb _ _ _ hr q)
      · cases h
    · injection h with h; subst h; cases k; exact .sliceNil _ _
    · split at h
      · rename_i hr; injection h with h; subst h; cases k with
        | slice _ q q0 q1 q2 => exact .slice _ (hb _ _ _ hr q) q0 q1 q2
      · cases h
    · split at h
      · rename_i hr; injection h with h; subst h; cases k with
        | rowS q hx => exact .rowS (hb _ _ _ hr q) hx
      · cases h
    · split at h
      · rename_i hr; injection h with h; subst h; cases k with
        | rowP q hk => exact .rowP (hb _ _ _ hr q) hk
      · cases h
    · injection h with h; subst h; cases k; exact .mapNil
    · split at h
      · rename_i hr; injection h with h; subst h; cases k with
        | map q => exact .map (hb _ _ _ hr q)
      · cases h
    · injection h with h; subst h; cases k; exact .nilFunc
    · injection h with h; subst h; cases k; exact .nilIface
    · split at h
      · rename_i hr; injection h with h; subst h; cases k with
        | iface _ q => exact .iface _ (ih _ _ _ hr q)
      · cases h
    · split at h
      · rename_i hr; injection h with h; subst h; cases k with
        | agg q1 q2 => have := renArr ih hr ⟨q1, q2⟩; exact .agg this.1 this.2
      · cases h
    · split at h
      · rename_i hr; injection h with h; subst h; cases k with
        | tuple q1 q2 => have := renArr ih hr ⟨q1, q2⟩; exact .tuple this.1 this.2
      · cases h
    · split at h
      · split at h
        · rename_i hr; injection h with h; subst h; cases k with
          | func fn hy q1 q2 q3 q4 => cases hy
          | yield q => exact .yield (hb _ _ _ hr q)
        · cases h
      · cases h
    · split at h
      · rename_i hr1 hr2; injection h with h; subst h; cases k with
        | func fn hy q1 q2 q3 q4 =>
          have k1 := renArr ih hr1 ⟨q1, q2⟩
          have k2 := renArr ih hr2 ⟨q3, q4⟩
          exact .func _ rfl k1.1 k1.2 k2.1 k2.2
      · cases h
    · cases h
theorem flat_same {σ σ2 : Ren} {v v' : Value} (h : okC v = true) (k : VRel σ v v') : VRel σ2 v v' := by
  rw [flat_eq 50 v v' (okC_flat h) k]; exact flat_rel 50 v (okC_flat h)
theorem okC_at {c : Array Value} (h : c.toList.all okC = true) {j : Nat} {v : Value} (e : c[j]? = some v) : okC v = true :=
  List.all_eq_true.1 h v (by simpa using Array.mem_of_getElem? e)
end
end Go.Proofs.Ytpaojoahbmlolaa
