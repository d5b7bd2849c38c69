/- This program: what the run asks of it. -/
import Derived.Test.YtpaojoahbmlolaaEvZ4
import Derived.Test.YtpaojoahbmlolaaProg
namespace Go.Proofs.Ytpaojoahbmlolaa
open Go Go.RowKit
set_option linter.unusedSectionVars false
set_option linter.unusedVariables false
set_option linter.unusedSimpArgs false
set_option linter.unnecessarySimpa false
def isCx (d : TypeDesc) : Bool := match d with
  | .complex _ => true
  | _ => false
def noCxB (P : Program) : Bool := P.types.toList.all fun i => !isCx i.desc
theorem reckonStruct_cx {info : TypeId → Option TypeInfo} {fs : Array Field} {i : TypeInfo} (h : Made.reckonStruct info fs = some i) : isCx i.desc = false := by
  unfold Made.reckonStruct at h
  simp only [Option.bind_eq_bind, Option.bind_eq_some_iff] at h
  obtain ⟨r, _, h⟩ := h
  split at h <;> cases h <;> rfl
theorem word_cx {d : TypeDesc} {s : String} {v : Value} {b : Bool} {n : Nat} (hd : isCx d = false) : isCx (Made.word d s v b n).desc = false := by
  unfold Made.word; exact hd
theorem reckon_cx {info : TypeId → Option TypeInfo} {d : TypeDesc} {i : TypeInfo} (h : Made.reckon info d = some i) : isCx i.desc = false := by
  unfold Made.reckon at h
  cases d with
  | struct fs => exact reckonStruct_cx h
  | pointer e =>
    simp only [Option.bind_eq_bind, Option.bind_eq_some_iff] at h
    obtain ⟨r, _, h⟩ := h
    repeat' split at h
    all_goals first | cases h | skip
    all_goals
      simp only [Option.bind_eq_bind, Option.bind_eq_some_iff] at h
      obtain ⟨s, _, h⟩ := h
      cases h
      exact word_cx rfl
  | slice e =>
    simp only [Option.bind_eq_bind, Option.bind_eq_some_iff] at h
    obtain ⟨r, _, s, _, h⟩ := h
    cases h
    exact word_cx rfl
  | map k e =>
    simp only [Option.bind_eq_bind, Option.bind_eq_some_iff] at h
    obtain ⟨r, _, s, _, t, _, u, _, h⟩ := h
    cases h
    exact word_cx rfl
  | chan dir e =>
    simp only [Option.bind_eq_bind, Option.bind_eq_some_iff] at h
    obtain ⟨r, _, s, _, h⟩ := h
    cases h
    exact word_cx rfl
  | func ps rs v =>
    simp only [Option.bind_eq_bind, Option.bind_eq_some_iff] at h
    obtain ⟨r, _, h⟩ := h
    cases h
    exact word_cx rfl
  | array n e =>
    simp only [Option.bind_eq_bind, Option.bind_eq_some_iff] at h
    obtain ⟨r, _, s, _, h⟩ := h
    cases h
    rfl
  | _ => cases h
theorem infoAt_cx {T : Tables} (hT : ∀ i, i ∈ T.types.toList → isCx i.desc = false) : ∀ (f : Nat) (t : TypeId) (i : TypeInfo), Made.infoAt T f t = some i → isCx i.desc = false
  | 0, t, i, h => by cases h
  | f + 1, t, i, h => by
    unfold Made.infoAt at h
    split at h
    · exact hT i (by simpa using Array.mem_of_getElem? h)
    · rw [Option.bind_eq_some_iff] at h
      obtain ⟨d, _, h⟩ := h
      exact reckon_cx h
theorem info_cx {P : Program} (h : noCxB P = true) {t : TypeId} {i : TypeInfo} (hi : P.info? t = some i) : isCx i.desc = false := by
  have hT : ∀ i, i ∈ P.types.toList → isCx i.desc = false := fun i hm => by simpa using List.all_eq_true.1 h i hm
  have hi : P.toTables.info? t = some i := hi
  unfold Tables.info? at hi
  split at hi
  · exact hT i (by simpa using Array.mem_of_getElem? hi)
  · exact infoAt_cx hT _ _ _ hi
theorem noCx_of {P : Program} (h : noCxB P = true) : NoCx P := ⟨fun t k e => by
  unfold Program.underlying at e
  split at e
  · rw [Option.map_eq_some_iff] at e
    obtain ⟨i, hu, e⟩ := e
    have := info_cx h hu
    rw [e] at this; cases this
  · rename_i i _ hi
    have e : some i.desc = some (TypeDesc.complex k) := e
    injection e with e
    have := info_cx h hi
    rw [e] at this; cases this
  · cases e⟩
instance noCx : NoCx Try.prog := noCx_of (by kernel_rfl)
theorem mix : Try.prog.follows .mixedOrders = true := by kernel_rfl
/-- the lists in a type, by their elements' types -/
def esT (P : Program) : Nat → TypeId → List TypeId
  | 0, _ => []
  | f + 1, t => match P.underlying t with
    | some (.slice e) => [e]
    | some (.struct fs) => fs.toList.flatMap fun x => esT P f x.type
    | some (.array n e) => (List.replicate n (esT P f e)).flatten
    | _ => []
def esOf (P : Program) (f : FuncId) : List TypeId := match P.funcs[f]? with
  | some fn => fn.resultTypes.toList.flatMap (esT P 5)
  | none => []
end Go.Proofs.Ytpaojoahbmlolaa
