/- One operation, and operations one after another. -/
import Derived.Test.YtpaojoahbmlolaaEvM3
import Derived.OrdersIn
import Derived.RangeFuncNested
import Derived.Lib.UnsafeStr
import Derived.IntWalk
namespace Go.Proofs.Ytpaojoahbmlolaa
open Go Go.RowKit
set_option linter.unusedSectionVars false
set_option linter.unusedVariables false
set_option linter.unusedSimpArgs false
set_option linter.unnecessarySimpa false
section
variable {P : Program} [NoCx P] {B : Bd}

/-- what is so behind a call -/
def After (P : Program) (B : Bd) (σ : Ren) (H : Nat → Option VO) (w : World) (s' : HS) (v : Value) (e : Ending) (w' : World) : Prop :=
  ∃ σ' v', e = .returned v' ∧ Ren.le σ σ' ∧ VRel σ' v v' ∧ Match P B σ' (upd H s') w' ∧ Below B.b w w'
/-- calls of the run: a step each, and the real call does the same -/
structure CallSound (P : Program) (B : Bd) (call : CallV) : Prop where
  g : call.g = B.g
  fn : ∀ (f : FuncId) (args : Array Value) (s s' : HS) (v : Value), call.fn f args s = some (v, s') → VStep s s' ∧
    ∀ (σ : Ren) (args' : Array Value) (H : Nat → Option VO) (w : World), AR σ args args' → Match P B σ H w → Sim s H → Agree s s' H → Ok B w → Calls P f args' w (After P B σ H w s' v)
  rnd : ∀ (l : Nat) (args : Array Value) (s s' : HS) (v : Value), call.rnd l args s = some (v, s') → VStep s s' ∧
    ∀ (σ : Ren) (l' κ : Nat) (args' : Array Value) (H : Nat → Option VO) (w : World), σ l = some (l', κ) → AR σ args args' → Match P B σ H w → Sim s H → Agree s s' H → Ok B w →
      ∃ fn tmps asg bd, (Instr.yield l' args').run P w = .ok (.round l' fn tmps asg bd) w ∧ RoundIn Fence.wide 0 P l' fn tmps asg bd w (After P B σ H w s' v)

/-- the fence of a frame: in a round, or in none -/
def fz : Option Nat → Fence
  | none => Fence.wide
  | some l => Fence.wide.inRound l
theorem fz_fn (ro : Option Nat) (f : FuncId) : (fz ro).fn f := by cases ro <;> trivial
theorem fz_round (ro : Option Nat) : (fz ro).round = ro := by cases ro <;> rfl
theorem fz_depth (ro : Option Nat) : (fz ro).depth.isSome = true → 1 ≤ 0 := by cases ro <;> (intro h; cases h)
theorem fz_calls {ro : Option Nat} {f : FuncId} {args : Array Value} {w : World} {R : Ending → World → Prop} (h : Calls P f args w R) : CallsIn (fz ro) 0 P f args w R := by
  cases ro with
  | none => exact callsIn_wide.2 h
  | some l => exact CallsIn.inRound l (callsIn_wide.2 h)
theorem fz_rounds {ro : Option Nat} {l : Nat} {f : FuncId} {tmps : Array Value} {asg bd : Code} {w : World} {R : Ending → World → Prop} (h : RoundIn Fence.wide 0 P l f tmps asg bd w R) : RoundIn (fz ro) 0 P l f tmps asg bd w R := by
  cases ro with
  | none => exact h
  | some l => exact h

/-! the operations of their own -/
theorem read_step {P : Program} {B : Bd} {σ : Ren} {H : Nat → Option VO} {w : World} {s : HS} {k : Nat} (hm : Match P B σ H w) (hs : Sim s H) : Match P B σ (upd H (s.read k)) w := by
  have : upd H (s.read k) = upd H s := by unfold upd; rw [read_eq]
  rw [this, hs.upd]; exact hm
theorem uconv_step {src dst : TypeId} {x v : Value} {s s' : HS} (h : uconvV P src dst x s = some (v, s')) : VStep s s' := by
  unfold uconvV at h
  repeat' split at h
  all_goals first | cases h | skip
  all_goals first | exact .refl _ | exact .read _ _
theorem ustr_step {pt : TypeId} {x y v : Value} {s s' : HS} (h : ustrV P pt x y s = some (v, s')) : VStep s s' := by
  unfold ustrV at h
  repeat' split at h
  all_goals first | cases h | skip
  · exact .refl _
  · rename_i hp; exact VStep.put hp (by simp_all)
theorem s2b_step {src dst : TypeId} {x v : Value} {s s' : HS} (h : s2bV P src dst x s = some (v, s')) : VStep s s' := by
  unfold s2bV at h
  repeat' split at h
  all_goals first | cases h | skip
  all_goals (rename_i hp; exact VStep.new hp)
theorem zeros_step {t t' : TypeId} {x y v : Value} {s s' : HS} (h : zerosV P t t' x y s = some (v, s')) : VStep s s' := by
  unfold zerosV at h
  repeat' split at h
  all_goals first | cases h | skip
  rename_i hp; exact VStep.new hp
theorem ext_step {g : FuncId} {args : Array Value} {v : Value} {s s' : HS} (h : extV P g args s = some (v, s')) : VStep s s' := by
  unfold extV at h
  repeat' split at h
  all_goals first | cases h | skip
  all_goals exact .refl _

theorem slow_step {call : CallV} (hc : CallSound P B call) {o : Oper} {s : St} {v : Value} {hs' : HS} (h : slowV P call o s = some (v, hs')) : VStep s.hs hs' := by
  unfold slowV at h
  split at h
  · cases h
  · split at h
    · -- slice
      split at h
      · split at h
        · injection h with h; injection h with h1 h2; subst h2; exact .refl _
        · cases h
      · split at h
        · rename_i hr; injection h with h; injection h with h1 h2; subst h2; exact runV_step _ _ _ _ hr
        · cases h
      · split at h
        · split at h
          · rename_i hr; injection h with h; injection h with h1 h2; subst h2; exact runV_step _ _ _ _ hr
          · cases h
        · cases h
      · cases h
    · -- append
      split at h
      · split at h
        · split at h
          · rename_i ha
            injection h with h; subst h
            exact append_step ha
          · exact zeros_step h
        · cases h
      · cases h
    · -- binOp
      split at h
      · split at h
        · rename_i hr; injection h with h; injection h with h1 h2; subst h2; exact runV_step _ _ _ _ hr
        · cases h
      · cases h
    · -- nilCheck
      split at h
      · injection h with h; injection h with h1 h2; subst h2; exact .refl _
      · injection h with h; injection h with h1 h2; subst h2; exact .refl _
      · injection h with h; injection h with h1 h2; subst h2; exact .refl _
      · cases h
    · -- call
      split at h
      · split at h
        · rename_i hr; exact (runV_step _ _ _ _ hr).trans (hc.fn _ _ _ _ _ h).1
        · exact ext_step h
      · exact (hc.rnd _ _ _ _ _ h).1
      · cases h
    · -- convert
      split at h
      · split at h
        · rename_i hr; injection h with h; injection h with h1 h2; subst h2; exact runV_step _ _ _ _ hr
        · cases h
      · split at h
        · rename_i hu
          injection h with h; subst h
          exact uconv_step hu
        · exact s2b_step h
    · -- invoke
      split at h
      · split at h
        · split at h
          · exact (hc.fn _ _ _ _ _ h).1
          · cases h
        · cases h
      · cases h
    · -- a string of given bytes
      split at h
      · split at h
        · exact ustr_step h
        · cases h
      · cases h
    · -- cap
      split at h
      · split at h
        · split at h
          · injection h with h; injection h with h1 h2; subst h2; exact .refl _
          · cases h
        · cases h
      · cases h
    · -- the first byte of a slice
      split at h
      · split at h
        · split at h
          · injection h with h; injection h with h1 h2; subst h2; exact .refl _
          · cases h
        · cases h
      · cases h
    · split at h
      · cases h
      · split at h
        · rename_i hr; injection h with h; injection h with h1 h2; subst h2; exact runV_step _ _ _ _ hr
        · rename_i hr; injection h with h; injection h with h1 h2; subst h2; exact runV_step _ _ _ _ hr
        · cases h

/-! the operations of their own, real -/
theorem flat_eq {σ : Ren} : ∀ (n : Nat) (v v' : Value), flatV n v = true → VRel σ v v' → v' = v
  | 0, v, v', h, _ => by cases h
  | n + 1, v, v', h, k => by
    have all : ∀ (a a' : Array Value), a.toList.all (flatV n) = true → a.size = a'.size → (∀ (i : Nat) (v v' : Value), a[i]? = some v → a'[i]? = some v' → VRel σ v v') → a' = a := fun a a' ha hs hr => by
      apply Array.ext hs.symm
      intro i h1 h2
      exact flat_eq n _ _ (List.all_eq_true.1 ha a[i] (by simp)) (hr i _ _ (by simp [h2]) (by simp [h1]))
    cases k with
    | bool | int | string | ptrNil | sliceNil | mapNil | nilFunc | nilIface => rfl
    | yield h1 => simp [flatV] at h
    | rowS _ _ => cases h
    | rowP _ _ => cases h
    | ptr h1 => cases h
    | slice _ h1 => cases h
    | map h1 => cases h
    | iface t h1 => rw [flat_eq n _ _ h h1]
    | agg h1 h2 => rw [all _ _ h h1 h2]
    | tuple h1 h2 => rw [all _ _ h h1 h2]
    | func fn hy h1 h2 h3 h4 =>
      simp only [flatV, Bool.and_eq_true] at h
      rw [all _ _ h.1.2 h1 h2, all _ _ h.2 h3 h4]

theorem pureN_run : ∀ (m : Sem Next) (v : Value), pureN P m = some v → ∀ w, m.run P w = .ok (.value v) w
  | .pure n, v, h, w => by
    simp only [pureN] at h
    split at h
    · injection h with h; subst h; rfl
    · cases h
  | .program k, v, h, w => by
    simp only [pureN] at h
    simp only [Sem.run]
    exact pureN_run _ v h w
  | .mark _ k, v, h, w => by
    simp only [pureN] at h
    simp only [Sem.run]
    exact pureN_run _ v h w
  | .load .., v, h, w => by simp [pureN] at h
  | .store .., v, h, w => by simp [pureN] at h
  | .new .., v, h, w => by simp [pureN] at h
  | .shape .., v, h, w => by simp [pureN] at h
  | .freeze .., v, h, w => by simp [pureN] at h
  | .frozen .., v, h, w => by simp [pureN] at h
  | .getObj .., v, h, w => by simp [pureN] at h
  | .setObj .., v, h, w => by simp [pureN] at h
  | .choose .., v, h, w => by simp [pureN] at h
  | .sys .., v, h, w => by simp [pureN] at h
  | .halt .., v, h, w => by simp [pureN] at h

theorem next_noEscape : Extern.allNextRows.lookup "internal/abi.NoEscape" = none := by kernel_rfl
theorem next_empty : Extern.allNextRows.lookup "" = none := by kernel_rfl
theorem generic_noEscape : Extern.allGenericRows.lookup "internal/abi.NoEscape" = none := by kernel_rfl
theorem typed_noEscape : Extern.allTypedRows.lookup "internal/abi.NoEscape" = none := by kernel_rfl
theorem row_noEscape : Extern.allRows.lookup "internal/abi.NoEscape" = some Extern.AbiNoEscape.same := by kernel_rfl
theorem run_noEscape {g : FuncId} {fn : Func} (hfn : P.funcs[g]? = some fn) (hbody : fn.body = none) (hname : fn.name = "internal/abi.NoEscape") (horig : fn.origin = "") (y : Value) (w : World) :
    (callFunc g #[y]).run P w = .ok (.value y) w := by
  have h1 : Extern.findNext fn = none := by
    unfold Extern.findNext
    simp only [hname, horig, next_noEscape, next_empty]
    rfl
  have h2 : Extern.find fn = some Extern.AbiNoEscape.same := by
    unfold Extern.find
    simp only [hname, horig, generic_noEscape, typed_noEscape, row_noEscape]
    rfl
  have hn : (fn.name == "runtime.NumGoroutine") = false := by rw [hname]; decide
  unfold callFunc
  simp only [Sem.run_bind, run_program, Result.andThen_ok, hfn, hn, hbody, Option.isNone_none, if_true, Bool.false_eq_true, if_false, h1, h2, mark, Sem.run, Sem.run_pure]
  rfl

theorem run_invoke {t : TypeId} {name : String} {f : FuncId} (hm : methodV P t name = some f) (hcl : callable P f = true) (v : Value) (args : Array Value) (w : World) :
    (invoke (.fn (.method name) #[]) (#[.iface t v] ++ args)).run P w = .ok (.enter f (#[v] ++ args)) w := by
  have hcf : ∀ as, (callFunc f as).run P w = .ok (.enter f as) w := fun as => by
    unfold callable at hcl
    split at hcl
    · rename_i fn hfn
      simp only [Bool.and_eq_true, Bool.not_eq_true'] at hcl
      unfold callFunc
      simp only [Sem.run_bind, run_program, Result.andThen_ok, hfn, hcl.1, hcl.2, Bool.false_eq_true, if_false, Sem.run_pure]
    · cases hcl
  have h0 : (#[Value.iface t v] ++ args)[0]? = some (.iface t v) := by rw [Array.getElem?_append_left (by simp)]; rfl
  have hext : (#[Value.iface t v] ++ args).extract 1 (#[Value.iface t v] ++ args).size = args := by
    apply Array.ext
    · simp
    · intro i h1 h2; simp
  have hmeth : (callMethod (.iface t v) name args).run P w = .ok (.enter f (#[v] ++ args)) w := by
    unfold methodV at hm
    split at hm
    · rename_i i hi
      split at hm
      · rename_i m hfind
        split at hm
        · rename_i hpath
          split at hm
          · rename_i f' pt hfunc
            have hp : m.path.toList = [] := by simpa using hpath
            have key : ∀ (ty : TypeDesc), P.underlying t = some ty → ((∃ e, ty = .pointer e) → pt = true) → ((¬ ∃ e, ty = .pointer e) → pt = false) → f' = f → (callMethod (.iface t v) name args).run P w = .ok (.enter f (#[v] ++ args)) w := by
              rintro ty hty k1 k2 rfl
              have hrecv : (receiverAt t (.val v) pt (if m.path.isEmpty then some ((name.splitOn ".").getLastD name) else none)).run P w = .ok v w := by
                unfold receiverAt
                simp only [Sem.run_bind, run_underlying hty, Result.andThen_ok]
                by_cases hpt : ∃ e, ty = .pointer e
                · obtain ⟨e, rfl⟩ := hpt
                  rw [k1 ⟨e, rfl⟩]
                  rfl
                · rw [k2 hpt]
                  cases ty <;> first | rfl | exact absurd ⟨_, rfl⟩ hpt
              unfold callMethod
              have hmd : (method (P.types.size + Made.depth) t v name).run P w = .ok (f', v) w := by
                have hpos : 0 < Made.depth := by decide
                obtain ⟨k, hk⟩ : ∃ k, P.types.size + Made.depth = k + 1 := ⟨P.types.size + Made.depth - 1, by omega⟩
                rw [hk]
                unfold method
                simp only [Sem.run_bind, typeInfo, run_program, Result.andThen_ok, hi, Sem.run_pure, hfind, hp, follow, hfunc, hrecv]
              simp only [Sem.run_bind, run_program, Result.andThen_ok, hmd, hcf]
            split at hm
            · rename_i e hty
              split at hm
              · injection hm with hm; exact key _ hty (fun _ => rfl) (fun h => absurd ⟨_, rfl⟩ h) hm
              · cases hm
            · rename_i ty hne hty
              split at hm
              · injection hm with hm
                exact key _ hty (fun ⟨e, he⟩ => by subst he; exact absurd rfl (hne e)) (fun _ => rfl) hm
              · cases hm
            · cases hm
          · cases hm
        · cases hm
      · cases hm
    · cases hm
  unfold invoke
  simp only [h0, hext, hmeth]

theorem uconv_same {src dst : TypeId} {x v : Value} {s s' : HS} {σ : Ren} {H : Nat → Option VO} {w : World} (h : uconvV P src dst x s = some (v, s')) (hm : Match P B σ H w) (hs : Sim s H) : Match P B σ (upd H s') w := by
  unfold uconvV at h
  repeat' split at h
  all_goals first | cases h | skip
  all_goals first | (rw [hs.upd]; exact hm) | exact read_step hm hs
theorem run_seenAt {a : Addr} {c : Array Value} {e : TypeId} {fz : Nat × Nat} {w : World} (h : w.heap[a.block]? = some (.cells c e fz)) : (Conv.seenAt a).run P w = .ok a w := by
  unfold Conv.seenAt viewAt
  simp [shape, Sem.run_bind, Sem.run, World.shape?, h, Result.andThen, Sem.run_pure]
theorem uconv_sound {src dst : TypeId} {x x' v : Value} {s s' : HS} {σ : Ren} {H : Nat → Option VO} {w0 : World} (h : uconvV P src dst x s = some (v, s')) (hx : VRel σ x x') (hm : Match P B σ H w0) (hs : Sim s H) (ha : Agree s s' H) (w : World) (hw : w = w0) :
    ∃ v', VRel σ v v' ∧ (convert src dst x').run P w = .ok v' w := by
  subst hw
  unfold uconvV at h
  split at h
  · rename_i t h1 h2
    split at h
    · injection h with h; injection h with e1 e2; subst e1; subst e2
      cases hx
      exact ⟨_, .ptrNil, by simp [convert, Sem.run_bind, run_underlying h1, run_underlying h2, Result.andThen, Conv.unsafePointer, Sem.run_pure]⟩
    · rename_i b o
      split at h
      · rename_i c e fz hg
        split at h
        · rename_i i hi
          split at h
          · rename_i hc
            injection h with h; injection h with e1 e2; subst e1; subst e2
            simp only [Bool.and_eq_true, blt_iff] at hc
            cases hx with
            | ptr hb =>
              rename_i b' κ
              have hH : H b = _ := (ha.rd b (by rw [read_eq]; exact lor_rd b)).trans hg
              obtain ⟨q, hq, hor⟩ := hm.obj b b' κ _ _ hb hH
              cases hor with
              | cells e fz hcc =>
                rename_i c'
                refine ⟨_, .ptr hb, ?_⟩
                have hz := hcc.1
                have hn : ¬ i.size = 0 := by omega
                have hlt : ¬ c'.size ≤ o := by omega
                simp [convert, Sem.run_bind, run_underlying h1, run_underlying h2, Result.andThen, Conv.unsafePointer, Sem.run_pure, run_seenAt (a := ⟨b', o, none⟩) hq, cellsIn, shape, Sem.run, World.shape?, hq, sizeOf, typeInfo, run_program, hi, hn, hlt]
          · cases h
        · cases h
      · cases h
    · cases h
  · rename_i u h1 h2
    split at h
    · injection h with h; injection h with e1 e2; subst e1; subst e2
      cases hx
      exact ⟨_, .ptrNil, by simp [convert, Sem.run_bind, run_underlying h1, run_underlying h2, Result.andThen, Conv.unsafePointer, Sem.run_pure]⟩
    · rename_i b o
      split at h
      · rename_i c e fz hg
        split at h
        · rename_i i hi
          split at h
          · rename_i hc
            injection h with h; injection h with e1 e2; subst e1; subst e2
            simp only [Bool.and_eq_true, blt_iff] at hc
            cases hx with
            | ptr hb =>
              rename_i b' κ
              have hH : H b = _ := (ha.rd b (by rw [read_eq]; exact lor_rd b)).trans hg
              obtain ⟨q, hq, hor⟩ := hm.obj b b' κ _ _ hb hH
              cases hor with
              | cells e fz hcc =>
                rename_i c'
                refine ⟨_, .ptr hb, ?_⟩
                have hz := hcc.1
                have hl : liesAt P P.depth e (c'.size / P.cellsOf e) o u 1 = true := by rw [← hz]; exact hc.2
                simp [convert, Sem.run_bind, run_underlying h1, run_underlying h2, Result.andThen, Conv.unsafePointer, Sem.run_pure, run_seenAt (a := ⟨b', o, none⟩) hq, variablesAt, shape, Sem.run, World.shape?, hq, sizeOf, typeInfo, run_program, hi, hl]
          · cases h
        · cases h
      · cases h
    · cases h
  · cases h

theorem udata_sound {x x' v : Value} {σ : Ren} {ts : Array TypeId} {ty : TypeId} (h : udataV x = some v) (hx : VRel σ x x') (w : World) : ∃ v', (Builtin.unsafeSliceData_ ts ty #[x']).run P w = .ok v' w ∧ VRel σ v v' := by
  unfold udataV at h
  split at h
  · injection h with h; subst h
    cases hx
    exact ⟨_, rfl, .ptrNil⟩
  · rename_i ad l c
    split at h
    · rename_i hc
      injection h with h; subst h
      simp only [Bool.or_eq_true, Bool.and_eq_true, blt_iff] at hc
      cases hx with
      | slice _ hb h0 h1 h2 =>
        rename_i b b' κ o p c'
        have : c' ≠ 0 := by
          rcases hc with hc | hc
          · omega
          · rw [h1 hc.2]; omega
        exact ⟨_, Lib.run_unsafeSliceData_row w ts ty _ _ _ this, .ptr hb⟩
    · cases h
  · cases h

theorem freezeV_heap {w : World} {b' o n : Nat} {p : Option Nat} {c' : Array Value} {e : TypeId} {fz : Nat × Nat} (ho : w.heap[b']? = some (.cells c' e fz)) : (w.freeze ⟨b', o, p⟩ n).heap[b']? = some (.cells c' e (freezeV fz o n)) := by
  unfold World.freeze freezeV
  by_cases h0 : n = 0
  · subst h0; simpa using ho
  · have : Nat.beq n 0 = false := by
      cases hb : Nat.beq n 0 with
      | false => rfl
      | true => exact absurd (Nat.eq_of_beq_eq_true hb) h0
    rw [if_neg h0, this]
    simp only [Array.getElem?_modify, if_true, ho, Option.map_some]
    by_cases he : fz.1 = fz.2
    · have hb : Nat.beq fz.1 fz.2 = true := by rw [he]; exact Nat.beq_refl _
      simp [he, hb]
    · have hb : Nat.beq fz.1 fz.2 = false := by
        cases hb : Nat.beq fz.1 fz.2 with
        | false => rfl
        | true => exact absurd (Nat.eq_of_beq_eq_true hb) he
      simp [he, hb]
theorem freeze_size {w : World} {a : Addr} {n : Nat} : (w.freeze a n).heap.size = w.heap.size := by unfold World.freeze; split <;> simp
theorem freeze_other {w : World} {a : Addr} {n k : Nat} (hk : k ≠ a.block) : (w.freeze a n).heap[k]? = w.heap[k]? := by
  unfold World.freeze
  split
  · rfl
  · simp [Array.getElem?_modify, Ne.symm hk]
theorem bytes_spec : ∀ (l : List Value) (m : List UInt8), bytesV l = some m → m.length = l.length ∧ ∀ (j : Nat) (x : UInt8), m[j]? = some x → l[j]? = some (.int .u8 x.toNat)
  | [], m, h => by
    simp only [bytesV] at h
    injection h with h; subst h
    exact ⟨rfl, fun j x e => by simp at e⟩
  | v :: l, m, h => by
    simp only [bytesV] at h
    split at h
    · rename_i b hb
      split at h
      · rename_i m' hm'
        injection h with h; subst h
        obtain ⟨h1, h2⟩ := bytes_spec l m' hm'
        refine ⟨by simp [h1], fun j x e => ?_⟩
        cases j with
        | zero =>
          simp at e
          subst e
          unfold byteV at hb
          split at hb
          · rename_i n
            split at hb
            · rename_i hn
              injection hb with hb; subst hb
              have := blt_iff.1 hn
              simp only [List.getElem?_cons_zero]
              have hx : n.toUInt8.toNat = n := by simp; omega
              rw [hx]; rfl
            · cases hb
          · cases hb
        | succ j => simpa using h2 j x (by simpa using e)
      · cases h
    · cases h

theorem ustr_sound {pt it : TypeId} {x x' y y' v : Value} {s s' : HS} {σ : Ren} {H : Nat → Option VO} {w : World} {ty : TypeId} (h : ustrV P pt x y s = some (v, s')) (hx : VRel σ x x') (hy : VRel σ y y')
    (hm : Match P B σ H w) (hs : Sim s H) (ha : Agree s s' H) (hB : Ok B w) : ∃ v' w', (Builtin.unsafeString_ #[pt, it] ty #[x', y']).run P w = .ok v' w' ∧ VRel σ v v' ∧ Match P B σ (upd H s') w' ∧ Below B.b w w' := by
  unfold ustrV at h
  split at h
  · rename_i e hpt
    split at h
    · rename_i n
      cases hy
      split at h
      · rename_i hz
        have := Nat.eq_of_beq_eq_true hz
        subst this
        split at h
        · injection h with h; injection h with h1 h2; subst h1; subst h2
          refine ⟨_, w, ?_, .string _, by rw [hs.upd]; exact hm, Below.refl _ _⟩
          cases hx <;> exact Lib.run_unsafeString_none _ _ _ _ _
        · cases h
      · rename_i hz
        have hnz : n ≠ 0 := fun e => by subst e; cases hz
        split at h
        · rename_i b
          split at h
          · rename_i c e' fz ex hg
            split at h
            · rename_i hc
              simp only [Bool.and_eq_true, blt_iff, Nat.ble_eq] at hc
              obtain ⟨⟨⟨⟨c1, c2⟩, c4⟩, c5⟩, c6⟩ := hc
              have c1 := Nat.eq_of_beq_eq_true c1
              have c2 := Nat.eq_of_beq_eq_true c2
              subst c1
              split at h
              · rename_i l hl
                split at h
                · rename_i s1 hp
                  injection h with h; injection h with h1 h2; subst h1; subst h2
                  cases hx with
                  | ptr hb =>
                    rename_i b' κ
                    have hH : H b = _ := (ha.rd b (by rw [(put_spec hp).2.2.1]; simp)).trans hg
                    obtain ⟨q, hq, hor⟩ := hm.obj b b' κ _ ex hb hH
                    have key : ∃ c', q = .cells c' e' fz ∧ c.size ≤ c'.size ∧ (∀ (j : Nat) (v v' : Value), c[j]? = some v → c'[j]? = some v' → VRel σ v v') ∧ ∀ fz', ORel P σ κ ex (.cells c e' fz') (.cells c' e' fz') := by
                      cases hor with
                      | cells _ fz hc => exact ⟨_, rfl, Nat.le_of_eq hc.1, hc.2, fun fz' => .cells _ fz' hc⟩
                      | row _ fz info hi hl hc hk hm => exact ⟨_, rfl, hl, hc, fun fz' => .row _ fz' info hi hl hc hk hm⟩
                      | srow => exact absurd c6 (Nat.lt_irrefl _)
                    obtain ⟨c', rfl, hlc, hcc, hor'⟩ := key
                    obtain ⟨g1, g2⟩ := bytes_spec _ _ hl
                    have hlen : l.length = n := by rw [g1]; simp; omega
                    have hrun := Lib.run_unsafeString_row (P := P) (w := w) pt it ty e' hpt c2 b' c'.size (by simp [World.shape?, hq]) l (fun e => hnz (by rw [← hlen, e]; rfl)) (by omega) (by omega) (fun j u hu => by
                      have hj := g2 j u hu
                      have hjn : j < n := by
                        rw [← hlen]; exact (List.getElem?_eq_some_iff.1 hu).1
                      rw [List.getElem?_take_of_lt hjn] at hj
                      have hlt : j < c'.size := by omega
                      have hv := hcc j _ c'[j] (by simpa using hj) (by simp [hlt])
                      have hadd : (⟨b', 0, none⟩ : Addr).add j = ⟨b', j, none⟩ := by
                        unfold Addr.add
                        split
                        · rename_i h0; subst h0; rfl
                        · simp
                      rw [hadd]
                      simp only [World.cell?, hq]
                      simp only [Option.isSome_none, Bool.false_eq_true, if_false, Array.getElem?_eq_getElem hlt]
                      generalize c'[j] = z at *
                      cases hv
                      rfl)
                    rw [hlen] at hrun
                    obtain ⟨u1, u2⟩ := upd_put hs hp
                    have hold := hm.old b b' κ _ hb hH rfl
                    refine ⟨_, _, hrun, .string _, hm.put hb hH u1 u2 (freezeV_heap hq) (hor' _) freeze_size (fun k hk => freeze_other hk), ?_⟩
                    refine ⟨?_, ?_, ?_, by rw [freeze_size]; exact Nat.le_refl _, fun k hk => freeze_other (by show k ≠ b'; omega)⟩ <;> (unfold World.freeze; split <;> rfl)
                · cases h
              · cases h
            · cases h
          · cases h
        · cases h
    · cases h
  · cases h

theorem s2b_sound {src dst : TypeId} {x x' v : Value} {s s' : HS} {σ : Ren} {H : Nat → Option VO} {w : World} (h : s2bV P src dst x s = some (v, s')) (hx : VRel σ x x') (hm : Match P B σ H w) (hs : Sim s H) (ha : Agree s s' H) (hB : Ok B w) :
    ∃ σ' v' w', (convert src dst x').run P w = .ok v' w' ∧ Ren.le σ σ' ∧ VRel σ' v v' ∧ Match P B σ' (upd H s') w' ∧ Below B.b w w' := by
  unfold s2bV at h
  split at h
  · rename_i e h1 h2
    split at h
    · rename_i b
      cases hx
      split at h
      · rename_i i h3 hi
        split at h
        · rename_i hc
          simp only [Bool.and_eq_true, blt_iff] at hc
          have hi1 : i.size = 1 := Nat.eq_of_beq_eq_true hc.1
          have hlt := hc.2
          split at h
          · rename_i s1 hp
            injection h with h; injection h with e1 e2; subst e1; subst e2
            obtain ⟨u1, u2⟩ := upd_new hs hp
            have hn : H s.next = none := ha.new s.next (Nat.le_refl _) (by have := (new_spec hp).1; omega)
            have hσ := (hm.dom _).2 hn
            obtain ⟨κ, hκ⟩ : ∃ κ, κ = (Question.appendCap b.size 0 e).cut (w.tape w.drawn (.appendCap b.size 0 e)) := ⟨_, rfl⟩
            have hκ1 : b.size ≤ κ := by rw [hκ]; simp [Question.cut]
            have hκ2 : κ ≤ maxLen := by
              rw [hκ]
              simp only [Question.cut]
              unfold inf at hlt
              unfold maxLen
              have := Nat.mod_lt (w.tape w.drawn (.appendCap b.size 0 e)) (show 0 < 2 ^ 63 - b.size by omega)
              omega
            obtain ⟨c', hc'⟩ : ∃ c' : Array Value, c' = (b.data.map fun x => Value.int .u8 x.toNat) ++ Array.replicate (κ - b.size) (.int .u8 0) := ⟨_, rfl⟩
            have hbd : b.data.size = b.size := rfl
            have hsz : c'.size = κ := by rw [hc']; simp; omega
            obtain ⟨w1, hw1⟩ : ∃ w1 : World, w1 = w.drew.alloc (.cells c' e (0, 0)) := ⟨_, rfl⟩
            have hat : w1.heap[w.heap.size]? = some (.cells c' e (0, 0)) := by rw [hw1]; exact World.alloc_heap_new w.drew _
            have hrun : (convert src dst (.string b)).run P w = .ok (.slice (some ⟨w.heap.size, 0, none⟩) b.size κ) (w1.freeze { block := w.heap.size, off := κ } 1) := by
              unfold convert
              simp only [Sem.run_bind, run_underlying h1, run_underlying h2, run_underlying h3, Result.andThen_ok]
              unfold Conv.stringToBytes
              simp only [Sem.run_bind, choose, Sem.run, Question.forced, Bool.false_eq_true, if_false, Result.andThen_ok, ← hκ, ← hc']
              have hnr : (newRow e c').run P w.drew = .ok ⟨w.heap.size, 0, none⟩ w1 := by rw [hw1]; rfl
              have hfrz : (markStringish ⟨w.heap.size, 0, none⟩).run P w1 = .ok () (w1.freeze { block := w.heap.size, off := κ } 1) := by
                unfold markStringish
                simp only [Sem.run_bind, shape, Sem.run, World.shape?, hat, Result.andThen_ok, freeze, hsz]
              show Result.andThen ((newRow e c').run P w.drew) _ = _
              rw [hnr]
              simp only [Result.andThen_ok, Sem.run_bind, hfrz, Sem.run_pure]
            have hfz : (w1.freeze { block := w.heap.size, off := κ } 1).heap[w.heap.size]? = some (.cells c' e (κ, κ + 1)) := by
              have := freezeV_heap (o := κ) (n := 1) (p := none) hat
              exact this
            have hbel : Below B.b w (w1.freeze { block := w.heap.size, off := κ } 1) := by
              have hB' := hB.size
              refine ⟨?_, ?_, ?_, ?_, fun k hk => ?_⟩
              · unfold World.freeze; split <;> (rw [hw1]; rfl)
              · unfold World.freeze; split <;> (rw [hw1]; rfl)
              · unfold World.freeze; split <;> (rw [hw1]; rfl)
              · rw [freeze_size, hw1]; simp
              · rw [freeze_other (by show k ≠ w.heap.size; omega), hw1]
                exact Below.heap_alloc w.drew _ k (by show k < w.heap.size; omega)
            have hmm : Match P B (Ren.ext σ s.next (w.heap.size, κ)) (upd H s1) (w1.freeze { block := w.heap.size, off := κ } 1) := by
              have hor : ORel P σ κ false (.cells (b.data.map fun x => Value.int .u8 x.toNat) e (inf, inf)) (.cells c' e (κ, κ + 1)) := by
                have := ORel.srow (P := P) (s := σ) (κ := κ) (c := b.data.map fun x => Value.int .u8 x.toNat) (c' := c') e i hi (by rw [hsz]; simp; omega) (fun j v v' hv hv' => ?_) (by rw [hsz, hi1, Nat.mul_one]) hκ2
                · rw [hsz] at this; exact this
                · have hj : j < b.data.size := by
                    have := (Array.getElem?_eq_some_iff.1 hv).1
                    simpa using this
                  rw [hc', Array.getElem?_append_left (by simpa using hj), hv] at hv'
                  injection hv' with hv'; subst hv'
                  simp only [Array.getElem?_map] at hv
                  cases hx : b.data[j]? with
                  | none => rw [hx] at hv; cases hv
                  | some y => rw [hx] at hv; injection hv with hv; subst hv; exact .int _ _
              -- the two blocks together
              have hm1 := hm.newX (κ := κ) (w' := { w1.freeze { block := w.heap.size, off := κ } 1 with heap := w.heap.push (.cells c' e (κ, κ + 1)) }) hn u1 rfl u2 rfl hB.size (.live hor)
              refine hm1.grow ?_
              apply Array.ext_getElem?
              intro k
              by_cases hk : k = w.heap.size
              · subst hk; rw [hfz]; simp
              · rw [freeze_other (by show k ≠ w.heap.size; exact hk), hw1]
                show (w.heap.push _)[k]? = (w.heap.push _)[k]?
                rw [Array.getElem?_push, Array.getElem?_push, if_neg hk, if_neg hk]
            exact ⟨_, _, _, hrun, Ren.le_ext _ hσ, .slice _ (by simp [Ren.ext]) hκ1 (fun hlt => absurd hlt (Nat.lt_irrefl _)) (fun _ _ => rfl), hmm, hbel⟩
          · cases h
        · cases h
      · rename_i i h3 hi
        split at h
        · rename_i hc
          simp only [Bool.and_eq_true, blt_iff] at hc
          have hi1 : i.size = 1 := Nat.eq_of_beq_eq_true hc.1
          have hlt := hc.2
          split at h
          · rename_i s1 hp
            injection h with h; injection h with e1 e2; subst e1; subst e2
            obtain ⟨rs, hrs⟩ : ∃ rs : Array Value, rs = Conv.runesFrom b b.size 0 #[] := ⟨_, rfl⟩
            rw [← hrs] at hp hlt ⊢
            have hints : ∀ (bound k : Nat) (acc : Array Value), (∀ (j : Nat) (v : Value), acc[j]? = some v → ∃ n, v = .int .i32 n) → ∀ (j : Nat) (v : Value), (Conv.runesFrom b bound k acc)[j]? = some v → ∃ n, v = .int .i32 n := by
              intro bound
              induction bound with
              | zero => intro k acc ha j v hv; exact ha j v hv
              | succ bound ih =>
                intro k acc ha j v hv
                unfold Conv.runesFrom at hv
                split at hv
                · refine ih _ _ (fun j v hv => ?_) j v hv
                  rw [Array.getElem?_push] at hv
                  split at hv
                  · injection hv with hv; exact ⟨_, hv.symm⟩
                  · exact ha j v hv
                · exact ha j v hv
            have hri : ∀ (j : Nat) (v : Value), rs[j]? = some v → ∃ n, v = .int .i32 n := by rw [hrs]; exact hints _ _ _ (fun j v hv => by simp at hv)
            obtain ⟨u1, u2⟩ := upd_new hs hp
            have hn : H s.next = none := ha.new s.next (Nat.le_refl _) (by have := (new_spec hp).1; omega)
            have hσ := (hm.dom _).2 hn
            obtain ⟨κ, hκ⟩ : ∃ κ, κ = (Question.appendCap rs.size 0 e).cut (w.tape w.drawn (.appendCap rs.size 0 e)) := ⟨_, rfl⟩
            have hκ1 : rs.size ≤ κ := by rw [hκ]; simp [Question.cut]
            have hκ2 : κ ≤ maxLen := by
              rw [hκ]
              simp only [Question.cut]
              unfold inf at hlt
              unfold maxLen
              have := Nat.mod_lt (w.tape w.drawn (.appendCap rs.size 0 e)) (show 0 < 2 ^ 63 - rs.size by omega)
              omega
            obtain ⟨c', hc'⟩ : ∃ c' : Array Value, c' = rs ++ Array.replicate (κ - rs.size) (.int .i32 0) := ⟨_, rfl⟩
            have hsz : c'.size = κ := by rw [hc']; simp; omega
            have hrun : (convert src dst (.string b)).run P w = .ok (.slice (some ⟨w.heap.size, 0, none⟩) rs.size κ) (w.drew.alloc (.cells c' e (0, 0))) := by
              unfold convert
              simp only [Sem.run_bind, run_underlying h1, run_underlying h2, run_underlying h3, Result.andThen_ok]
              unfold Conv.stringToRunes
              simp only [← hrs, Sem.run_bind, choose, Sem.run, Question.forced, Bool.false_eq_true, if_false, Result.andThen_ok, ← hκ, ← hc']
              rfl
            have hor : ORel P σ κ false (.cells rs e (0, 0)) (.cells c' e (0, 0)) := by
              refine .row e (0, 0) i hi (by rw [hsz]; exact hκ1) (fun j v v' hv hv' => ?_) (by rw [hsz, hi1, Nat.mul_one]) hκ2
              have hj : j < rs.size := (Array.getElem?_eq_some_iff.1 hv).1
              rw [hc', Array.getElem?_append_left hj, hv] at hv'
              injection hv' with hv'; subst hv'
              obtain ⟨n, rfl⟩ := hri j v hv
              exact .int _ _
            have hmm := (hm.grow (w' := w.drew) rfl).new hn u1 u2 (w' := w.drew.alloc (.cells c' e (0, 0))) rfl hB.size hor
            exact ⟨_, _, _, hrun, Ren.le_ext _ hσ, .slice _ (by simp [Ren.ext]) hκ1 (fun hlt => absurd hlt (Nat.lt_irrefl _)) (fun _ _ => rfl), hmm, ((Below.refl B.b w).drew).alloc (by simpa using hB.size) _⟩
          · cases h
        · cases h
      · cases h
    · cases h
  · cases h

theorem zeros_sound {t t' ty : TypeId} {v v' x x' r : Value} {s s' : HS} {σ : Ren} {H : Nat → Option VO} {w : World} (hr : zerosV P t t' v x s = some (r, s')) (hv : VRel σ v v') (hx : VRel σ x x') (hm : Match P B σ H w) (hs : Sim s H) (ha : Agree s s' H) (hB : Ok B w) :
    Sound P B σ H w s' r (Builtin.append_ #[t, t'] ty #[v', x']) := by
  unfold zerosV at hr
  split at hr
  · rename_i e ik n ht ht'
    cases hv
    cases hx
    split at hr
    · rename_i i hi
      split at hr
      · rename_i z hz
        split at hr
        · rename_i hc
          simp only [Bool.and_eq_true, blt_iff] at hc
          obtain ⟨⟨hn0, hok⟩, hfl⟩ := hc
          split at hr
          · rename_i s1 hp
            injection hr with hr; injection hr with e1 e2; subst e1; subst e2
            obtain ⟨g1, g2, g3, z', g4, g5⟩ := grow_ok hi hok
            rw [hz] at g4; injection g4 with g4; subst g4
            have hsm := small g2 g3
            obtain ⟨u1, u2⟩ := upd_new hs hp
            have hnn : H s.next = none := ha.new s.next (Nat.le_refl _) (by have := (new_spec hp).1; omega)
            have hσ := (hm.dom _).2 hnn
            obtain ⟨κ, hκ⟩ : ∃ κ, κ = (Question.appendCap n 0 e).cut (w.tape w.drawn (.appendCap n 0 e)) := ⟨_, rfl⟩
            have hκ1 : n ≤ κ := by rw [hκ]; simp [Question.cut]
            have hκ2 : κ ≤ maxLen := by
              rw [hκ]
              simp only [Question.cut]
              unfold maxLen
              have := Nat.mod_lt (w.tape w.drawn (.appendCap n 0 e)) (show 0 < 2 ^ 63 - n by omega)
              omega
            have hzs : ∀ k, (Builtin.zeroCells z.cells k).size = k * i.size := fun k => by rw [size_zeroCells, g5]
            obtain ⟨c', hc'⟩ : ∃ c' : Array Value, c' = (#[] ++ Builtin.zeroCells z.cells n) ++ Builtin.zeroCells z.cells (κ - n) := ⟨_, rfl⟩
            have hsz : c'.size = κ * i.size := by
              rw [hc']
              simp only [Array.size_append, hzs, Array.size_empty, Nat.zero_add, ← Nat.add_mul]
              exact congrArg (· * i.size) (by omega)
            have hwrap : IntKind.i64.wrap (Int.ofNat n) = (n : Int) := by
              have : (Int.ofNat n : Int) = (n : Int) := rfl
              rw [this]
              exact IntWalk.i64_in (n : Int) (by omega)
            have hbytes : ¬ ((n : Int) * (i.bytes : Int) > 2 ^ 48) := by
              have h1 : ((n * i.bytes : Nat) : Int) < 1000000000 := Int.ofNat_lt.2 g3
              rw [Int.natCast_mul] at h1
              omega
            have hnc : Builtin.nextslicecap n 0 = n := by
              unfold Builtin.nextslicecap
              rw [if_pos (by omega)]
            have hroom2 : ¬ (n * i.bytes > 2 ^ 48) := by omega
            have hneed : ¬ (n ≤ 0) := by omega
            have hmx : ¬ ((n : Int) > IntKind.i64.max) := by
              have : IntKind.i64.max = 9223372036854775807 := rfl
              rw [this]; omega
            have hnz : ¬ (n * i.size = 0) := by
              have := Nat.mul_pos hn0 g1
              omega
            obtain ⟨w1, hw1⟩ : ∃ w1 : World, w1 = w.drew.alloc (.cells c' e (0, 0)) := ⟨_, rfl⟩
            have hask : ∀ b (W : World), (askRoom b).run P W = .ok () W := fun b W => by
              unfold askRoom
              split <;> rfl
            have hnr : (newRow e c').run P w.drew = .ok ⟨w.heap.size, 0, none⟩ w1 := by rw [hw1]; rfl
            have hrun : (Builtin.append_ #[t, t'] ty #[.slice none 0 0, .int .i64 (Int.ofNat n)]).run P w = .ok (.slice (some ⟨w.heap.size, 0, none⟩) n κ) w1 := by
              have hti : ∀ W, (typeInfo e).run P W = .ok i W := fun W => by simp only [typeInfo, Sem.run_bind, run_program, Result.andThen_ok, hi, Sem.run_pure]
              have hso : ∀ W, (sizeOf e).run P W = .ok i.size W := fun W => by simp only [sizeOf, Sem.run_bind, hti, Result.andThen_ok, Sem.run_pure]
              have hzv : ∀ W, (zeroValue e).run P W = .ok z W := fun W => by simp only [zeroValue, Sem.run_bind, hti, Result.andThen_ok, hz, Sem.run_pure]
              have hut : ∀ W, (underlying t').run P W = .ok (.int ik) W := fun W => run_underlying ht' W
              have hu : ∀ W, (underlying t).run P W = .ok (.slice e) W := fun W => run_underlying ht W
              have hch : (choose (.appendCap n 0 e)).run P w = .ok κ w.drew := by rw [hκ]; rfl
              unfold Builtin.append_
              simp only [List.getElem?_toArray, List.getElem?_cons_zero, List.getElem?_cons_succ, Sem.run_bind, hu, Result.andThen_ok, hso, hut, Sem.run_pure, asInt, asIntOf, hwrap, if_true, Bool.false_eq_true, if_false]
              rw [if_neg (by omega : ¬ ((n : Int) < 0))]
              simp only [Sem.run_bind, hti, Result.andThen_ok]
              rw [if_neg hbytes]
              simp only [Sem.run_bind, Sem.run_pure, Result.andThen_ok, Int.toNat_natCast, Nat.zero_add, hneed, if_false]
              simp only [hmx, false_and, if_false, Sem.run_bind, hti, Result.andThen_ok, hnc, hroom2, hch, hask, Builtin.firstCells, Sem.run_pure, Bool.not_true, Bool.false_eq_true, hnz, hzv, ← hc', hnr]
            have hor : ORel P σ κ false (.cells (Builtin.zeroCells z.cells n) e (0, 0)) (.cells c' e (0, 0)) := by
              have hle : (Builtin.zeroCells z.cells n).size ≤ c'.size := by rw [hzs, hsz]; exact Nat.mul_le_mul_right _ hκ1
              refine .row e (0, 0) i hi hle (fun j v v' hv hv' => ?_) hsz hκ2
              have hj : j < (Builtin.zeroCells z.cells n).size := (Array.getElem?_eq_some_iff.1 hv).1
              rw [hc', Array.empty_append, Array.getElem?_append_left hj, hv] at hv'
              injection hv' with hv'; subst hv'
              have hzc : ∀ u ∈ z.cells.toList, VRel σ u u := fun u hu => by
                have hz0 := flat_rel (σ := σ) 50 z hfl
                obtain ⟨k, hk, rfl⟩ := List.mem_iff_getElem.1 hu
                exact (AR.cells hz0).2 k _ _ (by simp) (by simp)
              unfold Builtin.zeroCells at hv
              rw [Array.getElem?_map] at hv
              cases hx : (Array.range (n * z.cells.size))[j]? with
              | none => rw [hx] at hv; cases hv
              | some y =>
                rw [hx] at hv
                injection hv with hv
                have hy : y % z.cells.size < z.cells.size := Nat.mod_lt _ (by omega)
                have hv : z.cells[y % z.cells.size]! = v := hv
                rw [getElem!_pos z.cells (y % z.cells.size) hy] at hv
                rw [← hv]
                exact hzc _ (by simp)
            have hmm := (hm.grow (w' := w.drew) rfl).new hnn u1 u2 (w' := w1) (by rw [hw1]; rfl) hB.size hor
            exact ⟨_, _, _, hrun, Ren.le_ext _ hσ, .slice _ (by simp [Ren.ext]) hκ1 (fun hlt => absurd hlt (Nat.lt_irrefl _)) (fun _ _ => rfl), hmm, by rw [hw1]; exact ((Below.refl B.b w).drew).alloc (by simpa using hB.size) _⟩
          · cases hr
        · cases hr
      · cases hr
    · cases hr
  · cases hr

theorem undef_rel {σ : Ren} : VRel σ undef undef := VRel.tuple rfl fun i v v' x => by simp at x

theorem operand_rel {σ : Ren} {o : Oper} {s : St} {a : Act} (hlow : ∀ g, g < B.g → σ g = some (g, 0)) (hok : o.op.operands.toList.all (okOperand B.g) = true) (ht : ∀ t, Operand.tmp t ∈ o.op.operands → VRel σ (s.tmps.at t) (a.tmps.getD t undef)) :
    ∀ x ∈ o.op.operands, VRel σ (evalV s.tmps x) (a.eval x) := by
  intro x hx
  have h := List.all_eq_true.1 hok x (Array.mem_toList_iff.2 hx)
  cases x with
  | tmp t => exact ht t hx
  | const v => exact flat_rel 50 v h
  | global g => exact .ptr (hlow g (blt_iff.1 h))
  | func f => exact VRel.func (.func f) rfl rfl (fun i v v' x => by simp at x) rfl (fun i v v' x => by simp at x)

theorem Act.eval_tmp (a : Act) (t : Tmp) : a.eval (.tmp t) = a.tmps.getD t undef := rfl

/-- the law of one operation -/
theorem slow_sound {call : CallV} (hc : CallSound P B call) {o : Oper} {s : St} {v : Value} {hs' : HS} (h : slowV P call o s = some (v, hs')) {σ : Ren} {H : Nat → Option VO} {a : Act} {w : World}
    (ht : ∀ t, Operand.tmp t ∈ o.op.operands → VRel σ (s.tmps.at t) (a.tmps.getD t undef)) (hm : Match P B σ H w) (hs : Sim s.hs H) (ha : Agree s.hs hs' H) (hB : Ok B w)
    {K : Act → World → Prop} {Q : Exit → Act → World → Prop} (hk : ∀ σ' v' w', Ren.le σ σ' → VRel σ' v v' → Match P B σ' (upd H hs') w' → Below B.b w w' → K (a.put o.dst v') w') (ro : Option Nat) : o.wpIn (fz ro) 0 P a w K Q := by
  have wpq : ∀ (r : Result Next), (execOp a.eval o).run P w = r → (∀ c, o.op ≠ .defer c) → o.uponIn (fz ro) 0 P a K Q r → o.wpIn (fz ro) 0 P a w K Q := fun r h1 h2 h3 => by
    refine ⟨fun f _ => fz_fn ro f, ?_⟩
    rw [Oper.semAt_eq _ _ _ h2, h1]; exact h3
  have fin : ∀ {m m' : Sem Next}, SemRel P NR σ m m' → ∀ {v0 : Value} {h0 : HS}, (∃ n, runV P m s.hs = some (n, h0) ∧ (n = .value v0 ∨ (n = .skip ∧ v0 = undef))) → m' = execOp a.eval o → v0 = v → h0 = hs' → (∀ c, o.op ≠ .defer c) → o.wpIn (fz ro) 0 P a w K Q := by
    rintro m m' hrel v0 h0 ⟨n, hr, hn⟩ rfl rfl rfl hnd
    obtain ⟨σ', b, w', h1, h2, h3, h4, h5⟩ := run_sound hrel s.hs h0 n hr H w hm hs ha hB
    refine wpq _ h1 hnd ?_
    rcases hn with rfl | ⟨rfl, rfl⟩
    · obtain ⟨v', rfl, hv⟩ := h3
      exact hk σ' v' w' h2 hv h4 h5
    · have : b = .skip := h3
      subst this
      exact hk σ' undef w' h2 undef_rel h4 h5
  unfold slowV at h
  split at h
  · cases h
  · rename_i hok
    rw [hc.g] at hok
    have hx := operand_rel hm.low hok ht
    split at h
    · rename_i t x lo hi mx ho
      split at h
      · rename_i e hte
        split at h
        · rename_i r hr
          injection h with h; injection h with h1 h2; subst h1; subst h2
          have hx2 := hx
          rw [ho] at hx2
          simp only [Op.operands] at hx2
          obtain ⟨r', g1, g2⟩ := slice_sound w hr (hx2 x (by simp)) (opt_rel fun y hy => hx2 y (by simp [hy])) (opt_rel fun y hy => hx2 y (by simp [hy])) (opt_rel fun y hy => hx2 y (by simp [hy]))
          have hrun : (execOp a.eval o).run P w = .ok (.value r') w := by
            unfold execOp
            rw [ho]
            simp only [Sem.run_bind, g1, Result.andThen_ok, Sem.run_pure]
          refine wpq _ hrun (fun c e => by rw [ho] at e; cases e) ?_
          exact hk σ r' w (Ren.le_refl _) g2 (by rw [hs.upd]; exact hm) (Below.refl _ _)
        · cases h
      · rename_i hte
        split at h
        · rename_i r hs1 hr
          injection h with h; injection h with h1 h2
          exact fin (sliceOp_rel o ho (.inl hte) hx) ⟨_, hr, .inl rfl⟩ rfl h1 h2 (fun c e => by rw [ho] at e; cases e)
        · cases h
      · rename_i n e hte
        split at h
        · rename_i hn
          split at h
          · rename_i r hs1 hr
            injection h with h; injection h with h1 h2
            exact fin (sliceOp_rel o ho (.inr ⟨n, e, hte, blt_iff.1 hn⟩) hx) ⟨_, hr, .inl rfl⟩ rfl h1 h2 (fun c e => by rw [ho] at e; cases e)
          · cases h
        · cases h
      · cases h
    · rename_i args argTypes ho
      split at h
      · rename_i t t' x y e1 e2 e3 e4
        split at h
        · rename_i hsz
          simp only [Bool.and_eq_true] at hsz
          have z1 : args.size = 2 := Nat.eq_of_beq_eq_true hsz.1
          have z2 : argTypes.size = 2 := Nat.eq_of_beq_eq_true hsz.2
          have a1 : args = #[x, y] := by
            apply Array.ext
            · simp [z1]
            · intro i h1 h2
              have : i = 0 ∨ i = 1 := by omega
              rcases this with rfl | rfl
              · have := Array.getElem?_eq_some_iff.1 e3; simpa using this.2
              · have := Array.getElem?_eq_some_iff.1 e4; simpa using this.2
          have a2 : argTypes = #[t, t'] := by
            apply Array.ext
            · simp [z2]
            · intro i h1 h2
              have : i = 0 ∨ i = 1 := by omega
              rcases this with rfl | rfl
              · have := Array.getElem?_eq_some_iff.1 e1; simpa using this.2
              · have := Array.getElem?_eq_some_iff.1 e2; simpa using this.2
          subst a1; subst a2
          have hx2 := hx
          rw [ho] at hx2
          simp only [Op.operands, Call.operands] at hx2
          have hsnd : Sound P B σ H w hs' v (Builtin.append_ #[t, t'] o.type #[a.eval x, a.eval y]) := by
            split at h
            · rename_i hap
              injection h with h; subst h
              exact append_sound (ty := o.type) hap (hx2 x (by simp)) (hx2 y (by simp)) hm hs ha hB
            · exact zeros_sound (ty := o.type) h (hx2 x (by simp)) (hx2 y (by simp)) hm hs ha hB
          obtain ⟨σ', v', w', g1, g2, g3, g4, g5⟩ := hsnd
          have hrun : (execOp a.eval o).run P w = .ok (.value v') w' := by
            unfold execOp
            rw [ho]
            simp only [resolve, invoke, builtin, Sem.run_bind, Sem.run_pure, Result.andThen_ok, List.map_toArray, List.map_cons, List.map_nil, g1]
          refine wpq _ hrun (fun c e => by rw [ho] at e; cases e) ?_
          exact hk σ' v' w' g2 g3 g4 g5
        · cases h
      · cases h
    · rename_i op t x y t2 ho
      split at h
      · rename_i hb
        split at h
        · rename_i r hs1 hr
          injection h with h; injection h with h1 h2
          exact fin (bin_rel o ho hb hx) ⟨_, hr, .inl rfl⟩ rfl h1 h2 (fun c e => by rw [ho] at e; cases e)
        · cases h
      · cases h
    · rename_i x ho
      have hx2 := hx
      rw [ho] at hx2
      have hxx := hx2 x (by simp [Op.operands])
      split at h
      · rename_i ad hv
        injection h with h; injection h with h1 h2; subst h1; subst h2
        rw [hv] at hxx
        generalize hfv : a.eval x = xv at hxx
        cases hxx with
        | ptr hh =>
          have hrun : (execOp a.eval o).run P w = .ok (.value (a.eval x)) w := by
            unfold execOp
            rw [ho]
            dsimp only
            rw [hfv]
            rfl
          refine wpq _ hrun (fun c e => by rw [ho] at e; cases e) ?_
          rw [hfv]
          exact hk σ _ w (Ren.le_refl _) (.ptr hh) (by rw [hs.upd]; exact hm) (Below.refl _ _)
      · rename_i g p q hv
        injection h with h; injection h with h1 h2; subst h1; subst h2
        rw [hv] at hxx
        generalize hfv : a.eval x = xv at hxx
        cases hxx with
        | func _ hy i1 i2 i3 i4 =>
          have hrun : (execOp a.eval o).run P w = .ok (.value (a.eval x)) w := by
            unfold execOp
            rw [ho]
            dsimp only
            rw [hfv]
            rfl
          refine wpq _ hrun (fun c e => by rw [ho] at e; cases e) ?_
          rw [hfv]
          exact hk σ _ w (Ren.le_refl _) (.func _ hy i1 i2 i3 i4) (by rw [hs.upd]; exact hm) (Below.refl _ _)
      · rename_i l p q hv
        injection h with h; injection h with h1 h2; subst h1; subst h2
        rw [hv] at hxx
        generalize hfv : a.eval x = xv at hxx
        have hrel : ∃ l', xv = .func (.yield l') #[] #[] ∧ VRel σ (.func (.yield l) p q) (.func (.yield l') #[] #[]) := by
          cases hxx with
          | func _ hy => cases hy
          | yield h => exact ⟨_, rfl, .yield h⟩
        obtain ⟨l', rfl, hrel⟩ := hrel
        have hrun : (execOp a.eval o).run P w = .ok (.value (a.eval x)) w := by
          unfold execOp
          rw [ho]
          dsimp only
          rw [hfv]
          rfl
        refine wpq _ hrun (fun c e => by rw [ho] at e; cases e) ?_
        rw [hfv]
        exact hk σ _ w (Ren.le_refl _) hrel (by rw [hs.upd]; exact hm) (Below.refl _ _)
      · cases h
    · rename_i f args ts ho
      split at h
      · rename_i g p q hf
        split at h
        · rename_i fid fargs hs1 hr
          obtain ⟨hst, hcall⟩ := hc.fn _ _ _ _ _ h
          have hst0 := runV_step _ _ _ _ hr
          obtain ⟨σ1, b, w1, h1, h2, h3, h4, h5⟩ := run_sound (callOp_rel o ho hf hx) s.hs hs1 _ hr H w hm hs (ha.first hst) hB
          obtain ⟨args', rfl, hargs⟩ := h3
          refine wpq _ h1 (fun c e => by rw [ho] at e; cases e) ?_
          rw [Oper.uponIn_enter]
          refine ⟨fz_depth ro, (fz_calls (hcall σ1 args' _ w1 hargs h4 (hs.step hst0) (ha.last hs hst0 hst) (hB.step h5))).mono ?_⟩
          rintro e w' ⟨σ', v', rfl, k2, k3, k4, k5⟩
          rw [upd_upd hst] at k4
          exact hk σ' v' w' (Ren.le_trans h2 k2) k3 k4 (h5.trans k5)
        · -- a function without a body
          rename_i hne
          have hx2 := hx
          rw [ho] at hx2
          simp only [Op.operands, Call.operands] at hx2
          have hv := hx2 f (by simp)
          rw [hf] at hv
          have hargs : AR σ (args.map (evalV s.tmps)) (args.map a.eval) := args_rel fun x hx => hx2 x (by simp [hx])
          generalize hf' : a.eval f = fv at hv
          cases hv with
          | func fn hy i1 i2 i3 i4 =>
            rename_i p' q'
            have hall : AR σ ((p ++ args.map (evalV s.tmps)) ++ q) ((p' ++ args.map a.eval) ++ q') := (AR.append ⟨i1, i2⟩ hargs).append ⟨i3, i4⟩
            have hexec : execOp a.eval o = callFunc g ((p' ++ args.map a.eval) ++ q') := by
              unfold execOp
              rw [ho]
              dsimp only [resolve]
              rw [hf']
              rfl
            unfold extV at h
            split at h
            · rename_i fn hfn
              split at h
              · cases h
              · rename_i hbody
                split at h
                · rename_i hname
                  simp only [Bool.and_eq_true, beq_iff_eq] at hname
                  split at h
                  · rename_i x hxs
                    injection h with h; injection h with h1 h2; subst h1; subst h2
                    have hl := hall.list
                    rw [hxs] at hl
                    generalize hys : ((p' ++ args.map a.eval) ++ q') = ys at *
                    have : ∃ y, ys = #[y] ∧ VRel σ x y := by
                      obtain ⟨ys⟩ := ys
                      cases ys with
                      | nil => exact hl.elim
                      | cons y t => cases t with
                        | nil => exact ⟨y, rfl, hl.1⟩
                        | cons _ _ => exact hl.2.elim
                    obtain ⟨y, rfl, hxy⟩ := this
                    refine wpq (.ok (.value y) w) (by rw [hexec]; exact run_noEscape hfn hbody hname.1 hname.2 y w) (fun c e => by rw [ho] at e; cases e) ?_
                    exact hk σ _ w (Ren.le_refl _) hxy (by rw [hs.upd]; exact hm) (Below.refl _ _)
                  · cases h
                · split at h
                  · rename_i hflat
                    split at h
                    · rename_i u hp
                      split at h
                      · rename_i hfl
                        injection h with h; injection h with h1 h2; subst h1; subst h2
                        have : ((p' ++ args.map a.eval) ++ q') = ((p ++ args.map (evalV s.tmps)) ++ q) := by
                          apply Array.ext hall.1.symm
                          intro i h1 h2
                          exact flat_eq 20 _ _ (List.all_eq_true.1 hflat _ (by simp only [Array.mem_toList_iff]; exact Array.getElem_mem h2)) (hall.2 i _ _ (Array.getElem?_eq_getElem h2) (Array.getElem?_eq_getElem h1))
                        refine wpq (.ok (.value u) w) (by rw [hexec, this]; exact pureN_run _ _ hp w) (fun c e => by rw [ho] at e; cases e) ?_
                        exact hk σ _ w (Ren.le_refl _) (flat_rel 20 _ hfl) (by rw [hs.upd]; exact hm) (Below.refl _ _)
                      · cases h
                    · cases h
                  · cases h
            · cases h
      · rename_i l p q hf
        have hx2 := hx
        rw [ho] at hx2
        simp only [Op.operands, Call.operands] at hx2
        have hv := hx2 f (by simp)
        rw [hf] at hv
        have hargs : AR σ (args.map (evalV s.tmps)) (args.map a.eval) := args_rel fun x hx => hx2 x (by simp [hx])
        obtain ⟨hst, hcall⟩ := hc.rnd _ _ _ _ _ h
        generalize hf' : a.eval f = fv at hv
        have hrel : ∃ l' κ, fv = .func (.yield l') #[] #[] ∧ σ l = some (l', κ) := by
          cases hv with
          | func _ hy => cases hy
          | yield h => exact ⟨_, _, rfl, h⟩
        obtain ⟨l', κ, rfl, hl⟩ := hrel
        obtain ⟨fn, tmps, asg, bd, hy, hround⟩ := hcall σ l' κ _ H w hl hargs hm hs ha hB
        have hexec : execOp a.eval o = Instr.yield l' (args.map a.eval) := by
          unfold execOp
          rw [ho]
          dsimp only [resolve]
          rw [hf']
          show Instr.yield l' (#[] ++ args.map a.eval) = _
          rw [Array.empty_append]
        refine wpq (.ok (.round l' fn tmps asg bd) w) (by rw [hexec]; exact hy) (fun c e => by rw [ho] at e; cases e) ?_
        rw [Oper.uponIn_round]
        refine ⟨fz_depth ro, (fz_rounds hround).mono ?_⟩
        rintro e w' ⟨σ', v', rfl, k2, k3, k4, k5⟩
        exact hk σ' v' w' k2 k3 k4 k5
      · cases h
    · -- convert
      rename_i src dst x ho
      split at h
      · rename_i hok2
        split at h
        · rename_i r hs1 hr
          injection h with h; injection h with h1 h2
          exact fin (exec_rel o (by rw [ho]; exact hok2) (by rw [ho]; rfl) hx) ⟨_, hr, .inl rfl⟩ rfl h1 h2 (fun c e => by rw [ho] at e; cases e)
        · cases h
      · have hx2 := hx
        rw [ho] at hx2
        have hxx := hx2 x (by simp [Op.operands])
        split at h
        rotate_left
        · obtain ⟨σ', v', w', g1, g2, g3, g4, g5⟩ := s2b_sound h hxx hm hs ha hB
          have hrun' : (execOp a.eval o).run P w = .ok (.value v') w' := by
            unfold execOp
            rw [ho]
            simp only [Sem.run_bind, g1, Result.andThen_ok, Sem.run_pure]
          refine wpq _ hrun' (fun c e => by rw [ho] at e; cases e) ?_
          exact hk σ' v' w' g2 g3 g4 g5
        rename_i hu
        injection h with h; subst h
        have h := hu
        obtain ⟨v', hv', hrun⟩ := uconv_sound h hxx hm hs ha w rfl
        have hrun' : (execOp a.eval o).run P w = .ok (.value v') w := by
          unfold execOp
          rw [ho]
          simp only [Sem.run_bind, hrun, Result.andThen_ok, Sem.run_pure]
        refine wpq _ hrun' (fun c e => by rw [ho] at e; cases e) ?_
        exact hk σ v' w (Ren.le_refl _) hv' (uconv_same h hm hs) (Below.refl _ _)
    · -- invoke
      rename_i recv name args ts ho
      split at h
      · rename_i t v1 hv1
        split at h
        · rename_i f hf
          split at h
          · rename_i hcl
            obtain ⟨hst, hcall⟩ := hc.fn _ _ _ _ _ h
            have hx2 := hx
            rw [ho] at hx2
            simp only [Op.operands, Call.operands] at hx2
            have hv := hx2 recv (by simp)
            rw [hv1] at hv
            have hargs : AR σ (args.map (evalV s.tmps)) (args.map a.eval) := args_rel fun x hx => hx2 x (by simp [hx])
            generalize hf' : a.eval recv = fv at hv
            cases hv with
            | iface _ hvv =>
              rename_i v1'
              have hrun : (execOp a.eval o).run P w = .ok (.enter f (#[v1'] ++ args.map a.eval)) w := by
                unfold execOp
                rw [ho]
                dsimp only [resolve]
                rw [hf']
                exact run_invoke hf hcl v1' _ w
              refine wpq _ hrun (fun c e => by rw [ho] at e; cases e) ?_
              rw [Oper.uponIn_enter]
              refine ⟨fz_depth ro, (fz_calls (hcall σ _ H w ((AR.single hvv).append hargs) hm hs ha hB)).mono ?_⟩
              rintro e w' ⟨σ', v', rfl, k2, k3, k4, k5⟩
              exact hk σ' v' w' k2 k3 k4 k5
          · cases h
        · cases h
      · cases h
    · -- a string of given bytes
      rename_i args ts ho
      split at h
      · rename_i t x y e1 e2 e3
        split at h
        · rename_i hsz
          simp only [Bool.and_eq_true] at hsz
          have z1 : args.size = 2 := Nat.eq_of_beq_eq_true hsz.1
          have z2 : ts.size = 2 := Nat.eq_of_beq_eq_true hsz.2
          have a2 : ts = #[t, ts[1]] := by
            apply Array.ext
            · simp [z2]
            · intro i h1 h2
              have : i = 0 ∨ i = 1 := by omega
              rcases this with rfl | rfl
              · have := Array.getElem?_eq_some_iff.1 e1; simpa using this.2
              · rfl
          have a1 : args = #[x, y] := by
            apply Array.ext
            · simp [z1]
            · intro i h1 h2
              have : i = 0 ∨ i = 1 := by omega
              rcases this with rfl | rfl
              · have := Array.getElem?_eq_some_iff.1 e2; simpa using this.2
              · have := Array.getElem?_eq_some_iff.1 e3; simpa using this.2
          subst a1
          have hx2 := hx
          rw [ho] at hx2
          simp only [Op.operands, Call.operands] at hx2
          obtain ⟨v', w', g1, g2, g3, g4⟩ := ustr_sound (it := ts[1]) (ty := o.type) h (hx2 x (by simp)) (hx2 y (by simp)) hm hs ha hB
          rw [← a2] at g1
          have hrun : (execOp a.eval o).run P w = .ok (.value v') w' := by
            unfold execOp
            rw [ho]
            simp only [resolve, invoke, builtin, Sem.run_bind, Sem.run_pure, Result.andThen_ok, List.map_toArray, List.map_cons, List.map_nil, g1]
          refine wpq _ hrun (fun c e => by rw [ho] at e; cases e) ?_
          exact hk σ v' w' (Ren.le_refl _) g2 g3 g4
        · cases h
      · cases h
    · -- cap
      rename_i args ts ho
      split at h
      · rename_i t x e1 e2
        split at h
        · rename_i el ad l c ht hvx
          split at h
          · rename_i hc
            have hc := blt_iff.1 hc
            injection h with h; injection h with h1 h2; subst h1; subst h2
            have hx2 := hx
            rw [ho] at hx2
            simp only [Op.operands, Call.operands] at hx2
            have hxx := hx2 x (by
              have := Array.mem_of_getElem? e2
              simpa using this)
            rw [hvx] at hxx
            generalize hfv : a.eval x = xv at hxx
            have hcap : ∃ ad', xv = .slice ad' l c := by
              cases hxx with
              | sliceNil => exact ⟨_, rfl⟩
              | slice _ q0 q1 q2 q3 => exact ⟨_, by rw [q2 hc]⟩
            obtain ⟨ad', rfl⟩ := hcap
            have hrun : (execOp a.eval o).run P w = .ok (.value (.int .i64 (.ofNat c))) w := by
              unfold execOp
              rw [ho]
              have e3 : (args.map a.eval)[0]? = some (.slice ad' l c) := by simp [e2, hfv]
              simp only [resolve, invoke, builtin, Sem.run_bind, Sem.run_pure, Result.andThen_ok, Builtin.cap_, e1, e3, run_underlying ht, goInt]
              rfl
            refine wpq _ hrun (fun c e => by rw [ho] at e; cases e) ?_
            exact hk σ _ w (Ren.le_refl _) (.int _ _) (by rw [hs.upd]; exact hm) (Below.refl _ _)
          · cases h
        · cases h
      · cases h
    · -- the first byte of a slice
      rename_i args ts ho
      split at h
      · rename_i x e2
        split at h
        · rename_i hsz
          split at h
          · rename_i r hr
            injection h with h; injection h with h1 h2; subst h1; subst h2
            have z1 : args.size = 1 := Nat.eq_of_beq_eq_true hsz
            have a1 : args = #[x] := by
              apply Array.ext
              · simp [z1]
              · intro i h1 h2
                have : i = 0 := by omega
                subst this
                have := Array.getElem?_eq_some_iff.1 e2; simpa using this.2
            subst a1
            have hx2 := hx
            rw [ho] at hx2
            simp only [Op.operands, Call.operands] at hx2
            obtain ⟨v', g1, g2⟩ := udata_sound (P := P) (ts := ts) (ty := o.type) hr (hx2 x (by simp)) w
            have hrun : (execOp a.eval o).run P w = .ok (.value v') w := by
              unfold execOp
              rw [ho]
              simp only [resolve, invoke, builtin, Sem.run_bind, Sem.run_pure, Result.andThen_ok, List.map_toArray, List.map_cons, List.map_nil, g1]
            refine wpq _ hrun (fun c e => by rw [ho] at e; cases e) ?_
            exact hk σ v' w (Ren.le_refl _) g2 (by rw [hs.upd]; exact hm) (Below.refl _ _)
          · cases h
        · cases h
      · cases h
    · split at h
      · cases h
      · rename_i hop
        have hop : okOp P o.op = true ∧ okDyn (evalV s.tmps) o.op = true := by simpa using hop
        have hnd : ∀ c, o.op ≠ .defer c := fun c e => by rw [e] at hop; simp [okOp] at hop
        split at h
        · rename_i r hs1 hr
          injection h with h; injection h with h1 h2
          exact fin (exec_rel o hop.1 hop.2 hx) ⟨_, hr, .inl rfl⟩ rfl h1 h2 hnd
        · rename_i hs1 hr
          injection h with h; injection h with h1 h2
          exact fin (exec_rel o hop.1 hop.2 hx) ⟨_, hr, .inr ⟨rfl, rfl⟩⟩ rfl h1 h2 hnd
        · cases h

/-! the short way -/
theorem sameKind_eq {a b : IntKind} (h : sameKind a b = true) : a = b := by cases a <;> cases b <;> first | rfl | cases h
theorem fast_eq {call : CallV} {o : Oper} {s : St} {r : Value × HS} (hok : o.op.operands.toList.all (okOperand call.g) = true) (h : fastV P call o s = some r) : slowV P call o s = some r := by
  unfold fastV at h
  unfold slowV
  rw [hok]
  split at h
  · rename_i x ho
    simp only [ho, okOp]
    have : execOp (evalV s.tmps) o = pure (.value (evalV s.tmps x)) := by unfold execOp; rw [ho]
    rw [this]; exact h
  · rename_i x ho
    simp only [ho, okOp]
    have : execOp (evalV s.tmps) o = pure (.value (evalV s.tmps x)) := by unfold execOp; rw [ho]
    rw [this]; exact h
  · rename_i c a b ho
    simp only [ho, okOp]
    have : execOp (evalV s.tmps) o = (do pure (.value (if ← asBool (evalV s.tmps c) then evalV s.tmps a else evalV s.tmps b))) := by unfold execOp; rw [ho]
    rw [this]
    split at h
    · rename_i hb; rw [hb]; exact h
    · rename_i hb; rw [hb]; exact h
    · cases h
  · rename_i op t x y t2 ho
    have : execOp (evalV s.tmps) o = (do pure (.value (← (do eqGuard op t x y (evalV s.tmps x) (evalV s.tmps y); binOp op t (evalV s.tmps x) (evalV s.tmps y))))) := by unfold execOp; rw [ho]
    simp only [ho]
    split at h
    · rename_i k a k' b h1 h2
      split at h
      · rename_i hk
        have := sameKind_eq hk
        subst this
        split at h
        · rename_i v hv
          have e : runV P (execOp (evalV s.tmps) o) s.hs = some (.value v, s.hs) := by
            have hg : eqGuard op t x y (.int k a) (.int k b) = (pure () : Sem Unit) := by unfold eqGuard; cases op <;> rfl
            have hb : binOp op t (.int k a) (.int k b) = (pure v : Sem Value) := by
              unfold intV at hv
              split at hv
              all_goals first
                | (cases hv; done)
                | (injection hv with hv; subst hv; unfold binOp; dsimp only; rw [if_neg (fun h => h rfl)]; rfl)
            rw [this, h1, h2, hg, hb]
            rfl
          have hb : okBin op (evalV s.tmps x) (evalV s.tmps y) = true := by rw [h1, h2]; unfold okBin; cases op <;> rfl
          rw [hb, e]
          exact h
        · cases h
      · cases h
    · cases h
  · rename_i x i ho
    simp only [ho, okOp]
    have : execOp (evalV s.tmps) o = (do pure (.value (← Instr.extract (evalV s.tmps x) i))) := by unfold execOp; rw [ho]
    rw [this]
    split at h
    · rename_i vs hv
      split at h
      · rename_i v hi
        rw [hv]
        simp only [Instr.extract, hi]
        exact h
      · cases h
    · cases h
  · rename_i t x ho
    simp only [ho, okOp]
    have : execOp (evalV s.tmps) o = (do pure (.value (← Instr.loadAt t (evalV s.tmps x)))) := by unfold execOp; rw [ho]
    rw [this]
    split at h
    · rename_i h1
      split at h
      · rename_i b off hv
        split at h
        · rename_i v hc
          rw [hv]
          unfold oneT at h1
          unfold cellV at hc
          split at hc
          · rename_i c e fz ex hg
            have ha : runV P (isAgg t) s.hs = some (false, s.hs) := by
              unfold isAgg underlying program
              simp only [bind, Sem.bind, runV]
              split at h1
              · cases h1
              · cases h1
              · rename_i d n1 n2 hd
                rw [hd]
                simp only [Sem.bind, pure]
                cases d <;> first | rfl | exact absurd rfl (n1 _) | exact absurd rfl (n2 _ _)
              · cases h1
            have hl : runV P (Instr.loadAt t (.pointer (some ⟨b, off, none⟩))) s.hs = some (v, s.hs.read b) := by
              unfold Instr.loadAt Instr.sureAddr
              simp only [bind, Sem.bind, pure]
              unfold loadVar
              show runV P ((isAgg t).bind _) s.hs = _
              rw [runV_bind_some, ha]
              simp only [Option.bind_some, Bool.false_eq_true, if_false, load, runV, hg, hc]
            have e : runV P (do pure (Next.value (← Instr.loadAt t (.pointer (some ⟨b, off, none⟩)))) : Sem Next) s.hs = some (Next.value v, s.hs.read b) := by
              show runV P ((Instr.loadAt t (.pointer (some ⟨b, off, none⟩))).bind fun v => (pure (Next.value v) : Sem Next)) s.hs = _
              rw [runV_bind_some, hl]; rfl
            rw [e]
            exact h
          · cases hc
        · cases h
      · cases h
    · cases h
  · rename_i x ho
    simp only [ho]
    split at h
    · rename_i hv; simp only [hv]; exact h
    · rename_i hv; simp only [hv]; exact h
    · cases h
  · rename_i t x i ho
    simp only [ho, okOp]
    have : execOp (evalV s.tmps) o = (do pure (.value (← Instr.fieldAt t (evalV s.tmps x) i))) := by unfold execOp; rw [ho]
    rw [this]
    split at h
    · rename_i off hf
      split at h
      · rename_i a hv
        rw [hv]
        unfold fieldV at hf
        split at hf
        · rename_i fs hu
          split at hf
          · rename_i f hfi
            split at hf
            · rename_i j hj
              split at hf
              · cases hf
              · rename_i hz
                injection hf with hf
                subst hf
                have hz' : ¬ j.size = 0 := fun e => by rw [e] at hz; cases hz
                have hp : runV P (Instr.fieldAt t (.pointer (some a)) i) s.hs = some (.pointer (some (a.add f.offset)), s.hs) := by
                  unfold Instr.fieldAt underlying program
                  simp only [bind, Sem.bind, runV, hu, pure, hfi, Instr.sureAddr]
                  unfold fieldPlace sizeOf typeInfo program
                  simp only [bind, Sem.bind, runV, hj, pure, if_neg hz']
                have e : runV P (do pure (Next.value (← Instr.fieldAt t (.pointer (some a)) i)) : Sem Next) s.hs = some (Next.value (.pointer (some (a.add f.offset))), s.hs) := by
                  show runV P ((Instr.fieldAt t (.pointer (some a)) i).bind fun v => (pure (Next.value v) : Sem Next)) s.hs = _
                  rw [runV_bind_some, hp]; rfl
                rw [e]
                exact h
            · cases hf
          · cases hf
        · cases hf
      · cases h
    · cases h
  · rename_i f args ts ho
    simp only [ho]
    split at h
    · rename_i g a b hv
      split at h
      · rename_i hcl
        have e : runV P (execOp (evalV s.tmps) o) s.hs = some (.enter g ((a ++ args.map (evalV s.tmps)) ++ b), s.hs) := by
          unfold execOp
          rw [ho]
          dsimp only [resolve]
          rw [hv]
          show runV P (callFunc g ((a ++ args.map (evalV s.tmps)) ++ b)) s.hs = _
          unfold callable at hcl
          unfold callFunc
          show runV P (match P.funcs[g]? with | none => _ | some fn => _) s.hs = _
          split at hcl
          · rename_i fn hfn
            rw [hfn]
            simp only [Bool.and_eq_true, Bool.not_eq_true'] at hcl
            simp only [hcl.1, hcl.2, Bool.false_eq_true, if_false]
            rfl
          · cases hcl
        simp only [hv, e]
        exact h
      · cases h
    · cases h
  · cases h
theorem oper_eq {call : CallV} {o : Oper} {s : St} {r : Value × HS} (h : operV P call o s = some r) : slowV P call o s = some r ∨ (o.op.operands.toList.all (okOperand call.g) = true ∧ rowV P o s = some r) := by
  unfold operV at h
  split at h
  · cases h
  · rename_i hok
    split at h
    · rename_i hf
      injection h with h; subst h
      exact .inl (fast_eq hok hf)
    · split at h
      · rename_i hrw
        injection h with h; subst h
        exact .inr ⟨hok, hrw⟩
      · exact .inl h
theorem oper_step {call : CallV} (hc : CallSound P B call) {o : Oper} {s : St} {v : Value} {hs' : HS} (h : operV P call o s = some (v, hs')) : VStep s.hs hs' := by
  rcases oper_eq h with h | ⟨_, h⟩
  · exact slow_step hc h
  · exact rowV_step h
theorem oper_sound {call : CallV} (hc : CallSound P B call) {o : Oper} {s : St} {v : Value} {hs' : HS} (h : operV P call o s = some (v, hs')) {σ : Ren} {H : Nat → Option VO} {a : Act} {w : World}
    (ht : ∀ t, Operand.tmp t ∈ o.op.operands → VRel σ (s.tmps.at t) (a.tmps.getD t undef)) (hm : Match P B σ H w) (hs : Sim s.hs H) (ha : Agree s.hs hs' H) (hB : Ok B w)
    {K : Act → World → Prop} {Q : Exit → Act → World → Prop} (hk : ∀ σ' v' w', Ren.le σ σ' → VRel σ' v v' → Match P B σ' (upd H hs') w' → Below B.b w w' → K (a.put o.dst v') w') (ro : Option Nat) : o.wpIn (fz ro) 0 P a w K Q := by
  rcases oper_eq h with h | ⟨hok, h⟩
  · exact slow_sound hc h ht hm hs ha hB hk ro
  · rw [hc.g] at hok
    obtain ⟨hnd, nx, σ', v', w', g1, g2, g3, g4, g5, g6⟩ := rowV_sound h (operand_rel hm.low hok ht) hm hs ha hB
    refine ⟨fun f _ => fz_fn ro f, ?_⟩
    rw [Oper.semAt_eq _ _ _ hnd, g1]
    rcases g2 with rfl | ⟨rfl, rfl⟩
    · exact hk σ' v' w' g3 g4 g5 g6
    · exact hk σ' undef w' g3 g4 g5 g6

/-! operations one after another -/
theorem SR.at {σ : Ren} {t : TV} {a : Array Value} {k : Nat} (h : SR σ (t.get k) (a[k]?)) (hj : isJunk (t.at k) = false) : VRel σ (t.at k) (a.getD k undef) := by
  unfold TV.at at hj ⊢
  rw [Array.getD_eq_getD_getElem?]
  rcases slot_of h with ⟨h1, h2⟩ | ⟨v, v', h1, h2, h3⟩
  · rw [h1, h2]; exact undef_rel
  · rw [h1] at hj
    rw [h1, h2]
    rcases h3 with h3 | h3
    · rw [show isJunk v = false from hj] at h3; cases h3
    · exact h3
theorem okJ_at {ops : Array Oper} {i : Nat} {t : TV} (h : okJ ops i t = true) {o : Oper} (ho : ops[i]? = some o) :
    (∀ j b, o.guard = some (j, b) → ∀ d, ((ops[j]?).bind (·.dst)) = some d → isJunk (t.at d) = false) ∧
    (Region.wanted o (yieldedT ops t) = true → ∀ k, Operand.tmp k ∈ o.op.operands → isJunk (t.at k) = false) := by
  unfold okJ at h
  rw [ho] at h
  simp only [Bool.and_eq_true] at h
  refine ⟨fun j b hg d hd => ?_, fun hw k hk => ?_⟩
  · have h1 := h.1
    rw [hg] at h1
    simp only at h1
    cases hj : ops[j]? with
    | none => rw [hj] at hd; cases hd
    | some x =>
      rw [hj] at hd h1
      simp only [Option.bind_some] at hd
      simp only [hd] at h1
      simpa using h1
  · have h2 := h.2
    rw [hw] at h2
    simp only [Bool.not_true, Bool.or_false] at h2
    have := List.all_eq_true.1 h2 _ (Array.mem_toList_iff.2 hk)
    have h3 : isJunk (evalV t (.tmp k)) = false := by simpa using this
    exact h3
theorem yielded_eq {ops : Array Oper} {σ : Ren} {t : TV} {t' : Array Value} {j : Nat} (h : ∀ d, ((ops[j]?).bind (·.dst)) = some d → SR σ (t.get d) (t'[d]?)) (hj : ∀ d, ((ops[j]?).bind (·.dst)) = some d → isJunk (t.at d) = false) : yieldedT ops t j = yielded ops t' j := by
  unfold yieldedT yielded
  cases ho : ops[j]? with
  | none => rfl
  | some o =>
    simp only [Option.bind_some]
    cases hd : o.dst with
    | none => rfl
    | some d =>
      simp only [Option.bind_some]
      rcases slot_of (h d (by rw [ho]; exact hd)) with ⟨h1, h2⟩ | ⟨v, v', h1, h2, h3⟩
      · rw [h1, h2]
      · have hj' := hj d (by rw [ho]; exact hd)
        unfold TV.at at hj'
        rw [h1] at hj'
        rw [h1, h2]
        rcases h3 with h3 | h3
        · rw [show isJunk v = false from hj'] at h3; cases h3
        · cases h3 <;> rfl
theorem wanted_eq {ops : Array Oper} {σ : Ren} {t : TV} {t' : Array Value} {o : Oper} (h : ∀ j b, o.guard = some (j, b) → ∀ d, ((ops[j]?).bind (·.dst)) = some d → SR σ (t.get d) (t'[d]?)) (hj : ∀ j b, o.guard = some (j, b) → ∀ d, ((ops[j]?).bind (·.dst)) = some d → isJunk (t.at d) = false) :
    Region.wanted o (yieldedT ops t) = Region.wanted o (yielded ops t') := by
  unfold Region.wanted
  cases hg : o.guard with
  | none => rfl
  | some jb =>
    obtain ⟨j, b⟩ := jb
    simp only
    rw [yielded_eq (σ := σ) (h j b hg) (hj j b hg)]
theorem TR.put {σ : Ren} {t : TV} {a : Act} (h : TR σ t a.tmps) (d : Option Tmp) {v v' : Value} (hv : VRel σ v v') : TR σ (putT t d v) (a.put d v').tmps := by
  cases d with
  | none => exact h
  | some d =>
    intro k
    show SR σ ((t.set d v).get k) ((a.tmps.setIfInBounds d v')[k]?)
    rw [TV.get_set, Array.getElem?_setIfInBounds]
    by_cases e : k = d
    · subst e
      rw [if_pos rfl, if_pos rfl]
      rcases slot_of (h k) with ⟨h1, h2⟩ | ⟨x, x', h1, h2, h3⟩
      · rw [h1, if_neg (by simpa using h2)]; trivial
      · rw [h1, if_pos (Array.getElem?_eq_some_iff.1 h2).1]; exact Or.inr hv
    · rw [if_neg e, if_neg (Ne.symm e)]; exact h k
theorem put_defers (a : Act) (d : Option Tmp) (v : Value) : (a.put d v).defers = a.defers := by cases d <;> rfl

/-- the round that a frame is in -/
def RoR (σ : Ren) : Option Nat → Option Nat → Prop
  | none, none => True
  | some l, some l' => ∃ κ, σ l = some (l', κ)
  | _, _ => False
theorem RoR.mono {s t : Ren} (h : Ren.le s t) : ∀ {a b : Option Nat}, RoR s a b → RoR t a b
  | none, none, _ => trivial
  | some _, some _, ⟨κ, k⟩ => ⟨κ, h _ _ k⟩
  | some _, none, k => k.elim
  | none, some _, k => k.elim
/-- a call put off -/
inductive DR (s : Ren) : Deferred → Deferred → Prop
  | mark {r r' κ : Nat} (h : s r = some (r', κ)) : DR s { target := .collected r, args := #[] } { target := .collected r', args := #[] }
  | fn {g : FuncId} {c c' a a' : Array Value} (h : AR s c c') (k : AR s a a') : DR s { target := .fn (.func g) c, args := a } { target := .fn (.func g) c', args := a' }
theorem DR.mono {s t : Ren} (hs : Ren.le s t) {d d' : Deferred} (h : DR s d d') : DR t d d' := by
  cases h with
  | mark h => exact .mark (hs _ _ h)
  | fn h k => exact .fn (h.mono hs) (k.mono hs)
def DL (s : Ren) : List Deferred → List Deferred → Prop
  | [], [] => True
  | a :: l, b :: m => DR s a b ∧ DL s l m
  | _, _ => False
theorem DL.mono {s t : Ren} (h : Ren.le s t) : ∀ {l m : List Deferred}, DL s l m → DL t l m
  | [], [], _ => trivial
  | _ :: _, _ :: _, k => ⟨k.1.mono h, DL.mono h k.2⟩
  | [], _ :: _, k => k.elim
  | _ :: _, [], k => k.elim
theorem isDefer_no {o : Op} (h : isDefer o = false) : ∀ c, o ≠ .defer c := fun c e => by subst e; cases h

/-- a step of the text -/
theorem defer_sound {call : CallV} (hc : CallSound P B call) {o : Oper} {s s' : St} (h : deferV call o s = some s') {σ : Ren} {H : Nat → Option VO} {a : Act} {w : World}
    (ht : TR σ s.tmps a.tmps) (hj : ∀ k, Operand.tmp k ∈ o.op.operands → isJunk (s.tmps.at k) = false) (hd : DL σ s.defs a.defers) (hm : Match P B σ H w)
    {K : Act → World → Prop} {Q : Exit → Act → World → Prop} (hk : ∀ d, TR σ s'.tmps ({ a with defers := d :: a.defers }.put o.dst undef).tmps → DL σ s'.defs (d :: a.defers) → K ({ a with defers := d :: a.defers }.put o.dst undef) w) :
    s'.hs = s.hs ∧ o.wpIn (fz none) 0 P a w K Q := by
  unfold deferV at h
  split at h
  · cases h
  · rename_i hok
    rw [hc.g] at hok
    split at h
    · rename_i f args ts ho
      split at h
      · rename_i g p q hf
        injection h with h; subst h
        have hx := operand_rel hm.low hok (a := a) fun t ht' => (ht t).at (hj t ht')
        rw [ho] at hx
        simp only [Op.operands, Call.operands] at hx
        have hv := hx f (by simp)
        rw [hf] at hv
        have hargs : AR σ (args.map (evalV s.tmps)) (args.map a.eval) := args_rel fun x hx' => hx x (by simp [hx'])
        generalize hf' : a.eval f = fv at hv
        cases hv with
        | func fn hy i1 i2 i3 i4 =>
          rename_i p' q'
          refine ⟨rfl, fun f _ => fz_fn none f, ?_⟩
          have hrun : (o.semAt (fz none).round a.eval).run P w = .ok (.defer { target := .fn (.func g) q', args := p' ++ args.map a.eval }) w := by
            show (execOp a.eval o).run P w = _
            unfold execOp
            rw [ho]
            dsimp only [resolve]
            rw [hf']
            rfl
          rw [hrun, Oper.uponIn_defer]
          exact hk _ (TR.put (a := { a with defers := { target := .fn (.func g) q', args := p' ++ args.map a.eval } :: a.defers }) ht o.dst undef_rel) ⟨.fn ⟨i3, i4⟩ (AR.append ⟨i1, i2⟩ hargs), hd⟩
      · cases h
    · cases h

theorem runOps_sound {call : CallV} (hc : CallSound P B call) {ro : Option Nat} {ops : Array Oper} {Q : Exit → Act → World → Prop} : ∀ (l : List Nat) (s s' : St), runOps P call ro ops l s = some s' → VStep s.hs s'.hs ∧
    ∀ (σ : Ren) (ro' : Option Nat) (H : Nat → Option VO) (a : Act) (w : World), RoR σ ro ro' → Match P B σ H w → Sim s.hs H → TR σ s.tmps a.tmps → DL σ s.defs a.defers → Agree s.hs s'.hs H → Ok B w →
      (∀ σ' a' w', Ren.le σ σ' → Match P B σ' (upd H s'.hs) w' → TR σ' s'.tmps a'.tmps → DL σ' s'.defs a'.defers → Below B.b w w' → Q .normal a' w') → wpOpsIn (fz ro') 0 P ops Q l a w
  | [], s, s', h => by
    simp only [runOps] at h
    injection h with h; subst h
    exact ⟨.refl _, fun σ ro' H a w _ hm hs ht hd ha hB hk => hk σ a w (Ren.le_refl _) (by rw [hs.upd]; exact hm) ht hd (Below.refl _ _)⟩
  | i :: l, s, s', h => by
    simp only [runOps] at h
    split at h
    · cases h
    rename_i hokj
    split at h
    · rename_i s1 h1
      obtain ⟨ih1, ih2⟩ := runOps_sound hc (Q := Q) l s1 s' h
      unfold stepD at h1
      split at h1
      · cases h1
      · rename_i o ho
        obtain ⟨hj1, hj2⟩ := okJ_at hokj ho
        split at h1
        · rename_i hdf
          unfold stepV at h1
          rw [ho] at h1
          simp only at h1
          split at h1
          · rename_i hw
            split at h1
            · rename_i v hs1 hop
              injection h1 with h1; subst h1
              have hst := oper_step hc hop
              refine ⟨hst.trans ih1, fun σ ro' H a w hro hm hs ht hd ha hB hk => ?_⟩
              simp only [wpOpsIn, ho]
              rw [if_pos (by rw [← wanted_eq (σ := σ) (fun j b _ d _ => ht d) hj1]; exact hw)]
              refine oper_sound hc hop (fun t ht' => (ht t).at (hj2 hw t ht')) hm hs (ha.first ih1) hB (fun σ1 v' w1 g1 g2 g3 g4 => ?_) ro'
              refine ih2 σ1 ro' _ _ w1 (hro.mono g1) g3 (hs.step hst) ((ht.mono g1).put o.dst g2) (by rw [put_defers]; exact hd.mono g1) (ha.last hs hst ih1) (hB.step g4) fun σ2 a2 w2 k1 k2 k3 k4 k5 => ?_
              rw [upd_upd ih1] at k2
              exact hk σ2 a2 w2 (Ren.le_trans g1 k1) k2 k3 k4 (g4.trans k5)
            · cases h1
          · rename_i hw
            injection h1 with h1; subst h1
            refine ⟨ih1, fun σ ro' H a w hro hm hs ht hd ha hB hk => ?_⟩
            simp only [wpOpsIn, ho]
            rw [if_neg (by rw [← wanted_eq (σ := σ) (fun j b _ d _ => ht d) hj1, hw]; simp)]
            refine ⟨fun f _ => fz_fn ro' f, ih2 σ ro' _ _ w hro hm hs (ht.put o.dst undef_rel) (by rw [put_defers]; exact hd) ha hB fun σ2 a2 w2 k1 k2 k3 k4 k5 => ?_⟩
            exact hk σ2 a2 w2 k1 k2 k3 k4 k5
        · split at h1
          · cases h1
          · split at h1
            · rename_i hw
              have hhs : s1.hs = s.hs := by
                unfold deferV at h1
                repeat' split at h1
                all_goals first | cases h1 | skip
                all_goals first | rfl | (injection h1 with h1; subst h1; rfl)
              rw [hhs] at ih1 ih2
              refine ⟨ih1, fun σ ro' H a w hro hm hs ht hd ha hB hk => ?_⟩
              cases ro' with
              | some _ => exact hro.elim
              | none =>
                simp only [wpOpsIn, ho]
                rw [if_pos (by rw [← wanted_eq (σ := σ) (fun j b _ d _ => ht d) hj1]; exact hw)]
                refine (defer_sound hc h1 ht (hj2 hw) hd hm fun d kt kd => ?_).2
                exact ih2 σ none _ _ w trivial hm hs kt (by rw [put_defers]; exact kd) ha hB hk
            · cases h1
    · cases h
end
end Go.Proofs.Ytpaojoahbmlolaa
