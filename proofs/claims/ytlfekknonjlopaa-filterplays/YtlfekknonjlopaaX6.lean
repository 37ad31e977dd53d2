/- Runs, their ends, loops. -/
import Derived.Test.YtlfekknonjlopaaX5
namespace Go.Proofs.Ytlfekknonjlopaa
open Go.RowKit
set_option linter.unusedVariables false
set_option linter.unusedSimpArgs false

theorem noSel_of {o : Oper} (h : noSel o = true) (cs : Array SelectCase) (b : Bool) : o.op ≠ .select cs b := fun e => by
  unfold noSel at h
  rw [e] at h
  cases h
theorem want_of {all : List Oper} {t : List SV} {o : Oper} {b : Bool} (h : (gdTk all t o b).1 = (gdTk all t o b).2) (hw : wantS all t o = some b) {E : Nat → Ent} {a : Act} (ha : a.tmps = tv E t) : Region.wanted o (yielded all.toArray a.tmps) = b := by
  rw [ha]
  cases hg : o.guard with
  | none =>
    unfold wantS at hw
    rw [hg] at hw
    cases hw
    simp [Region.wanted, hg]
  | some p =>
    unfold gdTk at h
    rw [hg] at h
    exact Option.some.inj (congrFun h E)
/-- Items that a call leaves: those that it looks at, those that it changes, those that it makes. -/
def postC (R I J N : List It) : List (Nat × It) := ix 0 R ++ (ix R.length J ++ ix (R.length + I.length) N)
/-- A call of f: it looks at the items R, makes J of the items I, makes the items N, and hands back v. The items are numbered from 0 on: R, I, N. -/
structure Ct {P : Program} (S : Seat P) (C : World → Prop) (f : FuncId) (xs : List SV) (R I J N : List It) (v : SV) : Prop where
  out : LS S C (oCall f xs).sem (ix 0 (R ++ I)) (newAt (R.length + I.length) N.length) v (postC R I J N)
theorem Ct.rb {P : Program} {S : Seat P} {C : World → Prop} {f : FuncId} {xs : List SV} {R I J N : List It} {b c : Bool} (h : Ct S C f xs R I J N (vV (.bool b))) (e : b = c) : Ct S C f xs R I J N (vV (.bool c)) := e ▸ h
/-- Where a function's body is to lead. -/
def Bk {P : Program} (S : Seat P) (fn : Func) (w0 : World) (E0 : Nat → Ent) (R I J N : List It) (v : SV) : Exit → Act → World → Prop :=
  bodyPost P fn fun e w' => ∃ v', e = .returned v' ∧ ∃ E' : Nat → Ent, (∀ i, newAt (R.length + I.length) N.length i = false → E' i = E0 i) ∧ okP E' (postC R I J N) ∧ v' = v.den E' ∧ OkT w0 w' (denP E0 (ix 0 (R ++ I))) (denP E' (postC R I J N))
theorem xIn {P : Program} {S : Seat P} {C : World → Prop} {f : FuncId} {xs : List SV} {R I J N : List It} {v : SV} (fn : Func)
    (h : ∀ (E0 : Nat → Ent) (w0 : World), S.laid w0 → (∀ w', Mem S ⟨w0, (denP E0 (ix 0 (R ++ I))).map Blk.g⟩ [] w' → C w') → okP E0 (ix 0 (R ++ I)) → OK S ⟨w0, (denP E0 (ix 0 (R ++ I))).map Blk.g⟩ E0 (R ++ I).length (Bk S fn w0 E0 R I J N v) [frC (fn.body.getD .skip)] ⟨xs ++ List.replicate (fn.ntmps - xs.length) (vV undef), R ++ I⟩)
    (hf : P.funcs[f]? = some fn := by kernel_rfl) (hb : fn.body = some (fn.body.getD .skip) := by kernel_rfl) (he : (fun (args : Array Value) (w : World) => (callFunc f args).run P w) = fun args w => .ok (.enter f args) w := by kernel_rfl)
    (hx : (xs.all (SV.al (isLt (R ++ I).length)) && (R ++ I).all (It.al (isLt (R ++ I).length))) = true := by kernel_rfl) : Ct S C f xs R I J N v := by
  have he : ∀ (args : Array Value) (w : World), (callFunc f args).run P w = .ok (.enter f args) w := fun args w => congrFun (congrFun he args) w
  obtain ⟨hx, hm⟩ := Bool.and_eq_true_iff.1 hx
  refine ⟨fun E w hL hC T hok => ?_⟩
  show Fin P ((callFunc f (xs.map (SV.den E)).toArray).run P w) _
  rw [he]
  refine calls_of_wp hf hb ?_
  refine (h E w hL (fun w' M => hC w' M.old) hok).out E _ w (Nat.le_refl _) (fun _ _ => rfl) ⟨?_, rfl, ?_, ?_, ?_, hm⟩
  · apply Array.ext'
    simp [tv]
    exact .inr rfl
  · rw [dens_ix]
    exact Mem.start hL T
  · intro i x hx
    have key : ∀ (N : List It) (k j : Nat) (x : It), N[j]? = some x → (k + j, x) ∈ ix k N := by
      intro N
      induction N with
      | nil => intro k j x h; simp at h
      | cons y N ih =>
        intro k j x h
        cases j with
        | zero => simp at h; subst h; simp [ix]
        | succ j =>
          simp only [ix, List.mem_cons]
          right
          have := ih (k + 1) j x (by simpa using h)
          rwa [show k + 1 + j = k + (j + 1) by omega] at this
    have := hok _ (key _ 0 i x hx)
    simpa using this
  · rw [List.all_append, Bool.and_eq_true]
    exact ⟨hx, List.all_eq_true.2 fun y hy => by rw [List.eq_of_mem_replicate hy]; rfl⟩
end Go.Proofs.Ytlfekknonjlopaa
