/- Calls that end by a panic. -/
import Derived.Test.YtlfekknonjlopaaXC
namespace Go.Proofs.Ytlfekknonjlopaa
open Go.RowKit
set_option linter.unusedVariables false
set_option linter.unusedSimpArgs false

def pn (v : Value) : List PanicEntry := [{ v, recovered := false }]
/-- An operation's run that ends by a panic. -/
def FinP (P : Program) (r : Result Next) (K : Value → World → Prop) : Prop := match r with
  | .halt (.panic v) w' => K v w'
  | .ok (.enter f xs) w' => Calls P f xs w' fun e w'' => ∃ v, e = .panicked (pn v) ∧ K v w''
  | _ => False
theorem FinP.mono {P : Program} {r : Result Next} {K K' : Value → World → Prop} (h : FinP P r K) (hk : ∀ v w, K v w → K' v w) : FinP P r K' := by
  unfold FinP at *
  split <;> simp_all only
  exact Calls.mono h fun e w ⟨v, he, hv⟩ => ⟨v, he, hk _ _ hv⟩
theorem FinP.wp {P : Program} {o : Oper} {a : Act} {w : World} {K : Act → World → Prop} {Q : Exit → Act → World → Prop} (h : FinP P ((execOp a.eval o).run P w) fun v w' => Q (.panic (pn v)) a w') : o.wp P a w K Q := by
  unfold Oper.wp
  generalize (execOp a.eval o).run P w = r at *
  cases r with
  | halt x w' =>
    cases x <;> first | exact h.elim | exact h
  | ok n w' =>
    cases n <;> first | exact h.elim | skip
    case enter f xs => exact Calls.mono h fun e w'' ⟨v, he, hk⟩ => by subst he; exact hk
/-- A call of f ends by a panic with v; the items I may have been changed. -/
structure CtP {P : Program} (S : Seat P) (C : World → Prop) (f : FuncId) (xs : List SV) (I : List It) (v : SV) : Prop where
  out : ∀ (E : Nat → Ent) (w : World), S.laid w → (∀ w', Grw w w' ((denP E (ix 0 I)).map Blk.g) → C w') → There S w (denP E (ix 0 I)) → okP E (ix 0 I) →
    FinP P (((oCall f xs).sem E).run P w) fun r w' => r = v.den E ∧ OkT w w' (denP E (ix 0 I)) []
/-- Where a function's body is to lead that panics. -/
def BkP {P : Program} (S : Seat P) (fn : Func) (w0 : World) (E0 : Nat → Ent) (I : List It) (v : SV) : Exit → Act → World → Prop :=
  bodyPost P fn fun e w' => ∃ v', e = .panicked (pn v') ∧ v' = v.den E0 ∧ OkT w0 w' (denP E0 (ix 0 I)) []
theorem xInP {P : Program} {S : Seat P} {C : World → Prop} {f : FuncId} {xs : List SV} {I : List It} {v : SV} (fn : Func)
    (h : ∀ (E0 : Nat → Ent) (w0 : World), S.laid w0 → (∀ w', Mem S ⟨w0, (denP E0 (ix 0 I)).map Blk.g⟩ [] w' → C w') → okP E0 (ix 0 I) → OK S ⟨w0, (denP E0 (ix 0 I)).map Blk.g⟩ E0 I.length (BkP S fn w0 E0 I v) [frC (fn.body.getD .skip)] ⟨xs ++ List.replicate (fn.ntmps - xs.length) (vV undef), I⟩)
    (hf : P.funcs[f]? = some fn := by kernel_rfl) (hb : fn.body = some (fn.body.getD .skip) := by kernel_rfl) (he : (fun (args : Array Value) (w : World) => (callFunc f args).run P w) = fun args w => .ok (.enter f args) w := by kernel_rfl)
    (hx : (xs.all (SV.al (isLt I.length)) && I.all (It.al (isLt I.length))) = true := by kernel_rfl) : CtP S C f xs I v := by
  have he : ∀ (args : Array Value) (w : World), (callFunc f args).run P w = .ok (.enter f args) w := fun args w => congrFun (congrFun he args) w
  obtain ⟨hx, hm⟩ := Bool.and_eq_true_iff.1 hx
  refine ⟨fun E w hL hC T hok => ?_⟩
  show FinP P ((callFunc f (xs.map (SV.den E)).toArray).run P w) _
  rw [he]
  refine calls_of_wp hf hb ?_
  refine (h E w hL (fun w' M => hC w' M.old) hok).out E _ w (Nat.le_refl _) (fun _ _ => rfl) ⟨?_, rfl, ?_, ?_, ?_, hm⟩
  · apply Array.ext'
    simp [tv]
    exact .inr rfl
  · rw [dens_ix]
    exact Mem.start hL T
  · intro i x hx
    have key : ∀ (N : List It) (k j : Nat) (x : It), N[j]? = some x → (k + j, x) ∈ ix k N := by
      intro N
      induction N with
      | nil => intro k j x h; simp at h
      | cons y N ih =>
        intro k j x h
        cases j with
        | zero => simp at h; subst h; simp [ix]
        | succ j =>
          simp only [ix, List.mem_cons]
          right
          have := ih (k + 1) j x (by simpa using h)
          rwa [show k + 1 + j = k + (j + 1) by omega] at this
    have := hok _ (key _ 0 i x hx)
    simpa using this
  · rw [List.all_append, Bool.and_eq_true]
    exact ⟨hx, List.all_eq_true.2 fun y hy => by rw [List.eq_of_mem_replicate hy]; rfl⟩
/-- The operation at which a run stands, if it is wanted. -/
def hdO (K : List Fr) (t : List SV) : Option Oper := match K with
  | f :: _ => match f.k with
    | 2 => match f.rest with
      | o :: _ => match wantS f.all t o with
        | some true => match noSel o with
          | true => some o
          | false => none
        | _ => none
      | [] => none
    | _ => none
  | [] => none
def hdG (K : List Fr) (t : List SV) : ((Nat → Ent) → Option Bool) × ((Nat → Ent) → Option Bool) := match K with
  | f :: _ => match f.rest with
    | o :: _ => gdTk f.all t o true
    | [] => (fun _ => none, fun _ => none)
  | [] => (fun _ => none, fun _ => none)
/-- It panics, and so does all. -/
theorem pan_ok {P : Program} {S : Seat P} {c : Ctx} {E0 : Nat → Ent} {n : Nat} {B : Exit → Act → World → Prop} {K : List Fr} {s : St} {o : Oper} (ho : hdO K s.t = some o) (hg : (hdG K s.t).1 = (hdG K s.t).2)
    (h : ∀ E a w, n ≤ s.m.length → (∀ i, i < n → E i = E0 i) → Hold S c E s a w → FinP P ((execOp (fun x => (evS s.t x).den E) o).run P w) fun v w' => B (.panic (pn v)) a w') : OK S c E0 n B K s := by
  refine ⟨fun E a w hn hE H => ?_⟩
  unfold hdO at ho
  split at ho
  · rename_i f k
    split at ho
    · rename_i hk
      split at ho
      · rename_i o' r hr
        split at ho
        · rename_i hw
          split at ho
          · rename_i hs
            cases ho
            obtain ⟨fk, fc, fi, fa, fr, fI⟩ := f
            simp only at hk hr hw
            subst hk
            subst hr
            have hwd := want_of (all := fa) (t := s.t) (o := o) (b := true) hg hw H.tm
            show wpList P fa.toArray (post P B k) (o :: r) a w
            unfold wpList
            rw [if_pos hwd]
            left
            refine FinP.wp ?_
            have hq : execOp a.eval o = execOp (fun x => (evS s.t x).den E) o := execOp_congr o (noSel_of hs) fun x _ => ev_den H.tm x
            rw [hq]
            exact (h E a w hn hE H).mono fun v w' hb => post_panic hb k
          · cases ho
        · cases ho
      · cases ho
    · cases ho
  · cases ho
theorem pan_end {P : Program} {S : Seat P} {fn : Func} {w0 : World} {E0 E : Nat → Ent} {I : List It} {v : SV} {s : St} {a : Act} {w w' : World} {T : List Blk} {L : List Blk} (hv : v.al (isLt 0) = true) (H : Hold S ⟨w0, (denP E0 (ix 0 I)).map Blk.g⟩ E s a w) (hp : (dens E 0 s.m).Perm (T ++ L)) (h : OkT w w' T []) : BkP S fn w0 E0 I v (.panic (pn (v.den E))) a w' := by
  refine ⟨H.df, _, rfl, v.den_congr (p := isLt 0) (fun i hi => by simp [isLt, Nat.blt_eq] at hi) hv, ?_⟩
  exact (((H.mem.perm hp).step h).drop (List.nil_sublist _)).okT
/-- A call that panics; mm: where its items lie. -/
theorem xPc {P : Program} {S : Seat P} {fn : Func} {w0 : World} {E0 : Nat → Ent} {n : Nat} {K : List Fr} {s : St} {f : FuncId} {xs : List SV} {I I0 : List It} {v : SV} (h : CtP S (fun w => Mem S ⟨w0, (denP E0 (ix 0 I0)).map Blk.g⟩ [] w) f xs I v) (mm : List Nat)
    (ho : (hdO K s.t).bind (vop (evS s.t)) = some (oCall f (xs.map (SV.ren fun i => (mm[i]?).getD 0))) := by kernel_rfl)
    (hg : (hdG K s.t).1 = (hdG K s.t).2 := by kernel_rfl)
    (hi : (Nat.beq mm.length I.length && (inM s.m mm && v.al (isLt 0))) = true := by kernel_rfl)
    (hm : (I.map (It.ren fun i => (mm[i]?).getD 0)) = (lk s.m mm).map Prod.snd := by kernel_rfl) : OK S ⟨w0, (denP E0 (ix 0 I0)).map Blk.g⟩ E0 n (BkP S fn w0 E0 I0 v) K s := by
  cases hq : hdO K s.t with
  | none => rw [hq] at ho; cases ho
  | some o =>
    rw [hq] at ho
    have ho : vop (evS s.t) o = some (oCall f (xs.map (SV.ren fun i => (mm[i]?).getD 0))) := ho
    simp only [Bool.and_eq_true, nbeq] at hi
    obtain ⟨hlen, hin, hv⟩ := hi
    refine pan_ok hq hg fun E a w hn hE H => ?_
    rw [vop_run ho]
    have hpart := dens_part E _ _ hin
    have hfst : ∀ (J : List It) (l : List Nat) (b : Nat), l.length = J.length → (ix b J).map (fun p => (l[p.1 - b]?).getD 0) = l := by
      intro J
      induction J with
      | nil => intro l b hl; cases l with | nil => rfl | cons _ _ => cases hl
      | cons x J ih =>
        intro l b hl
        cases l with
        | nil => cases hl
        | cons y l =>
          simp only [ix, List.map_cons, Nat.sub_self, List.getElem?_cons_zero, Option.getD_some, List.cons.injEq, true_and]
          have := ih l (b + 1) (by simpa using hl)
          refine Eq.trans (List.map_congr_left fun p hp => ?_) this
          have h1 := (ix_fst _ _ _ hp).1
          rw [show p.1 - b = (p.1 - (b + 1)) + 1 by omega, List.getElem?_cons_succ]
    have hsnd : ∀ (J : List It) (b : Nat), (ix b J).map Prod.snd = J := by
      intro J
      induction J with
      | nil => intro b; rfl
      | cons x J ih => intro b; simp [ix, ih]
    have hl : (ix 0 I).map (rnP fun i => (mm[i]?).getD 0) = lk s.m mm := by
      refine pair_ext ?_ ?_
      · rw [lk_fst, List.map_map]
        exact hfst I mm 0 hlen
      · rw [← hm, List.map_map]
        have : (ix 0 I).map (Prod.snd ∘ rnP fun i => (mm[i]?).getD 0) = ((ix 0 I).map Prod.snd).map (It.ren fun i => (mm[i]?).getD 0) := by
          rw [List.map_map]
          rfl
        rw [this, hsnd]
    have hd : denP (fun i => E ((mm[i]?).getD 0)) (ix 0 I) = denP E (lk s.m mm) := by rw [← hl, denP_ren]
    have M1 := (H.mem.perm hpart).drop (List.sublist_append_left _ _)
    have key := h.out (fun i => E ((mm[i]?).getD 0)) w H.mem.laid (fun w' hgw => ?_) ?_ ?_
    · have e1 : ((oCall f xs).sem fun i => E ((mm[i]?).getD 0)) = (oCall f (xs.map (SV.ren fun i => (mm[i]?).getD 0))).sem E := by
        simp only [VO.sem, oCall, List.map_map]
        refine congrArg _ (List.map_congr_left fun x _ => ?_)
        exact (x.den_ren (f := fun i => (mm[i]?).getD 0) (E := E)).symm
      rw [e1] at key
      refine key.mono ?_
      rintro r w' ⟨rfl, hT⟩
      rw [hd] at hT
      have e2 : v.den (fun i => E ((mm[i]?).getD 0)) = v.den E := v.den_congr (p := isLt 0) (fun i hi => by simp [isLt, Nat.blt_eq] at hi) hv
      rw [e2]
      exact pan_end hv H hpart hT
    · rw [hd] at hgw
      refine ⟨H.mem.old.trans hgw fun x hx => ?_, by simp, by simp, by simp, H.mem.lay, H.mem.ne⟩
      obtain ⟨b, hb, rfl⟩ := List.mem_map.1 hx
      exact M1.ge b hb
    · rw [hd]
      exact M1.there
    · have : okP E (lk s.m mm) := by
        intro p hp
        obtain ⟨i, hi2, rfl⟩ := List.mem_map.1 hp
        simp only [inM, Bool.and_eq_true, List.all_eq_true] at hin
        have hil : i < s.m.length := by simpa [isLt, Nat.blt_eq] using hin.1 i hi2
        simp only [List.getElem?_eq_getElem hil, Option.getD_some]
        exact H.ok i _ (List.getElem?_eq_getElem hil)
      rw [← hl, okP_ren] at this
      exact this
/-- A panic. -/
theorem xPan {P : Program} {S : Seat P} {fn : Func} {w0 : World} {E0 : Nat → Ent} {n : Nat} {K : List Fr} {s : St} {I0 : List It} {v : SV}
    (ho : (hdO K s.t).bind (fun o => match o.op with | .panic x => some (evS s.t x) | _ => none) = some v := by kernel_rfl)
    (hg : (hdG K s.t).1 = (hdG K s.t).2 := by kernel_rfl)
    (hi : v.al (isLt 0) = true := by kernel_rfl)
    (hr : (fun (E : Nat → Ent) (w : World) => (Instr.panic (v.den E)).run P w) = (fun (E : Nat → Ent) (w : World) => .halt (.panic (v.den E)) w) := by kernel_rfl) : OK S ⟨w0, (denP E0 (ix 0 I0)).map Blk.g⟩ E0 n (BkP S fn w0 E0 I0 v) K s := by
  cases hq : hdO K s.t with
  | none => rw [hq] at ho; cases ho
  | some o =>
    rw [hq] at ho
    refine pan_ok hq hg fun E a w hn hE H => ?_
    obtain ⟨dst, op, type, pos, after, guard⟩ := o
    cases op <;> first | (cases ho; done) | skip
    case panic x =>
      have ho : some (evS s.t x) = some v := ho
      cases ho
      have e := congrFun (congrFun hr E) w
      have e2 : (execOp (fun y => (evS s.t y).den E) ⟨dst, .panic x, type, pos, after, guard⟩).run P w = .halt (.panic ((evS s.t x).den E)) w := by
        show ((do return Next.value (← Instr.panic ((evS s.t x).den E)) : Sem Next)).run P w = _
        simp [e]
      rw [e2]
      exact pan_end (T := []) (L := dens E 0 s.m) hi H (List.Perm.refl _) ⟨grw_refl _ _, by simp, by simp, by simp⟩
end Go.Proofs.Ytlfekknonjlopaa
