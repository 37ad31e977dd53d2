/- A function's body, run. -/
import Derived.Test.YtlfekknonjlopaaX4
namespace Go.Proofs.Ytlfekknonjlopaa
open Go.RowKit
set_option linter.unusedVariables false
set_option linter.unusedSimpArgs false

/-- What is still to be done. k: 0: code c; 1: the end of block id; 2: of the operations all, the last ones (rest); 3: a round's end, where I is to hold. -/
structure Fr where
  k : Nat
  c : Code
  id : Nat
  all : List Oper
  rest : List Oper
  I : Act → World → Prop
def frC (c : Code) : Fr := ⟨0, c, 0, [], [], fun _ _ => True⟩
def frB (id : Nat) : Fr := ⟨1, .skip, id, [], [], fun _ _ => True⟩
def frO (all rest : List Oper) : Fr := ⟨2, .skip, 0, all, rest, fun _ _ => True⟩
def frL (I : Act → World → Prop) : Fr := ⟨3, .skip, 0, [], [], I⟩
def post (P : Program) (B : Exit → Act → World → Prop) : List Fr → Exit → Act → World → Prop
  | [] => B
  | f :: k => match f.k with
    | 0 => Exit.then (f.c.wp P (post P B k)) (post P B k)
    | 1 => Exit.inBlock f.id (post P B k)
    | 2 => Exit.then (fun a w => wpList P f.all.toArray (post P B k) f.rest a w) (post P B k)
    | _ => Exit.then f.I (post P B k)
def exitK (id : Nat) : List Fr → Option (List Fr)
  | [] => none
  | f :: k => match f.k with
    | 1 => if Nat.beq f.id id then some k else exitK id k
    | _ => exitK id k
theorem post_exit {P : Program} {B : Exit → Act → World → Prop} {id : Nat} {a : Act} {w : World} : ∀ {K K' : List Fr}, exitK id K = some K' → post P B K' .normal a w → post P B K (.exit id) a w
  | [], _, h, _ => by cases h
  | ⟨0, c, i, al, re, I⟩ :: k, _, h, hp => post_exit (K := k) h hp
  | ⟨1, c, i, al, re, I⟩ :: k, _, h, hp => by
    show (if id = i then post P B k .normal a w else post P B k (.exit id) a w)
    have h : (if Nat.beq i id then some k else exitK id k) = some _ := h
    split at h
    · rename_i e
      cases h
      rw [if_pos (nbeq.1 e).symm]
      exact hp
    · rename_i e
      rw [if_neg fun e2 => e (nbeq.2 e2.symm)]
      exact post_exit h hp
  | ⟨2, c, i, al, re, I⟩ :: k, _, h, hp => post_exit (K := k) h hp
  | ⟨n + 3, c, i, al, re, I⟩ :: k, _, h, hp => post_exit (K := k) h hp
theorem post_ret {P : Program} {B : Exit → Act → World → Prop} {a : Act} {w : World} (h : B .ret a w) : ∀ K : List Fr, post P B K .ret a w
  | [] => h
  | ⟨0, c, i, al, re, I⟩ :: k => post_ret h k
  | ⟨1, c, i, al, re, I⟩ :: k => post_ret h k
  | ⟨2, c, i, al, re, I⟩ :: k => post_ret h k
  | ⟨n + 3, c, i, al, re, I⟩ :: k => post_ret h k
theorem post_panic {P : Program} {B : Exit → Act → World → Prop} {a : Act} {w : World} {ch : List PanicEntry} (h : B (.panic ch) a w) : ∀ K : List Fr, post P B K (.panic ch) a w
  | [] => h
  | ⟨0, c, i, al, re, I⟩ :: k => post_panic h k
  | ⟨1, c, i, al, re, I⟩ :: k => post_panic h k
  | ⟨2, c, i, al, re, I⟩ :: k => post_panic h k
  | ⟨n + 3, c, i, al, re, I⟩ :: k => post_panic h k
/-- Slots and memory. -/
structure St where
  t : List SV
  m : List It
def tv (E : Nat → Ent) (t : List SV) : Array Value := (t.map (SV.den E)).toArray
def evS (t : List SV) : Operand → SV
  | .tmp i => (t[i]?).getD (vV undef)
  | .const v => vV v
  | .global g => vV (.pointer (some ⟨g, 0, none⟩))
  | .func f => vF (.func f) [] []
theorem ev_den {E : Nat → Ent} {t : List SV} {a : Act} (h : a.tmps = tv E t) (x : Operand) : a.eval x = (evS t x).den E := by
  cases x with
  | tmp i =>
    simp only [Act.eval, evS, h, tv]
    rw [Array.getD_eq_getD_getElem?]
    simp only [List.getElem?_toArray, List.getElem?_map]
    cases t[i]? <;> rfl
  | const v => rfl
  | global g => rfl
  | func f => rfl
def putS (t : List SV) : Option Tmp → SV → List SV
  | none, _ => t
  | some d, v => t.set d v
theorem tv_put (E : Nat → Ent) (t : List SV) (d : Option Tmp) (v : SV) (a : Act) (h : a.tmps = tv E t) : (a.put d (v.den E)).tmps = tv E (putS t d v) := by
  cases d with
  | none => exact h
  | some d => simp [Act.put, putS, tv, h]
theorem put_defers (a : Act) (d : Option Tmp) (v : Value) : (a.put d v).defers = a.defers := by cases d <;> rfl
/-- Where a run stands. -/
structure Hold {P : Program} (S : Seat P) (c : Ctx) (E : Nat → Ent) (s : St) (a : Act) (w : World) : Prop where
  tm : a.tmps = tv E s.t
  df : a.defers = []
  mem : Mem S c (dens E 0 s.m) w
  ok : oks E s.m
  wt : s.t.all (SV.al (isLt s.m.length)) = true
  wm : s.m.all (It.al (isLt s.m.length)) = true
/-- From here on all goes well: what is still to be done (K), from these slots and this memory (s), whatever the first n numbers stand for (E0), leads to B. -/
structure OK {P : Program} (S : Seat P) (c : Ctx) (E0 : Nat → Ent) (n : Nat) (B : Exit → Act → World → Prop) (K : List Fr) (s : St) : Prop where
  out : ∀ E a w, n ≤ s.m.length → (∀ i, i < n → E i = E0 i) → Hold S c E s a w → post P B K .normal a w
/-- A run: how many operations were done; the words on those to come, by their numbers; what is to be done; slots and memory. -/
structure Ms {P : Program} (S : Seat P) (C : World → Prop) where
  n : Nat
  ds : List (Nat × Dr S C)
  K : List Fr
  s : St
def wantS (all : List Oper) (t : List SV) (o : Oper) : Option Bool := match o.guard with
  | none => some true
  | some (j, b) => match (all[j]?).bind (·.dst) with
    | none => some false
    | some d => match (t[d]?).getD (vV undef) with
      | s => match s.k with
        | 0 => match s.x with
          | .bool x => some (x == b)
          | .tuple _ => some false
          | _ => none
        | _ => none
def gdTk (all : List Oper) (t : List SV) (o : Oper) (b : Bool) : ((Nat → Ent) → Option Bool) × ((Nat → Ent) → Option Bool) := match o.guard with
  | none => (fun _ => none, fun _ => none)
  | some _ => (fun E => some (Region.wanted o (yielded all.toArray (tv E t))), fun _ => some b)
def dirOf {P : Program} {S : Seat P} {C : World → Prop} (n : Nat) : List (Nat × Dr S C) → Option (Dr S C)
  | [] => none
  | (j, d) :: _ => if Nat.beq j n then some d else none
def dirNx {P : Program} {S : Seat P} {C : World → Prop} (n : Nat) : List (Nat × Dr S C) → List (Nat × Dr S C)
  | [] => []
  | (j, d) :: l => if Nat.beq j n then l else (j, d) :: l
def noSel (o : Oper) : Bool := match o.op with
  | .select _ _ => false
  | _ => true
theorem asBoolS_den {s : SV} {b : Bool} (h : asBoolS s = some b) (E : Nat → Ent) : s.den E = .bool b := by
  unfold asBoolS at h
  split at h
  · rename_i hk
    split at h
    · rename_i x hx
      cases h
      rw [den0 hk, hx]
    · cases h
  · cases h
theorem all_set' {f : SV → Bool} {t : List SV} {i : Nat} {x : SV} (h : t.all f = true) (hx : f x = true) : (t.set i x).all f = true :=
  List.all_eq_true.2 fun y hy => (List.mem_or_eq_of_mem_set hy).elim (List.all_eq_true.1 h y) fun e => e ▸ hx
theorem all_putS {f : SV → Bool} {t : List SV} {d : Option Tmp} {x : SV} (h : t.all f = true) (hx : f x = true) : (putS t d x).all f = true := by
  cases d with
  | none => exact h
  | some d => exact all_set' h hx
theorem lt_imp {n m : Nat} (h : n ≤ m) (i : Nat) (hi : isLt n i = true) : isLt m i = true := by
  simp only [isLt, Nat.blt_eq] at *
  omega
theorem tv_congr {E E' : Nat → Ent} {n : Nat} (h : ∀ i, i < n → E' i = E i) {t : List SV} (ht : t.all (SV.al (isLt n)) = true) : tv E' t = tv E t := by
  unfold tv
  rw [map_all (fun x hx => SV.den_congr (E := E') (E' := E) (p := isLt n) (fun i hi => h i (by simpa [isLt, Nat.blt_eq] using hi)) x hx) ht]
/-- One operation, done. -/
theorem op_hold {P : Program} {S : Seat P} {c : Ctx} {E : Nat → Ent} {s : St} {a : Act} {w : World} {o : Oper} {d : Option (Dr S fun w => Mem S c [] w)} {rs : Rs} {x y : Tk} (H : Hold S c E s a w) (h : opS S (fun w => Mem S c [] w) (evS s.t) s.m o d = some (rs, x, y)) (e : { x with b := fun _ => none } = { y with b := fun _ => none })
    (hv : (rs.v.al (isLt (s.m.length + rs.N.length)) && (rs.W.all (fun p => p.2.al (isLt (s.m.length + rs.N.length))) && rs.N.all (It.al (isLt (s.m.length + rs.N.length))))) = true) (hs : ∀ cs b, o.op ≠ .select cs b) :
    Fin P ((execOp a.eval o).run P w) fun v w' => ∃ E' : Nat → Ent, (∀ i, i < s.m.length → E' i = E i) ∧ Hold S c E' ⟨putS s.t o.dst rs.v, setsM s.m rs.W ++ rs.N⟩ (a.put o.dst v) w' := by
  have hb : x.b = fun _ => none := by
    have : ∀ {d' : Option (Dr S fun w => Mem S c [] w)} {r : Rs} {x y : Tk}, opS S (fun w => Mem S c [] w) (evS s.t) s.m o d' = some (r, x, y) → x.b = (fun _ => none) ∧ y.b = fun _ => none := by
      intro d' r x y h
      unfold opS at h
      repeat' split at h
      all_goals first
        | (cases h; done)
        | (simp only [Option.some.injEq, Prod.mk.injEq] at h; obtain ⟨-, rfl, rfl⟩ := h; exact ⟨rfl, rfl⟩)
        | (simp only at h; split at h <;> first | (cases h; done) | (simp only [Option.some.injEq, Prod.mk.injEq] at h; obtain ⟨-, rfl, rfl⟩ := h; exact ⟨rfl, rfl⟩))
    exact (this h).1
  have hb2 : y.b = fun _ => none := by
    have : ∀ {d' : Option (Dr S fun w => Mem S c [] w)} {r : Rs} {x y : Tk}, opS S (fun w => Mem S c [] w) (evS s.t) s.m o d' = some (r, x, y) → x.b = (fun _ => none) ∧ y.b = fun _ => none := by
      intro d' r x y h
      unfold opS at h
      repeat' split at h
      all_goals first
        | (cases h; done)
        | (simp only [Option.some.injEq, Prod.mk.injEq] at h; obtain ⟨-, rfl, rfl⟩ := h; exact ⟨rfl, rfl⟩)
        | (simp only at h; split at h <;> first | (cases h; done) | (simp only [Option.some.injEq, Prod.mk.injEq] at h; obtain ⟨-, rfl, rfl⟩ := h; exact ⟨rfl, rfl⟩))
    exact (this h).2
  have e' : x = y := by
    have e1 : ({ x with b := fun _ => none } : Tk) = x := by rw [← hb]
    have e2 : ({ y with b := fun _ => none } : Tk) = y := by rw [← hb2]
    rw [e1, e2] at e
    exact e
  obtain ⟨hin, hl⟩ := opS_ok h e'
  have hq : execOp a.eval o = execOp (fun x => (evS s.t x).den E) o := execOp_congr o hs fun x _ => ev_den H.tm x
  have h2 := ls_all hin hl H.mem H.ok H.wm
  rw [hq]
  refine Fin.mono h2 ?_
  rintro v w' ⟨E', hE, rfl, hM, hok⟩
  simp only [Bool.and_eq_true] at hv
  have hlen : (setsM s.m rs.W ++ rs.N).length = s.m.length + rs.N.length := by rw [List.length_append, setsM_len]
  refine ⟨E', hE, tv_put E' _ _ _ _ (by rw [tv_congr hE H.wt]; exact H.tm), by rw [put_defers]; exact H.df, hM, hok, ?_, ?_⟩
  · simp only [hlen]
    exact all_putS (all_imp (SV.al_imp (lt_imp (by omega))) H.wt) hv.1
  · simp only [hlen]
    rw [List.all_append, Bool.and_eq_true]
    exact ⟨all_setsM _ (all_imp (It.al_imp (lt_imp (by omega))) H.wm) hv.2.1, hv.2.2⟩
end Go.Proofs.Ytlfekknonjlopaa
