/- Part 4 of the walks and facts. -/
import Derived.Test.YtbdgncndhnnjoaaGreatDoorRk3
import Derived.Deep.RegionWith
import Derived.Defers
import Derived.Laws.Concat
import Derived.Laws.Entries
import Derived.Laws.Pointers
import Derived.Laws.RangeAny
import Derived.Laws.Runes
import Derived.Laws.Slices
import Derived.Laws.Strings
import Derived.Laws.Strings2
import Derived.Laws.Tables
import Derived.Lib.MinMax
import Derived.Lib.OthersKept
import Derived.Lib.SliceRun
import Derived.MapKept
import Derived.Recover
import Derived.Scope
import Derived.Tactics
import Derived.Tactics2
namespace Go.Proofs.YtbdgncndhnnjoaaGreatDoor
open Go.RowKit
set_option linter.unusedVariables false
set_option linter.unusedSimpArgs false
structure Fr where
 k : Nat
 c : Code
 id : Nat
 all : List Oper
 rest : List Oper
 I : Act → World → Prop
def frC (c : Code) : Fr := ⟨0, c, 0, [], [], fun _ _ => True⟩
def frB (id : Nat) : Fr := ⟨1, .skip, id, [], [], fun _ _ => True⟩
def frO (all rest : List Oper) : Fr := ⟨2, .skip, 0, all, rest, fun _ _ => True⟩
def frL (I : Act → World → Prop) : Fr := ⟨3, .skip, 0, [], [], I⟩
def post (P : Program) (B : Exit → Act → World → Prop) : List Fr → Exit → Act → World → Prop
 | [] => B
 | f :: k => match f.k with
  | 0 => Exit.then (f.c.wp P (post P B k)) (post P B k)
  | 1 => Exit.inBlock f.id (post P B k)
  | 2 => Exit.then (fun a w => wpList P f.all.toArray (post P B k) f.rest a w) (post P B k)
  | _ => Exit.then f.I (post P B k)
def exitK (id : Nat) : List Fr → Option (List Fr)
 | [] => none
 | f :: k => match f.k with
  | 1 => if Nat.beq f.id id then some k else exitK id k
  | _ => exitK id k
theorem post_exit {P : Program} {B : Exit → Act → World → Prop} {id : Nat} {a : Act} {w : World} : ∀ {K K' : List Fr}, exitK id K = some K' → post P B K' .normal a w → post P B K (.exit id) a w
 | [], _, h, _ => by cases h
 | ⟨0, c, i, al, re, I⟩ :: k, _, h, hp => post_exit (K := k) h hp
 | ⟨1, c, i, al, re, I⟩ :: k, _, h, hp => by
  show (if id = i then post P B k .normal a w else post P B k (.exit id) a w)
  have h : (if Nat.beq i id then some k else exitK id k) = some _ := h
  split at h
  ·rename_i e
   cases h
   rw [if_pos (nbeq.1 e).symm]
   exact hp
  ·rename_i e
   rw [if_neg fun e2 => e (nbeq.2 e2.symm)]
   exact post_exit h hp
 | ⟨2, c, i, al, re, I⟩ :: k, _, h, hp => post_exit (K := k) h hp
 | ⟨n + 3, c, i, al, re, I⟩ :: k, _, h, hp => post_exit (K := k) h hp
theorem post_ret {P : Program} {B : Exit → Act → World → Prop} {a : Act} {w : World} (h : B .ret a w) : ∀ K : List Fr, post P B K .ret a w
 | [] => h
 | ⟨0, c, i, al, re, I⟩ :: k => post_ret h k
 | ⟨1, c, i, al, re, I⟩ :: k => post_ret h k
 | ⟨2, c, i, al, re, I⟩ :: k => post_ret h k
 | ⟨n + 3, c, i, al, re, I⟩ :: k => post_ret h k
theorem post_panic {P : Program} {B : Exit → Act → World → Prop} {a : Act} {w : World} {ch : List PanicEntry} (h : B (.panic ch) a w) : ∀ K : List Fr, post P B K (.panic ch) a w
 | [] => h
 | ⟨0, c, i, al, re, I⟩ :: k => post_panic h k
 | ⟨1, c, i, al, re, I⟩ :: k => post_panic h k
 | ⟨2, c, i, al, re, I⟩ :: k => post_panic h k
 | ⟨n + 3, c, i, al, re, I⟩ :: k => post_panic h k
structure St where
 t : List SV
 m : List It
def tv (E : Nat → Ent) (t : List SV) : Array Value := (t.map (SV.den E)).toArray
def evS (t : List SV) : Operand → SV
 | .tmp i => (t[i]?).getD (vV undef)
 | .const v => vV v
 | .global g => vV (.pointer (some ⟨g, 0, none⟩))
 | .func f => vF (.func f) [] []
theorem ev_den {E : Nat → Ent} {t : List SV} {a : Act} (h : a.tmps = tv E t) (x : Operand) : a.eval x = (evS t x).den E := by
 cases x with
 | tmp i =>
  simp only [Act.eval, evS, h, tv]
  rw [Array.getD_eq_getD_getElem?]
  simp only [List.getElem?_toArray, List.getElem?_map]
  cases t[i]? <;> rfl
 | const v => rfl
 | global g => rfl
 | func f => rfl
def putS (t : List SV) : Option Tmp → SV → List SV
 | none, _ => t
 | some d, v => t.set d v
theorem tv_put (E : Nat → Ent) (t : List SV) (d : Option Tmp) (v : SV) (a : Act) (h : a.tmps = tv E t) : (a.put d (v.den E)).tmps = tv E (putS t d v) := by
 cases d with
 | none => exact h
 | some d => simp [Act.put, putS, tv, h]
theorem put_defers (a : Act) (d : Option Tmp) (v : Value) : (a.put d v).defers = a.defers := by cases d <;> rfl
structure Hold {P : Program} (S : Seat P) (c : Ctx) (E : Nat → Ent) (s : St) (a : Act) (w : World) : Prop where
 tm : a.tmps = tv E s.t
 df : a.defers = []
 mem : Mem S c (dens E 0 s.m) w
 ok : oks E s.m
 wt : s.t.all (SV.al (isLt s.m.length)) = true
 wm : s.m.all (It.al (isLt s.m.length)) = true
structure OK {P : Program} (S : Seat P) (c : Ctx) (E0 : Nat → Ent) (n : Nat) (B : Exit → Act → World → Prop) (K : List Fr) (s : St) : Prop where
 out : ∀ E a w, n ≤ s.m.length → (∀ i, i < n → E i = E0 i) → Hold S c E s a w → post P B K .normal a w
structure Ms {P : Program} (S : Seat P) (C : World → Prop) where
 n : Nat
 ds : List (Nat × Dr S C)
 K : List Fr
 s : St
def wantS (all : List Oper) (t : List SV) (o : Oper) : Option Bool := match o.guard with
 | none => some true
 | some (j, b) => match (all[j]?).bind (·.dst) with
  | none => some false
  | some d => match (t[d]?).getD (vV undef) with
   | s => match s.k with
    | 0 => match s.x with
     | .bool x => some (x == b)
     | .tuple _ => some false
     | _ => none
    | _ => none
def gdTk (all : List Oper) (t : List SV) (o : Oper) (b : Bool) : ((Nat → Ent) → Option Bool) × ((Nat → Ent) → Option Bool) := match o.guard with
 | none => (fun _ => none, fun _ => none)
 | some _ => (fun E => some (Region.wanted o (yielded all.toArray (tv E t))), fun _ => some b)
def dirOf {P : Program} {S : Seat P} {C : World → Prop} (n : Nat) : List (Nat × Dr S C) → Option (Dr S C)
 | [] => none
 | (j, d) :: _ => if Nat.beq j n then some d else none
def dirNx {P : Program} {S : Seat P} {C : World → Prop} (n : Nat) : List (Nat × Dr S C) → List (Nat × Dr S C)
 | [] => []
 | (j, d) :: l => if Nat.beq j n then l else (j, d) :: l
def noSel (o : Oper) : Bool := match o.op with
 | .select _ _ => false
 | _ => true
theorem asBoolS_den {s : SV} {b : Bool} (h : asBoolS s = some b) (E : Nat → Ent) : s.den E = .bool b := by
 unfold asBoolS at h
 split at h
 ·rename_i hk
  split at h
  ·rename_i x hx
   cases h
   rw [den0 hk, hx]
  ·cases h
 ·cases h
theorem all_set' {f : SV → Bool} {t : List SV} {i : Nat} {x : SV} (h : t.all f = true) (hx : f x = true) : (t.set i x).all f = true :=
 List.all_eq_true.2 fun y hy => (List.mem_or_eq_of_mem_set hy).elim (List.all_eq_true.1 h y) fun e => e ▸ hx
theorem all_putS {f : SV → Bool} {t : List SV} {d : Option Tmp} {x : SV} (h : t.all f = true) (hx : f x = true) : (putS t d x).all f = true := by
 cases d with
 | none => exact h
 | some d => exact all_set' h hx
theorem lt_imp {n m : Nat} (h : n ≤ m) (i : Nat) (hi : isLt n i = true) : isLt m i = true := by
 simp only [isLt, Nat.blt_eq] at *
 omega
theorem tv_congr {E E' : Nat → Ent} {n : Nat} (h : ∀ i, i < n → E' i = E i) {t : List SV} (ht : t.all (SV.al (isLt n)) = true) : tv E' t = tv E t := by
 unfold tv
 rw [map_all (fun x hx => SV.den_congr (E := E') (E' := E) (p := isLt n) (fun i hi => h i (by simpa [isLt, Nat.blt_eq] using hi)) x hx) ht]
theorem op_hold {P : Program} {S : Seat P} {c : Ctx} {E : Nat → Ent} {s : St} {a : Act} {w : World} {o : Oper} {d : Option (Dr S fun w => Mem S c [] w)} {rs : Rs} {x y : Tk} (H : Hold S c E s a w) (h : opS S (fun w => Mem S c [] w) (evS s.t) s.m o d = some (rs, x, y)) (e : { x with b := fun _ => none } = { y with b := fun _ => none })
  (hv : (rs.v.al (isLt (s.m.length + rs.N.length)) && (rs.W.all (fun p => p.2.al (isLt (s.m.length + rs.N.length))) && rs.N.all (It.al (isLt (s.m.length + rs.N.length))))) = true) (hs : ∀ cs b, o.op ≠ .select cs b) :
  Fin P ((execOp a.eval o).run P w) fun v w' => ∃ E' : Nat → Ent, (∀ i, i < s.m.length → E' i = E i) ∧ Hold S c E' ⟨putS s.t o.dst rs.v, setsM s.m rs.W ++ rs.N⟩ (a.put o.dst v) w' := by
 have hb : x.b = fun _ => none := by
  have : ∀ {d' : Option (Dr S fun w => Mem S c [] w)} {r : Rs} {x y : Tk}, opS S (fun w => Mem S c [] w) (evS s.t) s.m o d' = some (r, x, y) → x.b = (fun _ => none) ∧ y.b = fun _ => none := by
   intro d' r x y h
   unfold opS at h
   repeat' split at h
   all_goals first
    | (cases h; done)
    | (simp only [Option.some.injEq, Prod.mk.injEq] at h; obtain ⟨-, rfl, rfl⟩ := h; exact ⟨rfl, rfl⟩)
    | (simp only at h; split at h <;> first | (cases h; done) | (simp only [Option.some.injEq, Prod.mk.injEq] at h; obtain ⟨-, rfl, rfl⟩ := h; exact ⟨rfl, rfl⟩))
  exact (this h).1
 have hb2 : y.b = fun _ => none := by
  have : ∀ {d' : Option (Dr S fun w => Mem S c [] w)} {r : Rs} {x y : Tk}, opS S (fun w => Mem S c [] w) (evS s.t) s.m o d' = some (r, x, y) → x.b = (fun _ => none) ∧ y.b = fun _ => none := by
   intro d' r x y h
   unfold opS at h
   repeat' split at h
   all_goals first
    | (cases h; done)
    | (simp only [Option.some.injEq, Prod.mk.injEq] at h; obtain ⟨-, rfl, rfl⟩ := h; exact ⟨rfl, rfl⟩)
    | (simp only at h; split at h <;> first | (cases h; done) | (simp only [Option.some.injEq, Prod.mk.injEq] at h; obtain ⟨-, rfl, rfl⟩ := h; exact ⟨rfl, rfl⟩))
  exact (this h).2
 have e' : x = y := by
  have e1 : ({ x with b := fun _ => none } : Tk) = x := by rw [← hb]
  have e2 : ({ y with b := fun _ => none } : Tk) = y := by rw [← hb2]
  rw [e1, e2] at e
  exact e
 obtain ⟨hin, hl⟩ := opS_ok h e'
 have hq : execOp a.eval o = execOp (fun x => (evS s.t x).den E) o := execOp_congr o hs fun x _ => ev_den H.tm x
 have h2 := ls_all hin hl H.mem H.ok H.wm
 rw [hq]
 refine Fin.mono h2 ?_
 rintro v w' ⟨E', hE, rfl, hM, hok⟩
 simp only [Bool.and_eq_true] at hv
 have hlen : (setsM s.m rs.W ++ rs.N).length = s.m.length + rs.N.length := by rw [List.length_append, setsM_len]
 refine ⟨E', hE, tv_put E' _ _ _ _ (by rw [tv_congr hE H.wt]; exact H.tm), by rw [put_defers]; exact H.df, hM, hok, ?_, ?_⟩
 ·simp only [hlen]
  exact all_putS (all_imp (SV.al_imp (lt_imp (by omega))) H.wt) hv.1
 ·simp only [hlen]
  rw [List.all_append, Bool.and_eq_true]
  exact ⟨all_setsM _ (all_imp (It.al_imp (lt_imp (by omega))) H.wm) hv.2.1, hv.2.2⟩
end Go.Proofs.YtbdgncndhnnjoaaGreatDoor

namespace Go.Proofs.YtbdgncndhnnjoaaGreatDoor
open Go.RowKit
set_option linter.unusedVariables false
set_option linter.unusedSimpArgs false
theorem noSel_of {o : Oper} (h : noSel o = true) (cs : Array SelectCase) (b : Bool) : o.op ≠ .select cs b := fun e => by
 unfold noSel at h
 rw [e] at h
 cases h
theorem want_of {all : List Oper} {t : List SV} {o : Oper} {b : Bool} (h : (gdTk all t o b).1 = (gdTk all t o b).2) (hw : wantS all t o = some b) {E : Nat → Ent} {a : Act} (ha : a.tmps = tv E t) : Region.wanted o (yielded all.toArray a.tmps) = b := by
 rw [ha]
 cases hg : o.guard with
 | none =>
  unfold wantS at hw
  rw [hg] at hw
  cases hw
  simp [Region.wanted, hg]
 | some p =>
  unfold gdTk at h
  rw [hg] at h
  exact Option.some.inj (congrFun h E)
def postC (R I J N : List It) : List (Nat × It) := ix 0 R ++ (ix R.length J ++ ix (R.length + I.length) N)
structure Ct {P : Program} (S : Seat P) (C : World → Prop) (f : FuncId) (xs : List SV) (R I J N : List It) (v : SV) : Prop where
 out : LS S C (oCall f xs).sem (ix 0 (R ++ I)) (newAt (R.length + I.length) N.length) v (postC R I J N)
theorem Ct.rb {P : Program} {S : Seat P} {C : World → Prop} {f : FuncId} {xs : List SV} {R I J N : List It} {b c : Bool} (h : Ct S C f xs R I J N (vV (.bool b))) (e : b = c) : Ct S C f xs R I J N (vV (.bool c)) := e ▸ h
def Bk {P : Program} (S : Seat P) (fn : Func) (w0 : World) (E0 : Nat → Ent) (R I J N : List It) (v : SV) : Exit → Act → World → Prop :=
 bodyPost P fn fun e w' => ∃ v', e = .returned v' ∧ ∃ E' : Nat → Ent, (∀ i, newAt (R.length + I.length) N.length i = false → E' i = E0 i) ∧ okP E' (postC R I J N) ∧ v' = v.den E' ∧ OkT w0 w' (denP E0 (ix 0 (R ++ I))) (denP E' (postC R I J N))
theorem xIn {P : Program} {S : Seat P} {C : World → Prop} {f : FuncId} {xs : List SV} {R I J N : List It} {v : SV} (fn : Func)
  (h : ∀ (E0 : Nat → Ent) (w0 : World), S.laid w0 → (∀ w', Mem S ⟨w0, (denP E0 (ix 0 (R ++ I))).map Blk.g⟩ [] w' → C w') → okP E0 (ix 0 (R ++ I)) → OK S ⟨w0, (denP E0 (ix 0 (R ++ I))).map Blk.g⟩ E0 (R ++ I).length (Bk S fn w0 E0 R I J N v) [frC (fn.body.getD .skip)] ⟨xs ++ List.replicate (fn.ntmps - xs.length) (vV undef), R ++ I⟩)
  (hf : P.funcs[f]? = some fn := by kernel_rfl) (hb : fn.body = some (fn.body.getD .skip) := by kernel_rfl) (he : (fun (args : Array Value) (w : World) => (callFunc f args).run P w) = fun args w => .ok (.enter f args) w := by kernel_rfl)
  (hx : (xs.all (SV.al (isLt (R ++ I).length)) && (R ++ I).all (It.al (isLt (R ++ I).length))) = true := by kernel_rfl) : Ct S C f xs R I J N v := by
 have he : ∀ (args : Array Value) (w : World), (callFunc f args).run P w = .ok (.enter f args) w := fun args w => congrFun (congrFun he args) w
 obtain ⟨hx, hm⟩ := Bool.and_eq_true_iff.1 hx
 refine ⟨fun E w hL hC T hok => ?_⟩
 show Fin P ((callFunc f (xs.map (SV.den E)).toArray).run P w) _
 rw [he]
 refine calls_of_wp hf hb ?_
 refine (h E w hL (fun w' M => hC w' M.old) hok).out E _ w (Nat.le_refl _) (fun _ _ => rfl) ⟨?_, rfl, ?_, ?_, ?_, hm⟩
 ·apply Array.ext'
  simp [tv]
  exact .inr rfl
 ·rw [dens_ix]
  exact Mem.start hL T
 ·intro i x hx
  have key : ∀ (N : List It) (k j : Nat) (x : It), N[j]? = some x → (k + j, x) ∈ ix k N := by
   intro N
   induction N with
   | nil => intro k j x h; simp at h
   | cons y N ih =>
    intro k j x h
    cases j with
    | zero => simp at h; subst h; simp [ix]
    | succ j =>
     simp only [ix, List.mem_cons]
     right
     have := ih (k + 1) j x (by simpa using h)
     rwa [show k + 1 + j = k + (j + 1) by omega] at this
  have := hok _ (key _ 0 i x hx)
  simpa using this
 ·rw [List.all_append, Bool.and_eq_true]
  exact ⟨hx, List.all_eq_true.2 fun y hy => by rw [List.eq_of_mem_replicate hy]; rfl⟩
end Go.Proofs.YtbdgncndhnnjoaaGreatDoor

namespace Go.Proofs.YtbdgncndhnnjoaaGreatDoor
open Go.RowKit
set_option linter.unusedVariables false
set_option linter.unusedSimpArgs false
def mmF (k : Nat) (mm : List Nat) (i : Nat) : Nat := bif Nat.blt i k then i else (mm[i - k]?).getD 0
theorem okP_app {E : Nat → Ent} {l m : List (Nat × It)} : okP E (l ++ m) ↔ okP E l ∧ okP E m := by
 unfold okP
 exact ⟨fun h => ⟨fun p hp => h p (by simp [hp]), fun p hp => h p (by simp [hp])⟩, fun h p hp => (List.mem_append.1 hp).elim (h.1 p) (h.2 p)⟩
theorem ix_fst : ∀ (l : List It) (b : Nat) (p : Nat × It), p ∈ ix b l → b ≤ p.1 ∧ p.1 < b + l.length
 | [], _, _, h => by simp [ix] at h
 | x :: l, b, p, h => by
  simp only [ix, List.mem_cons] at h
  rcases h with rfl | h
  ·simp
  ·have := ix_fst l (b + 1) p h
   simp only [List.length_cons]
   omega
theorem ix_app : ∀ (l m : List It) (b : Nat), ix b (l ++ m) = ix b l ++ ix (b + l.length) m
 | [], m, b => by simp [ix]
 | x :: l, m, b => by simp only [List.cons_append, ix, ix_app l m (b + 1), List.length_cons]; rw [show b + (l.length + 1) = b + 1 + l.length by omega]
def rnP (f : Nat → Nat) (p : Nat × It) : Nat × It := (f p.1, p.2.ren f)
theorem denP_ren (f : Nat → Nat) (E : Nat → Ent) : ∀ l : List (Nat × It), denP E (l.map (rnP f)) = denP (fun i => E (f i)) l
 | [] => rfl
 | (i, x) :: l => by
  simp only [List.map_cons, rnP, denP]
  rw [It.den_ren, ← denP_ren f E l]
theorem okP_ren (f : Nat → Nat) (E : Nat → Ent) (l : List (Nat × It)) : okP E (l.map (rnP f)) ↔ okP (fun i => E (f i)) l := by
 unfold okP
 constructor
 ·intro h p hp
  have := h _ (List.mem_map_of_mem (f := rnP f) hp)
  rwa [rnP, It.ok_ren] at this
 ·intro h p hp
  obtain ⟨q, hq, rfl⟩ := List.mem_map.1 hp
  rw [rnP, It.ok_ren]
  exact h q hq
theorem denP_congr {E E' : Nat → Ent} {n : Nat} (h : ∀ i, i < n → E i = E' i) : ∀ l : List (Nat × It), (∀ p ∈ l, p.1 < n) → l.all (fun p => p.2.al (isLt n)) = true → denP E l = denP E' l
 | [], _, _ => rfl
 | (i, x) :: l, hl, hb => by
  simp only [List.all_cons, Bool.and_eq_true] at hb
  simp only [denP]
  rw [x.den_congr (p := isLt n) (fun j hj => h j (by simpa [isLt, Nat.blt_eq] using hj)) (h i (hl (i, x) (by simp))) hb.1, denP_congr h l (fun p hp => hl p (by simp [hp])) hb.2]
theorem okP_congr {E E' : Nat → Ent} {n : Nat} (h : ∀ i, i < n → E i = E' i) {l : List (Nat × It)} (hl : ∀ p ∈ l, p.1 < n) (hk : okP E l) : okP E' l := fun p hp => by
 rw [← It.ok_congr (h p.1 (hl p hp))]
 exact hk p hp
theorem ret_ok {P : Program} {S : Seat P} {c : Ctx} {n : Nat} {E : Nat → Ent} {s : St} {a : Act} {w w0 : World} {E0 : Nat → Ent} {R I J N : List It} {v : SV} (mm : List Nat) (hc : c = ⟨w0, (denP E0 (ix 0 (R ++ I))).map Blk.g⟩) (hn : n = R.length + I.length) (hJ : J.length = I.length)
  (hE : ∀ i, i < n → E i = E0 i) (H : Hold S c E s a w) (hin : inM s.m ((postC R I J N).map fun p => mmF n mm p.1) = true) (hm : ((postC R I J N).map (rnP (mmF n mm))).map Prod.snd = (lk s.m ((postC R I J N).map fun p => mmF n mm p.1)).map Prod.snd)
  (hv : v.al (isLt (n + N.length)) = true) (hp : (postC R I J N).all (fun p => p.2.al (isLt (n + N.length))) = true) :
  ∃ E' : Nat → Ent, (∀ i, newAt (R.length + I.length) N.length i = false → E' i = E0 i) ∧ okP E' (postC R I J N) ∧ (v.ren (mmF n mm)).den E = v.den E' ∧ OkT w0 w (denP E0 (ix 0 (R ++ I))) (denP E' (postC R I J N)) := by
 subst hc
 let E' : Nat → Ent := fun i => bif newAt n N.length i then E (mmF n mm i) else E0 i
 have hlt : ∀ i, i < n + N.length → E (mmF n mm i) = E' i := fun i hi => by
  by_cases h : i < n
  ·have h1 : newAt n N.length i = false := by
    have : Nat.ble n i = false := by
     cases e : Nat.ble n i with
     | false => rfl
     | true => exact absurd (Nat.le_of_ble_eq_true e) (by omega)
    simp [newAt, this]
   have h2 : mmF n mm i = i := by
    have : Nat.blt i n = true := by simpa [Nat.blt_eq] using h
    simp [mmF, this]
   simp only [E', h1, cond_false, h2]
   exact hE i h
  ·have h1 : newAt n N.length i = true := by
    simp [newAt, Nat.blt_eq]
    omega
   simp only [E', h1, cond_true]
 have hi : ∀ p ∈ postC R I J N, p.1 < n + N.length := fun p hp => by
  simp only [postC, List.mem_append] at hp
  rcases hp with hp | hp | hp
  ·have := ix_fst _ _ _ hp; omega
  ·have := ix_fst _ _ _ hp; omega
  ·have := ix_fst _ _ _ hp; omega
 have hl : (postC R I J N).map (rnP (mmF n mm)) = lk s.m ((postC R I J N).map fun p => mmF n mm p.1) := pair_ext (by rw [lk_fst, List.map_map]; rfl) hm
 have hd : denP E' (postC R I J N) = denP E (lk s.m ((postC R I J N).map fun p => mmF n mm p.1)) := by
  rw [← hl, denP_ren]
  exact (denP_congr hlt _ hi hp).symm
 refine ⟨E', fun i h0 => ?_, ?_, ?_, ?_⟩
 ·subst hn
  show (bif newAt (R.length + I.length) N.length i then _ else E0 i) = E0 i
  rw [h0]
  rfl
 ·refine okP_congr hlt hi ?_
  rw [← okP_ren, hl]
  intro p hp
  obtain ⟨i, hi2, rfl⟩ := List.mem_map.1 hp
  simp only [inM, Bool.and_eq_true, List.all_eq_true] at hin
  have hil : i < s.m.length := by simpa [isLt, Nat.blt_eq] using hin.1 i hi2
  simp only [List.getElem?_eq_getElem hil, Option.getD_some]
  exact H.ok i _ (List.getElem?_eq_getElem hil)
 ·rw [SV.den_ren]
  exact v.den_congr (p := isLt (n + N.length)) (fun i hi => hlt i (by simpa [isLt, Nat.blt_eq] using hi)) hv
 ·have M1 := (H.mem.perm (dens_part E _ _ hin)).drop (List.sublist_append_left _ _)
  rw [← hd] at M1
  exact M1.okT
def clF (k : Nat) (mm : List Nat) (b : Nat) (i : Nat) : Nat := bif Nat.blt i k then (mm[i]?).getD 0 else b + (i - k)
theorem LS.ren {P : Program} {S : Seat P} {C : World → Prop} {xs : List SV} {f : FuncId} {pre post : List (Nat × It)} {k n b : Nat} {mm : List Nat} {v : SV} (h : LS S C (oCall f xs).sem pre (newAt k n) v post) (hb : ∀ i, i < k → (mm[i]?).getD 0 < b) :
  LS S C (oCall f (xs.map (SV.ren (clF k mm b)))).sem (pre.map (rnP (clF k mm b))) (newAt b n) (v.ren (clF k mm b)) (post.map (rnP (clF k mm b))) := by
 intro E w hL hC T hok
 rw [denP_ren] at hC T
 rw [okP_ren] at hok
 have h1 := h (fun i => E (clF k mm b i)) w hL hC T hok
 have hx : (oCall f (xs.map (SV.ren (clF k mm b)))).sem E = (oCall f xs).sem fun i => E (clF k mm b i) := by
  show callFunc f ((xs.map (SV.ren (clF k mm b))).map (SV.den E)).toArray = callFunc f (xs.map (SV.den fun i => E (clF k mm b i))).toArray
  rw [List.map_map]
  simp only [Function.comp_def, SV.den_ren]
 rw [hx]
 refine Fin.mono h1 ?_
 rintro r w' ⟨E1, hE, hk, rfl, hT⟩
 let E' : Nat → Ent := fun j => bif newAt b n j then E1 (k + (j - b)) else E j
 have hEE : (fun i => E' (clF k mm b i)) = E1 := by
  funext i
  by_cases hi : i < k
  ·have h2 : clF k mm b i = (mm[i]?).getD 0 := by
    have : Nat.blt i k = true := by simpa [Nat.blt_eq] using hi
    simp [clF, this]
   have h3 := hb i hi
   have h4 : newAt b n ((mm[i]?).getD 0) = false := by
    have : Nat.ble b ((mm[i]?).getD 0) = false := by
     cases e : Nat.ble b ((mm[i]?).getD 0) with
     | false => rfl
     | true => exact absurd (Nat.le_of_ble_eq_true e) (by omega)
    simp [newAt, this]
   have h5 : newAt k n i = false := by
    have : Nat.ble k i = false := by
     cases e : Nat.ble k i with
     | false => rfl
     | true => exact absurd (Nat.le_of_ble_eq_true e) (by omega)
    simp [newAt, this]
   simp only [E', h2, h4, cond_false]
   rw [hE i h5, h2]
  ·have h2 : clF k mm b i = b + (i - k) := by
    have : Nat.blt i k = false := by
     cases e : Nat.blt i k with
     | false => rfl
     | true => exact absurd (Nat.blt_eq ▸ e) hi
    simp [clF, this]
   by_cases hj : i < k + n
   ·have h4 : newAt b n (b + (i - k)) = true := by
     simp [newAt, Nat.blt_eq]
     omega
    simp only [E', h2, h4, cond_true]
    congr 1
    omega
   ·have h4 : newAt b n (b + (i - k)) = false := by
     cases e : newAt b n (b + (i - k)) with
     | false => rfl
     | true =>
      simp [newAt, Nat.blt_eq] at e
      omega
    have h5 : newAt k n i = false := by
     cases e : newAt k n i with
     | false => rfl
     | true =>
      simp [newAt, Nat.blt_eq] at e
      omega
    simp only [E', h2, h4, cond_false]
    rw [hE i h5, h2]
 refine ⟨E', fun i hi => by simp only [E', hi, cond_false], ?_, ?_, ?_⟩
 ·rw [okP_ren, hEE]
  exact hk
 ·rw [SV.den_ren, hEE]
 ·rw [denP_ren, denP_ren, hEE]
  exact hT
theorem ix_ren (f : Nat → Nat) (b : Nat) : ∀ (N : List It) (k : Nat), (∀ j, j < N.length → f (k + j) = b + j) → (ix k N).map (rnP f) = ix b (N.map (It.ren f))
 | [], _, _ => rfl
 | x :: N, k, h => by
  simp only [ix, List.map_cons, rnP]
  have h0 := h 0 (by simp)
  simp only [Nat.add_zero] at h0
  have ih := ix_ren f (b + 1) N (k + 1) fun j hj => by
   have := h (j + 1) (by simpa using hj)
   rw [show k + 1 + j = k + (j + 1) by omega, this]
   omega
  rw [h0]
  exact congrArg (List.cons _) ih
theorem zip_ren (f : Nat → Nat) : ∀ (I J : List It) (k : Nat), J.length = I.length → (((ix k I).map (rnP f)).map Prod.fst).zip (J.map (It.ren f)) = (ix k J).map (rnP f)
 | [], [], _, _ => rfl
 | [], _ :: _, _, h => by simp at h
 | _ :: _, [], _, h => by simp at h
 | x :: I, y :: J, k, h => by
  simp only [ix, List.map_cons, List.zip_cons_cons, rnP]
  have ih := zip_ren f I J (k + 1) (by simpa using h)
  exact congrArg (List.cons _) ih
def dC {P : Program} {S : Seat P} {C : World → Prop} {f : FuncId} {xs : List SV} {R I J N : List It} {v : SV} (h : Ct S C f xs R I J N v) (mm : List Nat) : Dr S C :=
 let k := R.length + I.length
 dSp fun b => ⟨oCall f (xs.map (SV.ren (clF k mm b))), (ix 0 R).map (rnP (clF k mm b)), (ix R.length I).map (rnP (clF k mm b)), J.map (It.ren (clF k mm b)), N.map (It.ren (clF k mm b)), v.ren (clF k mm b), fun hJ hp => by
  simp only [List.length_map] at hJ hp ⊢
  have hJ2 : J.length = I.length := by
   have : ∀ (l : List It) (b : Nat), (ix b l).length = l.length := by
    intro l
    induction l with
    | nil => intro b; rfl
    | cons x l ih => intro b; simp [ix, ih]
   rwa [this] at hJ
  have hb : ∀ i, i < k → (mm[i]?).getD 0 < b := fun i hi => by
   have hm : ∃ x, (i, x) ∈ ix 0 R ++ ix R.length I := by
    have key : ∀ (N : List It) (k j : Nat), j < N.length → ∃ x, (k + j, x) ∈ ix k N := by
     intro N
     induction N with
     | nil => intro k j h; simp at h
     | cons y N ih =>
      intro k j h
      cases j with
      | zero => exact ⟨y, by simp [ix]⟩
      | succ j =>
       obtain ⟨x, hx⟩ := ih (k + 1) j (by simpa using h)
       exact ⟨x, by simp only [ix, List.mem_cons]; right; rwa [show k + 1 + j = k + (j + 1) by omega] at hx⟩
    by_cases h : i < R.length
    ·obtain ⟨x, hx⟩ := key R 0 i h
     exact ⟨x, List.mem_append_left _ (by simpa using hx)⟩
    ·obtain ⟨x, hx⟩ := key I R.length (i - R.length) (by omega)
     exact ⟨x, List.mem_append_right _ (by rwa [show R.length + (i - R.length) = i by omega] at hx)⟩
   obtain ⟨x, hx⟩ := hm
   have := hp (clF k mm b i, x.ren (clF k mm b)) (by
    rw [← List.map_append]
    exact List.mem_map_of_mem (f := rnP (clF k mm b)) hx)
   have h2 : clF k mm b i = (mm[i]?).getD 0 := by
    have : Nat.blt i k = true := by simpa [Nat.blt_eq] using hi
    simp [clF, this]
   rwa [h2] at this
  have h1 := LS.ren h.out hb
  rw [ix_app, Nat.zero_add, List.map_append] at h1
  rw [zip_ren _ _ _ _ hJ2, ← ix_ren (clF k mm b) b N k (fun j hj => by
   have : Nat.blt (k + j) k = false := by
    cases e : Nat.blt (k + j) k with
    | false => rfl
    | true => exact absurd (Nat.blt_eq ▸ e : k + j < k) (by omega)
   simp [clF, this])]
  have e : (postC R I J N).map (rnP (clF k mm b)) = (ix 0 R).map (rnP (clF k mm b)) ++ ((ix R.length J).map (rnP (clF k mm b)) ++ (ix k N).map (rnP (clF k mm b))) := by
   simp only [postC, List.map_append]
   rfl
  rwa [e] at h1⟩
def mask (D : List Nat) : Nat → List SV → List SV
 | _, [] => []
 | k, x :: l => (if D.contains k then vV undef else x) :: mask D (k + 1) l
def selD (D : List Nat) (l : List SV) : List SV := D.map fun k => (l[k]?).getD (vV undef)
def jF (j : List Nat) (i : Nat) : Nat := (j[i]?).getD i
def subL (D j : List Nat) (t : St) : List (List SV) × List It × Nat × Bool := ([mask D 0 (t.t.map (SV.ren (jF j))), selD D t.t], t.m.map (It.ren (jF j)), t.t.length, true)
def subR (D j : List Nat) (n : Nat) (d : Nat → Value) (s t : St) : List (List SV) × List It × Nat × Bool :=
 ([mask D 0 s.t, D.map fun k => vV (d k)], (lk s.m j).map Prod.snd, s.t.length,
  t.t.all (SV.al (isLt t.m.length)) && (t.m.all (It.al (isLt t.m.length)) && (Nat.beq t.m.length j.length && (Nat.ble n t.m.length && (inM s.m j && (D.all (isLt s.t.length) && (List.range n).all fun i => Nat.beq (jF j i) i))))))
theorem mask_get (D : List Nat) : ∀ (l : List SV) (k i : Nat), (mask D k l)[i]? = (l[i]?).map fun x => if D.contains (k + i) then vV undef else x
 | [], _, _ => rfl
 | x :: l, k, 0 => rfl
 | x :: l, k, i + 1 => by
  simp only [mask, List.getElem?_cons_succ]
  rw [mask_get D l (k + 1) i, show k + 1 + i = k + (i + 1) by omega]
theorem denP_zip (E : Nat → Ent) (φ : Nat → Nat) : ∀ (m : List It) (k : Nat) (l : List (Nat × It)), l.map Prod.snd = m.map (It.ren φ) → (∀ i, i < m.length → (l.map Prod.fst)[i]? = some (φ (k + i))) → denP E l = dens (fun i => E (φ i)) k m
 | [], _, l, h, _ => by
  cases l with
  | nil => rfl
  | cons p l => simp at h
 | x :: m, k, l, h, hj => by
  cases l with
  | nil => simp at h
  | cons p l =>
   simp only [List.map_cons, List.cons.injEq] at h
   obtain ⟨i, y⟩ := p
   have h0 := hj 0 (by simp)
   simp only [List.map_cons, List.getElem?_cons_zero, Option.some.injEq, Nat.add_zero] at h0
   simp only at h
   simp only [denP, dens]
   rw [h.1, h0, It.den_ren, denP_zip E φ m (k + 1) l h.2 fun i hi => by
    have := hj (i + 1) (by simpa using hi)
    simpa only [List.map_cons, List.getElem?_cons_succ, show k + (i + 1) = k + 1 + i by omega] using this]
theorem sub_hold {P : Program} {S : Seat P} {c : Ctx} {E0 E : Nat → Ent} {n : Nat} {s : St} {T : (Nat → Value) → St} (D j : List Nat) (h : (fun d => subL D j (T d)) = (fun d => subR D j n d s (T d))) {a : Act} {w : World} (hE : ∀ i, i < n → E i = E0 i) (H : Hold S c E s a w) :
  ∃ (d : Nat → Value) (E' : Nat → Ent), n ≤ (T d).m.length ∧ (∀ i, i < n → E' i = E0 i) ∧ Hold S c E' (T d) a w := by
 let d : Nat → Value := fun k => ((s.t[k]?).getD (vV undef)).den E
 have hd := congrFun h d
 simp only [subL, subR, Prod.mk.injEq, List.cons.injEq, and_true] at hd
 obtain ⟨⟨h1, h2⟩, h3, h4, h5⟩ := hd
 have h5 := h5.symm
 simp only [Bool.and_eq_true, nbeq] at h5
 obtain ⟨b1, b2, b3, b4, b5, b6, b7⟩ := h5
 have hj : ∀ i, i < j.length → j[i]? = some (jF j i) := fun i hi => by simp [jF, List.getElem?_eq_getElem hi]
 refine ⟨d, fun i => E (jF j i), Nat.le_of_ble_eq_true b4, fun i hi => ?_, ?_, H.df, ?_, ?_, b1, b2⟩
 ·have := List.all_eq_true.1 b7 i (List.mem_range.2 hi)
  show E (jF j i) = E0 i
  rw [nbeq.1 this]
  exact hE i hi
 ·rw [H.tm]
  unfold tv
  congr 1
  apply List.ext_getElem?
  intro k
  rw [List.getElem?_map, List.getElem?_map]
  by_cases hk : k < s.t.length
  ·have hk2 : k < (T d).t.length := by omega
   rw [List.getElem?_eq_getElem hk, List.getElem?_eq_getElem hk2]
   simp only [Option.map_some, Option.some.injEq]
   by_cases hD : D.contains k = true
   ·have hm : k ∈ D := by simpa using hD
    obtain ⟨i, hi⟩ := List.mem_iff_getElem?.1 hm
    have e := congrArg (fun l : List SV => l[i]?) h2
    simp only [selD, List.getElem?_map, hi, Option.map_some, Option.some.injEq] at e
    rw [List.getElem?_eq_getElem hk2] at e
    simp only [Option.getD_some] at e
    rw [e]
    show _ = d k
    simp only [d, List.getElem?_eq_getElem hk, Option.getD_some]
   ·have e := congrArg (fun l : List SV => l[k]?) h1
    simp only [mask_get, List.getElem?_map, Nat.zero_add, hD, Bool.false_eq_true, if_false] at e
    rw [List.getElem?_eq_getElem hk, List.getElem?_eq_getElem hk2] at e
    simp only [Option.map_some, Option.some.injEq] at e
    rw [← e, SV.den_ren]
  ·rw [List.getElem?_eq_none (by omega), List.getElem?_eq_none (by omega)]
   rfl
 ·have p := dens_part E j s.m b5
  have e : denP E (lk s.m j) = dens (fun i => E (jF j i)) 0 (T d).m := denP_zip E (jF j) _ 0 _ h3.symm fun i hi => by
   rw [lk_fst, Nat.zero_add]
   exact hj i (by omega)
  rw [← e]
  exact (H.mem.perm p).drop (List.sublist_append_left _ _)
 ·intro i x hx
  have hi := (List.getElem?_eq_some_iff.1 hx).1
  have e := congrArg (fun l : List It => l[i]?) h3
  simp only [List.getElem?_map, hx, Option.map_some, lk, hj i (by omega)] at e
  simp only [inM, Bool.and_eq_true, List.all_eq_true] at b5
  have hl : jF j i < s.m.length := by
   have := b5.1 (jF j i) (List.mem_of_getElem? (hj i (by omega)))
   simpa [isLt, Nat.blt_eq] using this
  rw [List.getElem?_eq_getElem hl] at e
  simp only [Option.getD_some, Option.some.injEq] at e
  have := H.ok (jF j i) _ (List.getElem?_eq_getElem hl)
  rw [← e, It.ok_ren] at this
  exact this
end Go.Proofs.YtbdgncndhnnjoaaGreatDoor

namespace Go.Proofs.YtbdgncndhnnjoaaGreatDoor
open Go.RowKit
set_option linter.unusedVariables false
set_option linter.unusedSimpArgs false
structure Ef where
 d : Option Tmp
 v : SV
 W : List (Nat × It)
 b : Nat
 n : Nat
 R : List Nat
 rd : List Tmp
def Ef.ap (e : Ef) (s : St) : St := ⟨putS s.t e.d e.v, setsM s.m e.W⟩
def stD (D : Nat → Bool) : Nat → St → List Ef → St
 | _, s, [] => s
 | k, s, e :: l => stD D (k + 1) (bif D k then e.ap s else s) l
theorem putS_len (t : List SV) (d : Option Tmp) (v : SV) : (putS t d v).length = t.length := by cases d <;> simp [putS]
theorem putS_get (t : List SV) (d : Option Tmp) (v : SV) (x : Nat) (h : d ≠ some x) : (putS t d v)[x]? = t[x]? := by
 cases d with
 | none => rfl
 | some d => exact List.getElem?_set_ne (fun e => h (by rw [e]))
theorem stD_len (D : Nat → Bool) : ∀ (l : List Ef) (k : Nat) (s : St), (stD D k s l).t.length = s.t.length ∧ (stD D k s l).m.length = s.m.length
 | [], _, _ => ⟨rfl, rfl⟩
 | e :: l, k, s => by
  simp only [stD]
  obtain ⟨h1, h2⟩ := stD_len D l (k + 1) (bif D k then e.ap s else s)
  rw [h1, h2]
  cases D k <;> simp [Ef.ap, putS_len, setsM_len]
theorem putS_eq (t t' : List SV) (d : Option Tmp) (v : SV) (x : Nat) (hl : t.length = t'.length) (h : t[x]? = t'[x]?) : (putS t d v)[x]? = (putS t' d v)[x]? := by
 cases d with
 | none => exact h
 | some d => simp only [putS, List.getElem?_set, hl, h]
theorem stD_slot {D D' : Nat → Bool} {x : Nat} : ∀ (l : List Ef) (k : Nat) (s s' : St), s.t.length = s'.t.length → s.t[x]? = s'.t[x]? → (∀ j e, l[j]? = some e → e.d = some x → D (k + j) = D' (k + j)) → (stD D k s l).t[x]? = (stD D' k s' l).t[x]?
 | [], _, _, _, _, h, _ => h
 | e :: l, k, s, s', hl, h, hd => by
  simp only [stD]
  have h0 := hd 0 e rfl
  refine stD_slot l (k + 1) _ _ ?_ ?_ fun j f hj hf => by
   have := hd (j + 1) f (by simpa using hj) hf
   rwa [show k + (j + 1) = k + 1 + j by omega] at this
  ·cases D k <;> cases D' k <;> simp [Ef.ap, putS_len, hl]
  ·by_cases hx : e.d = some x
   ·have := h0 hx
    simp only [Nat.add_zero] at this
    rw [this]
    cases D' k with
    | false => exact h
    | true => exact putS_eq _ _ _ _ _ hl h
   ·have h1 : ∀ u : St, (bif D k then e.ap u else u).t[x]? = u.t[x]? := fun u => by
     cases D k with
     | false => rfl
     | true => exact putS_get _ _ _ _ hx
    have h2 : ∀ u : St, (bif D' k then e.ap u else u).t[x]? = u.t[x]? := fun u => by
     cases D' k with
     | false => rfl
     | true => exact putS_get _ _ _ _ hx
    rw [h1, h2, h]
theorem setsM_eq : ∀ (W : List (Nat × It)) (m m' : List It) (x : Nat), m.length = m'.length → m[x]? = m'[x]? → (setsM m W)[x]? = (setsM m' W)[x]?
 | [], _, _, _, _, h => h
 | p :: W, m, m', x, hl, h => setsM_eq W _ _ x (by simp [hl]) (by simp only [List.getElem?_set, hl, h])
theorem stD_item {D D' : Nat → Bool} {x : Nat} : ∀ (l : List Ef) (k : Nat) (s s' : St), s.m.length = s'.m.length → s.m[x]? = s'.m[x]? → (∀ j e, l[j]? = some e → x ∈ e.W.map Prod.fst → D (k + j) = D' (k + j)) → (stD D k s l).m[x]? = (stD D' k s' l).m[x]?
 | [], _, _, _, _, h, _ => h
 | e :: l, k, s, s', hl, h, hd => by
  simp only [stD]
  have h0 := hd 0 e rfl
  refine stD_item l (k + 1) _ _ ?_ ?_ fun j f hj hf => by
   have := hd (j + 1) f (by simpa using hj) hf
   rwa [show k + (j + 1) = k + 1 + j by omega] at this
  ·cases D k <;> cases D' k <;> simp [Ef.ap, setsM_len, hl]
  ·by_cases hx : x ∈ e.W.map Prod.fst
   ·have := h0 hx
    simp only [Nat.add_zero] at this
    rw [this]
    cases D' k with
    | false => exact h
    | true => exact setsM_eq _ _ _ _ hl h
   ·have hne : ∀ p ∈ e.W, p.1 ≠ x := fun p hp e2 => hx (List.mem_map.2 ⟨p, hp, e2⟩)
    have h1 : ∀ u : St, (bif D k then e.ap u else u).m[x]? = u.m[x]? := fun u => by
     cases D k with
     | false => rfl
     | true => exact setsM_get _ _ _ hne
    have h2 : ∀ u : St, (bif D' k then e.ap u else u).m[x]? = u.m[x]? := fun u => by
     cases D' k with
     | false => rfl
     | true => exact setsM_get _ _ _ hne
    rw [h1, h2, h]
theorem putS_comm (t : List SV) (d d' : Option Tmp) (v v' : SV) (h : ∀ x, d = some x → d' ≠ some x) : putS (putS t d v) d' v' = putS (putS t d' v') d v := by
 cases d with
 | none => rfl
 | some x => cases d' with
  | none => rfl
  | some y => exact List.set_comm _ _ (fun e => h x rfl (by rw [e]))
theorem setsM_set : ∀ (W : List (Nat × It)) (m : List It) (i : Nat) (x : It), (∀ p ∈ W, p.1 ≠ i) → setsM (m.set i x) W = (setsM m W).set i x
 | [], _, _, _, _ => rfl
 | p :: W, m, i, x, h => by
  simp only [setsM]
  rw [List.set_comm _ _ (fun e => h p (by simp) e.symm), setsM_set W _ i x fun q hq => h q (by simp [hq])]
theorem setsM_comm : ∀ (W W' : List (Nat × It)) (m : List It), (∀ p ∈ W, ∀ q ∈ W', p.1 ≠ q.1) → setsM (setsM m W) W' = setsM (setsM m W') W
 | [], _, _, _ => rfl
 | p :: W, W', m, h => by
  simp only [setsM]
  rw [setsM_comm W W' _ fun a ha b hb => h a (by simp [ha]) b hb, setsM_set W' m p.1 p.2 fun q hq e => h p (by simp) q hq e.symm]
theorem stD_ap {D : Nat → Bool} (e : Ef) : ∀ (l : List Ef) (k : Nat) (s : St), (∀ j f, l[j]? = some f → D (k + j) = true → (∀ x, e.d = some x → f.d ≠ some x) ∧ ∀ p ∈ e.W, ∀ q ∈ f.W, p.1 ≠ q.1) → stD D k (e.ap s) l = e.ap (stD D k s l)
 | [], _, _, _ => rfl
 | f :: l, k, s, h => by
  simp only [stD]
  have h0 := h 0 f rfl
  simp only [Nat.add_zero] at h0
  have e1 : (bif D k then f.ap (e.ap s) else e.ap s) = e.ap (bif D k then f.ap s else s) := by
   cases hD : D k with
   | false => rfl
   | true =>
    obtain ⟨h1, h2⟩ := h0 hD
    simp only [cond_true, Ef.ap]
    rw [putS_comm _ _ _ _ _ h1, setsM_comm _ _ _ h2]
  rw [e1]
  exact stD_ap e l (k + 1) _ fun j g hj hD => h (j + 1) g (by simpa using hj) (by rwa [show k + (j + 1) = k + 1 + j by omega])
theorem stD_more {D : Nat → Bool} {i : Nat} {e : Ef} : ∀ (l : List Ef) (k : Nat) (s : St), l[i]? = some e → D (k + i) = false → (∀ j f, l[j]? = some f → i < j → D (k + j) = true → (∀ x, e.d = some x → f.d ≠ some x) ∧ ∀ p ∈ e.W, ∀ q ∈ f.W, p.1 ≠ q.1) → stD (fun j => bif Nat.beq j (k + i) then true else D j) k s l = e.ap (stD D k s l) := by
 induction i with
 | zero =>
  intro l k s he hD hc
  cases l with
  | nil => simp at he
  | cons f l =>
   simp at he
   subst he
   simp only [stD, Nat.add_zero] at hD ⊢
   simp only [Nat.beq_refl, cond_true, hD, cond_false]
   have e1 : ∀ (l : List Ef) (k' : Nat) (s : St), k < k' → stD (fun j => bif Nat.beq j k then true else D j) k' s l = stD D k' s l := by
    intro l
    induction l with
    | nil => intro _ _ _; rfl
    | cons g l ih =>
     intro k' s hk
     simp only [stD]
     rw [show Nat.beq k' k = false from nbne.2 (by omega)]
     exact ih _ _ (by omega)
   rw [e1 l (k + 1) _ (by omega)]
   exact stD_ap f l (k + 1) s fun j g hj hD2 => hc (j + 1) g (by simpa using hj) (by omega) (by rwa [show k + (j + 1) = k + 1 + j by omega])
 | succ i ih =>
  intro l k s he hD hc
  cases l with
  | nil => simp at he
  | cons f l =>
   simp only [stD]
   rw [show Nat.beq k (k + (i + 1)) = false from nbne.2 (by omega)]
   simp only [cond_false]
   have := ih l (k + 1) (bif D k then f.ap s else s) (by simpa using he) (by rwa [show k + 1 + i = k + (i + 1) by omega]) fun j g hj hij hD2 => hc (j + 1) g (by simpa using hj) (by omega) (by rwa [show k + (j + 1) = k + 1 + j by omega])
   rwa [show k + 1 + i = k + (i + 1) by omega] at this
theorem stD_all {f : SV → Bool} {g : It → Bool} {D : Nat → Bool} : ∀ (l : List Ef) (k : Nat) (s : St), s.t.all f = true → s.m.all g = true → (∀ j e, l[j]? = some e → D (k + j) = true → f e.v = true ∧ e.W.all (fun p => g p.2) = true) → (stD D k s l).t.all f = true ∧ (stD D k s l).m.all g = true
 | [], _, _, h1, h2, _ => ⟨h1, h2⟩
 | e :: l, k, s, h1, h2, h => by
  simp only [stD]
  have h0 := h 0 e rfl
  simp only [Nat.add_zero] at h0
  refine stD_all l (k + 1) _ ?_ ?_ fun j g hj hD => h (j + 1) g (by simpa using hj) (by rwa [show k + (j + 1) = k + 1 + j by omega])
  ·cases hD : D k with
   | false => exact h1
   | true => exact all_putS h1 (h0 hD).1
  ·cases hD : D k with
   | false => exact h2
   | true => exact all_setsM _ h2 (h0 hD).2
end Go.Proofs.YtbdgncndhnnjoaaGreatDoor

namespace Go.Proofs.YtbdgncndhnnjoaaGreatDoor
open Go.RowKit
set_option linter.unusedVariables false
set_option linter.unusedSimpArgs false
structure Re {P : Program} (S : Seat P) (C : World → Prop) where
 es : List Ef
 A : List Tk
 B : List Tk
 t : List SV
 m : List It
 n : Nat
 ds : List (Nat × Dr S C)
def regE {P : Program} {S : Seat P} {C : World → Prop} (all : List Oper) : Nat → List (Nat × Dr S C) → List SV → List It → List Oper → Option (Re S C)
 | n, ds, t, m, [] => some ⟨[], [], [], t, m, n, ds⟩
 | n, ds, t, m, o :: rest => match wantS all t o with
  | some true => if noSel o then match opS S C (evS t) m o (dirOf n ds) with
   | some (rs, a, b) =>
    if rs.v.al (isLt (m.length + rs.N.length)) && (rs.W.all (fun p => p.2.al (isLt (m.length + rs.N.length))) && rs.N.all (It.al (isLt (m.length + rs.N.length)))) then
     match regE all (n + 1) (dirNx n ds) (putS t o.dst rs.v) (setsM m rs.W ++ rs.N) rest with
     | some r => some { r with es := ⟨o.dst, rs.v, rs.W ++ ix m.length rs.N, m.length, rs.N.length, rs.R, o.looksAt all.toArray⟩ :: r.es, A := { a with b := (gdTk all t o true).1 } :: r.A, B := { b with b := (gdTk all t o true).2 } :: r.B }
     | none => none
    else none
   | none => none
   else none
  | some false => match regE all (n + 1) ds (putS t o.dst (vV undef)) m rest with
   | some r => some { r with es := ⟨o.dst, vV undef, [], m.length, 0, [], o.looksAt all.toArray⟩ :: r.es, A := { tk0 with b := (gdTk all t o false).1 } :: r.A, B := { tk0 with b := (gdTk all t o false).2 } :: r.B }
   | none => none
  | none => none
def Fact {P : Program} (S : Seat P) (C : World → Prop) (all : List Oper) (o : Oper) (e : Ef) (t : List SV) (m : List It) : Prop :=
 (∃ (d : Option (Dr S C)) (rs : Rs) (a b : Tk), opS S C (evS t) m o d = some (rs, a, b) ∧ a = b ∧ noSel o = true ∧ wantS all t o = some true ∧ (gdTk all t o true).1 = (gdTk all t o true).2 ∧
  (rs.v.al (isLt (m.length + rs.N.length)) && (rs.W.all (fun p => p.2.al (isLt (m.length + rs.N.length))) && rs.N.all (It.al (isLt (m.length + rs.N.length))))) = true ∧
  e = ⟨o.dst, rs.v, rs.W ++ ix m.length rs.N, m.length, rs.N.length, rs.R, o.looksAt all.toArray⟩) ∨
 (wantS all t o = some false ∧ (gdTk all t o false).1 = (gdTk all t o false).2 ∧ e = ⟨o.dst, vV undef, [], m.length, 0, [], o.looksAt all.toArray⟩)
def gaps (n : Nat) : List It := List.replicate n gap
def sumN : List Ef → Nat
 | [] => 0
 | e :: l => e.n + sumN l
theorem opS_b {P : Program} {S : Seat P} {C : World → Prop} {ρ : Operand → SV} {m : List It} {o : Oper} {d : Option (Dr S C)} {rs : Rs} {x y : Tk} (h : opS S C ρ m o d = some (rs, x, y)) : x.b = (fun _ => none) ∧ y.b = fun _ => none := by
 unfold opS at h
 repeat' split at h
 all_goals first
  | (cases h; done)
  | (simp only [Option.some.injEq, Prod.mk.injEq] at h; obtain ⟨-, rfl, rfl⟩ := h; exact ⟨rfl, rfl⟩)
  | (simp only at h; split at h <;> first | (cases h; done) | (simp only [Option.some.injEq, Prod.mk.injEq] at h; obtain ⟨-, rfl, rfl⟩ := h; exact ⟨rfl, rfl⟩))
theorem setsM_gaps : ∀ (N : List It) (m : List It) (W : List (Nat × It)) (g : Nat), (∀ p ∈ W, p.1 < m.length) → setsM (m ++ gaps (N.length + g)) (W ++ ix m.length N) = (setsM m W ++ N) ++ gaps g := by
 have h1 : ∀ (W : List (Nat × It)) (m k : List It), (∀ p ∈ W, p.1 < m.length) → setsM (m ++ k) W = setsM m W ++ k := by
  intro W
  induction W with
  | nil => intro _ _ _; rfl
  | cons p W ih =>
   intro m k h
   simp only [setsM]
   rw [List.set_append_left _ _ (h p (by simp)), ih _ _ fun q hq => by simpa using h q (by simp [hq])]
 have h2 : ∀ (N m : List It) (g : Nat), setsM (m ++ gaps (N.length + g)) (ix m.length N) = m ++ (N ++ gaps g) := by
  intro N
  induction N with
  | nil => intro m g; simp [ix, setsM]
  | cons x N ih =>
   intro m g
   simp only [ix, setsM, List.length_cons]
   rw [show gaps (N.length + 1 + g) = gap :: gaps (N.length + g) by rw [show N.length + 1 + g = (N.length + g) + 1 by omega]; rfl]
   rw [List.set_append_right _ _ (Nat.le_refl _), Nat.sub_self, List.set_cons_zero]
   have := ih (m ++ [x]) g
   simp only [List.length_append, List.length_cons, List.length_nil, Nat.zero_add, List.append_assoc, List.cons_append, List.nil_append] at this
   rw [this]
   rfl
 have h3 : ∀ (W V : List (Nat × It)) (m : List It), setsM m (W ++ V) = setsM (setsM m W) V := by
  intro W
  induction W with
  | nil => intro _ _; rfl
  | cons p W ih => intro V m; exact ih V _
 intro N m W g hW
 rw [h3, h1 W m _ hW]
 have := h2 N (setsM m W) g
 rw [setsM_len] at this
 rw [this, List.append_assoc]
theorem stD_shift (D : Nat → Bool) : ∀ (l : List Ef) (k : Nat) (s : St), stD D (k + 1) s l = stD (fun j => D (j + 1)) k s l
 | [], _, _ => rfl
 | e :: l, k, s => by
  simp only [stD]
  exact stD_shift D l (k + 1) _
theorem stD_congr {D D' : Nat → Bool} : ∀ (l : List Ef) (k : Nat) (s : St), (∀ j, k ≤ j → j < k + l.length → D j = D' j) → stD D k s l = stD D' k s l
 | [], _, _, _ => rfl
 | e :: l, k, s, h => by
  simp only [stD]
  rw [h k (Nat.le_refl _) (by simp)]
  exact stD_congr l (k + 1) _ fun j h1 h2 => h j (by omega) (by simp at h2 ⊢; omega)
theorem regE_ok {P : Program} {S : Seat P} {C : World → Prop} {all : List Oper} : ∀ (l : List Oper) (n : Nat) (ds : List (Nat × Dr S C)) (t : List SV) (m : List It) (r : Re S C), regE all n ds t m l = some r → r.A = r.B →
  r.es.length = l.length ∧ (⟨r.t, r.m⟩ : St) = stD (fun _ => true) 0 ⟨t, m ++ gaps (sumN r.es)⟩ r.es ∧
  (∀ (i : Nat) (o : Oper) (e : Ef), l[i]? = some o → r.es[i]? = some e → ∃ (mi : List It) (g : Nat), (stD (fun j => Nat.blt j i) 0 ⟨t, m ++ gaps (sumN r.es)⟩ r.es).m = mi ++ gaps g ∧ e.b = mi.length ∧ m.length ≤ e.b ∧ Fact S C all o e (stD (fun j => Nat.blt j i) 0 ⟨t, m ++ gaps (sumN r.es)⟩ r.es).t mi) ∧
  (∀ (i j : Nat) (e f : Ef), r.es[i]? = some e → r.es[j]? = some f → i < j → e.b + e.n ≤ f.b) ∧
  (t.all (SV.al (isLt m.length)) = true → m.all (It.al (isLt m.length)) = true → r.t.all (SV.al (isLt r.m.length)) = true ∧ r.m.all (It.al (isLt r.m.length)) = true) ∧ m.length ≤ r.m.length
 | [], n, ds, t, m, r, h, e => by
  simp only [regE, Option.some.injEq] at h
  subst h
  refine ⟨rfl, by simp [stD, sumN, gaps], fun i o e h => by simp at h, fun i j e f h => by simp at h, fun h1 h2 => ⟨h1, h2⟩, Nat.le_refl _⟩
 | o :: l, n, ds, t, m, r, h, e => by
  -- the first operation, and the rest
  have main : ∀ (ef : Ef) (t' : List SV) (m' : List It) (n' : Nat) (ds' : List (Nat × Dr S C)) (r' : Re S C) (a b : Tk), regE all n' ds' t' m' l = some r' → r = { r' with es := ef :: r'.es, A := a :: r'.A, B := b :: r'.B } →
    (a = b → Fact S C all o ef t m) → ef.b = m.length → m'.length = m.length + ef.n → (∀ g, ef.ap ⟨t, m ++ gaps (ef.n + g)⟩ = ⟨t', m' ++ gaps g⟩) → (a = b → t.all (SV.al (isLt m.length)) = true → m.all (It.al (isLt m.length)) = true → t'.all (SV.al (isLt m'.length)) = true ∧ m'.all (It.al (isLt m'.length)) = true) →
    r.es.length = (o :: l).length ∧ (⟨r.t, r.m⟩ : St) = stD (fun _ => true) 0 ⟨t, m ++ gaps (sumN r.es)⟩ r.es ∧
    (∀ (i : Nat) (o' : Oper) (e : Ef), (o :: l)[i]? = some o' → r.es[i]? = some e → ∃ (mi : List It) (g : Nat), (stD (fun j => Nat.blt j i) 0 ⟨t, m ++ gaps (sumN r.es)⟩ r.es).m = mi ++ gaps g ∧ e.b = mi.length ∧ m.length ≤ e.b ∧ Fact S C all o' e (stD (fun j => Nat.blt j i) 0 ⟨t, m ++ gaps (sumN r.es)⟩ r.es).t mi) ∧
    (∀ (i j : Nat) (e f : Ef), r.es[i]? = some e → r.es[j]? = some f → i < j → e.b + e.n ≤ f.b) ∧
    (t.all (SV.al (isLt m.length)) = true → m.all (It.al (isLt m.length)) = true → r.t.all (SV.al (isLt r.m.length)) = true ∧ r.m.all (It.al (isLt r.m.length)) = true) ∧ m.length ≤ r.m.length := by
   intro ef t' m' n' ds' r' a b hr' hr hf hb hm' hap hal
   subst hr
   simp only at e ⊢
   obtain ⟨eab, e'⟩ := List.cons.inj e
   obtain ⟨i1, i2, i3, i4, i5, i6⟩ := regE_ok l n' ds' t' m' r' hr' e'
   have hs : ∀ D : Nat → Bool, D 0 = true → stD D 0 ⟨t, m ++ gaps (sumN (ef :: r'.es))⟩ (ef :: r'.es) = stD (fun j => D (j + 1)) 0 ⟨t', m' ++ gaps (sumN r'.es)⟩ r'.es := fun D hD => by
    simp only [stD, sumN, hD, cond_true, hap, stD_shift]
   refine ⟨by simp [i1], by rw [hs _ rfl]; exact i2, ?_, ?_, fun h1 h2 => ?_, by omega⟩
   ·intro i o' e2 ho he
    cases i with
    | zero =>
     simp only [List.getElem?_cons_zero, Option.some.injEq] at ho he
     subst ho
     subst he
     have h0 : stD (fun j => Nat.blt j 0) 0 ⟨t, m ++ gaps (sumN (ef :: r'.es))⟩ (ef :: r'.es) = ⟨t, m ++ gaps (sumN (ef :: r'.es))⟩ := by
      have : ∀ (l : List Ef) (k : Nat) (s : St), stD (fun j => Nat.blt j 0) k s l = s := by
       intro l
       induction l with
       | nil => intro _ _; rfl
       | cons x l ih => intro k s; simp only [stD]; exact ih _ _
      exact this _ _ _
     rw [h0]
     exact ⟨m, _, rfl, hb, by omega, hf eab⟩
    | succ i =>
     simp only [List.getElem?_cons_succ] at ho he
     obtain ⟨mi, g, h1, h2, h3, h4⟩ := i3 i o' e2 ho he
     have hsh : stD (fun j => Nat.blt j (i + 1)) 0 ⟨t, m ++ gaps (sumN (ef :: r'.es))⟩ (ef :: r'.es) = stD (fun j => Nat.blt j i) 0 ⟨t', m' ++ gaps (sumN r'.es)⟩ r'.es := by
      rw [hs _ rfl]
      rfl
     rw [hsh]
     exact ⟨mi, g, h1, h2, by omega, h4⟩
   ·intro i j x y hx hy hij
    cases i with
    | zero =>
     simp only [List.getElem?_cons_zero, Option.some.injEq] at hx
     subst hx
     cases j with
     | zero => omega
     | succ j =>
      simp only [List.getElem?_cons_succ] at hy
      have hjl : j < l.length := by
       have := (List.getElem?_eq_some_iff.1 hy).1
       omega
      obtain ⟨mi, g, -, -, h3, -⟩ := i3 j l[j] y (List.getElem?_eq_getElem hjl) hy
      omega
    | succ i =>
     cases j with
     | zero => omega
     | succ j => exact i4 i j x y (by simpa using hx) (by simpa using hy) (by omega)
   ·obtain ⟨h3, h4⟩ := hal eab h1 h2
    exact i5 h3 h4
  unfold regE at h
  split at h
  ·rename_i hw
   split at h
   ·rename_i hsel
    split at h
    ·rename_i rs a b hop
     split at h
     ·rename_i hv
      split at h
      ·rename_i r' hr'
       simp only [Option.some.injEq] at h
       have hb := opS_b hop
       have hab : ({ a with b := (gdTk all t o true).1 } : Tk) = { b with b := (gdTk all t o true).2 } → a = b := fun e2 => by
        obtain ⟨q1, j1, s1, r1, -⟩ := Tk.mk.inj e2
        obtain ⟨qa, ia, sa, ra, ba⟩ := a
        obtain ⟨qb, ib, sb, rb, bb⟩ := b
        simp only at q1 j1 s1 r1 hb
        rw [q1, j1, s1, r1, hb.1, hb.2]
       have hin := fun e2 => (opS_ok hop (hab e2)).1
       have hWl : ({ a with b := (gdTk all t o true).1 } : Tk) = { b with b := (gdTk all t o true).2 } → ∀ p ∈ rs.W, p.1 < m.length := fun e2 p hp => by
        have := hin e2
        simp only [inM, Bool.and_eq_true, List.all_eq_true] at this
        simpa [isLt, Nat.blt_eq] using this.1 p.1 (List.mem_append_right _ (List.mem_map_of_mem hp))
       have e0 : ({ a with b := (gdTk all t o true).1 } : Tk) = { b with b := (gdTk all t o true).2 } := by
        have := e
        rw [← h] at this
        exact (List.cons.inj this).1
       refine main _ _ _ _ _ r' _ _ hr' h.symm (fun e2 => .inl ⟨_, rs, a, b, hop, hab e2, hsel, hw, (Tk.mk.inj e2).2.2.2.2, hv, rfl⟩) rfl (by simp [setsM_len]) (fun g => ?_) fun e2 h1 h2 => ?_
       ·simp only [Ef.ap]
        rw [setsM_gaps rs.N m rs.W g (hWl e0)]
       ·simp only [Bool.and_eq_true] at hv
        simp only [List.length_append, setsM_len]
        refine ⟨all_putS (all_imp (SV.al_imp (lt_imp (by omega))) h1) hv.1, ?_⟩
        rw [List.all_append, Bool.and_eq_true]
        exact ⟨all_setsM _ (all_imp (It.al_imp (lt_imp (by omega))) h2) hv.2.1, hv.2.2⟩
      ·cases h
     ·cases h
    ·cases h
   ·cases h
  ·rename_i hw
   split at h
   ·rename_i r' hr'
    simp only [Option.some.injEq] at h
    refine main _ _ _ _ _ r' _ _ hr' h.symm (fun e2 => .inr ⟨hw, (Tk.mk.inj e2).2.2.2.2, rfl⟩) rfl (by simp) (fun g => ?_) fun _ h1 h2 => ⟨all_putS h1 rfl, h2⟩
    simp [Ef.ap, setsM]
   ·cases h
  ·cases h
theorem regE_le {P : Program} {S : Seat P} {C : World → Prop} {all : List Oper} : ∀ (l : List Oper) (n : Nat) (ds : List (Nat × Dr S C)) (t : List SV) (m : List It) (r : Re S C), regE all n ds t m l = some r → ∀ (i : Nat) (e : Ef), r.es[i]? = some e → e.b + e.n ≤ r.m.length
 | [], n, ds, t, m, r, h => by
  simp only [regE, Option.some.injEq] at h
  subst h
  intro i e he
  simp at he
 | o :: l, n, ds, t, m, r, h => by
  have hlen : ∀ (l : List Oper) (n : Nat) (ds : List (Nat × Dr S C)) (t : List SV) (m : List It) (r : Re S C), regE all n ds t m l = some r → m.length ≤ r.m.length := by
   intro l
   induction l with
   | nil => intro n ds t m r h; simp only [regE, Option.some.injEq] at h; subst h; exact Nat.le_refl _
   | cons o l ih =>
    intro n ds t m r h
    unfold regE at h
    split at h
    ·split at h
     ·split at h
      ·split at h
       ·split at h
        ·rename_i r' hr'
         simp only [Option.some.injEq] at h
         subst h
         have := ih _ _ _ _ _ hr'
         simp only [List.length_append, setsM_len] at this
         simp only
         omega
        ·cases h
       ·cases h
      ·cases h
     ·cases h
    ·split at h
     ·rename_i r' hr'
      simp only [Option.some.injEq] at h
      subst h
      exact ih _ _ _ _ r' hr'
     ·cases h
    ·cases h
  unfold regE at h
  split at h
  ·split at h
   ·split at h
    ·rename_i rs a b hop
     split at h
     ·split at h
      ·rename_i r' hr'
       simp only [Option.some.injEq] at h
       subst h
       have h1 := hlen _ _ _ _ _ _ hr'
       simp only [List.length_append, setsM_len] at h1
       intro i e he
       cases i with
       | zero =>
        simp only [List.getElem?_cons_zero, Option.some.injEq] at he
        subst he
        exact h1
       | succ i => exact regE_le l _ _ _ _ r' hr' i e (by simpa using he)
      ·cases h
     ·cases h
    ·cases h
   ·cases h
  ·split at h
   ·rename_i r' hr'
    simp only [Option.some.injEq] at h
    subst h
    have h1 := hlen _ _ _ _ _ _ hr'
    intro i e he
    cases i with
    | zero =>
     simp only [List.getElem?_cons_zero, Option.some.injEq] at he
     subst he
     exact h1
    | succ i => exact regE_le l _ _ _ _ r' hr' i e (by simpa using he)
   ·cases h
  ·cases h
end Go.Proofs.YtbdgncndhnnjoaaGreatDoor

namespace Go.Proofs.YtbdgncndhnnjoaaGreatDoor
open Go.RowKit
set_option linter.unusedVariables false
set_option linter.unusedSimpArgs false
def hasN (l : List Nat) (i : Nat) : Bool := l.any (fun j => Nat.beq j i)
theorem hasN_iff {l : List Nat} {i : Nat} : hasN l i = true ↔ i ∈ l := by
 simp only [hasN, List.any_eq_true]
 exact ⟨fun ⟨j, hj, e⟩ => nbeq.1 e ▸ hj, fun h => ⟨i, h, nbeq.2 rfl⟩⟩
def preds (o : Oper) : List Nat := (o.after.toList.filter (Region.binds .any)).map (·.on)
def onceN (l : List Nat) : List Nat := l.foldl (fun a i => bif hasN a i then a else i :: a) []
def ancGo : List (List Nat) → List Oper → List (List Nat)
 | acc, [] => acc
 | acc, o :: l => ancGo (acc ++ [onceN ((preds o).flatMap fun p => p :: (acc[p]?).getD [])]) l
def okAnc (all : List Oper) (A : List (List Nat)) : Bool := (List.range all.length).all fun i => match all[i]? with
 | some o => (preds o).all (fun p => Nat.blt p i) && ((A[i]?).getD []).all fun k => (preds o).any fun p => Nat.beq k p || hasN ((A[p]?).getD []) k
 | none => true
def disj (l m : List Nat) : Bool := l.all fun i => !hasN m i
def newNo (b n : Nat) (j : Nat) : Bool := !newAt b n j
def noMent (e : Ef) (b n : Nat) : Bool := e.v.al (newNo b n) && e.W.all (fun p => p.2.al (newNo b n))
def dstL (e : Ef) : List Nat := match e.d with
 | some x => [x]
 | none => []
def ind1 (e f : Ef) : Bool := disj (dstL e) f.rd && (disj (dstL e) (dstL f) && (disj (e.W.map Prod.fst) (f.R ++ f.W.map Prod.fst) && noMent e f.b f.n))
def pairsOK (A : List (List Nat)) (es : List Ef) : Bool := (List.range es.length).all fun j => (List.range j).all fun i => hasN ((A[j]?).getD []) i || match es[i]?, es[j]? with
 | some e, some f => ind1 e f && ind1 f e
 | _, _ => true
def regOK (all : List Oper) (es : List Ef) : Bool := okAnc all (ancGo [] all) && pairsOK (ancGo [] all) es
section
variable {all : List Oper} {A : List (List Nat)}
theorem okAnc_lt (h : okAnc all A = true) {i p : Nat} {o : Oper} (ho : all[i]? = some o) (hp : p ∈ preds o) : p < i := by
 have hi := (List.getElem?_eq_some_iff.1 ho).1
 have := List.all_eq_true.1 h i (List.mem_range.2 hi)
 simp only [ho, Bool.and_eq_true, List.all_eq_true] at this
 simpa [Nat.blt_eq] using this.1 p hp
theorem anc_in (h : okAnc all A = true) {D : Nat → Bool} (hD : ∀ j o, D j = true → all[j]? = some o → ∀ p ∈ preds o, D p = true) (hlt : ∀ j, D j = true → j < all.length) : ∀ (i : Nat) (o : Oper), all[i]? = some o → (∀ p ∈ preds o, D p = true) → ∀ k ∈ (A[i]?).getD [], D k = true := by
 intro i
 induction i using Nat.strongRecOn with
 | _ i ih =>
  intro o ho hp k hk
  have hi := (List.getElem?_eq_some_iff.1 ho).1
  have := List.all_eq_true.1 h i (List.mem_range.2 hi)
  simp only [ho, Bool.and_eq_true, List.all_eq_true] at this
  have hk2 := this.2 k hk
  simp only [List.any_eq_true, Bool.or_eq_true] at hk2
  obtain ⟨p, hpm, hq⟩ := hk2
  rcases hq with hq | hq
  ·rw [nbeq.1 hq]
   exact hp p hpm
  ·have hpD := hp p hpm
   have hpl := hlt p hpD
   exact ih p (okAnc_lt h ho hpm) all[p] (List.getElem?_eq_getElem hpl) (hD p _ hpD (List.getElem?_eq_getElem hpl)) k (hasN_iff.1 hq)
end
theorem disj_of {l m : List Nat} (h : disj l m = true) {i : Nat} (hl : i ∈ l) : i ∉ m := fun hm => by
 have := List.all_eq_true.1 h i hl
 rw [hasN_iff.2 hm] at this
 cases this
theorem newAt_iff {b n j : Nat} : newAt b n j = true ↔ b ≤ j ∧ j < b + n := by
 simp [newAt, Nat.blt_eq]
theorem ix_key : ∀ (N : List It) (k j : Nat) (x : It), N[j]? = some x → (k + j, x) ∈ ix k N := by
 intro N
 induction N with
 | nil => intro k j x h; simp at h
 | cons y N ih =>
  intro k j x h
  cases j with
  | zero => simp at h; subst h; simp [ix]
  | succ j =>
   simp only [ix, List.mem_cons]
   right
   have := ih (k + 1) j x (by simpa using h)
   rwa [show k + 1 + j = k + (j + 1) by omega] at this
theorem noTw_iff {l : List Nat} : noTw l = true ↔ l.Nodup := by
 induction l with
 | nil => simp [noTw]
 | cons i l ih =>
  simp only [noTw, Bool.and_eq_true, List.all_eq_true, List.nodup_cons, ih]
  constructor
  ·rintro ⟨h1, h2⟩
   refine ⟨fun hm => ?_, h2⟩
   have := h1 i hm
   rw [Nat.beq_refl] at this
   cases this
  ·rintro ⟨h1, h2⟩
   refine ⟨fun j hj => ?_, h2⟩
   rw [nbne.2 (fun e : i = j => h1 (by rw [e]; exact hj))]
   rfl
theorem ix_nodup : ∀ (N : List It) (b : Nat), ((ix b N).map Prod.fst).Nodup
 | [], _ => by simp [ix]
 | x :: N, b => by
  simp only [ix, List.map_cons, List.nodup_cons]
  refine ⟨fun h => ?_, ix_nodup N (b + 1)⟩
  obtain ⟨p, hp, e⟩ := List.mem_map.1 h
  have := ix_fst N (b + 1) p hp
  omega
theorem ls_gap {P : Program} {S : Seat P} {c : Ctx} {q : (Nat → Ent) → Sem Next} {m : List It} {R : List Nat} {W : List (Nat × It)} {N : List It} {b : Nat} {v : SV} {pre : List (Nat × It)} (hlt : ∀ i ∈ R ++ W.map Prod.fst, i < b) (hnd : noTw (R ++ W.map Prod.fst) = true) (hb : b + N.length ≤ m.length)
  (hpre : pre = lk m (R ++ W.map Prod.fst)) (h : LS S (fun w => Mem S c [] w) q pre (newAt b N.length) v (lk m R ++ (W ++ ix b N))) (hg : ∀ j, b ≤ j → j < b + N.length → m[j]? = some gap) {E : Nat → Ent} {w : World} (M : Mem S c (dens E 0 m) w) (hok : oks E m) (hal : m.all (It.al (newNo b N.length)) = true) :
  Fin P ((q E).run P w) fun r w' => ∃ E' : Nat → Ent, (∀ i, newAt b N.length i = false → E' i = E i) ∧ r = v.den E' ∧ Mem S c (dens E' 0 (setsM m (W ++ ix b N))) w' ∧ oks E' (setsM m (W ++ ix b N)) := by
 subst hpre
 have hin : inM m (R ++ (W ++ ix b N).map Prod.fst) = true := by
  simp only [inM, Bool.and_eq_true, List.all_eq_true]
  refine ⟨fun i hi => ?_, ?_⟩
  ·rw [List.map_append, ← List.append_assoc] at hi
   rcases List.mem_append.1 hi with hi | hi
   ·have := hlt i hi
    simp only [isLt, Nat.blt_eq]
    omega
   ·obtain ⟨p, hp, rfl⟩ := List.mem_map.1 hi
    have := ix_fst N b p hp
    simp only [isLt, Nat.blt_eq]
    omega
  ·rw [noTw_iff, List.map_append, ← List.append_assoc, List.nodup_append]
   refine ⟨noTw_iff.1 hnd, ix_nodup N b, fun x hx y hy e => ?_⟩
   obtain ⟨p, hp, rfl⟩ := List.mem_map.1 hy
   have := ix_fst N b p hp
   have := hlt x hx
   omega
 have p := dens_part E _ _ hin
 have M1 := M.perm p
 have hixg : ∀ (N : List It) (b : Nat), (∀ j, b ≤ j → j < b + N.length → m[j]? = some gap) → denP E (lk m ((ix b N).map Prod.fst)) = [] := by
  intro N
  induction N with
  | nil => intro b _; rfl
  | cons x N ih =>
   intro b hg
   simp only [ix, List.map_cons, lk, denP]
   rw [hg b (Nat.le_refl _) (by simp)]
   have := ih (b + 1) fun j h1 h2 => hg j (by omega) (by simp at h2 ⊢; omega)
   simp only [lk] at this
   rw [this]
   rfl
 have e1 : denP E (lk m (R ++ (W ++ ix b N).map Prod.fst)) = denP E (lk m (R ++ W.map Prod.fst)) := by
  rw [List.map_append, ← List.append_assoc, lk_app, denP_app, hixg N b hg, List.append_nil]
 rw [e1] at M1
 have hin' := hin
 simp only [inM, Bool.and_eq_true, List.all_eq_true] at hin'
 have hlt2 : ∀ i ∈ R ++ (W ++ ix b N).map Prod.fst, i < m.length := fun i hi => by simpa [isLt, Nat.blt_eq] using hin'.1 i hi
 refine (h E w M.laid (fun w' hg => ?_) (M1.drop (List.sublist_append_left _ _)).there fun x hx => ?_).mono ?_
 ·refine ⟨M.old.trans hg fun x hx => ?_, by simp, by simp, by simp, M.lay, M.ne⟩
  obtain ⟨d, hd, rfl⟩ := List.mem_map.1 hx
  exact M1.ge d (List.mem_append_left _ hd)
 ·obtain ⟨i, hi, rfl⟩ := List.mem_map.1 hx
  have hl : i < m.length := by have := hlt i hi; omega
  simp only [List.getElem?_eq_getElem hl, Option.getD_some]
  exact hok i _ (List.getElem?_eq_getElem hl)
 ·rintro r w' ⟨E', hE, hok', hr, hT⟩
  refine ⟨E', hE, hr, ?_, ?_⟩
  ·have M2 := M1.step hT
   refine M2.perm ?_
   have p2 := dens_part E' (R ++ (W ++ ix b N).map Prod.fst) (setsM m (W ++ ix b N)) (by simpa only [inM, setsM_len] using hin)
   rw [lk_sets hin, gapM_sets] at p2
   have e : dens E' 0 (gapM m (R ++ (W ++ ix b N).map Prod.fst)) = dens E 0 (gapM m (R ++ (W ++ ix b N).map Prod.fst)) := by
    have key : ∀ (l : List It) (k : Nat), (∀ i x, l[i]? = some x → newAt b N.length (k + i) = true → x = gap) → l.all (It.al (newNo b N.length)) = true → dens E' k l = dens E k l := by
     intro l
     induction l with
     | nil => intro _ _ _; rfl
     | cons x l ih =>
      intro k h1 h2
      simp only [List.all_cons, Bool.and_eq_true] at h2
      simp only [dens]
      rw [ih (k + 1) (fun i y hy hn => h1 (i + 1) y (by simpa using hy) (by rwa [show k + (i + 1) = k + 1 + i by omega])) h2.2]
      congr 1
      cases hn : newAt b N.length k with
      | true =>
       have := h1 0 x rfl (by simpa using hn)
       subst this
       rfl
      | false =>
       exact x.den_congr (p := newNo b N.length) (fun i hi => hE i (by simpa [newNo] using hi)) (hE k hn) h2.1
    refine key _ 0 (fun i x hx hn => ?_) (all_gapM rfl _ hal)
    rw [Nat.zero_add] at hn
    have hm : i ∈ R ++ (W ++ ix b N).map Prod.fst := by
     obtain ⟨h1, h2⟩ := newAt_iff.1 hn
     rw [List.map_append]
     refine List.mem_append_right _ (List.mem_append_right _ ?_)
     have hj : i - b < N.length := by omega
     have := ix_key N b (i - b) N[i - b] (List.getElem?_eq_getElem hj)
     rw [show b + (i - b) = i by omega] at this
     exact List.mem_map.2 ⟨_, this, rfl⟩
    rw [gapM_at _ _ _ hm (hlt2 i hm)] at hx
    exact (Option.some.inj hx).symm
   rw [e, denP_app] at p2
   rw [denP_app]
   exact p2.symm
  ·intro i x hx
   by_cases hw : i ∈ (W ++ ix b N).map Prod.fst
   ·obtain ⟨q, hq, rfl⟩ := List.mem_map.1 hw
    rw [setsM_at (W ++ ix b N) m (noTw_append hin'.2).1 (fun r hr => hlt2 _ (List.mem_append_right _ (List.mem_map_of_mem hr))) q hq] at hx
    cases hx
    exact hok' q (List.mem_append_right _ hq)
   ·rw [setsM_get _ _ _ fun q hq e => hw (List.mem_map.2 ⟨q, hq, e⟩)] at hx
    by_cases hn : newAt b N.length i = true
    ·exfalso
     obtain ⟨h1, h2⟩ := newAt_iff.1 hn
     have hj : i - b < N.length := by omega
     have := ix_key N b (i - b) N[i - b] (List.getElem?_eq_getElem hj)
     rw [show b + (i - b) = i by omega] at this
     exact hw (by rw [List.map_append]; exact List.mem_append_right _ (List.mem_map.2 ⟨_, this, rfl⟩))
    ·rw [It.ok_congr (hE i (by simpa using hn))]
     exact hok i x hx
theorem wanted_at {all : List Oper} {o : Oper} {t t' : Array Value} (h : ∀ x ∈ o.looksAt all.toArray, t.getD x undef = t'.getD x undef) : Region.wanted o (yielded all.toArray t) = Region.wanted o (yielded all.toArray t') := by
 unfold Region.wanted
 cases hg : o.guard with
 | none => rfl
 | some gw =>
  obtain ⟨g, want⟩ := gw
  have hy : yielded all.toArray t g = yielded all.toArray t' g := by
   unfold yielded
   cases ht : (all.toArray[g]?).bind (·.dst) with
   | none => rfl
   | some d =>
    have hm : d ∈ o.looksAt all.toArray := by
     unfold Oper.looksAt
     rw [hg]
     simp only [ht]
     exact List.mem_append_right _ (by simp)
    have := h d hm
    rw [Array.getD_eq_getD_getElem?, Array.getD_eq_getD_getElem?] at this
    simp only [Option.bind_some]
    cases h1 : t[d]? <;> cases h2 : t'[d]? <;> rw [h1, h2] at this <;> simp only [Option.getD_some, Option.getD_none] at this
    ·subst this; rfl
    ·subst this; rfl
    ·subst this; rfl
  simp only [hy]
theorem want_of' {all : List Oper} {t : List SV} {o : Oper} {b : Bool} (h : (gdTk all t o b).1 = (gdTk all t o b).2) (hw : wantS all t o = some b) (E : Nat → Ent) : Region.wanted o (yielded all.toArray (tv E t)) = b :=
 want_of h hw (a := ⟨tv E t, []⟩) rfl
theorem tv_at (E : Nat → Ent) (t : List SV) (x : Nat) : (tv E t).getD x undef = ((t[x]?).getD (vV undef)).den E := by
 rw [Array.getD_eq_getD_getElem?]
 simp only [tv, List.getElem?_toArray, List.getElem?_map]
 cases t[x]? <;> rfl
theorem reg_ok {P : Program} {S : Seat P} {c : Ctx} {all : List Oper} {n : Nat} {ds : List (Nat × Dr S fun w => Mem S c [] w)} {s : St} {r : Re S fun w => Mem S c [] w} {id : Nat} {Q : Exit → Act → World → Prop} (hr : regE all n ds s.t s.m all = some r) (hA : r.A = r.B) (hc : regOK all r.es = true)
  {E : Nat → Ent} {a : Act} {w : World} (H : Hold S c E s a w) (k : ∀ E' a' w', (∀ i, i < s.m.length → E' i = E i) → Hold S c E' ⟨r.t, r.m⟩ a' w' → Q .normal a' w') : (Code.region id all.toArray true).wp P Q a w := by
 obtain ⟨hlen, hfin, hat, hmono, hal, hlm⟩ := regE_ok all n ds s.t s.m r hr hA
 simp only [regOK, Bool.and_eq_true] at hc
 obtain ⟨hanc, hpair⟩ := hc
 generalize ancGo [] all = A at hanc hpair
 have pairs : ∀ (i j : Nat) (e f : Ef), r.es[i]? = some e → r.es[j]? = some f → i ≠ j → i ∈ (A[j]?).getD [] ∨ j ∈ (A[i]?).getD [] ∨ (ind1 e f = true ∧ ind1 f e = true) := by
  intro i j e f he hf hij
  have hi := (List.getElem?_eq_some_iff.1 he).1
  have hj := (List.getElem?_eq_some_iff.1 hf).1
  rcases Nat.lt_or_gt_of_ne hij with h | h
  ·have := List.all_eq_true.1 (List.all_eq_true.1 hpair j (List.mem_range.2 hj)) i (List.mem_range.2 h)
   simp only [he, hf, Bool.or_eq_true, Bool.and_eq_true] at this
   exact this.imp hasN_iff.1 fun h => .inr h
  ·have := List.all_eq_true.1 (List.all_eq_true.1 hpair i (List.mem_range.2 hi)) j (List.mem_range.2 h)
   simp only [he, hf, Bool.or_eq_true, Bool.and_eq_true] at this
   exact .inr (this.imp hasN_iff.1 fun h => h.symm)
 let s0 : St := ⟨s.t, s.m ++ gaps (sumN r.es)⟩
 -- what holds behind those that are listed
 let Inv : Array Bool → Act → World → Prop := fun L a w => L.size = all.length ∧ (∀ (j : Nat) (o : Oper), L.getD j false = true → all[j]? = some o → ∀ p ∈ preds o, L.getD p false = true) ∧
  ∃ E' : Nat → Ent, (∀ i, i < s.m.length → E' i = E i) ∧ a.tmps = tv E' (stD (fun j => L.getD j false) 0 s0 r.es).t ∧ a.defers = [] ∧ Mem S c (dens E' 0 (stD (fun j => L.getD j false) 0 s0 r.es).m) w ∧ oks E' (stD (fun j => L.getD j false) 0 s0 r.es).m
 have key : ∀ (fuel : Nat) (L : Array Bool) (a : Act) (w : World), (L.toList.countP (fun b => !b)) = fuel → Inv L a w → wpAny P .any all.toArray Q fuel L a w := by
  intro fuel
  induction fuel with
  | zero =>
   intro L a w hcnt ⟨hsz, hcl, E', hE', htm, hdf, hM, hok⟩
   have hall : ∀ j, j < all.length → L.getD j false = true := fun j hj => by
    have h1 := List.countP_eq_zero.1 hcnt
    have h2 : L.toList[j]? = some L[j] := by rw [Array.getElem?_toList]; exact Array.getElem?_eq_getElem (by omega)
    have h3 := h1 L[j] (List.mem_of_getElem? h2)
    rw [Array.getD_eq_getD_getElem?, Array.getElem?_eq_getElem (by omega)]
    simpa using h3
   have hst : stD (fun j => L.getD j false) 0 s0 r.es = ⟨r.t, r.m⟩ := by
    rw [hfin]
    exact stD_congr _ _ _ fun j _ hj => hall j (by omega)
   rw [hst] at htm hM hok
   refine ⟨?_, k E' a w hE' ⟨htm, hdf, hM, hok, (hal H.wt H.wm).1, (hal H.wt H.wm).2⟩⟩
   cases hrd : Region.ready .any all.toArray L with
   | nil => rfl
   | cons i l =>
    exfalso
    have hm : i ∈ Region.ready .any all.toArray L := by rw [hrd]; simp
    obtain ⟨h1, o, ho, -⟩ := mem_ready.1 hm
    have hi : i < all.length := by simpa using (Array.getElem?_eq_some_iff.1 ho).1
    have := hall i hi
    rw [Array.getD_eq_getD_getElem?, Array.getElem?_eq_getElem (by omega)] at h1 this
    simp only [Option.getD_some] at h1 this
    rw [this] at h1
    cases h1
  | succ fuel ih =>
   intro L a w hcnt hI
   obtain ⟨hsz, hcl, E', hE', htm, hdf, hM, hok⟩ := hI
   have hD : ∀ j o, L.getD j false = true → all[j]? = some o → ∀ p ∈ preds o, L.getD p false = true := hcl
   have hDlt : ∀ j, L.getD j false = true → j < all.length := fun j h => by
    rw [Array.getD_eq_getD_getElem?] at h
    cases hj : L[j]? with
    | none => rw [hj] at h; cases h
    | some b => have := (Array.getElem?_eq_some_iff.1 hj).1; omega
   refine ⟨fun hrd => ?_, fun i hi => ?_⟩
   ·-- something is ready: the first that is not listed
    exfalso
    have hex : ∃ j, j < all.length ∧ L.getD j false = false := by
     refine Classical.byContradiction fun hno => ?_
     have : L.toList.countP (fun b => !b) = 0 := List.countP_eq_zero.2 fun b hb => by
      obtain ⟨j, hj⟩ := List.mem_iff_getElem?.1 hb
      have hjl := (List.getElem?_eq_some_iff.1 hj).1
      simp only [Array.length_toList] at hjl
      have : L.getD j false = true := by
       cases h : L.getD j false with
       | true => rfl
       | false => exact absurd ⟨j, by omega, h⟩ hno
      rw [Array.getD_eq_getD_getElem?, ← Array.getElem?_toList, hj] at this
      simpa using this
     omega
    obtain ⟨j, hj, hj2⟩ := hex
    have hmin : ∃ j, (j < all.length ∧ L.getD j false = false) ∧ ∀ i, i < j → L.getD i false = true := by
     clear hcnt ih
     induction j using Nat.strongRecOn with
     | _ j ihj =>
      by_cases h : ∃ i, i < j ∧ L.getD i false = false
      ·obtain ⟨i, h1, h2⟩ := h
       exact ihj i h1 (by omega) h2
      ·refine ⟨j, ⟨hj, hj2⟩, fun i hi => ?_⟩
       cases h2 : L.getD i false with
       | true => rfl
       | false => exact absurd ⟨i, hi, h2⟩ h
    obtain ⟨j, ⟨hj, hj2⟩, hmin⟩ := hmin
    have : j ∈ Region.ready .any all.toArray L := mem_ready.2 ⟨by
     rw [Array.getD_eq_getD_getElem?, Array.getElem?_eq_getElem (by omega)] at hj2 ⊢
     simpa using hj2, all[j], by simp [hj], fun e he hb => hmin _ (okAnc_lt hanc (List.getElem?_eq_getElem hj) (by
     unfold preds
     exact List.mem_map.2 ⟨e, List.mem_filter.2 ⟨by simpa using he, hb⟩, rfl⟩))⟩
    rw [hrd] at this
    cases this
   ·obtain ⟨hun, o, ho, hpr⟩ := mem_ready.1 hi
    have ho' : all[i]? = some o := by simpa using ho
    have hil := (List.getElem?_eq_some_iff.1 ho').1
    have hiF : L.getD i false = false := by
     rw [Array.getD_eq_getD_getElem?, Array.getElem?_eq_getElem (by omega)] at hun ⊢
     simpa using hun
    obtain ⟨e, he⟩ : ∃ e, r.es[i]? = some e := ⟨r.es[i], List.getElem?_eq_getElem (by omega)⟩
    have hprD : ∀ p ∈ preds o, L.getD p false = true := fun p hp => by
     obtain ⟨x, hx, rfl⟩ := List.mem_map.1 hp
     obtain ⟨hx1, hx2⟩ := List.mem_filter.1 hx
     exact hpr x (by simpa using hx1) hx2
    have hanD : ∀ k ∈ (A[i]?).getD [], L.getD k false = true := anc_in hanc hD hDlt i o ho' hprD
    -- nobody who waits for i is listed
    have hnot : ∀ j, L.getD j false = true → i ∉ (A[j]?).getD [] := fun j hj hm => by
     have hjl := hDlt j hj
     have := anc_in hanc hD hDlt j all[j] (List.getElem?_eq_getElem hjl) (hD j _ hj (List.getElem?_eq_getElem hjl)) i hm
     rw [hiF] at this
     cases this
    have hancl : ∀ k ∈ (A[i]?).getD [], k < i := by
     have : ∀ (i : Nat) (o : Oper), all[i]? = some o → ∀ k ∈ (A[i]?).getD [], k < i := by
      intro i
      induction i using Nat.strongRecOn with
      | _ i ihi =>
       intro o ho k hk
       have hi := (List.getElem?_eq_some_iff.1 ho).1
       have h2 := List.all_eq_true.1 hanc i (List.mem_range.2 hi)
       simp only [ho, Bool.and_eq_true, List.all_eq_true] at h2
       have hk2 := h2.2 k hk
       simp only [List.any_eq_true, Bool.or_eq_true] at hk2
       obtain ⟨p, hpm, hq⟩ := hk2
       have hpi := okAnc_lt hanc ho hpm
       rcases hq with hq | hq
       ·rw [nbeq.1 hq]; exact hpi
       ·have := ihi p hpi all[p] (List.getElem?_eq_getElem (by omega)) k (hasN_iff.1 hq)
        omega
     exact this i o ho'
    -- who meddles with i is done just if it stands ahead in the text
    have hmask : ∀ (j : Nat) (f : Ef), r.es[j]? = some f → ¬ (ind1 e f = true ∧ ind1 f e = true) → L.getD j false = Nat.blt j i := by
     intro j f hf hni
     by_cases hji : j = i
     ·subst hji
      rw [hiF]
      symm
      rw [← Bool.not_eq_true, Nat.blt_eq]
      omega
     ·rcases pairs i j e f he hf (fun h => hji h.symm) with h | h | h
      ·-- i ahead of j
       have h1 : L.getD j false = false := by
        cases hj : L.getD j false with
        | false => rfl
        | true => exact absurd h (hnot j hj)
       rw [h1]
       symm
       rw [← Bool.not_eq_true, Nat.blt_eq]
       have hjl := (List.getElem?_eq_some_iff.1 hf).1
       have : i < j := by
        have h3 : ∀ (j : Nat) (o : Oper), all[j]? = some o → ∀ k ∈ (A[j]?).getD [], k < j := by
         intro i
         induction i using Nat.strongRecOn with
         | _ i ihi =>
          intro o ho k hk
          have hi := (List.getElem?_eq_some_iff.1 ho).1
          have h2 := List.all_eq_true.1 hanc i (List.mem_range.2 hi)
          simp only [ho, Bool.and_eq_true, List.all_eq_true] at h2
          have hk2 := h2.2 k hk
          simp only [List.any_eq_true, Bool.or_eq_true] at hk2
          obtain ⟨p, hpm, hq⟩ := hk2
          have hpi := okAnc_lt hanc ho hpm
          rcases hq with hq | hq
          ·rw [nbeq.1 hq]; exact hpi
          ·have := ihi p hpi all[p] (List.getElem?_eq_getElem (by omega)) k (hasN_iff.1 hq)
           omega
        exact h3 j all[j] (List.getElem?_eq_getElem (by omega)) i h
       omega
      ·rw [hanD j h]
       symm
       rw [Nat.blt_eq]
       exact hancl j h
      ·exact absurd h hni
    obtain ⟨mi, g, hmi, heb, hlb, hfact⟩ := hat i o e ho' he
    have hlenD := stD_len (fun j => L.getD j false) r.es 0 s0
    have hlenI := stD_len (fun j => Nat.blt j i) r.es 0 s0
    have hslot : ∀ x ∈ e.rd, (stD (fun j => L.getD j false) 0 s0 r.es).t[x]? = (stD (fun j => Nat.blt j i) 0 s0 r.es).t[x]? := fun x hx => by
     refine stD_slot r.es 0 s0 s0 rfl rfl fun j f hf hd => ?_
     rw [Nat.zero_add]
     refine hmask j f hf fun h => ?_
     have h2 := h.2
     simp only [ind1, Bool.and_eq_true] at h2
     exact disj_of h2.1 (by simp [dstL, hd]) hx
    have hitem : ∀ x ∈ e.R ++ e.W.map Prod.fst, (stD (fun j => L.getD j false) 0 s0 r.es).m[x]? = (stD (fun j => Nat.blt j i) 0 s0 r.es).m[x]? := fun x hx => by
     refine stD_item r.es 0 s0 s0 rfl rfl fun j f hf hd => ?_
     rw [Nat.zero_add]
     refine hmask j f hf fun h => ?_
     have h2 := h.2
     simp only [ind1, Bool.and_eq_true] at h2
     exact disj_of h2.2.2.1 hd hx
    have hcomm : ∀ j f, r.es[j]? = some f → i < j → L.getD (0 + j) false = true → (∀ x, e.d = some x → f.d ≠ some x) ∧ ∀ p ∈ e.W, ∀ q ∈ f.W, p.1 ≠ q.1 := fun j f hf hij hj => by
     rw [Nat.zero_add] at hj
     rcases pairs i j e f he hf (by omega) with h | h | h
     ·exact absurd h (hnot j hj)
     ·have := hancl j h; omega
     ·have h1 := h.1
      simp only [ind1, Bool.and_eq_true] at h1
      refine ⟨fun x hx hf2 => disj_of h1.2.1 (i := x) (by simp [dstL, hx]) (by simp [dstL, hf2]), fun p hp q hq e2 => disj_of h1.2.2.1 (List.mem_map_of_mem hp) (List.mem_append_right _ (List.mem_map.2 ⟨q, hq, e2.symm⟩))⟩
    have hmore : stD (fun j => (L.setIfInBounds i true).getD j false) 0 s0 r.es = e.ap (stD (fun j => L.getD j false) 0 s0 r.es) := by
     rw [← stD_more (D := fun j => L.getD j false) (i := i) (e := e) r.es 0 s0 he (by simpa using hiF) hcomm]
     refine stD_congr _ _ _ fun j _ hj => ?_
     by_cases hji : j = i
     ·subst hji
      simp [Nat.beq_refl, Array.getD_eq_getD_getElem?, show j < L.size by omega]
     ·rw [Nat.zero_add, nbne.2 hji, cond_false, Array.getD_eq_getD_getElem?, Array.getD_eq_getD_getElem?, Array.getElem?_setIfInBounds_ne (fun h => hji h.symm)]
    have hcnt2 : (L.setIfInBounds i true).toList.countP (fun b => !b) = fuel := by
     have hL : L.toList[i]? = some false := by
      rw [Array.getElem?_toList, Array.getElem?_eq_getElem (by omega)]
      rw [Array.getD_eq_getD_getElem?, Array.getElem?_eq_getElem (by omega)] at hiF
      simpa using hiF
     have h2 : ∀ (l : List Bool) (i : Nat), l[i]? = some false → (l.set i true).countP (fun b => !b) + 1 = l.countP (fun b => !b) := by
      intro l
      induction l with
      | nil => intro i h; simp at h
      | cons b l ih =>
       intro i h
       cases i with
       | zero => simp at h; subst h; simp
       | succ i =>
        simp only [List.set_cons_succ, List.countP_cons]
        have := ih i (by simpa using h)
        omega
     have := h2 L.toList i hL
     rw [Array.toList_setIfInBounds]
     omega
    have hcl2 : ∀ (j : Nat) (o : Oper), (L.setIfInBounds i true).getD j false = true → all[j]? = some o → ∀ p ∈ preds o, (L.setIfInBounds i true).getD p false = true := fun j o2 hj ho2 p hp => by
     by_cases hji : j = i
     ·subst hji
      rw [ho'] at ho2
      cases ho2
      exact getD_set_true (hprD p hp)
     ·rw [Array.getD_eq_getD_getElem?, Array.getElem?_setIfInBounds_ne (fun h => hji h.symm), ← Array.getD_eq_getD_getElem?] at hj
      exact getD_set_true (hcl j o2 hj ho2 p hp)
    have hrdx : e.rd = o.looksAt all.toArray := by
     rcases hfact with ⟨d, rs, x, y, -, -, -, -, -, -, rfl⟩ | ⟨-, -, rfl⟩ <;> rfl
    have hlook : ∀ (E' : Nat → Ent), ∀ x ∈ o.looksAt all.toArray, (tv E' (stD (fun j => L.getD j false) 0 s0 r.es).t).getD x undef = (tv E' (stD (fun j => Nat.blt j i) 0 s0 r.es).t).getD x undef := fun E' x hx => by
     rw [tv_at, tv_at, hslot x (by rw [hrdx]; exact hx)]
    unfold wpOp
    rw [ho]
    simp only
    rcases hfact with ⟨d, rs, x, y, hop, hxy, hsel, hw, hgd, hv, hedef⟩ | ⟨hw, hgd, hedef⟩
    ·have hwd : Region.wanted o (yielded all.toArray a.tmps) = true := by
      rw [htm, wanted_at (hlook E')]
      exact want_of' hgd hw E'
     rw [if_pos hwd]
     left
     obtain ⟨hin, hls⟩ := opS_ok hop hxy
     have hex : execOp a.eval o = execOp (fun x => (evS (stD (fun j => Nat.blt j i) 0 s0 r.es).t x).den E') o := execOp_congr o (noSel_of hsel) fun z hz => by
      cases z with
      | tmp k =>
       simp only [Act.eval, evS, htm]
       rw [hlook E' k (List.mem_append_left _ (List.mem_filterMap.2 ⟨.tmp k, by simpa using hz, rfl⟩)), tv_at]
      | const v => rfl
      | global g => rfl
      | func f => rfl
     simp only [inM, Bool.and_eq_true, List.all_eq_true] at hin
     have hltm : ∀ j ∈ rs.R ++ rs.W.map Prod.fst, j < mi.length := fun j hj => by simpa [isLt, Nat.blt_eq] using hin.1 j hj
     have hsub : ∀ j ∈ rs.R ++ rs.W.map Prod.fst, j ∈ e.R ++ e.W.map Prod.fst := fun j hj => by
      rw [hedef]
      simp only [List.map_append]
      rcases List.mem_append.1 hj with h | h
      ·exact List.mem_append_left _ h
      ·exact List.mem_append_right _ (List.mem_append_left _ h)
     have hm1 : ∀ j ∈ rs.R ++ rs.W.map Prod.fst, (stD (fun j => L.getD j false) 0 s0 r.es).m[j]? = mi[j]? := fun j hj => by
      rw [hitem j (hsub j hj), hmi, List.getElem?_append_left (hltm j hj)]
     have hlenm : (stD (fun j => L.getD j false) 0 s0 r.es).m.length = mi.length + g := by
      rw [hlenD.2, ← hlenI.2, hmi]
      simp [gaps]
     have hnew : ∀ j, mi.length ≤ j → j < mi.length + rs.N.length → j ∈ e.R ++ e.W.map Prod.fst := fun j h1 h2 => by
      rw [hedef]
      simp only [List.map_append]
      refine List.mem_append_right _ (List.mem_append_right _ ?_)
      have := ix_key rs.N mi.length (j - mi.length) rs.N[j - mi.length] (List.getElem?_eq_getElem (by omega))
      rw [show mi.length + (j - mi.length) = j by omega] at this
      exact List.mem_map.2 ⟨_, this, rfl⟩
     have hgapx : ∀ j, mi.length ≤ j → j < mi.length + rs.N.length → (stD (fun j => L.getD j false) 0 s0 r.es).m[j]? = (gaps g)[j - mi.length]? := fun j h1 h2 => by
      rw [hitem j (hnew j h1 h2), hmi, List.getElem?_append_right h1]
     have hgb : rs.N.length ≤ g := by
      -- the places lie ready
      have hsum : ∀ (l : List Ef) (i : Nat) (e : Ef), l[i]? = some e → e.n ≤ sumN l := by
       intro l
       induction l with
       | nil => intro i e h; simp at h
       | cons f l ih =>
        intro i e h
        cases i with
        | zero => simp at h; subst h; simp [sumN]
        | succ i => have := ih i e (by simpa using h); simp only [sumN]; omega
      have hfinal : mi.length + rs.N.length ≤ r.m.length := by
       -- of all that is made, the last place is within
       have h1 : (stD (fun _ => true) 0 s0 r.es).m.length = s.m.length + sumN r.es := by rw [(stD_len _ _ _ _).2]; simp [s0, gaps]
       have h2 : ∀ (l : List Ef) (b : Nat), (∀ (i j : Nat) (e f : Ef), l[i]? = some e → l[j]? = some f → i < j → e.b + e.n ≤ f.b) → (∀ (i : Nat) (e : Ef), l[i]? = some e → e.b + e.n ≤ b + sumN l) ∨ ∃ (i : Nat) (e : Ef), l[i]? = some e ∧ b + sumN l < e.b + e.n := by
        intro l b _
        by_cases h : ∀ (i : Nat) (e : Ef), l[i]? = some e → e.b + e.n ≤ b + sumN l
        ·exact .inl h
        ·right
         obtain ⟨i, h⟩ := Classical.not_forall.1 h
         obtain ⟨e, h⟩ := Classical.not_forall.1 h
         obtain ⟨h3, h4⟩ := Classical.not_imp.1 h
         exact ⟨i, e, h3, by omega⟩
       have h4 : e.b + e.n ≤ r.m.length := regE_le all n ds s.t s.m r hr i e he
       rw [hedef] at h4
       simpa using h4
      have h5 : r.m.length = (stD (fun _ => true) 0 s0 r.es).m.length := by
       have := congrArg (fun z : St => z.m.length) hfin
       exact this
      rw [(stD_len _ _ _ _).2] at h5
      have h6 := hlenI.2
      rw [hmi] at h6
      simp only [List.length_append, gaps, List.length_replicate] at h6
      omega
     have hq1 : ∀ j f, r.es[j]? = some f → L.getD (0 + j) false = true → SV.al (newNo mi.length rs.N.length) f.v = true ∧ f.W.all (fun p => p.2.al (newNo mi.length rs.N.length)) = true := fun j f hf hj => by
      rw [Nat.zero_add] at hj
      have hji : j ≠ i := fun h => by rw [h, hiF] at hj; cases hj
      have hmen : (e.b = mi.length) ∧ e.n = rs.N.length := ⟨heb, by rw [hedef]⟩
      rcases pairs i j e f he hf (fun h => hji h.symm) with h | h | h
      ·exact absurd h (hnot j hj)
      ·have hjlt := hancl j h
       have hle := hmono j i f e hf he hjlt
       obtain ⟨m2, g2, -, hfb, -, hf2⟩ := hat j all[j] f (List.getElem?_eq_getElem (by have := (List.getElem?_eq_some_iff.1 hf).1; omega)) hf
       have himp : ∀ z, isLt (f.b + f.n) z = true → newNo mi.length rs.N.length z = true := fun z hz => by
        simp only [isLt, Nat.blt_eq] at hz
        have : newAt mi.length rs.N.length z = false := by
         cases h : newAt mi.length rs.N.length z with
         | false => rfl
         | true => have := newAt_iff.1 h; omega
        simp [newNo, this]
       rcases hf2 with ⟨d2, rs2, x2, y2, hop2, -, -, -, -, hv2, hf2⟩ | ⟨-, -, hf2⟩
       ·simp only [Bool.and_eq_true] at hv2
        rw [hf2] at himp ⊢
        simp only at himp ⊢
        refine ⟨SV.al_imp himp _ hv2.1, ?_⟩
        rw [List.all_append, Bool.and_eq_true]
        refine ⟨List.all_eq_true.2 fun p hp => It.al_imp himp _ (List.all_eq_true.1 hv2.2.1 p hp), List.all_eq_true.2 fun p hp => ?_⟩
        have : p.2 ∈ rs2.N := by
         have key : ∀ (N : List It) (b : Nat) (p : Nat × It), p ∈ ix b N → p.2 ∈ N := by
          intro N
          induction N with
          | nil => intro b p h; simp [ix] at h
          | cons x N ih =>
           intro b p h
           simp only [ix, List.mem_cons] at h
           rcases h with rfl | h
           ·simp
           ·exact List.mem_cons_of_mem _ (ih _ p h)
         exact key _ _ p hp
        exact It.al_imp himp _ (List.all_eq_true.1 hv2.2.2 _ this)
       ·rw [hf2]
        exact ⟨rfl, rfl⟩
      ·have h2 := h.2
       simp only [ind1, Bool.and_eq_true, noMent] at h2
       rw [hmen.1, hmen.2] at h2
       exact h2.2.2.2
     have hlow : ∀ z, isLt s.m.length z = true → newNo mi.length rs.N.length z = true := fun z hz => by
      simp only [isLt, Nat.blt_eq] at hz
      have : newAt mi.length rs.N.length z = false := by
       cases h : newAt mi.length rs.N.length z with
       | false => rfl
       | true => have := newAt_iff.1 h; omega
      simp [newNo, this]
     have hall := stD_all (f := SV.al (newNo mi.length rs.N.length)) (g := It.al (newNo mi.length rs.N.length)) (D := fun j => L.getD j false) r.es 0 s0 (all_imp (SV.al_imp hlow) H.wt) (by
      show (s.m ++ gaps (sumN r.es)).all _ = true
      rw [List.all_append, Bool.and_eq_true]
      exact ⟨all_imp (It.al_imp hlow) H.wm, List.all_eq_true.2 fun x hx => by rw [List.eq_of_mem_replicate hx]; rfl⟩) hq1
     have hpre : lk mi (rs.R ++ rs.W.map Prod.fst) = lk (stD (fun j => L.getD j false) 0 s0 r.es).m (rs.R ++ rs.W.map Prod.fst) := List.map_congr_left fun j hj => by rw [hm1 j hj]
     have hpR : lk mi rs.R = lk (stD (fun j => L.getD j false) 0 s0 r.es).m rs.R := List.map_congr_left fun j hj => by rw [hm1 j (List.mem_append_left _ hj)]
     rw [hpR] at hls
     have hfin2 := ls_gap (c := c) (m := (stD (fun j => L.getD j false) 0 s0 r.es).m) hltm hin.2 (by omega) hpre hls (fun j h1 h2 => by
      rw [hgapx j h1 h2]
      exact List.getElem?_replicate_of_lt (by omega)) hM hok hall.2
     refine Fin.wp ?_
     rw [hex]
     refine hfin2.mono ?_
     rintro v w' ⟨E2, hE2, rfl, hM2, hok2⟩
     refine ih _ _ _ hcnt2 ⟨by simpa using hsz, hcl2, E2, fun z hz => ?_, ?_, by rw [put_defers]; exact hdf, ?_, ?_⟩
     ·rw [hE2 z (by
       cases h : newAt mi.length rs.N.length z with
       | false => rfl
       | true => have := newAt_iff.1 h; omega)]
      exact hE' z hz
     ·rw [hmore, hedef]
      simp only [Ef.ap]
      refine tv_put E2 _ _ _ _ ?_
      rw [htm]
      unfold tv
      rw [map_all (f := SV.den E') (g := SV.den E2) (p := SV.al (newNo mi.length rs.N.length)) (fun x hx => SV.den_congr (fun z hz => (hE2 z (by simpa [newNo] using hz)).symm) x hx) hall.1]
     ·rw [hmore, hedef]
      exact hM2
     ·rw [hmore, hedef]
      exact hok2
    ·have hwd : Region.wanted o (yielded all.toArray a.tmps) = false := by
      rw [htm, wanted_at (hlook E')]
      exact want_of' hgd hw E'
     rw [if_neg (by rw [hwd]; exact Bool.false_ne_true)]
     refine ih _ _ _ hcnt2 ⟨by simpa using hsz, hcl2, E', hE', ?_, by rw [put_defers]; exact hdf, ?_, ?_⟩
     ·rw [hmore, hedef]
      exact tv_put E' _ _ (vV undef) _ htm
     ·rw [hmore, hedef]
      exact hM
     ·rw [hmore, hedef]
      exact hok
 refine wp_region_any S.mix ?_
 have hz : stD (fun j => (Array.replicate all.toArray.size false).getD j false) 0 s0 r.es = s0 := by
  have : ∀ (l : List Ef) (k : Nat) (s : St), stD (fun j => (Array.replicate all.toArray.size false).getD j false) k s l = s := by
   intro l
   induction l with
   | nil => intro _ _; rfl
   | cons x l ih =>
    intro k s
    simp only [stD]
    have h0 : (Array.replicate all.toArray.size false).getD k false = false := by
     rw [Array.getD_eq_getD_getElem?]
     simp only [Array.getElem?_replicate]
     split <;> rfl
    rw [h0]
    exact ih _ _
  exact this _ _ _
 refine key _ _ _ _ (by simp [List.countP_replicate]) ⟨by simp, fun j o hj => ?_, E, fun _ _ => rfl, ?_, H.df, ?_, ?_⟩
 ·exfalso
  rw [Array.getD_eq_getD_getElem?] at hj
  simp only [Array.getElem?_replicate] at hj
  split at hj <;> cases hj
 ·rw [hz]; exact H.tm
 ·rw [hz]
  have : dens E 0 (s.m ++ gaps (sumN r.es)) = dens E 0 s.m := by
   rw [dens_app]
   have h0 : ∀ (n k : Nat), dens E k (gaps n) = [] := by
    intro n
    induction n with
    | zero => intro _; rfl
    | succ n ih => intro k; exact ih (k + 1)
   rw [h0, List.append_nil]
  show Mem S c (dens E 0 (s.m ++ gaps (sumN r.es))) _
  rw [this]
  exact H.mem.drew
 ·rw [hz]
  intro i x hx
  have hx : (s.m ++ gaps (sumN r.es))[i]? = some x := hx
  by_cases hi : i < s.m.length
  ·rw [List.getElem?_append_left hi] at hx
   exact H.ok i x hx
  ·rw [List.getElem?_append_right (by omega)] at hx
   have := List.eq_of_mem_replicate (List.mem_of_getElem? hx)
   rw [this]
   trivial
end Go.Proofs.YtbdgncndhnnjoaaGreatDoor

namespace Go.Proofs.YtbdgncndhnnjoaaGreatDoor
open Go.RowKit
set_option linter.unusedVariables false
set_option linter.unusedSimpArgs false
def opM {P : Program} {S : Seat P} {C : World → Prop} (z : Ms S C) (all : List Oper) (o : Oper) (rest : List Oper) (k : List Fr) : Option (Ms S C × Tk × Tk) := match wantS all z.s.t o with
 | some true => if noSel o then match opS S C (evS z.s.t) z.s.m o (dirOf z.n z.ds) with
  | some (rs, a, b) =>
   let L := isLt (z.s.m.length + rs.N.length)
   if rs.v.al L && (rs.W.all (fun p => p.2.al L) && rs.N.all (It.al L)) then
    some (⟨z.n + 1, dirNx z.n z.ds, frO all rest :: k, ⟨putS z.s.t o.dst rs.v, setsM z.s.m rs.W ++ rs.N⟩⟩, { a with b := (gdTk all z.s.t o true).1 }, { b with b := (gdTk all z.s.t o true).2 })
   else none
  | none => none
  else none
 | some false => some (⟨z.n + 1, z.ds, frO all rest :: k, ⟨putS z.s.t o.dst (vV undef), z.s.m⟩⟩, { tk0 with b := (gdTk all z.s.t o false).1 }, { tk0 with b := (gdTk all z.s.t o false).2 })
 | none => none
def step1 {P : Program} {S : Seat P} {C : World → Prop} (z : Ms S C) : Option (Ms S C × List Tk × List Tk) := match z.K with
 | [] => none
 | f :: k => match f.k with
  | 0 => match f.c with
   | .skip => some ({ z with K := k }, [], [])
   | .label _ => some ({ z with K := k }, [], [])
   | .seq x y => some ({ z with K := frC x :: frC y :: k }, [], [])
   | .cond c x y => match asBoolS (evS z.s.t c) with
    | some true => some ({ z with K := frC x :: k }, [], [])
    | some false => some ({ z with K := frC y :: k }, [], [])
    | none => none
   | .block id c => some ({ z with K := frC c :: frB id :: k }, [], [])
   | .exit id => match exitK id k with
    | some k' => some ({ z with K := k' }, [], [])
    | none => none
   | .region _ ops false => some ({ z with K := frO ops.toList ops.toList :: k }, [], [])
   | .region _ ops true => match regE ops.toList z.n z.ds z.s.t z.s.m ops.toList with
    | some r => if regOK ops.toList r.es then some (⟨r.n, r.ds, k, ⟨r.t, r.m⟩⟩, r.A, r.B) else none
    | none => none
   | _ => none
  | 1 => some ({ z with K := k }, [], [])
  | 2 => match f.rest with
   | [] => some ({ z with K := k }, [], [])
   | o :: rest => match opM z f.all o rest k with
    | some (z', a, b) => some (z', [a], [b])
    | none => none
  | _ => none
theorem opM_ok {P : Program} {S : Seat P} {c : Ctx} {E0 : Nat → Ent} {n : Nat} {B : Exit → Act → World → Prop} {z z' : Ms S fun w => Mem S c [] w} {a b : Tk} {f : Fr} {o : Oper} {rest : List Oper} {k : List Fr} (hf : f.k = 2) (hr : f.rest = o :: rest)
  (h : opM z f.all o rest k = some (z', a, b)) (e : a = b) (kk : OK S c E0 n B z'.K z'.s) : OK S c E0 n B (f :: k) z.s := by
 refine ⟨fun E act w hn hE H => ?_⟩
 unfold opM at h
 show post P B (f :: k) .normal act w
 obtain ⟨fk, fc, fi, fa, fr, fI⟩ := f
 simp only at hf hr h
 subst hf
 subst hr
 show wpList P fa.toArray (post P B k) (o :: rest) act w
 split at h
 ·rename_i hw
  split at h
  ·rename_i hsel
   split at h
   ·rename_i rs x y hop
    split at h
    ·rename_i hv
     simp only [Option.some.injEq, Prod.mk.injEq] at h
     obtain ⟨rfl, rfl, rfl⟩ := h
     have hg : (gdTk fa z.s.t o true).1 = (gdTk fa z.s.t o true).2 := congrArg Tk.b e
     have hwd := want_of hg hw H.tm
     have e2 : ({ x with b := fun _ => none } : Tk) = { y with b := fun _ => none } := by
      obtain ⟨q1, i1, s1, r1, -⟩ := Tk.mk.inj e
      rw [q1, i1, s1, r1]
     have hh := op_hold H hop e2 hv (noSel_of hsel)
     unfold wpList
     rw [if_pos hwd]
     left
     refine Fin.wp (Fin.mono hh ?_)
     rintro v w' ⟨E', hE', H'⟩
     refine kk.out E' _ w' (by simp only [List.length_append, setsM_len]; omega) (fun i hi => ?_) H'
     rw [hE' i (by omega), hE i hi]
    ·cases h
   ·cases h
  ·cases h
 ·rename_i hw
  simp only [Option.some.injEq, Prod.mk.injEq] at h
  obtain ⟨rfl, rfl, rfl⟩ := h
  have hg : (gdTk fa z.s.t o false).1 = (gdTk fa z.s.t o false).2 := congrArg Tk.b e
  have hwd := want_of hg hw H.tm
  unfold wpList
  rw [if_neg (by rw [hwd]; exact Bool.false_ne_true)]
  refine kk.out E _ w hn hE ⟨tv_put E _ _ (vV undef) _ H.tm, by rw [put_defers]; exact H.df, H.mem, H.ok, ?_, H.wm⟩
  exact all_putS H.wt rfl
 ·cases h
theorem step1_ok {P : Program} {S : Seat P} {c : Ctx} {E0 : Nat → Ent} {n : Nat} {B : Exit → Act → World → Prop} {z z' : Ms S fun w => Mem S c [] w} {a b : List Tk} (h : step1 z = some (z', a, b)) (e : a = b) (kk : OK S c E0 n B z'.K z'.s) : OK S c E0 n B z.K z.s := by
 unfold step1 at h
 split at h
 ·cases h
 ·rename_i f k hK
  rw [hK]
  split at h
  ·rename_i hk
   obtain ⟨fk, fc, fi, fa, fr, fI⟩ := f
   simp only at hk h
   subst hk
   split at h
   ·simp only [Option.some.injEq, Prod.mk.injEq] at h
    obtain ⟨rfl, rfl, rfl⟩ := h
    exact ⟨fun E a w hn hE H => wp_skip (kk.out E a w hn hE H)⟩
   ·simp only [Option.some.injEq, Prod.mk.injEq] at h
    obtain ⟨rfl, rfl, rfl⟩ := h
    exact ⟨fun E a w hn hE H => wp_label (kk.out E a w hn hE H)⟩
   ·simp only [Option.some.injEq, Prod.mk.injEq] at h
    obtain ⟨rfl, rfl, rfl⟩ := h
    exact ⟨fun E a w hn hE H => wp_seq (kk.out E a w hn hE H)⟩
   ·split at h
    ·rename_i hb
     simp only [Option.some.injEq, Prod.mk.injEq] at h
     obtain ⟨rfl, rfl, rfl⟩ := h
     exact ⟨fun E a w hn hE H => wp_cond_true (by rw [ev_den H.tm]; exact asBoolS_den hb E) (kk.out E a w hn hE H)⟩
    ·rename_i hb
     simp only [Option.some.injEq, Prod.mk.injEq] at h
     obtain ⟨rfl, rfl, rfl⟩ := h
     exact ⟨fun E a w hn hE H => wp_cond_false (by rw [ev_den H.tm]; exact asBoolS_den hb E) (kk.out E a w hn hE H)⟩
    ·cases h
   ·simp only [Option.some.injEq, Prod.mk.injEq] at h
    obtain ⟨rfl, rfl, rfl⟩ := h
    exact ⟨fun E a w hn hE H => wp_block (kk.out E a w hn hE H)⟩
   ·split at h
    ·rename_i hx
     simp only [Option.some.injEq, Prod.mk.injEq] at h
     obtain ⟨rfl, rfl, rfl⟩ := h
     exact ⟨fun E a w hn hE H => wp_exit (post_exit hx (kk.out E a w hn hE H))⟩
    ·cases h
   ·simp only [Option.some.injEq, Prod.mk.injEq] at h
    obtain ⟨rfl, rfl, rfl⟩ := h
    refine ⟨fun E a w hn hE H => wp_region_list ?_⟩
    have := kk.out E a w hn hE H
    change wpList P (Array.toList _).toArray (post P B k) (Array.toList _) a w at this
    rw [Array.toArray_toList] at this
    exact this
   ·rename_i rid rops
    split at h
    ·rename_i r hr
     split at h
     ·rename_i hc
      simp only [Option.some.injEq, Prod.mk.injEq] at h
      obtain ⟨rfl, rfl, rfl⟩ := h
      refine ⟨fun E a w hn hE H => ?_⟩
      have := reg_ok (id := rid) (Q := post P B k) hr e hc H fun E' a' w' hE' H' => kk.out E' a' w' (by
       have h1 := (regE_ok _ _ _ _ _ r hr e).2.2.2.2.2
       exact Nat.le_trans hn h1) (fun i hi => by rw [hE' i (by omega), hE i hi]) H'
      rwa [Array.toArray_toList] at this
     ·cases h
    ·cases h
   ·cases h
  ·rename_i hk
   obtain ⟨fk, fc, fi, fa, fr, fI⟩ := f
   simp only at hk
   subst hk
   simp only [Option.some.injEq, Prod.mk.injEq] at h
   obtain ⟨rfl, rfl, rfl⟩ := h
   exact ⟨fun E a w hn hE H => kk.out E a w hn hE H⟩
  ·rename_i h2
   split at h
   ·rename_i hr
    obtain ⟨fk, fc, fi, fa, fr, fI⟩ := f
    simp only at h2 hr
    subst h2
    subst hr
    simp only [Option.some.injEq, Prod.mk.injEq] at h
    obtain ⟨rfl, rfl, rfl⟩ := h
    exact ⟨fun E a w hn hE H => show wpList P fa.toArray (post P B k) [] a w from wpList_nil (kk.out E a w hn hE H)⟩
   ·rename_i o rest hr
    split at h
    ·rename_i z1 a1 b1 h1
     simp only [Option.some.injEq, Prod.mk.injEq] at h
     obtain ⟨rfl, rfl, rfl⟩ := h
     exact opM_ok h2 hr h1 (List.cons.inj e).1 kk
    ·cases h
  ·cases h
def runX {P : Program} {S : Seat P} {C : World → Prop} : Nat → Ms S C → Option (Ms S C × List (List Tk) × List (List Tk))
 | 0, z => some (z, [], [])
 | n + 1, z => match step1 z with
  | some (z', a, b) => match runX n z' with
   | some (z2, A, B) => some (z2, a :: A, b :: B)
   | none => none
  | none => none
theorem runX_ok {P : Program} {S : Seat P} {c : Ctx} {E0 : Nat → Ent} {n : Nat} {B : Exit → Act → World → Prop} : ∀ (N : Nat) {z z' : Ms S fun w => Mem S c [] w} {X Y : List (List Tk)}, runX N z = some (z', X, Y) → X = Y → OK S c E0 n B z'.K z'.s → OK S c E0 n B z.K z.s
 | 0, _, _, _, _, h, _, k => by cases h; exact k
 | N + 1, z, z', X, Y, h, e, k => by
  unfold runX at h
  split at h
  ·rename_i z1 a b h1
   split at h
   ·rename_i z2 A B' h2
    simp only [Option.some.injEq, Prod.mk.injEq] at h
    obtain ⟨rfl, rfl, rfl⟩ := h
    obtain ⟨e1, e2⟩ := List.cons.inj e
    exact step1_ok h1 e1 (runX_ok N h2 e2 k)
   ·cases h
  ·cases h
def outX {P : Program} {S : Seat P} {C : World → Prop} (N : Nat) (z : Ms S C) : Ms S C := match runX N z with
 | some r => r.1
 | none => z
def tkX {P : Program} {S : Seat P} {C : World → Prop} (N : Nat) (z : Ms S C) : List (List Tk) := match runX N z with
 | some r => r.2.1
 | none => []
section
variable {P : Program} {S : Seat P} {c : Ctx} {E0 : Nat → Ent} {n : Nat} {B : Exit → Act → World → Prop} {K : List Fr} {s : St}
theorem xR (N : Nat) (ds : List (Nat × Dr S fun w => Mem S c [] w)) (k : OK S c E0 n B (outX N ⟨0, ds, K, s⟩).K (outX N ⟨0, ds, K, s⟩).s) (h : runX N ⟨0, ds, K, s⟩ = some (outX N ⟨0, ds, K, s⟩, tkX N ⟨0, ds, K, s⟩, tkX N ⟨0, ds, K, s⟩) := by kernel_rfl) : OK S c E0 n B K s := runX_ok (z := ⟨0, ds, K, s⟩) N h rfl k
def condT (K : List Fr) (t : List SV) : Option Bool := match K with
 | f :: _ => match f.k with
  | 0 => match f.c with
   | .cond c _ _ => asBoolS (evS t c)
   | _ => none
  | _ => none
 | [] => none
end
def lpI {P : Program} (S : Seat P) (c : Ctx) (E0 : Nat → Ent) (n : Nat) {α : Type} (I : α → (Nat → Value) → St) (R : α → Prop) (μ : α → Nat) (x : α) : Act → World → Prop := fun a w =>
 ∃ (y : α) (d : Nat → Value) (E : Nat → Ent), R y ∧ μ y < μ x ∧ n ≤ (I y d).m.length ∧ (∀ i, i < n → E i = E0 i) ∧ Hold S c E (I y d) a w
theorem xLoop {P : Program} {S : Seat P} {c : Ctx} {E0 : Nat → Ent} {n : Nat} {B : Exit → Act → World → Prop} {body : Code} {k : List Fr} {s : St} {α : Type} (I : α → (Nat → Value) → St) (R : α → Prop) (μ : α → Nat) (x0 : α) (D j : List Nat) (h0 : R x0)
  (round : ∀ (x : α) (d : Nat → Value), R x → OK S c E0 n B (frC body :: frL (lpI S c E0 n I R μ x) :: k) (I x d))
  (hs : (fun d => subL D j (I x0 d)) = (fun d => subR D j n d s (I x0 d)) := by kernel_rfl) : OK S c E0 n B (frC (.loop body) :: k) s := by
 refine ⟨fun E a w hn hE H => ?_⟩
 show (Code.loop body).wp P (post P B k) a w
 have hex : ∀ (m : Nat) (a : Act) (w : World), (∃ (y : α) (d : Nat → Value) (E : Nat → Ent), R y ∧ μ y = m ∧ n ≤ (I y d).m.length ∧ (∀ i, i < n → E i = E0 i) ∧ Hold S c E (I y d) a w) → (Code.loop body).wp P (post P B k) a w := by
  intro m0 a0 w0 h
  refine wp_loop_ghost (fun m a w => ∃ (y : α) (d : Nat → Value) (E : Nat → Ent), R y ∧ μ y = m ∧ n ≤ (I y d).m.length ∧ (∀ i, i < n → E i = E0 i) ∧ Hold S c E (I y d) a w) m0 h fun m a w ⟨y, d, E, hy, hm, hn, hE, H⟩ => ?_
  refine wp_mono ((round y d hy).out E a w hn hE H) fun e a' w' hq => ?_
  cases e <;> first | exact hq | skip
  obtain ⟨z, d', E', hz, hlt, hn', hE', H'⟩ := hq
  exact ⟨μ z, by omega, z, d', E', hz, rfl, hn', hE', H'⟩
 obtain ⟨d, E', h1, h2, h3⟩ := sub_hold D j hs hE H
 exact hex (μ x0) a w ⟨x0, d, E', h0, rfl, h1, h2, h3⟩
theorem xRnd {P : Program} {S : Seat P} {c : Ctx} {E0 : Nat → Ent} {n : Nat} {B : Exit → Act → World → Prop} {k : List Fr} {s : St} {α : Type} {I : α → (Nat → Value) → St} {R : α → Prop} {μ : α → Nat} {x : α} {K : List Fr} (y : α) (D j : List Nat) (hy : R y) (hlt : μ y < μ x)
  (hs : (fun d => subL D j (I y d)) = (fun d => subR D j n d s (I y d)) := by kernel_rfl) (hK : K = frL (lpI S c E0 n I R μ x) :: k := by kernel_rfl) : OK S c E0 n B K s := by
 subst hK
 refine ⟨fun E a w hn hE H => ?_⟩
 obtain ⟨d, E', h1, h2, h3⟩ := sub_hold D j hs hE H
 exact ⟨y, d, E', hy, hlt, h1, h2, h3⟩
def upT (D : List Nat) (d : Nat → Value) (u : List (Nat × SV)) : Nat → List SV → List SV
 | _, [] => []
 | i, v :: l => (bif D.any (Nat.beq i) then vV (d i) else match u.find? (fun p => Nat.beq p.1 i) with
  | some p => p.2
  | none => v) :: upT D d u (i + 1) l
def upI {α : Type} (U : α → List (Nat × SV)) (W : α → List (Nat × It)) (D : List Nat) (s : St) (x : α) (d : Nat → Value) : St := ⟨upT D d (U x) 0 s.t, setsM s.m (W x)⟩
def lpB (K : List Fr) : Code := match K with
 | f :: _ => match f.c with
  | .loop b => b
  | _ => .skip
 | [] => .skip
def lpK (K : List Fr) : List Fr := match K with
 | _ :: k => k
 | [] => []
def lpY (K : List Fr) : Bool := match K with
 | f :: _ => match f.k with
  | 0 => match f.c with
   | .loop _ => true
   | _ => false
  | _ => false
 | [] => false
structure Rd {P : Program} (S : Seat P) (c : Ctx) (E0 : Nat → Ent) (n : Nat) {α : Type} (I : α → (Nat → Value) → St) (R : α → Prop) (μ : α → Nat) (x : α) (k : List Fr) : Prop where
 t : True
theorem xNx {P : Program} {S : Seat P} {c : Ctx} {E0 : Nat → Ent} {n : Nat} {B : Exit → Act → World → Prop} {k : List Fr} {s : St} {α : Type} {I : α → (Nat → Value) → St} {R : α → Prop} {μ : α → Nat} {x : α} {K : List Fr} (g : Rd S c E0 n I R μ x k) (y : α) (D j : List Nat) (hy : R y) (hlt : μ y < μ x)
  (hs : (fun d => subL D j (I y d)) = (fun d => subR D j n d s (I y d)) := by kernel_rfl) (hK : K = frL (lpI S c E0 n I R μ x) :: k := by kernel_rfl) : OK S c E0 n B K s := xRnd y D j hy hlt hs hK
theorem xLp {P : Program} {S : Seat P} {c : Ctx} {E0 : Nat → Ent} {n : Nat} {B : Exit → Act → World → Prop} {K : List Fr} {s : St} {α : Type} (U : α → List (Nat × SV)) (W : α → List (Nat × It)) (D : List Nat) (R : α → Prop) (μ : α → Nat) (x0 : α) (h0 : R x0)
  (round : ∀ (x : α) (d : Nat → Value), R x → Rd S c E0 n (upI U W D s) R μ x (lpK K) → OK S c E0 n B (frC (lpB K) :: frL (lpI S c E0 n (upI U W D s) R μ x) :: lpK K) (upI U W D s x d))
  (hk : lpY K = true := by kernel_rfl)
  (hs : (fun d => subL D (List.range s.m.length) (upI U W D s x0 d)) = (fun d => subR D (List.range s.m.length) n d s (upI U W D s x0 d)) := by kernel_rfl) : OK S c E0 n B K s := by
 unfold lpY at hk
 split at hk
 ·rename_i f k
  split at hk
  ·rename_i hf
   split at hk
   ·rename_i b hc
    obtain ⟨fk, fc, fi, fa, fr, fI⟩ := f
    simp only at hf hc
    subst hf
    subst hc
    refine ⟨fun E a w hn hE H => ?_⟩
    exact (xLoop (k := k) (upI U W D s) R μ x0 D (List.range s.m.length) h0 (fun x d h => round x d h ⟨trivial⟩) hs).out E a w hn hE H
   ·cases hk
  ·cases hk
 ·cases hk
end Go.Proofs.YtbdgncndhnnjoaaGreatDoor

namespace Go.Proofs.YtbdgncndhnnjoaaGreatDoor
open Go.RowKit
set_option linter.unusedVariables false
theorem DT {p : Prop} [Decidable p] (h : p) : decide p = true := decide_eq_true h
theorem DF {p : Prop} [Decidable p] (h : ¬ p) : decide p = false := decide_eq_false h
theorem DNT {p : Prop} [Decidable p] (h : ¬ p) : (!decide p) = true := by rw [decide_eq_false h]; rfl
theorem DNF {p : Prop} [Decidable p] (h : p) : (!decide p) = false := by rw [decide_eq_true h]; rfl
theorem toList_inj {s t : ByteArray} : s.toList = t.toList ↔ s = t := ⟨fun h => by
 have e : s.data.toList = t.data.toList := by rw [← ByteArray.toList_eq, ← ByteArray.toList_eq, h]
 exact ByteArray.ext (Array.toList_inj.1 e), fun h => h ▸ rfl⟩
theorem sEq (s t : ByteArray) : (s.toList == t.toList) = decide (s = t) := by
 by_cases h : s = t
 ·subst h; simp
 ·rw [decide_eq_false h, beq_eq_false_iff_ne]
  exact fun e => h (toList_inj.1 e)
theorem sNe (s t : ByteArray) : (!(s.toList == t.toList)) = !(decide (s = t)) := by rw [sEq]
theorem size0 {s : ByteArray} : s = ⟨#[]⟩ ↔ s.size = 0 := ⟨fun h => h ▸ rfl, fun h => ByteArray.ext (Array.eq_empty_of_size_eq_zero h)⟩
theorem sE0 (s : ByteArray) : (s.toList == (ByteArray.mk #[]).toList) = decide (s.size = 0) := by
 rw [sEq]; exact decide_eq_decide.2 size0
theorem sN0 (s : ByteArray) : (!(s.toList == (ByteArray.mk #[]).toList)) = !(decide (s.size = 0)) := by rw [sE0]
theorem iEq (x y : Int) : (x == y) = decide (x = y) := by by_cases h : x = y <;> simp [h]
theorem xB {P : Program} {S : Seat P} {c : Ctx} {E0 : Nat → Ent} {n : Nat} {K : List Fr} {s : St} {fn : Func} {w0 : World} {R I J N : List It} {b b' : Bool} (e : b' = b) (k : OK S c E0 n (Bk S fn w0 E0 R I J N (vV (.bool b'))) K s) : OK S c E0 n (Bk S fn w0 E0 R I J N (vV (.bool b))) K s := e ▸ k
theorem xI {P : Program} {S : Seat P} {c : Ctx} {E0 : Nat → Ent} {n : Nat} {K : List Fr} {s : St} {fn : Func} {w0 : World} {R I J N : List It} {t : IntKind} {b b' : Int} (e : b' = b) (k : OK S c E0 n (Bk S fn w0 E0 R I J N (vV (.int t b'))) K s) : OK S c E0 n (Bk S fn w0 E0 R I J N (vV (.int t b))) K s := e ▸ k
theorem xV {P : Program} {S : Seat P} {c : Ctx} {E0 : Nat → Ent} {n : Nat} {K : List Fr} {s : St} {fn : Func} {w0 : World} {R I J N : List It} {v v' : SV} (e : v' = v) (k : OK S c E0 n (Bk S fn w0 E0 R I J N v') K s) : OK S c E0 n (Bk S fn w0 E0 R I J N v) K s := e ▸ k
section
variable {P : Program} {S : Seat P} {C : World → Prop}
theorem ls_read {q : (Nat → Ent) → Sem Next} {v : SV} {b : Nat} (h : ∀ E w, S.laid w → C w → (q E).run P w = .ok (.value (v.den E)) w) : LS S C q [] (newAt b 0) v [] := fun E w hL hC T _ => by
 rw [h E w hL (hC w (grw_refl _ _))]
 exact ⟨E, fun _ _ => rfl, by simp [okP], rfl, OkT.refl T⟩
def dRd (q : VO) (v : SV) (h : ∀ E w, S.laid w → C w → (q.sem E).run P w = .ok (.value (v.den E)) w) : Dr S C :=
 dSp fun b => ⟨q, [], [], [], [], v, fun _ _ => ls_read h⟩
def dT {p : Prop} [Decidable p] (h : p) : Dr S C := dEq (x := .bool (decide p)) (y := .bool true) (by rw [decide_eq_true h])
def dF {p : Prop} [Decidable p] (h : ¬ p) : Dr S C := dEq (x := .bool (decide p)) (y := .bool false) (by rw [decide_eq_false h])
def dB {b c : Bool} (h : b = c) : Dr S C := dEq (x := .bool b) (y := .bool c) (by rw [h])
theorem wrap_id {x : Int} (h0 : -9223372036854775808 ≤ x) (h1 : x < 9223372036854775808) : IntKind.wrap .i64 x = x := by
 simp [IntKind.wrap, IntKind.signed, IntKind.bits, go_sem]
 omega
def dW (x : Int) (y : Int) (h : x = y) (h1 : -9223372036854775808 ≤ x) (h2 : x < 9223372036854775808) : Dr S C := dEq (x := .int .i64 (IntKind.wrap .i64 x)) (y := .int .i64 y) (by rw [wrap_id h1 h2, h])
def bt (s : ByteArray) (i : Nat) : Int := ((s.data[i]?.getD 0).toNat : Int)
theorem run_ixs {t : TypeId} {s : ByteArray} {k : IntKind} {i : Nat} {w : World} (hu : P.underlying t = some .string) (h : i < s.size) : (semV (Instr.index t (.string s) (.int k (i : Int)))).run P w = .ok (.value (.int .u8 (bt s i))) w := by
 have e : s[i]? = some s[i] := ByteArray.getElem?_lt' s i h
 have e2 : bt s i = (s[i].toNat : Int) := by
  unfold bt
  rw [Array.getElem?_eq_getElem h]
  rfl
 simp [semV, Instr.index, asIntOf, run_underlying hu, e, e2]
def dIs (t : TypeId) (s : ByteArray) (i : Nat) (h : i < s.size) (hu : P.underlying t = some .string := by kernel_rfl) : Dr S C :=
 dRd (oOp 6 t 0 [] [vV (.string s), vV (.int .i64 (i : Int))]) (vV (.int .u8 (bt s i))) fun _ _ _ _ => run_ixs hu h
def dSh (t : TypeId) (s : ByteArray) (i : Nat) (h : i ≤ s.size) (hu : P.underlying t = some .string := by kernel_rfl) : Dr S C :=
 dRd (oOp 5 t 0 [false, true, false] [vV (.string s), vV undef, vV (.int .i64 (i : Int)), vV undef]) (vV (.string (s.extract 0 i))) fun _ w _ _ => by
  show (semV (Instr.sliceAt t (.string s) none (some (.int .i64 (i : Int))) none)).run P w = _
  simp [semV, run_sliceAt_string w t (.string s) none (some (.int .i64 i)) none hu, run_slice_string_h w t s hu .i64 i (by omega) (by omega)]
  rfl
def dSl (t : TypeId) (s : ByteArray) (i : Nat) (h : i ≤ s.size) (hu : P.underlying t = some .string := by kernel_rfl) : Dr S C :=
 dRd (oOp 5 t 0 [true, false, false] [vV (.string s), vV (.int .i64 (i : Int)), vV undef, vV undef]) (vV (.string (s.extract i s.size))) fun _ w _ _ => by
  show (semV (Instr.sliceAt t (.string s) (some (.int .i64 (i : Int))) none none)).run P w = _
  simp [semV, run_sliceAt_string w t (.string s) (some (.int .i64 i)) none none hu, run_slice_string_l w t s hu .i64 i (by omega) (by omega)]
  rfl
def dSlh (t : TypeId) (s : ByteArray) (i j : Nat) (h : i ≤ j) (h2 : j ≤ s.size) (hu : P.underlying t = some .string := by kernel_rfl) : Dr S C :=
 dRd (oOp 5 t 0 [true, true, false] [vV (.string s), vV (.int .i64 (i : Int)), vV (.int .i64 (j : Int)), vV undef]) (vV (.string (s.extract i j))) fun _ w _ _ => by
  show (semV (Instr.sliceAt t (.string s) (some (.int .i64 (i : Int))) (some (.int .i64 (j : Int))) none)).run P w = _
  simp [semV, run_sliceAt_string w t (.string s) (some (.int .i64 i)) (some (.int .i64 j)) none hu, run_slice_string w t s .i64 .i64 i j hu (by omega) (by omega) (by omega)]
  rfl
theorem run_ixsl {t e : TypeId} {a : Option Addr} {n cap i off : Nat} {g o : Nat} {w : World} (hu : P.underlying t = some (.slice e)) (h0 : (P.info? e).isSome = true) (h : i < n) (ho : off = o + i * sizeT P e) : (semV (Instr.indexAt t (.slice (some ⟨g, o, none⟩) n cap) (.int .i64 (i : Int)))).run P w = .ok (.value (.pointer (some ⟨g, off, none⟩))) w := by
 subst ho
 cases hq : P.info? e with
 | none => rw [hq] at h0; cases h0
 | some u => simp [semV, Instr.indexAt, asIntOf, run_underlying hu, sizeOf, typeInfo, hq, h, sizeT, Addr.add_mid]
def dRo (t : TypeId) (g off : Nat) (x : Value) (h : ∀ w, C w → w.cell? ⟨g, off, none⟩ = some x) (ha : aggT P t = some false := by kernel_rfl) : Dr S C :=
 dRd (oOp 2 t 0 [] [vV (.pointer (some ⟨g, off, none⟩))]) (vV x) fun _ w _ hC => load_one ha (h w hC)
theorem vG_map (E : Nat → Ent) (cs : List Value) : (vG (cs.map vV)).den E = .agg cs.toArray := by
 show Value.agg ((cs.map vV).map (SV.denC E)).toArray = _
 rw [List.map_map]
 congr 2
 exact List.map_id cs
end
end Go.Proofs.YtbdgncndhnnjoaaGreatDoor

namespace Go.Proofs.YtbdgncndhnnjoaaGreatDoor
open Go.RowKit
set_option linter.unusedVariables false
set_option linter.unusedSimpArgs false
def pn (v : Value) : List PanicEntry := [{ v, recovered := false }]
def FinP (P : Program) (r : Result Next) (K : Value → World → Prop) : Prop := match r with
 | .halt (.panic v) w' => K v w'
 | .ok (.enter f xs) w' => Calls P f xs w' fun e w'' => ∃ v, e = .panicked (pn v) ∧ K v w''
 | _ => False
theorem FinP.mono {P : Program} {r : Result Next} {K K' : Value → World → Prop} (h : FinP P r K) (hk : ∀ v w, K v w → K' v w) : FinP P r K' := by
 unfold FinP at *
 split <;> simp_all only
 exact Calls.mono h fun e w ⟨v, he, hv⟩ => ⟨v, he, hk _ _ hv⟩
theorem FinP.wp {P : Program} {o : Oper} {a : Act} {w : World} {K : Act → World → Prop} {Q : Exit → Act → World → Prop} (h : FinP P ((execOp a.eval o).run P w) fun v w' => Q (.panic (pn v)) a w') : o.wp P a w K Q := by
 unfold Oper.wp
 generalize (execOp a.eval o).run P w = r at *
 cases r with
 | halt x w' =>
  cases x <;> first | exact h.elim | exact h
 | ok n w' =>
  cases n <;> first | exact h.elim | skip
  case enter f xs => exact Calls.mono h fun e w'' ⟨v, he, hk⟩ => by subst he; exact hk
structure CtP {P : Program} (S : Seat P) (C : World → Prop) (f : FuncId) (xs : List SV) (I : List It) (v : SV) : Prop where
 out : ∀ (E : Nat → Ent) (w : World), S.laid w → (∀ w', Grw w w' ((denP E (ix 0 I)).map Blk.g) → C w') → There S w (denP E (ix 0 I)) → okP E (ix 0 I) →
  FinP P (((oCall f xs).sem E).run P w) fun r w' => r = v.den E ∧ OkT w w' (denP E (ix 0 I)) []
def BkP {P : Program} (S : Seat P) (fn : Func) (w0 : World) (E0 : Nat → Ent) (I : List It) (v : SV) : Exit → Act → World → Prop :=
 bodyPost P fn fun e w' => ∃ v', e = .panicked (pn v') ∧ v' = v.den E0 ∧ OkT w0 w' (denP E0 (ix 0 I)) []
theorem xInP {P : Program} {S : Seat P} {C : World → Prop} {f : FuncId} {xs : List SV} {I : List It} {v : SV} (fn : Func)
  (h : ∀ (E0 : Nat → Ent) (w0 : World), S.laid w0 → (∀ w', Mem S ⟨w0, (denP E0 (ix 0 I)).map Blk.g⟩ [] w' → C w') → okP E0 (ix 0 I) → OK S ⟨w0, (denP E0 (ix 0 I)).map Blk.g⟩ E0 I.length (BkP S fn w0 E0 I v) [frC (fn.body.getD .skip)] ⟨xs ++ List.replicate (fn.ntmps - xs.length) (vV undef), I⟩)
  (hf : P.funcs[f]? = some fn := by kernel_rfl) (hb : fn.body = some (fn.body.getD .skip) := by kernel_rfl) (he : (fun (args : Array Value) (w : World) => (callFunc f args).run P w) = fun args w => .ok (.enter f args) w := by kernel_rfl)
  (hx : (xs.all (SV.al (isLt I.length)) && I.all (It.al (isLt I.length))) = true := by kernel_rfl) : CtP S C f xs I v := by
 have he : ∀ (args : Array Value) (w : World), (callFunc f args).run P w = .ok (.enter f args) w := fun args w => congrFun (congrFun he args) w
 obtain ⟨hx, hm⟩ := Bool.and_eq_true_iff.1 hx
 refine ⟨fun E w hL hC T hok => ?_⟩
 show FinP P ((callFunc f (xs.map (SV.den E)).toArray).run P w) _
 rw [he]
 refine calls_of_wp hf hb ?_
 refine (h E w hL (fun w' M => hC w' M.old) hok).out E _ w (Nat.le_refl _) (fun _ _ => rfl) ⟨?_, rfl, ?_, ?_, ?_, hm⟩
 ·apply Array.ext'
  simp [tv]
  exact .inr rfl
 ·rw [dens_ix]
  exact Mem.start hL T
 ·intro i x hx
  have key : ∀ (N : List It) (k j : Nat) (x : It), N[j]? = some x → (k + j, x) ∈ ix k N := by
   intro N
   induction N with
   | nil => intro k j x h; simp at h
   | cons y N ih =>
    intro k j x h
    cases j with
    | zero => simp at h; subst h; simp [ix]
    | succ j =>
     simp only [ix, List.mem_cons]
     right
     have := ih (k + 1) j x (by simpa using h)
     rwa [show k + 1 + j = k + (j + 1) by omega] at this
  have := hok _ (key _ 0 i x hx)
  simpa using this
 ·rw [List.all_append, Bool.and_eq_true]
  exact ⟨hx, List.all_eq_true.2 fun y hy => by rw [List.eq_of_mem_replicate hy]; rfl⟩
def hdO (K : List Fr) (t : List SV) : Option Oper := match K with
 | f :: _ => match f.k with
  | 2 => match f.rest with
   | o :: _ => match wantS f.all t o with
    | some true => match noSel o with
     | true => some o
     | false => none
    | _ => none
   | [] => none
  | _ => none
 | [] => none
def hdG (K : List Fr) (t : List SV) : ((Nat → Ent) → Option Bool) × ((Nat → Ent) → Option Bool) := match K with
 | f :: _ => match f.rest with
  | o :: _ => gdTk f.all t o true
  | [] => (fun _ => none, fun _ => none)
 | [] => (fun _ => none, fun _ => none)
theorem pan_ok {P : Program} {S : Seat P} {c : Ctx} {E0 : Nat → Ent} {n : Nat} {B : Exit → Act → World → Prop} {K : List Fr} {s : St} {o : Oper} (ho : hdO K s.t = some o) (hg : (hdG K s.t).1 = (hdG K s.t).2)
  (h : ∀ E a w, n ≤ s.m.length → (∀ i, i < n → E i = E0 i) → Hold S c E s a w → FinP P ((execOp (fun x => (evS s.t x).den E) o).run P w) fun v w' => B (.panic (pn v)) a w') : OK S c E0 n B K s := by
 refine ⟨fun E a w hn hE H => ?_⟩
 unfold hdO at ho
 split at ho
 ·rename_i f k
  split at ho
  ·rename_i hk
   split at ho
   ·rename_i o' r hr
    split at ho
    ·rename_i hw
     split at ho
     ·rename_i hs
      cases ho
      obtain ⟨fk, fc, fi, fa, fr, fI⟩ := f
      simp only at hk hr hw
      subst hk
      subst hr
      have hwd := want_of (all := fa) (t := s.t) (o := o) (b := true) hg hw H.tm
      show wpList P fa.toArray (post P B k) (o :: r) a w
      unfold wpList
      rw [if_pos hwd]
      left
      refine FinP.wp ?_
      have hq : execOp a.eval o = execOp (fun x => (evS s.t x).den E) o := execOp_congr o (noSel_of hs) fun x _ => ev_den H.tm x
      rw [hq]
      exact (h E a w hn hE H).mono fun v w' hb => post_panic hb k
     ·cases ho
    ·cases ho
   ·cases ho
  ·cases ho
 ·cases ho
theorem pan_end {P : Program} {S : Seat P} {fn : Func} {w0 : World} {E0 E : Nat → Ent} {I : List It} {v : SV} {s : St} {a : Act} {w w' : World} {T : List Blk} {L : List Blk} (hv : v.al (isLt 0) = true) (H : Hold S ⟨w0, (denP E0 (ix 0 I)).map Blk.g⟩ E s a w) (hp : (dens E 0 s.m).Perm (T ++ L)) (h : OkT w w' T []) : BkP S fn w0 E0 I v (.panic (pn (v.den E))) a w' := by
 refine ⟨H.df, _, rfl, v.den_congr (p := isLt 0) (fun i hi => by simp [isLt, Nat.blt_eq] at hi) hv, ?_⟩
 exact (((H.mem.perm hp).step h).drop (List.nil_sublist _)).okT
theorem xPc {P : Program} {S : Seat P} {fn : Func} {w0 : World} {E0 : Nat → Ent} {n : Nat} {K : List Fr} {s : St} {f : FuncId} {xs : List SV} {I I0 : List It} {v : SV} (h : CtP S (fun w => Mem S ⟨w0, (denP E0 (ix 0 I0)).map Blk.g⟩ [] w) f xs I v) (mm : List Nat)
  (ho : (hdO K s.t).bind (vop (evS s.t)) = some (oCall f (xs.map (SV.ren fun i => (mm[i]?).getD 0))) := by kernel_rfl)
  (hg : (hdG K s.t).1 = (hdG K s.t).2 := by kernel_rfl)
  (hi : (Nat.beq mm.length I.length && (inM s.m mm && v.al (isLt 0))) = true := by kernel_rfl)
  (hm : (I.map (It.ren fun i => (mm[i]?).getD 0)) = (lk s.m mm).map Prod.snd := by kernel_rfl) : OK S ⟨w0, (denP E0 (ix 0 I0)).map Blk.g⟩ E0 n (BkP S fn w0 E0 I0 v) K s := by
 cases hq : hdO K s.t with
 | none => rw [hq] at ho; cases ho
 | some o =>
  rw [hq] at ho
  have ho : vop (evS s.t) o = some (oCall f (xs.map (SV.ren fun i => (mm[i]?).getD 0))) := ho
  simp only [Bool.and_eq_true, nbeq] at hi
  obtain ⟨hlen, hin, hv⟩ := hi
  refine pan_ok hq hg fun E a w hn hE H => ?_
  rw [vop_run ho]
  have hpart := dens_part E _ _ hin
  have hfst : ∀ (J : List It) (l : List Nat) (b : Nat), l.length = J.length → (ix b J).map (fun p => (l[p.1 - b]?).getD 0) = l := by
   intro J
   induction J with
   | nil => intro l b hl; cases l with | nil => rfl | cons _ _ => cases hl
   | cons x J ih =>
    intro l b hl
    cases l with
    | nil => cases hl
    | cons y l =>
     simp only [ix, List.map_cons, Nat.sub_self, List.getElem?_cons_zero, Option.getD_some, List.cons.injEq, true_and]
     have := ih l (b + 1) (by simpa using hl)
     refine Eq.trans (List.map_congr_left fun p hp => ?_) this
     have h1 := (ix_fst _ _ _ hp).1
     rw [show p.1 - b = (p.1 - (b + 1)) + 1 by omega, List.getElem?_cons_succ]
  have hsnd : ∀ (J : List It) (b : Nat), (ix b J).map Prod.snd = J := by
   intro J
   induction J with
   | nil => intro b; rfl
   | cons x J ih => intro b; simp [ix, ih]
  have hl : (ix 0 I).map (rnP fun i => (mm[i]?).getD 0) = lk s.m mm := by
   refine pair_ext ?_ ?_
   ·rw [lk_fst, List.map_map]
    exact hfst I mm 0 hlen
   ·rw [← hm, List.map_map]
    have : (ix 0 I).map (Prod.snd ∘ rnP fun i => (mm[i]?).getD 0) = ((ix 0 I).map Prod.snd).map (It.ren fun i => (mm[i]?).getD 0) := by
     rw [List.map_map]
     rfl
    rw [this, hsnd]
  have hd : denP (fun i => E ((mm[i]?).getD 0)) (ix 0 I) = denP E (lk s.m mm) := by rw [← hl, denP_ren]
  have M1 := (H.mem.perm hpart).drop (List.sublist_append_left _ _)
  have key := h.out (fun i => E ((mm[i]?).getD 0)) w H.mem.laid (fun w' hgw => ?_) ?_ ?_
  ·have e1 : ((oCall f xs).sem fun i => E ((mm[i]?).getD 0)) = (oCall f (xs.map (SV.ren fun i => (mm[i]?).getD 0))).sem E := by
    simp only [VO.sem, oCall, List.map_map]
    refine congrArg _ (List.map_congr_left fun x _ => ?_)
    exact (x.den_ren (f := fun i => (mm[i]?).getD 0) (E := E)).symm
   rw [e1] at key
   refine key.mono ?_
   rintro r w' ⟨rfl, hT⟩
   rw [hd] at hT
   have e2 : v.den (fun i => E ((mm[i]?).getD 0)) = v.den E := v.den_congr (p := isLt 0) (fun i hi => by simp [isLt, Nat.blt_eq] at hi) hv
   rw [e2]
   exact pan_end hv H hpart hT
  ·rw [hd] at hgw
   refine ⟨H.mem.old.trans hgw fun x hx => ?_, by simp, by simp, by simp, H.mem.lay, H.mem.ne⟩
   obtain ⟨b, hb, rfl⟩ := List.mem_map.1 hx
   exact M1.ge b hb
  ·rw [hd]
   exact M1.there
  ·have : okP E (lk s.m mm) := by
    intro p hp
    obtain ⟨i, hi2, rfl⟩ := List.mem_map.1 hp
    simp only [inM, Bool.and_eq_true, List.all_eq_true] at hin
    have hil : i < s.m.length := by simpa [isLt, Nat.blt_eq] using hin.1 i hi2
    simp only [List.getElem?_eq_getElem hil, Option.getD_some]
    exact H.ok i _ (List.getElem?_eq_getElem hil)
   rw [← hl, okP_ren] at this
   exact this
theorem xPan {P : Program} {S : Seat P} {fn : Func} {w0 : World} {E0 : Nat → Ent} {n : Nat} {K : List Fr} {s : St} {I0 : List It} {v : SV}
  (ho : (hdO K s.t).bind (fun o => match o.op with | .panic x => some (evS s.t x) | _ => none) = some v := by kernel_rfl)
  (hg : (hdG K s.t).1 = (hdG K s.t).2 := by kernel_rfl)
  (hi : v.al (isLt 0) = true := by kernel_rfl)
  (hr : (fun (E : Nat → Ent) (w : World) => (Instr.panic (v.den E)).run P w) = (fun (E : Nat → Ent) (w : World) => .halt (.panic (v.den E)) w) := by kernel_rfl) : OK S ⟨w0, (denP E0 (ix 0 I0)).map Blk.g⟩ E0 n (BkP S fn w0 E0 I0 v) K s := by
 cases hq : hdO K s.t with
 | none => rw [hq] at ho; cases ho
 | some o =>
  rw [hq] at ho
  refine pan_ok hq hg fun E a w hn hE H => ?_
  obtain ⟨dst, op, type, pos, after, guard⟩ := o
  cases op <;> first | (cases ho; done) | skip
  case panic x =>
   have ho : some (evS s.t x) = some v := ho
   cases ho
   have e := congrFun (congrFun hr E) w
   have e2 : (execOp (fun y => (evS s.t y).den E) ⟨dst, .panic x, type, pos, after, guard⟩).run P w = .halt (.panic ((evS s.t x).den E)) w := by
    show ((do return Next.value (← Instr.panic ((evS s.t x).den E)) : Sem Next)).run P w = _
    simp [e]
   rw [e2]
   exact pan_end (T := []) (L := dens E 0 s.m) hi H (List.Perm.refl _) ⟨grw_refl _ _, by simp, by simp, by simp⟩
end Go.Proofs.YtbdgncndhnnjoaaGreatDoor

namespace Go.Proofs.YtbdgncndhnnjoaaGreatDoor
open Go.RowKit
set_option linter.unusedVariables false
set_option linter.unusedSimpArgs false
theorem semV_inv {P : Program} {q : Sem Value} {w w' : World} {v : Value} (h : (semV q).run P w = .ok (.value v) w') : q.run P w = .ok v w' := by
 unfold semV at h
 simp only [Sem.run_bind] at h
 cases e : q.run P w with
 | ok x w1 =>
  rw [e] at h
  simp only [Result.andThen_ok, Sem.run_pure] at h
  cases h
  rfl
 | halt x w1 =>
  rw [e] at h
  cases h
def resV (P : Program) (t : List SV) (m : List It) : ResultVar → Option SV
 | .tmp i => some (evS t (.tmp i))
 | .cell a ty => match (evS t (.tmp a)).k, m[(evS t (.tmp a)).b]?, aggT P ty with
  | 1, some it, some ag => match it.k with
   | 0 => match ag with
    | true => if Nat.ble ((evS t (.tmp a)).o + sizeT P ty) it.l.length then some (vG ((it.l.drop (evS t (.tmp a)).o).take (sizeT P ty))) else none
    | false => match it.l[(evS t (.tmp a)).o]? with
     | some s => if s.isC then some s else none
     | none => none
   | _ => none
  | _, _, _ => none
def resL (P : Program) (t : List SV) (m : List It) : List ResultVar → Option (List SV)
 | [] => some []
 | r :: l => match resV P t m r, resL P t m l with
  | some v, some vs => some (v :: vs)
  | _, _ => none
def resT : List SV → Option SV
 | [v] => some v
 | l => if l.all SV.isU then some (vT l) else none
def resOf (tmps : Array Value) : ResultVar → Sem Value
 | .tmp t => pure (tmps.getD t undef)
 | .cell a t => do loadVar t (← asAddr (tmps.getD a undef))
theorem resV_run {P : Program} {S : Seat P} {c : Ctx} {E : Nat → Ent} {s : St} {a : Act} {w : World} (H : Hold S c E s a w) {r : ResultVar} {v : SV} (h : resV P s.t s.m r = some v) : (resOf a.tmps r).run P w = .ok (v.den E) w := by
 cases r with
 | tmp i =>
  cases h
  show Result.ok (a.tmps.getD i undef) w = _
  exact congrArg (fun x => Result.ok x w) (ev_den H.tm (.tmp i))
 | cell i ty =>
  have he : a.tmps.getD i undef = (evS s.t (.tmp i)).den E := ev_den H.tm (.tmp i)
  show ((do loadVar ty (← asAddr (a.tmps.getD i undef))) : Sem Value).run P w = _
  rw [he]
  unfold resV at h
  simp only at h
  split at h
  ·rename_i it ag hk hit hag
   split at h
   ·rename_i hk0
    have hd := den1 hk E
    have hin : inM s.m [(evS s.t (.tmp i)).b] = true := by simpa using inM1 hit
    have T := ((H.mem.perm (dens_part E _ _ hin)).drop (List.sublist_append_left _ _)).there
    simp only [lk, List.map_cons, List.map_nil, getD_some hit, denP, it0 hk0] at T
    have hc := there1 T
    rw [hd]
    split at h
    ·split at h
     ·rename_i hle
      have hle := Nat.le_of_ble_eq_true hle
      cases h
      refine semV_inv (q := loadVar ty ⟨(E (evS s.t (.tmp i)).b).g, (evS s.t (.tmp i)).o, none⟩) ?_
      exact load_row (cs := ((it.l.drop (evS s.t (.tmp i)).o).take (sizeT P ty)).map (SV.denC E)) hag (by simp; omega) (info_some hag) (fun j v hv => by
       have hj := (List.getElem?_eq_some_iff.1 hv).1
       simp only [List.length_map, List.length_take, List.length_drop] at hj
       rw [cell_at hc, ← hv, List.getElem?_map, List.getElem?_map, List.getElem?_take_of_lt (by omega), List.getElem?_drop])
     ·cases h
    ·split at h
     ·rename_i s' hs
      split at h
      ·rename_i hC
       cases h
       refine semV_inv (q := loadVar ty ⟨(E (evS s.t (.tmp i)).b).g, (evS s.t (.tmp i)).o, none⟩) ?_
       rw [(SV.den_C hC E).1]
       exact load_one hag (v := v.denC E) (by rw [cell_at hc, List.getElem?_map, hs]; rfl)
      ·cases h
     ·cases h
   ·cases h
  ·cases h
theorem resL_run {P : Program} {S : Seat P} {c : Ctx} {E : Nat → Ent} {s : St} {a : Act} {w : World} (H : Hold S c E s a w) : ∀ {l : List ResultVar} {vs : List SV}, resL P s.t s.m l = some vs → (l.mapM (resOf a.tmps)).run P w = .ok (vs.map (SV.den E)) w
 | [], vs, h => by cases h; rfl
 | r :: l, vs, h => by
  unfold resL at h
  split at h
  ·rename_i v us hv hu
   cases h
   simp only [List.mapM_cons, Sem.run_bind, resV_run H hv, Result.andThen_ok, resL_run H hu, Sem.run_pure, List.map_cons]
  ·cases h
theorem res_run {P : Program} {S : Seat P} {c : Ctx} {E : Nat → Ent} {s : St} {a : Act} {w : World} (H : Hold S c E s a w) {fn : Func} {vs : List SV} {v : SV} (h : resL P s.t s.m fn.results.toList = some vs) (h2 : resT vs = some v) : (results fn a.tmps).run P w = .ok (v.den E) w := by
 have e : results fn a.tmps = ((do
   let vs ← fn.results.mapM (resOf a.tmps)
   pure (if h : vs.size = 1 then vs[0] else Value.tuple vs)) : Sem Value) := by
  unfold results
  refine congrArg (fun f => ((Array.mapM f fn.results >>= fun vs => pure (if h : vs.size = 1 then vs[0] else Value.tuple vs)) : Sem Value)) ?_
  funext r
  cases r <;> rfl
 rw [e]
 simp only [Array.mapM_eq_mapM_toList, bind_map_left, Sem.run_bind, resL_run H h, Result.andThen_ok, Sem.run_pure]
 refine congrArg (fun x => Result.ok x w) ?_
 match vs, h2 with
 | [], h2 =>
  cases h2
  rfl
 | [u], h2 =>
  cases h2
  simp
 | x :: y :: l, h2 =>
  unfold resT at h2
  split at h2
  ·rename_i he
   cases he
  ·split at h2
   ·rename_i hU
    cases h2
    have hl : (x :: y :: l).map (SV.den E) = (x :: y :: l).map (SV.denU E) := List.map_congr_left fun z hz => SV.den_U (List.all_eq_true.1 hU z hz) E
    show (if h : ((x :: y :: l).map (SV.den E)).toArray.size = 1 then _ else Value.tuple _) = Value.tuple ((x :: y :: l).map (SV.denU E)).toArray
    rw [dif_neg (by simp), hl]
   ·cases h2
theorem xRetC {P : Program} {S : Seat P} {s : St} {w0 : World} {E0 : Nat → Ent} {fn : Func} {R I J N : List It} {v : SV} {K : List Fr} (mm : List Nat)
  (hk : (match K with | [] => true | f :: _ => match f.k with | 0 => (match f.c with | .ret => true | _ => false) | _ => false) = true := by kernel_rfl)
  (hr : (resL P s.t s.m fn.results.toList).bind resT = some (v.ren (mmF (R ++ I).length mm)) := by kernel_rfl)
  (hq : (Nat.beq J.length I.length && (inM s.m ((postC R I J N).map fun p => mmF (R ++ I).length mm p.1) && (v.al (isLt ((R ++ I).length + N.length)) && (postC R I J N).all (fun p => p.2.al (isLt ((R ++ I).length + N.length)))))) = true := by kernel_rfl)
  (hm : ((postC R I J N).map (rnP (mmF (R ++ I).length mm))).map Prod.snd = (lk s.m ((postC R I J N).map fun p => mmF (R ++ I).length mm p.1)).map Prod.snd := by kernel_rfl) : OK S ⟨w0, (denP E0 (ix 0 (R ++ I))).map Blk.g⟩ E0 (R ++ I).length (Bk S fn w0 E0 R I J N v) K s := by
 refine ⟨fun E a w _ hE H => ?_⟩
 simp only [Bool.and_eq_true, nbeq] at hq
 have key : Bk S fn w0 E0 R I J N v .ret a w := by
  cases e : resL P s.t s.m fn.results.toList with
  | none => rw [e] at hr; cases hr
  | some vs =>
   rw [e] at hr
   have hr : resT vs = some (v.ren (mmF (R ++ I).length mm)) := hr
   refine ⟨H.df, _, res_run H e hr, _, rfl, ?_⟩
   exact ret_ok mm rfl (by simp) hq.1 hE H hq.2.1 hm hq.2.2.1 hq.2.2.2
 cases K with
 | nil => exact key
 | cons f k =>
  obtain ⟨fk, fc, fi, fa, fr, fI⟩ := f
  simp only at hk
  split at hk
  ·split at hk
   ·exact wp_ret (post_ret key k)
   ·cases hk
  ·cases hk
end Go.Proofs.YtbdgncndhnnjoaaGreatDoor

namespace Go.Proofs.YtbdgncndhnnjoaaGreatDoor
open Go.RowKit
set_option linter.unusedVariables false
set_option linter.unusedSimpArgs false
structure Out where
 pan : Bool
 J : List It
 N : List It
 v : SV
def oR (J N : List It) (v : SV) : Out := ⟨false, J, N, v⟩
def oP (v : SV) : Out := ⟨true, [], [], v⟩
def Bu {P : Program} (S : Seat P) (fn : Func) (w0 : World) (E0 : Nat → Ent) (R I : List It) (o : Out) : Exit → Act → World → Prop := match o.pan with
 | true => BkP S fn w0 E0 (R ++ I) o.v
 | false => Bk S fn w0 E0 R I o.J o.N o.v
def Cu {P : Program} (S : Seat P) (C : World → Prop) (f : FuncId) (xs : List SV) (R I : List It) (o : Out) : Prop := match o.pan with
 | true => CtP S C f xs (R ++ I) o.v
 | false => Ct S C f xs R I o.J o.N o.v
theorem Cu.ret {P : Program} {S : Seat P} {C : World → Prop} {f : FuncId} {xs : List SV} {R I J N : List It} {v : SV} {o : Out} (h : Cu S C f xs R I o) (e : o = oR J N v) : Ct S C f xs R I J N v := by subst e; exact h
theorem Cu.pan {P : Program} {S : Seat P} {C : World → Prop} {f : FuncId} {xs : List SV} {R I : List It} {v : SV} {o : Out} (h : Cu S C f xs R I o) (e : o = oP v) : CtP S C f xs (R ++ I) v := by subst e; exact h
theorem xInU {P : Program} {S : Seat P} {C : World → Prop} {f : FuncId} {xs : List SV} {R I : List It} {o : Out} (fn : Func)
  (h : ∀ (E0 : Nat → Ent) (w0 : World), S.laid w0 → (∀ w', Mem S ⟨w0, (denP E0 (ix 0 (R ++ I))).map Blk.g⟩ [] w' → C w') → okP E0 (ix 0 (R ++ I)) → OK S ⟨w0, (denP E0 (ix 0 (R ++ I))).map Blk.g⟩ E0 (R ++ I).length (Bu S fn w0 E0 R I o) [frC (fn.body.getD .skip)] ⟨xs ++ List.replicate (fn.ntmps - xs.length) (vV undef), R ++ I⟩)
  (hf : P.funcs[f]? = some fn := by kernel_rfl) (hb : fn.body = some (fn.body.getD .skip) := by kernel_rfl) (he : (fun (args : Array Value) (w : World) => (callFunc f args).run P w) = fun args w => .ok (.enter f args) w := by kernel_rfl)
  (hx : (xs.all (SV.al (isLt (R ++ I).length)) && (R ++ I).all (It.al (isLt (R ++ I).length))) = true := by kernel_rfl) : Cu S C f xs R I o := by
 obtain ⟨p, J, N, v⟩ := o
 cases p with
 | true => exact xInP fn h hf hb he hx
 | false => exact xIn fn h hf hb he hx
section
variable {P : Program} {S : Seat P} {c : Ctx} {E0 : Nat → Ent} {n : Nat} {K : List Fr} {s : St} {fn : Func} {w0 : World} {R I : List It} {o : Out}
theorem xUo {o' : Out} (e : o = o') (k : OK S c E0 n (Bu S fn w0 E0 R I o') K s) : OK S c E0 n (Bu S fn w0 E0 R I o) K s := by subst e; exact k
theorem xUr {J N : List It} {v : SV} (e : o = oR J N v) (k : OK S c E0 n (Bk S fn w0 E0 R I J N v) K s) : OK S c E0 n (Bu S fn w0 E0 R I o) K s := by subst e; exact k
theorem xUp {v : SV} (e : o = oP v) (k : OK S c E0 n (BkP S fn w0 E0 (R ++ I) v) K s) : OK S c E0 n (Bu S fn w0 E0 R I o) K s := by subst e; exact k
end
end Go.Proofs.YtbdgncndhnnjoaaGreatDoor

namespace Go.Proofs.YtbdgncndhnnjoaaGreatDoor
open Go.RowKit
set_option linter.unusedVariables false
set_option linter.unusedSimpArgs false
section
variable {P : Program} {S : Seat P} {C : World → Prop} {f : FuncId}
theorem vV_map (E : Nat → Ent) (args : List Value) : (args.map vV).map (SV.den E) = args := by
 rw [List.map_map]
 exact List.map_id args
theorem ct_flatX {xs : List SV} {args : List Value} {v : SV} {r : Value} (h : ∀ w, S.laid w → C w → Calls P f args.toArray w fun e w' => e = .returned r ∧ Below w.heap.size w w') (hx : ∀ E, xs.map (SV.den E) = args) (hv : ∀ E, v.den E = r)
  (he : (fun (args : Array Value) (w : World) => (callFunc f args).run P w) = fun args w => .ok (.enter f args) w := by kernel_rfl) : Ct S C f xs [] [] [] [] v := by
 have he : ∀ (args : Array Value) (w : World), (callFunc f args).run P w = .ok (.enter f args) w := fun args w => congrFun (congrFun he args) w
 refine ⟨fun E w hL hC T hok => ?_⟩
 show Fin P ((callFunc f (xs.map (SV.den E)).toArray).run P w) _
 rw [hx, he]
 refine (h w hL (hC w (grw_refl _ _))).mono ?_
 rintro e w' ⟨rfl, hb⟩
 exact ⟨_, rfl, E, fun _ _ => rfl, by simp [okP, postC, ix], (hv E).symm, by simpa [postC, ix, denP] using OkT.below T hb⟩
theorem ct_flatD {xs : List SV} {args : List Value} {v : SV} (D : Value → List Blk → Prop) (mk : Value → Value) (h : ∀ w, S.laid w → C w → Calls P f args.toArray w fun e w' => (∃ x, e = .returned (mk x) ∧ x.oneCell' = true ∧ D x []) ∧ Below w.heap.size w w') (hx : ∀ E, xs.map (SV.den E) = args) (hv : ∀ E : Nat → Ent, v.den E = mk (E 0).v)
  (he : (fun (args : Array Value) (w : World) => (callFunc f args).run P w) = fun args w => .ok (.enter f args) w := by kernel_rfl) : Ct S C f xs [] [] [] [tD D] v := by
 have he : ∀ (args : Array Value) (w : World), (callFunc f args).run P w = .ok (.enter f args) w := fun args w => congrFun (congrFun he args) w
 refine ⟨fun E w hL hC T hok => ?_⟩
 show Fin P ((callFunc f (xs.map (SV.den E)).toArray).run P w) _
 rw [hx, he]
 refine (h w hL (hC w (grw_refl _ _))).mono ?_
 rintro e w' ⟨⟨x, rfl, h1, h2⟩, hb⟩
 let E' : Nat → Ent := fun i => bif Nat.beq i 0 then ⟨0, x, [], h1⟩ else E i
 refine ⟨_, rfl, E', fun i hi => ?_, fun p hp => ?_, (hv E').symm, by simpa [postC, ix, denP, It.den, tD, E'] using OkT.below T hb⟩
 ·cases i with
  | zero => exact absurd hi (by simp [newAt, Nat.blt_eq])
  | succ i => rfl
 ·simp only [postC, ix, List.nil_append, List.mem_singleton] at hp
  subst hp
  exact h2
theorem ct_flatB {xs : List SV} {args : List Value} {v : SV} (D : Value → List Blk → Prop) (mk : Value → Value) (h : ∀ w, S.laid w → C w → Calls P f args.toArray w fun e w' => (∃ (x : Value) (T : List Blk), e = .returned (mk x) ∧ x.oneCell' = true ∧ D x T ∧ (∀ b ∈ T, w.heap.size ≤ b.g ∧ w'.heap[b.g]? = some b.Z) ∧ (T.map Blk.g).Nodup) ∧ Below w.heap.size w w') (hx : ∀ E, xs.map (SV.den E) = args) (hv : ∀ E : Nat → Ent, v.den E = mk (E 0).v)
  (he : (fun (args : Array Value) (w : World) => (callFunc f args).run P w) = fun args w => .ok (.enter f args) w := by kernel_rfl) : Ct S C f xs [] [] [] [tD D] v := by
 have he : ∀ (args : Array Value) (w : World), (callFunc f args).run P w = .ok (.enter f args) w := fun args w => congrFun (congrFun he args) w
 refine ⟨fun E w hL hC T hok => ?_⟩
 show Fin P ((callFunc f (xs.map (SV.den E)).toArray).run P w) _
 rw [hx, he]
 refine (h w hL (hC w (grw_refl _ _))).mono ?_
 rintro e w' ⟨⟨x, T', rfl, h1, h2, h3, h4⟩, hb⟩
 let E' : Nat → Ent := fun i => bif Nat.beq i 0 then ⟨0, x, T', h1⟩ else E i
 refine ⟨_, rfl, E', fun i hi => ?_, fun p hp => ?_, (hv E').symm, ?_⟩
 ·cases i with
  | zero => exact absurd hi (by simp [newAt, Nat.blt_eq])
  | succ i => rfl
 ·simp only [postC, ix, List.nil_append, List.mem_singleton] at hp
  subst hp
  exact h2
 ·have e1 : denP E' (postC [] [] [] [tD D]) = T' := by
   show T' ++ [] = T'
   rw [List.append_nil]
  rw [e1]
  exact ⟨grw_below hb _, fun b hm => (h3 b hm).2, h4, fun b hm => .inr (h3 b hm).1⟩
theorem Ct.calls {args : List Value} {v : Value} {N : List It} (h : Ct S C f (args.map vV) [] [] [] N (vV v)) {w : World} (hL : S.laid w) (hC : ∀ w', Grw w w' [] → C w')
  (he : (fun (args : Array Value) (w : World) => (callFunc f args).run P w) = fun args w => .ok (.enter f args) w := by kernel_rfl) : Calls P f args.toArray w fun e w' => e = .returned v ∧ Grw w w' [] := by
 have he : ∀ (args : Array Value) (w : World), (callFunc f args).run P w = .ok (.enter f args) w := fun args w => congrFun (congrFun he args) w
 have key := h.out (fun _ => ⟨0, .bool true, [], rfl⟩) w hL hC ⟨by simp [ix, denP], by simp [ix, denP], by simp [ix, denP]⟩ (by simp [okP, ix])
 have e : ((oCall f (args.map vV)).sem fun _ => ⟨0, .bool true, [], rfl⟩).run P w = .ok (.enter f args.toArray) w := by
  show (callFunc f ((args.map vV).map (SV.den _)).toArray).run P w = _
  rw [vV_map, he]
 rw [e] at key
 refine Calls.mono key ?_
 rintro e w' ⟨v', rfl, E', -, -, rfl, hT⟩
 exact ⟨rfl, hT.grw⟩
end
end Go.Proofs.YtbdgncndhnnjoaaGreatDoor

namespace Go.Proofs.YtbdgncndhnnjoaaGreatDoor
open Go.RowKit
set_option linter.unusedVariables false
set_option linter.unusedSimpArgs false
def setT (ts : List Nat) (b : Nat) : Nat → List SV → List SV
 | _, [] => []
 | i, v :: l => (bif ts.any (Nat.beq i) then vW b else v) :: setT ts b (i + 1) l
def pickT (ts : List Nat) : Nat → List SV → List SV
 | _, [] => []
 | i, v :: l => (bif ts.any (Nat.beq i) then [v] else []) ++ pickT ts (i + 1) l
def setC (b : Nat) (m : List It) (i j : Nat) : List It := match m[i]? with
 | some it => match it.k with
  | 0 => m.set i (tC (it.l.set j (vW b)) it.t)
  | _ => m
 | none => m
def cellC (m : List It) (i j : Nat) : List SV := match m[i]? with
 | some it => match it.k with
  | 0 => match it.l[j]? with
   | some x => [x]
   | none => []
  | _ => []
 | none => []
def setCs (b : Nat) : List (Nat × Nat) → List It → List It
 | [], m => m
 | p :: cs, m => setCs b cs (setC b m p.1 p.2)
def pickC (b : Nat) : List (Nat × Nat) → List It → List SV
 | [], _ => []
 | p :: cs, m => cellC m p.1 p.2 ++ pickC b cs (setC b m p.1 p.2)
theorem setT_den {E : Nat → Ent} {b : Nat} {sv : SV} (hv : (E b).v = sv.den E) (ts : List Nat) : ∀ (t : List SV) (i : Nat), (∀ x ∈ pickT ts i t, x = sv) → (setT ts b i t).map (SV.den E) = t.map (SV.den E)
 | [], _, _ => rfl
 | v :: l, i, h => by
  simp only [pickT, List.mem_append] at h
  simp only [setT, List.map_cons, setT_den hv ts l (i + 1) fun x hx => h x (.inr hx)]
  cases hq : ts.any (Nat.beq i) with
  | false => rfl
  | true =>
   have hv2 : v = sv := h v (.inl (by rw [hq]; simp))
   subst hv2
   show (E b).v :: _ = _
   rw [hv]
theorem setT_al {p : Nat → Bool} {b : Nat} (hb : p b = true) (ts : List Nat) : ∀ (t : List SV) (i : Nat), t.all (SV.al p) = true → (setT ts b i t).all (SV.al p) = true
 | [], _, _ => rfl
 | v :: l, i, h => by
  simp only [List.all_cons, Bool.and_eq_true] at h
  simp only [setT, List.all_cons, Bool.and_eq_true]
  refine ⟨?_, setT_al hb ts l (i + 1) h.2⟩
  cases ts.any (Nat.beq i) with
  | false => exact h.1
  | true => exact hb
theorem setC_len (b : Nat) (m : List It) (i j : Nat) : (setC b m i j).length = m.length := by
 unfold setC
 repeat' split
 all_goals simp
theorem setCs_len (b : Nat) : ∀ (cs : List (Nat × Nat)) (m : List It), (setCs b cs m).length = m.length
 | [], _ => rfl
 | p :: cs, m => by simp only [setCs, setCs_len b cs, setC_len]
theorem dens_set_same (E : Nat → Ent) : ∀ (m : List It) (k i : Nat) (x y : It), m[i]? = some x → y.den E (k + i) = x.den E (k + i) → dens E k (m.set i y) = dens E k m
 | [], _, _, _, _, h, _ => by simp at h
 | z :: m, k, 0, x, y, h, e => by
  simp only [List.getElem?_cons_zero, Option.some.injEq] at h
  subst h
  simp only [List.set_cons_zero, dens]
  rw [show k + 0 = k from rfl] at e
  rw [e]
 | z :: m, k, i + 1, x, y, h, e => by
  simp only [List.set_cons_succ, dens]
  rw [dens_set_same E m (k + 1) i x y (by simpa using h) (by rwa [show k + 1 + i = k + (i + 1) by omega])]
theorem setC_dens {E : Nat → Ent} {b : Nat} {sv : SV} (hv : (E b).v = sv.denC E) {m : List It} {i j : Nat} (h : ∀ x ∈ cellC m i j, x = sv) : dens E 0 (setC b m i j) = dens E 0 m := by
 unfold setC
 unfold cellC at h
 split
 ·rename_i it hit
  rw [hit] at h
  simp only at h
  split
  ·rename_i hk
   rw [hk] at h
   simp only at h
   refine dens_set_same E m 0 i it _ hit ?_
   rw [it0 hk, it0 (show (tC (it.l.set j (vW b)) it.t).k = 0 from rfl)]
   have : (it.l.set j (vW b)).map (SV.denC E) = it.l.map (SV.denC E) := by
    rw [List.map_set]
    cases hj : it.l[j]? with
    | none => exact List.set_eq_of_length_le (by simpa using List.getElem?_eq_none_iff.1 hj)
    | some x =>
     rw [hj] at h
     have hx : x = sv := h x (by simp)
     subst hx
     obtain ⟨hlt, he⟩ := List.getElem?_eq_some_iff.1 hj
     have : (vW b).denC E = (it.l.map (SV.denC E))[j]'(by simpa using hlt) := by
      simp only [List.getElem_map, he]
      exact hv
     rw [this]
     exact List.set_getElem_self _
   show [(⟨(E (0 + i)).g, .cells ((it.l.set j (vW b)).map (SV.denC E)).toArray it.t (0, 0)⟩ : Blk)] = _
   rw [this]
  ·rfl
 ·rfl
theorem setCs_dens {E : Nat → Ent} {b : Nat} {sv : SV} (hv : (E b).v = sv.denC E) : ∀ (cs : List (Nat × Nat)) (m : List It), (∀ x ∈ pickC b cs m, x = sv) → dens E 0 (setCs b cs m) = dens E 0 m
 | [], _, _ => rfl
 | p :: cs, m, h => by
  simp only [pickC, List.mem_append] at h
  simp only [setCs]
  rw [setCs_dens hv cs _ fun x hx => h x (.inr hx), setC_dens hv fun x hx => h x (.inl hx)]
theorem setC_oks {E : Nat → Ent} {b : Nat} {m : List It} {i j : Nat} (h : oks E m) : oks E (setC b m i j) := by
 unfold setC
 split
 ·rename_i it hit
  split
  ·intro k x hx
   rw [List.getElem?_set] at hx
   split at hx
   ·split at hx
    ·cases hx
     exact trivial
    ·cases hx
   ·exact h k x hx
  ·exact h
 ·exact h
theorem setCs_oks {E : Nat → Ent} {b : Nat} : ∀ (cs : List (Nat × Nat)) {m : List It}, oks E m → oks E (setCs b cs m)
 | [], _, h => h
 | p :: cs, m, h => setCs_oks cs (setC_oks h)
theorem setC_al {p : Nat → Bool} {b : Nat} (hb : p b = true) {m : List It} {i j : Nat} (h : m.all (It.al p) = true) : (setC b m i j).all (It.al p) = true := by
 unfold setC
 split
 ·rename_i it hit
  split
  ·rename_i hk
   refine List.all_eq_true.2 fun x hx => ?_
   rcases List.mem_or_eq_of_mem_set hx with hx | rfl
   ·exact List.all_eq_true.1 h x hx
   ·have h1 : it.al p = true := List.all_eq_true.1 h it (List.mem_of_getElem? hit)
    have h2 : it.l.all (SV.alC p) = true := by
     unfold It.al at h1
     rw [hk] at h1
     exact h1
    show (it.l.set j (vW b)).all (SV.alC p) = true
    refine List.all_eq_true.2 fun y hy => ?_
    rcases List.mem_or_eq_of_mem_set hy with hy | rfl
    ·exact List.all_eq_true.1 h2 y hy
    ·exact hb
  ·exact h
 ·exact h
theorem setCs_al {p : Nat → Bool} {b : Nat} (hb : p b = true) : ∀ (cs : List (Nat × Nat)) {m : List It}, m.all (It.al p) = true → (setCs b cs m).all (It.al p) = true
 | [], _, h => h
 | q :: cs, m, h => setCs_al hb cs (setC_al hb h)
def packS (s : St) (l : List Nat) (D : Value → List Blk → Prop) (ts : List Nat) (cs : List (Nat × Nat)) : St := ⟨setT ts s.m.length 0 s.t, setCs s.m.length cs (gapM s.m l) ++ [tD D]⟩
theorem oks_gapM {E : Nat → Ent} : ∀ (l : List Nat) {m : List It}, oks E m → oks E (gapM m l)
 | [], _, h => h
 | i :: l, m, h => oks_gapM l fun k x hx => by
  rw [List.getElem?_set] at hx
  split at hx
  ·split at hx
   ·cases hx
    exact trivial
   ·cases hx
  ·exact h k x hx
theorem xPack {P : Program} {S : Seat P} {c : Ctx} {E0 : Nat → Ent} {n : Nat} {B : Exit → Act → World → Prop} {K : List Fr} {s : St} (sv : SV) (l : List Nat) (D : Value → List Blk → Prop) (ts : List Nat) (cs : List (Nat × Nat))
  (hD : ∀ E : Nat → Ent, okP E (lk s.m l) → (sv.den E).oneCell' = true ∧ D (sv.den E) (denP E (lk s.m l)))
  (k : OK S c E0 n B K (packS s l D ts cs))
  (hA : (sv.isA && (inM s.m l && sv.al (isLt s.m.length))) = true := by kernel_rfl)
  (hT : pickT ts 0 s.t = (pickT ts 0 s.t).map fun _ => sv := by kernel_rfl)
  (hC : pickC s.m.length cs (gapM s.m l) = (pickC s.m.length cs (gapM s.m l)).map fun _ => sv := by kernel_rfl) : OK S c E0 n B K s := by
 simp only [Bool.and_eq_true] at hA
 obtain ⟨hA, hin, hal⟩ := hA
 have cst : ∀ {L : List SV}, L = L.map (fun _ => sv) → ∀ x ∈ L, x = sv := fun h x hx => by
  rw [h] at hx
  obtain ⟨_, _, rfl⟩ := List.mem_map.1 hx
  rfl
 refine ⟨fun E a w hn hE H => ?_⟩
 have hok : okP E (lk s.m l) := by
  intro p hp
  obtain ⟨i, hi2, rfl⟩ := List.mem_map.1 hp
  simp only [inM, Bool.and_eq_true, List.all_eq_true] at hin
  have hil : i < s.m.length := by simpa [isLt, Nat.blt_eq] using hin.1 i hi2
  simp only [List.getElem?_eq_getElem hil, Option.getD_some]
  exact H.ok i _ (List.getElem?_eq_getElem hil)
 obtain ⟨h1, h2⟩ := hD E hok
 let E' : Nat → Ent := fun i => bif Nat.beq i s.m.length then ⟨0, sv.den E, denP E (lk s.m l), h1⟩ else E i
 have hE' : ∀ i, i < s.m.length → E' i = E i := fun i hi => by
  have : Nat.beq i s.m.length = false := by
   cases e : Nat.beq i s.m.length with
   | false => rfl
   | true => exact absurd (nbeq.1 e) (by omega)
  simp only [E', this, cond_false]
 have hb : E' s.m.length = ⟨0, sv.den E, denP E (lk s.m l), h1⟩ := by
  have : Nat.beq s.m.length s.m.length = true := nbeq.2 rfl
  simp only [E', this, cond_true]
 have hden : sv.den E' = sv.den E := sv.den_congr (p := isLt s.m.length) (fun i hi => hE' i (by simpa [isLt, Nat.blt_eq] using hi)) hal
 have hv : (E' s.m.length).v = sv.den E' := by rw [hb, hden]
 have hvC : (E' s.m.length).v = sv.denC E' := by rw [hv, (SV.den_A hA E').1, (SV.den_A hA E').2.2.1]
 have hlen : (setCs s.m.length cs (gapM s.m l)).length = s.m.length := by rw [setCs_len, gapM_len]
 refine k.out E' a w ?_ (fun i hi => by rw [hE' i (by omega), hE i hi]) ⟨?_, H.df, ?_, ?_, ?_, ?_⟩
 ·simp only [packS, List.length_append, hlen]
  omega
 ·rw [H.tm, ← tv_congr hE' H.wt]
  unfold tv packS
  rw [setT_den hv ts s.t 0 (cst hT)]
 ·have hg : (gapM s.m l).all (It.al (isLt s.m.length)) = true := all_gapM rfl l H.wm
  simp only [packS]
  rw [dens_app, setCs_dens hvC cs _ (cst hC), hlen]
  rw [dens_congr (E := E') (E' := E) (p := isLt s.m.length) (fun i hi => hE' i (by simpa [isLt, Nat.blt_eq] using hi)) (gapM s.m l) 0 (fun i _ hi => hE' i (by rw [gapM_len] at hi; omega)) hg]
  have : dens E' (0 + s.m.length) [tD D] = denP E (lk s.m l) := by
   simp only [dens, List.append_nil, Nat.zero_add]
   show (E' s.m.length).T = _
   rw [hb]
  rw [this]
  exact H.mem.perm ((dens_part E _ _ hin).trans List.perm_append_comm)
 ·intro i x hx
  simp only [packS] at hx
  by_cases hi : i < s.m.length
  ·rw [List.getElem?_append_left (by rw [hlen]; exact hi)] at hx
   have := setCs_oks (b := s.m.length) cs (oks_gapM l H.ok) i x hx
   rwa [x.ok_congr (hE' i hi)]
  ·rw [List.getElem?_append_right (by rw [hlen]; omega), hlen] at hx
   have : i = s.m.length := by
    cases e : i - s.m.length with
    | zero => omega
    | succ k => rw [e] at hx; simp at hx
   subst this
   simp only [Nat.sub_self, List.getElem?_cons_zero, Option.some.injEq] at hx
   subst hx
   show D (E' s.m.length).v (E' s.m.length).T
   rw [hb]
   exact h2
 ·simp only [packS, List.length_append, hlen]
  exact setT_al (by simp [isLt, Nat.blt_eq]) ts s.t 0 (all_imp (SV.al_imp (lt_imp (by omega))) H.wt)
 ·simp only [packS, List.length_append, hlen, List.all_append, Bool.and_eq_true]
  exact ⟨setCs_al (by simp [isLt, Nat.blt_eq]) cs (all_gapM rfl l (all_imp (It.al_imp (lt_imp (by omega))) H.wm)), by rfl⟩
end Go.Proofs.YtbdgncndhnnjoaaGreatDoor

namespace Go.Proofs.YtbdgncndhnnjoaaGreatDoor
open Go.RowKit
set_option linter.unusedVariables false
set_option linter.unusedSimpArgs false
def InfoK (P : Program) (e : TypeId) (K : Nat) (zv : Value) : Prop := ∃ i, P.info? e = some i ∧ i.zero = some zv ∧ i.size = K ∧ i.bytes ≤ 128
theorem infoK {P : Program} {e : TypeId} {K : Nat} {zv : Value} {b : Nat} (h1 : (P.info? e).map (·.zero) = some (some zv)) (h2 : (P.info? e).map (·.size) = some K) (h3 : (P.info? e).map (·.bytes) = some b) (hb : b ≤ 128) : InfoK P e K zv := by
 cases h : P.info? e with
 | none => rw [h] at h2; cases h2
 | some i =>
  rw [h] at h1 h2 h3
  simp only [Option.map_some, Option.some.injEq] at h1 h2 h3
  exact ⟨i, h, h1, h2, by omega⟩
def Buf (K : Nat) (e : TypeId) (n : Nat) (cs : List Value) (v : Value) (T : List Blk) : Prop :=
 cs.length = n * K ∧ ((n = 0 ∧ (∃ a, v = .slice a 0 0) ∧ T = []) ∨ ∃ (g cap : Nat) (Z : List Value), v = .slice (some ⟨g, 0, none⟩) n cap ∧ n ≤ cap ∧ Z.length = cap * K ∧ Z.take (n * K) = cs ∧ T = [⟨g, .cells Z.toArray e (0, 0)⟩])
theorem buf_nil (K : Nat) (e : TypeId) : Buf K e 0 [] (.slice none 0 0) [] := ⟨by simp, .inl ⟨rfl, ⟨_, rfl⟩, rfl⟩⟩
theorem buf_one {K : Nat} {e : TypeId} {n : Nat} {cs : List Value} {v : Value} {T : List Blk} (h : Buf K e n cs v T) : v.oneCell' = true := by
 rcases h.2 with ⟨_, ⟨_, rfl⟩, _⟩ | ⟨_, _, _, rfl, _⟩ <;> rfl
theorem setAll_take : ∀ (vs : List Value) (cs : List Value) (o : Nat), o + vs.length ≤ cs.length → (cs.take o ++ vs ++ cs.drop (o + vs.length)).take (o + vs.length) = cs.take o ++ vs := fun vs cs o h => by
 rw [List.take_append_of_le_length (by simp; omega), List.take_of_length_le (by simp; omega)]
theorem firstCells0 {P : Program} (w : World) (size : Nat) (a : Option Addr) : (Builtin.firstCells size 0 (.slice a 0 0)).run P w = .ok (#[] : Array Value) w := by
 cases a with
 | none => exact run_firstCells_none w size 0 0 0
 | some a => exact run_firstCells_some w size 0 a 0 0 [] (by simp) (fun j v h => by simp at h)
theorem buf_app {P : Program} {w : World} {t ty e : TypeId} {K : Nat} {zv : Value} (ht : P.underlying t = some (.slice e)) (hin : InfoK P e K zv) (hzc : zv.cells.size = K) {n : Nat} {cs : List Value} {v : Value} {T : List Blk} (hB : Buf K e n cs v T) (hat : ∀ b ∈ T, w.heap[b.g]? = some b.Z) (hle : n < 500000) {gx Tx : Nat} {xs : List Value} (hx : w.heap[gx]? = some (.cells xs.toArray Tx (0, 0))) (hxl : xs.length = K) (hx1 : ∀ u ∈ xs, u.oneCell' = true) :
  ∃ v' T' w', (Builtin.append_ #[t, t] ty #[v, .slice (some ⟨gx, 0, none⟩) 1 1]).run P w = .ok v' w' ∧ Buf K e (n + 1) (cs ++ xs) v' T' ∧ OkT w w' T T' := by
 obtain ⟨info, i1, i2, i3, i4⟩ := hin
 subst i3
 have hlen := hB.1
 have ea : ∀ (g k : Nat), (⟨g, 0, none⟩ : Addr).add k = ⟨g, k, none⟩ := fun g k => by simp [Addr.add_lit]
 have hnews : ∀ k u, xs[k]? = some u → w.cell? ((⟨gx, 0, none⟩ : Addr).add k) = some u := fun k u hu => by
  rw [ea, cell_at hx]
  exact hu
 have hsrc : Src P info.size t (.slice (some ⟨gx, 0, none⟩) 1 1) 1 xs w := Src.ofSlice w ht ⟨gx, 0, none⟩ 1 1 _ (by rw [hxl, Nat.one_mul]) hnews hx1
 have hll : (cs ++ xs).length = (n + 1) * info.size := by rw [List.length_append, hxl, hlen, Nat.succ_mul]
 have grow : ∀ (base : Option Addr) (cap : Nat), v = .slice base n cap → ¬ n < cap → n ≤ cap → (Builtin.firstCells info.size n (.slice base n cap)).run P w.drew = .ok cs.toArray w.drew → ∃ v' T' w', (Builtin.append_ #[t, t] ty #[v, .slice (some ⟨gx, 0, none⟩) 1 1]).run P w = .ok v' w' ∧ Buf info.size e (n + 1) (cs ++ xs) v' T' ∧ OkT w w' T T' := fun base cap hsv hroom hnc hold => by
  have hr := run_append_grow_src (P := P) w t t ty e info zv ht i1 i2 base n cap cs hold (.slice (some ⟨gx, 0, none⟩) 1 1) 1 _ hsrc (by omega) (by omega) (growslice_fits (by omega) (by
    have := Nat.mul_le_mul (show n + 1 ≤ 500000 by omega) i4
    omega))
  have hge := grownCap_ge w (n + 1) cap e
  generalize grownCap w (n + 1) cap e = nc at hr hge
  obtain ⟨q, rfl⟩ : ∃ q, nc = n + 1 + q := ⟨nc - (n + 1), by omega⟩
  subst hsv
  refine ⟨_, [⟨w.heap.size, .cells ((cs ++ xs).toArray ++ Builtin.zeroCells zv.cells (n + 1 + q - (n + 1))) e (0, 0)⟩], _, hr, ⟨hll, .inr ⟨w.heap.size, n + 1 + q, cs ++ xs ++ (Builtin.zeroCells zv.cells (n + 1 + q - (n + 1))).toList, rfl, by omega, ?_, ?_, ?_⟩⟩, ⟨rfl, rfl, rfl, by simp, fun k hk _ => Below.heap_alloc _ _ _ hk⟩, ?_, by simp, by simp⟩
  ·rw [List.length_append, hll, Array.length_toList, size_zeroCells, hzc, Nat.add_sub_cancel_left, ← Nat.add_mul]
  ·rw [← hll]
   exact List.take_left
  ·refine congrArg (fun A => [(⟨w.heap.size, .cells A e (0, 0)⟩ : Blk)]) (Array.ext' (by simp))
  ·intro b hb
   simp only [List.mem_singleton] at hb
   subst hb
   exact heap_alloc_new w.drew _
 rcases hB.2 with ⟨hn0, ⟨a0, hv⟩, rfl⟩ | ⟨g, cap, Z, hv, hnc, hZ, hcs, rfl⟩
 ·subst hn0
  have hl0 : cs = [] := List.length_eq_zero_iff.1 (by simpa using hlen)
  subst hl0
  exact grow a0 0 hv (by omega) (by omega) (firstCells0 w.drew info.size a0)
 ·have hg : w.heap[g]? = some (.cells Z.toArray e (0, 0)) := hat ⟨g, .cells Z.toArray e (0, 0)⟩ (by simp)
  by_cases hroom : n < cap
  ·have hcm : n * info.size + info.size ≤ cap * info.size := by rw [← Nat.succ_mul]; exact Nat.mul_le_mul_right _ hroom
   have hr := run_append_room_src (P := P) w t t ty e info ht i1 g 0 n cap (.slice (some ⟨gx, 0, none⟩) 1 1) 1 _ hsrc hroom (fun k hk => by
     rw [Nat.zero_add, cell_at hg, List.getElem?_eq_getElem (by omega)]
     rfl) (fun k hk => by
     unfold World.frozen?
     rw [hg]
     simp)
   rw [Nat.zero_add] at hr
   subst hv
   refine ⟨_, [⟨g, .cells (Z.take (n * info.size) ++ xs ++ Z.drop (n * info.size + xs.length)).toArray e (0, 0)⟩], _, hr, ⟨hll, .inr ⟨g, cap, _, rfl, by omega, ?_, ?_, rfl⟩⟩, grw_setCells _ _ _ _, ?_, by simp, by simp⟩
   ·simp only [List.length_append, List.length_take, List.length_drop]
    omega
   ·rw [show (n + 1) * info.size = n * info.size + xs.length by rw [Nat.succ_mul, hxl], setAll_take xs Z _ (by omega), hcs]
   ·intro b hb
    simp only [List.mem_singleton] at hb
    subst hb
    rw [heap_setCells _ _ _ _ _ _ hg, setAll_eq _ _ _ (by omega), List.append_assoc]
  ·exact grow _ cap hv hroom hnc (run_firstCells_some w.drew info.size n ⟨g, 0, none⟩ n cap cs hlen (fun k u hu => by
    rw [ea]
    have hk := (List.getElem?_eq_some_iff.1 hu).1
    rw [cell_at (W := w.drew) hg, ← hu, ← hcs, List.getElem?_take_of_lt (by omega)]))
def Els {α : Type} (el : α → List Value → List Blk → Prop) (K : Nat) : List α → List Value → List Blk → Prop
 | [], cs, T => cs = [] ∧ T = []
 | x :: l, cs, T => ∃ c1 c2 T1 T2, cs = c1 ++ c2 ∧ c1.length = K ∧ T = T1 ++ T2 ∧ el x c1 T1 ∧ Els el K l c2 T2
theorem els_snoc {α : Type} {el : α → List Value → List Blk → Prop} {K : Nat} {x : α} {c1 : List Value} {T1 : List Blk} (hx : el x c1 T1) (hl : c1.length = K) : ∀ {l : List α} {cs : List Value} {T : List Blk}, Els el K l cs T → Els el K (l ++ [x]) (cs ++ c1) (T ++ T1)
 | [], _, _, ⟨rfl, rfl⟩ => ⟨c1, [], T1, [], by simp, hl, by simp, hx, rfl, rfl⟩
 | y :: l, _, _, ⟨d1, d2, U1, U2, rfl, h1, rfl, hy, h2⟩ => ⟨d1, d2 ++ c1, U1, U2 ++ T1, by simp, h1, by simp, hy, els_snoc hx hl h2⟩
def RowD {α : Type} (K : Nat) (e : TypeId) (el : α → List Value → List Blk → Prop) (l : List α) (v : Value) (T : List Blk) : Prop :=
 ∃ cs Tb Te, Buf K e l.length cs v Tb ∧ Els el K l cs Te ∧ T = Tb ++ Te
theorem row_nil {α : Type} (K : Nat) (e : TypeId) (el : α → List Value → List Blk → Prop) : RowD K e el [] (.slice none 0 0) [] := ⟨[], [], [], buf_nil K e, ⟨rfl, rfl⟩, rfl⟩
theorem denP_gaps (E : Nat → Ent) : ∀ l : List (Nat × It), denP E (l.map fun p => (p.1, gap)) = []
 | [] => rfl
 | p :: l => by simp only [List.map_cons, denP, gap_den, denP_gaps E l, List.append_nil]
theorem ls_app {P : Program} {S : Seat P} {C : World → Prop} {t ty e : TypeId} {K : Nat} {zv : Value} (ht : P.underlying t = some (.slice e)) (hin : InfoK P e K zv) (hzc : zv.cells.size = K) {α : Type} (el : α → List Value → List Blk → Prop) (l : List α) (x : α) (b b1 b2 : Nat) (e2 : TypeId) (cs : List SV) (sub : List (Nat × It)) (hle : l.length < 500000) (hcl : cs.length = K) (h1 : cs.all one1 = true)
  (hel : ∀ E : Nat → Ent, okP E sub → el x (cs.map (SV.denC E)) (denP E sub)) (hb1 : b1 ≠ b) (hb2 : b2 ≠ b) :
  LS S C (oBi .append [t, t] ty [false, false] [vW b1, vS b2 0 1 1]).sem ((b1, tD (RowD K e el l)) :: (b2, tC cs e2) :: sub) (newAt b 1) (vW b) (((b1, tD (RowD K e el l)) :: (b2, tC cs e2) :: sub).map (fun p => (p.1, gap)) ++ [(b, tD (RowD K e el (l ++ [x])))]) := by
 intro E w hL hC T hok
 have ho1 : RowD K e el l (E b1).v (E b1).T := hok (b1, tD (RowD K e el l)) (by simp)
 obtain ⟨cs0, Tb, Te, hB, hE, hT⟩ := ho1
 have hden : denP E ((b1, tD (RowD K e el l)) :: (b2, tC cs e2) :: sub) = Tb ++ (Te ++ (⟨(E b2).g, .cells (cs.map (SV.denC E)).toArray e2 (0, 0)⟩ :: denP E sub)) := by
  show (E b1).T ++ _ = _
  rw [hT, List.append_assoc]
  rfl
 have hat : ∀ b ∈ Tb, w.heap[b.g]? = some b.Z := fun z hz => T.at_ z (by rw [hden]; simp [hz])
 have hx : w.heap[(E b2).g]? = some (.cells (cs.map (SV.denC E)).toArray e2 (0, 0)) := T.at_ ⟨(E b2).g, .cells (cs.map (SV.denC E)).toArray e2 (0, 0)⟩ (by rw [hden]; simp)
 obtain ⟨v', T', w', hr, hB', hT'⟩ := buf_app (ty := ty) ht hin hzc hB hat hle hx (by simpa using hcl) (fun u hu => by
  obtain ⟨y, hy, rfl⟩ := List.mem_map.1 hu
  exact one_den (List.all_eq_true.1 h1 y hy) E)
 have hrun : ((oBi .append [t, t] ty [false, false] [vW b1, vS b2 0 1 1]).sem E).run P w = .ok (.value v') w' := by
  show (do pure (Next.value (← Builtin.append_ #[t, t] ty #[(E b1).v, .slice (some ⟨(E b2).g, 0, none⟩) 1 1])) : Sem Next).run P w = _
  simp only [Sem.run_bind, hr, Result.andThen_ok, Sem.run_pure]
 rw [hrun]
 let E' : Nat → Ent := fun i => bif Nat.beq i b then ⟨0, v', T' ++ (Te ++ denP E sub), buf_one hB'⟩ else E i
 have hb : E' b = ⟨0, v', T' ++ (Te ++ denP E sub), buf_one hB'⟩ := by
  have : Nat.beq b b = true := nbeq.2 rfl
  simp only [E', this, cond_true]
 refine ⟨E', fun i hi => ?_, ?_, ?_, ?_⟩
 ·have : Nat.beq i b = false := by
   cases h : Nat.beq i b with
   | false => rfl
   | true =>
    have h2 : newAt b 1 b = true := by simp [newAt, Nat.blt_eq]
    rw [nbeq.1 h, h2] at hi
    cases hi
  simp only [E', this, cond_false]
 ·rw [okP_app]
  refine ⟨fun p hp => ?_, fun p hp => ?_⟩
  ·obtain ⟨q, _, rfl⟩ := List.mem_map.1 hp
   exact trivial
  ·simp only [List.mem_singleton] at hp
   subst hp
   show RowD K e el (l ++ [x]) (E' b).v (E' b).T
   rw [hb]
   have hs : okP E sub := fun p hp => hok p (by simp [hp])
   exact ⟨_, T', Te ++ denP E sub, by rw [List.length_append]; exact hB', els_snoc (hel E hs) (by simpa using hcl) hE, rfl⟩
 ·show v' = (E' b).v
  rw [hb]
 ·have hd2 : denP E' (((b1, tD (RowD K e el l)) :: (b2, tC cs e2) :: sub).map (fun p => (p.1, gap)) ++ [(b, tD (RowD K e el (l ++ [x])))]) = T' ++ (Te ++ denP E sub) := by
   rw [denP_app, denP_gaps, List.nil_append]
   show (E' b).T ++ [] = _
   rw [hb, List.append_nil]
  rw [hd2, hden]
  rw [hden] at T
  have M := (Mem.start hL T).step hT'
  have M2 : Mem S ⟨w, (Tb ++ (Te ++ (⟨(E b2).g, .cells (cs.map (SV.denC E)).toArray e2 (0, 0)⟩ :: denP E sub))).map Blk.g⟩ (T' ++ (Te ++ denP E sub)) w' := M.drop (List.Sublist.append_left (List.Sublist.append_left (List.sublist_cons_self _ _) _) _)
  exact M2.okT
def dApp {P : Program} {S : Seat P} {C : World → Prop} (t ty e : TypeId) (K : Nat) (zv : Value) {α : Type} (el : α → List Value → List Blk → Prop) (l : List α) (x : α) (b1 b2 : Nat) (e2 : TypeId) (cs : List SV) (sub : List (Nat × It)) (hle : l.length < 500000)
  (hel : ∀ E : Nat → Ent, okP E sub → el x (cs.map (SV.denC E)) (denP E sub))
  (ht : P.underlying t = some (.slice e) := by kernel_rfl) (h1 : (P.info? e).map (·.zero) = some (some zv) := by kernel_rfl) (h2 : (P.info? e).map (·.size) = some K := by kernel_rfl) (hB : ((P.info? e).map fun i => Nat.ble i.bytes 128) = some true := by kernel_rfl)
  (hq : (Nat.beq zv.cells.size K && (Nat.beq cs.length K && cs.all one1)) = true := by kernel_rfl) : Dr S C :=
 dSp fun b => ⟨oBi .append [t, t] ty [false, false] [vW b1, vS b2 0 1 1], [], (b1, tD (RowD K e el l)) :: (b2, tC cs e2) :: sub, ((b1, tD (RowD K e el l)) :: (b2, tC cs e2) :: sub).map (fun _ => gap), [tD (RowD K e el (l ++ [x]))], vW b, fun _ hb => by
  simp only [Bool.and_eq_true, nbeq] at hq
  have hin : InfoK P e K zv := by
   cases h : P.info? e with
   | none => rw [h] at h2; cases h2
   | some i =>
    rw [h] at h1 h2 hB
    simp only [Option.map_some, Option.some.injEq] at h1 h2 hB
    exact ⟨i, h, h1, h2, Nat.le_of_ble_eq_true hB⟩
  have := ls_app (S := S) (C := C) (ty := ty) ht hin hq.1 el l x b b1 b2 e2 cs sub hle hq.2.1 hq.2.2 hel (fun h => absurd (hb (b1, tD (RowD K e el l)) (by simp)) (by simp [h])) (fun h => absurd (hb (b2, tC cs e2) (by simp)) (by simp [h]))
  have hz : ∀ L : List (Nat × It), (L.map Prod.fst).zip (L.map fun _ => gap) = L.map fun p => (p.1, gap) := by
   intro L
   induction L with
   | nil => rfl
   | cons p L ih => simp only [List.map_cons, List.zip_cons_cons, ih]
  simp only [List.nil_append, hz]
  exact this⟩
end Go.Proofs.YtbdgncndhnnjoaaGreatDoor

namespace Go.Proofs.YtbdgncndhnnjoaaGreatDoor
open Go.RowKit
set_option linter.unusedVariables false
set_option linter.unusedSimpArgs false
def fixD (v0 : Value) (T0 : List Blk) (v : Value) (T : List Blk) : Prop := v = v0 ∧ T = T0
theorem data_set {P : Program} {S : Seat P} {c : Ctx} {E : Nat → Ent} {s : St} {a : Act} {w : World} {i : Nat} {D D' : Value → List Blk → Prop} (hi : s.m[i]? = some (tD D)) (hD : D' (E i).v (E i).T) (H : Hold S c E s a w) : Hold S c E ⟨s.t, s.m.set i (tD D')⟩ a w := by
 refine ⟨H.tm, H.df, ?_, ?_, ?_, ?_⟩
 ·show Mem S c (dens E 0 (s.m.set i (tD D'))) w
  rw [dens_set_same E s.m 0 i (tD D) (tD D') hi rfl]
  exact H.mem
 ·intro k x hx
  have hx : (s.m.set i (tD D'))[k]? = some x := hx
  rw [List.getElem?_set] at hx
  split at hx
  ·rename_i e
   split at hx
   ·cases hx
    subst e
    exact hD
   ·cases hx
  ·exact H.ok k x hx
 ·simp only [List.length_set]
  exact H.wt
 ·simp only [List.length_set]
  exact all_set H.wm rfl
theorem xWk {P : Program} {S : Seat P} {c : Ctx} {E0 : Nat → Ent} {n : Nat} {B : Exit → Act → World → Prop} {K : List Fr} {s : St} (i : Nat) {D : Value → List Blk → Prop} (D' : Value → List Blk → Prop) (hw : ∀ v T, D v T → D' v T)
  (k : OK S c E0 n B K ⟨s.t, s.m.set i (tD D')⟩) (hi : s.m[i]? = some (tD D) := by kernel_rfl) : OK S c E0 n B K s :=
 ⟨fun E a w hn hE H => k.out E a w (by simpa using hn) hE (data_set hi (hw _ _ (H.ok i _ hi)) H)⟩
section
variable {P : Program} {S : Seat P} {C : World → Prop}
def dRdD (q : VO) (b : Nat) (v0 : Value) (T0 : List Blk) (v : SV) (h : ∀ E w, S.laid w → C w → (E b).v = v0 → (∀ x ∈ T0, w.heap[x.g]? = some x.Z) → (q.sem E).run P w = .ok (.value (v.den E)) w) : Dr S C :=
 dSp fun _ => ⟨q, [(b, tD (fixD v0 T0))], [], [], [], v, fun _ _ => fun E w hL hC T hok => by
  have ho : fixD v0 T0 (E b).v (E b).T := hok (b, tD (fixD v0 T0)) (by simp)
  have hd : denP E ([(b, tD (fixD v0 T0))] ++ []) = T0 := by
   show (E b).T ++ [] = T0
   rw [List.append_nil, ho.2]
  rw [hd] at T
  rw [h E w hL (hC w (grw_refl _ _)) ho.1 T.at_]
  refine ⟨E, fun _ _ => rfl, fun p hp => hok p (by simpa [ix] using hp), rfl, ?_⟩
  have hd2 : denP E ([(b, tD (fixD v0 T0))] ++ (([] : List Nat).zip [] ++ ix b [])) = T0 := hd
  rw [hd]
  show OkT w w T0 (denP E ([(b, tD (fixD v0 T0))] ++ []))
  rw [hd]
  exact OkT.refl T⟩
end
end Go.Proofs.YtbdgncndhnnjoaaGreatDoor

namespace Go.Proofs.YtbdgncndhnnjoaaGreatDoor
open Go.RowKit
set_option linter.unusedVariables false
set_option linter.unusedSimpArgs false
theorem cell_atR {W : World} {g T : Nat} {fr : Nat × Nat} {cs : Array Value} (h : W.heap[g]? = some (.cells cs T fr)) (i : Nat) : W.cell? ⟨g, i, none⟩ = cs[i]? := by
 unfold World.cell?
 rw [h]
 simp
def SlO (T : List Blk) (K n : Nat) (F : Nat → Nat → Value) (base : Option Addr) (g o : Nat) : Prop :=
 0 < n → base = some ⟨g, o, none⟩ ∧ ∃ (Z : Array Value) (e : TypeId) (fr : Nat × Nat), (⟨g, .cells Z e fr⟩ : Blk) ∈ T ∧ ∀ i j, i < n → j < K → Z[o + i * K + j]? = some (F i j)
def Sl (T : List Blk) (K n : Nat) (F : Nat → Nat → Value) (v : Value) : Prop := ∃ base cap g o, v = .slice base n cap ∧ SlO T K n F base g o
theorem SlO.sub {T T' : List Blk} {K n : Nat} {F : Nat → Nat → Value} {base : Option Addr} {g o : Nat} (h : SlO T K n F base g o) (hs : ∀ b ∈ T, b ∈ T') : SlO T' K n F base g o := fun h0 => by
 obtain ⟨h1, Z, e, fr, h2, h3⟩ := h h0
 exact ⟨h1, Z, e, fr, hs _ h2, h3⟩
theorem Sl.sub {T T' : List Blk} {K n : Nat} {F : Nat → Nat → Value} {v : Value} (h : Sl T K n F v) (hs : ∀ b ∈ T, b ∈ T') : Sl T' K n F v := by
 obtain ⟨base, cap, g, o, h1, h2⟩ := h
 exact ⟨base, cap, g, o, h1, h2.sub hs⟩
theorem Sl.congr {T : List Blk} {K n : Nat} {F G : Nat → Nat → Value} {v : Value} (h : Sl T K n F v) (hs : ∀ i j, i < n → j < K → F i j = G i j) : Sl T K n G v := by
 obtain ⟨base, cap, g, o, h1, h2⟩ := h
 refine ⟨base, cap, g, o, h1, fun h0 => ?_⟩
 obtain ⟨h3, Z, e, fr, h4, h5⟩ := h2 h0
 exact ⟨h3, Z, e, fr, h4, fun i j hi hj => by rw [h5 i j hi hj, hs i j hi hj]⟩
theorem RowD.sl {α : Type} {K : Nat} {e : TypeId} {el : α → List Value → List Blk → Prop} {l : List α} {v : Value} {T : List Blk} (h : RowD K e el l v T) : ∃ F : Nat → Nat → Value, Sl T K l.length F v ∧ ∀ i x, l[i]? = some x → ∃ cs Te, el x cs Te ∧ cs.length = K ∧ (∀ j y, cs[j]? = some y → F i j = y) ∧ ∀ b ∈ Te, b ∈ T := by
 obtain ⟨cs, Tb, Te, hB, hE, rfl⟩ := h
 refine ⟨fun i j => cs.getD (i * K + j) undef, ?_, ?_⟩
 ·have hl := hB.1
  rcases hB.2 with ⟨h0, ⟨a, rfl⟩, rfl⟩ | ⟨g, cap, Z, rfl, hc, hZ, hZt, rfl⟩
  ·exact ⟨a, 0, 0, 0, by rw [h0], fun h => by omega⟩
  ·refine ⟨some ⟨g, 0, none⟩, cap, g, 0, rfl, fun _ => ⟨rfl, Z.toArray, e, (0, 0), by simp, fun i j hi hj => ?_⟩⟩
   have h1 : i * K + j < l.length * K := by
    have : (i + 1) * K ≤ l.length * K := Nat.mul_le_mul_right _ hi
    rw [Nat.succ_mul] at this
    omega
   have h2 : cs[i * K + j]? = Z[i * K + j]? := by rw [← hZt, List.getElem?_take, if_pos h1]
   have h3 : i * K + j < cs.length := by omega
   rw [Nat.zero_add, List.getElem?_toArray, ← h2, List.getElem?_eq_getElem h3]
   simp [List.getD, List.getElem?_eq_getElem h3]
 ·have key : ∀ (l : List α) (cs : List Value) (Te : List Blk), Els el K l cs Te → ∀ i x, l[i]? = some x → ∃ c Tx, el x c Tx ∧ c.length = K ∧ (∀ j y, c[j]? = some y → cs.getD (i * K + j) undef = y) ∧ ∀ b ∈ Tx, b ∈ Te := by
   intro l
   induction l with
   | nil => intro cs Te _ i x h; simp at h
   | cons a l ih =>
    intro cs Te h i x hx
    obtain ⟨c1, cs', T1, Te', rfl, hl1, rfl, he, hE'⟩ := h
    cases i with
    | zero =>
     simp at hx
     subst hx
     refine ⟨c1, T1, he, hl1, fun j y hj => ?_, fun b hb => List.mem_append_left _ hb⟩
     have hj2 := (List.getElem?_eq_some_iff.1 hj).1
     rw [Nat.zero_mul, Nat.zero_add, List.getD_eq_getElem?_getD, List.getElem?_append_left hj2, hj]
     rfl
    | succ i =>
     obtain ⟨c, Tx, g1, g2, g3, g4⟩ := ih cs' Te' hE' i x (by simpa using hx)
     refine ⟨c, Tx, g1, g2, fun j y hj => ?_, fun b hb => List.mem_append_right _ (g4 b hb)⟩
     rw [← g3 j y hj, List.getD_eq_getElem?_getD, List.getD_eq_getElem?_getD, List.getElem?_append_right (by rw [hl1, Nat.succ_mul]; omega)]
     congr 2
     rw [hl1, Nat.succ_mul]
     omega
  intro i x hx
  obtain ⟨c, Tx, g1, g2, g3, g4⟩ := key l cs Te hE i x hx
  exact ⟨c, Tx, g1, g2, g3, fun b hb => List.mem_append_right _ (g4 b hb)⟩
def frU (b : Code) (I : Act → World → Prop) : Fr := ⟨3, b, 0, [], [], I⟩
def hdI (K : List Fr) : Act → World → Prop := match K with
 | f :: _ => f.I
 | [] => fun _ _ => True
def hdC (K : List Fr) : Code := match K with
 | f :: _ => f.c
 | [] => .skip
def hd3 (K : List Fr) : Bool := match K with
 | f :: _ => Nat.beq f.k 3
 | [] => false
theorem xUn {P : Program} {S : Seat P} {c : Ctx} {E0 : Nat → Ent} {n : Nat} {B : Exit → Act → World → Prop} {K : List Fr} {s : St} (m : Nat) (k : OK S c E0 n B (frC (lpB K) :: frU (lpB K) (Code.rounds P (lpB K) (post P B (lpK K)) m) :: lpK K) s) (hk : lpY K = true := by kernel_rfl) : OK S c E0 n B K s := by
 unfold lpY at hk
 split at hk
 ·rename_i f kk
  split at hk
  ·rename_i hf
   split at hk
   ·rename_i b hc
    obtain ⟨fk, fc, fi, fa, fr, fI⟩ := f
    simp only at hf hc
    subst hf
    subst hc
    refine ⟨fun E a w hn hE H => ?_⟩
    exact wp_loop_rounds (m + 1) (k.out E a w hn hE H)
   ·cases hk
  ·cases hk
 ·cases hk
theorem xUm {P : Program} {S : Seat P} {c : Ctx} {E0 : Nat → Ent} {n : Nat} {B : Exit → Act → World → Prop} {K : List Fr} {s : St} (m : Nat) (k : OK S c E0 n B (frC (hdC K) :: frU (hdC K) (Code.rounds P (hdC K) (post P B (lpK K)) m) :: lpK K) s) (hI : hdI K = Code.rounds P (hdC K) (post P B (lpK K)) (m + 1) := by kernel_rfl) (h3 : hd3 K = true := by kernel_rfl) : OK S c E0 n B K s := by
 unfold hd3 at h3
 split at h3
 ·rename_i f kk
  obtain ⟨fk, fc, fi, fa, fr, fI⟩ := f
  have h3 := nbeq.1 h3
  simp only at h3
  subst h3
  refine ⟨fun E a w hn hE H => ?_⟩
  have h := k.out E a w hn hE H
  show fI a w
  have hI : fI = _ := hI
  rw [hI]
  exact h
 ·cases h3
section
variable {P : Program} {S : Seat P} {C : World → Prop}
def dRdX (q : VO) (b : Nat) (T0 : List Blk) (v : SV) (h : ∀ E w, S.laid w → C w → (∀ x ∈ T0, w.heap[x.g]? = some x.Z) → (q.sem E).run P w = .ok (.value (v.den E)) w) : Dr S C :=
 dSp fun _ => ⟨q, [(b, tX T0)], [], [], [], v, fun _ _ => fun E w hL hC T hok => by
  have hd : denP E ([(b, tX T0)] ++ []) = T0 := by
   show T0 ++ [] = T0
   rw [List.append_nil]
  rw [hd] at T
  rw [h E w hL (hC w (grw_refl _ _)) T.at_]
  refine ⟨E, fun _ _ => rfl, fun p hp => hok p (by simpa [ix] using hp), rfl, ?_⟩
  rw [hd]
  show OkT w w T0 (denP E ([(b, tX T0)] ++ []))
  rw [hd]
  exact OkT.refl T⟩
def dLenV (t ty : TypeId) (base : Option Addr) (n cap : Nat) (hu : P.underlying t = some (.slice (P.elem t)) := by kernel_rfl) : Dr S C :=
 dRd (oBi .len [t] ty [false] [vV (.slice base n cap)]) (vV (.int .i64 (n : Int))) fun E w _ _ => by
  show (do pure (Next.value (← Builtin.len_ #[t] ty #[.slice base n cap])) : Sem Next).run P w = _
  simp only [Sem.run_bind, run_len_slice w t ty base n cap hu, Result.andThen_ok, Sem.run_pure]
  rfl
def dIxR (t : TypeId) {T : List Blk} {K n : Nat} {F : Nat → Nat → Value} {base : Option Addr} {g o : Nat} (H : SlO T K n F base g o) (cap i : Nat) (h : i < n) (hu : P.underlying t = some (.slice (P.elem t)) := by kernel_rfl) (h0 : (P.info? (P.elem t)).map (·.size) = some K := by kernel_rfl) : Dr S C :=
 dRd (oOp 4 t 0 [] [vV (.slice base n cap), vV (.int .i64 (i : Int))]) (vV (.pointer (some ⟨g, o + i * K, none⟩))) fun _ _ _ _ => by
  obtain ⟨hb, -⟩ := H (by omega)
  subst hb
  exact run_ixsl (a := none) hu (by cases hh : P.info? (P.elem t) with | none => rw [hh] at h0; cases h0 | some i => rfl) h (by unfold sizeT; rw [h0]; rfl)
def dLdR (t : TypeId) (b : Nat) {T : List Blk} {K n : Nat} {F : Nat → Nat → Value} {base : Option Addr} {g o : Nat} (H : SlO T K n F base g o) (i : Nat) (h : i < n) (hs : Nat.beq K (sizeT P t) = true := by kernel_rfl) (ha : aggT P t = some true := by kernel_rfl) : Dr S C :=
 dRdX (oOp 2 t 0 [] [vV (.pointer (some ⟨g, o + i * K, none⟩))]) b T (vG (((List.range K).map (F i)).map vV)) fun E w _ _ hT => by
  obtain ⟨-, Z, e, fr, hm, hz⟩ := H (by omega)
  have hh := hT _ hm
  rw [vG_map]
  exact load_row (cs := (List.range K).map (F i)) ha (by rw [List.length_map, List.length_range]; exact nbeq.1 hs) (info_some ha) fun j x hx => by
   obtain ⟨hj, hx⟩ := List.getElem?_eq_some_iff.1 hx
   simp only [List.length_map, List.length_range] at hj
   simp only [List.getElem_map, List.getElem_range] at hx
   subst hx
   rw [cell_atR hh]
   exact hz i j h hj
def dLdR1 (t : TypeId) (b : Nat) {T : List Blk} {K n : Nat} {F : Nat → Nat → Value} {base : Option Addr} {g o : Nat} (H : SlO T K n F base g o) (i j off : Nat) (h : i < n) (hj : Nat.blt j K = true := by kernel_rfl) (ho : off = o + i * K + j := by rfl) (ha : aggT P t = some false := by kernel_rfl) : Dr S C :=
 dRdX (oOp 2 t 0 [] [vV (.pointer (some ⟨g, off, none⟩))]) b T (vV (F i j)) fun E w _ _ hT => by
  obtain ⟨-, Z, e, fr, hm, hz⟩ := H (by omega)
  have hh := hT _ hm
  subst ho
  exact load_one ha (by
   rw [cell_atR hh]
   exact hz i j h (by simpa [Nat.blt_eq] using hj))
end
end Go.Proofs.YtbdgncndhnnjoaaGreatDoor

namespace Go.Proofs.YtbdgncndhnnjoaaGreatDoor
open Go.RowKit
set_option linter.unusedVariables false
set_option linter.unusedSimpArgs false
set_option linter.unusedSectionVars false
theorem nT {b : Bool} (h : b = false) : ¬ b = true := by rw [h]; exact Bool.false_ne_true
def unA (b : Nat) (v : Value) (s : SV) : SV := match s.k with
 | 3 => bif Nat.beq s.b b then vV v else s
 | _ => s
def unB (b : Nat) (v : Value) (s : SV) : SV := match s.k with
 | 5 => ⟨s.k, s.x, s.b, s.o, s.n, s.h, s.l.map (unA b v), s.m, s.fn⟩
 | _ => unA b v s
def unC (b : Nat) (v : Value) (s : SV) : SV := match s.k with
 | 7 => ⟨s.k, s.x, s.b, s.o, s.n, s.h, s.l.map (unA b v), s.m.map (unA b v), s.fn⟩
 | 8 => match s.l with
  | y :: l => ⟨s.k, s.x, s.b, s.o, s.n, s.h, unB b v y :: l, s.m, s.fn⟩
  | [] => s
 | _ => unA b v s
def unU (b : Nat) (v : Value) (s : SV) : SV := match s.k with
 | 5 => ⟨s.k, s.x, s.b, s.o, s.n, s.h, s.l.map (unC b v), s.m, s.fn⟩
 | _ => unC b v s
def unS (b : Nat) (v : Value) (s : SV) : SV := match s.k with
 | 6 => ⟨s.k, s.x, s.b, s.o, s.n, s.h, s.l.map (unU b v), s.m, s.fn⟩
 | _ => unU b v s
def unI (b : Nat) (v : Value) (s : It) : It := match s.k with
 | 0 => tC (s.l.map (unC b v)) s.t
 | _ => s
theorem unA_den {E : Nat → Ent} {b : Nat} {v : Value} (h : (E b).v = v) (s : SV) : (unA b v s).denA E = s.denA E := by
 obtain ⟨k, x, j, o, n, g, l, m, fn⟩ := s
 unfold unA
 split
 ·rename_i hk
  simp only at hk
  subst hk
  cases e : Nat.beq j b with
  | false => rfl
  | true =>
   have := nbeq.1 e
   subst this
   exact h.symm
 ·rfl
theorem unA_k {E : Nat → Ent} {b : Nat} {v : Value} (h : (E b).v = v) (s : SV) (hk : s.k ≠ 3) : unA b v s = s := by
 unfold unA
 split
 ·rename_i h3; exact absurd h3 hk
 ·rfl
theorem unA_isA {E : Nat → Ent} {b : Nat} {v : Value} (h : (E b).v = v) (s : SV) : (unA b v s).k = 0 ∨ (unA b v s).k = s.k := by
 unfold unA
 split
 ·cases Nat.beq s.b b with
  | false => exact .inr rfl
  | true => exact .inl rfl
 ·exact .inr rfl
theorem unB_den {E : Nat → Ent} {b : Nat} {v : Value} (h : (E b).v = v) (s : SV) : (unB b v s).denB E = s.denB E := by
 obtain ⟨k, x, j, o, n, g, l, m, fn⟩ := s
 by_cases hk : k = 5
 ·subst hk
  show Value.agg ((l.map (unA b v)).map (SV.denA E)).toArray = Value.agg (l.map (SV.denA E)).toArray
  rw [List.map_map]
  congr 2
  exact List.map_congr_left fun x _ => unA_den h x
 ·have e1 : unB b v ⟨k, x, j, o, n, g, l, m, fn⟩ = unA b v ⟨k, x, j, o, n, g, l, m, fn⟩ := by
   unfold unB
   split
   ·rename_i h5; exact absurd h5 hk
   ·rfl
  have e2 : ∀ s : SV, s.k ≠ 5 → s.denB E = s.denA E := fun s hs => by
   unfold SV.denB
   split
   ·rename_i h5; exact absurd h5 hs
   ·rfl
  rw [e1]
  exact (e2 (unA b v ⟨k, x, j, o, n, g, l, m, fn⟩) (by rcases unA_isA h ⟨k, x, j, o, n, g, l, m, fn⟩ with e | e <;> rw [e]; exact (by decide); exact hk)).trans ((unA_den h _).trans (e2 _ hk).symm)
theorem unC_den {E : Nat → Ent} {b : Nat} {v : Value} (h : (E b).v = v) (s : SV) : (unC b v s).denC E = s.denC E := by
 obtain ⟨k, x, j, o, n, g, l, m, fn⟩ := s
 by_cases h7 : k = 7
 ·subst h7
  show Value.func fn ((l.map (unA b v)).map (SV.denA E)).toArray ((m.map (unA b v)).map (SV.denA E)).toArray = Value.func fn (l.map (SV.denA E)).toArray (m.map (SV.denA E)).toArray
  rw [List.map_map, List.map_map]
  congr 2
  ·exact List.map_congr_left fun x _ => unA_den h x
  ·exact List.map_congr_left fun x _ => unA_den h x
 ·by_cases h8 : k = 8
  ·subst h8
   cases l with
   | nil => rfl
   | cons y l =>
    show Value.iface j ((unB b v y).denB E) = Value.iface j (y.denB E)
    rw [unB_den h]
  ·have e1 : unC b v ⟨k, x, j, o, n, g, l, m, fn⟩ = unA b v ⟨k, x, j, o, n, g, l, m, fn⟩ := by
    unfold unC
    split
    ·rename_i h5; exact absurd h5 h7
    ·rename_i h5; exact absurd h5 h8
    ·rfl
   have e2 : ∀ s : SV, s.k ≠ 7 → s.k ≠ 8 → s.denC E = s.denA E := fun s hs hs2 => by
    unfold SV.denC
    split
    ·rename_i h5; exact absurd h5 hs
    ·rename_i h5; exact absurd h5 hs2
    ·rfl
   rw [e1]
   exact (e2 (unA b v ⟨k, x, j, o, n, g, l, m, fn⟩) (by rcases unA_isA h ⟨k, x, j, o, n, g, l, m, fn⟩ with e | e <;> rw [e]; exact (by decide); exact h7) (by rcases unA_isA h ⟨k, x, j, o, n, g, l, m, fn⟩ with e | e <;> rw [e]; exact (by decide); exact h8)).trans ((unA_den h _).trans (e2 _ h7 h8).symm)
theorem unC_k {E : Nat → Ent} {b : Nat} {v : Value} (h : (E b).v = v) (s : SV) (hk : s.k ≠ 3) : (unC b v s).k = s.k := by
 unfold unC
 split
 ·rfl
 ·split <;> rfl
 ·rw [unA_k h s hk]
theorem unC_k3 {E : Nat → Ent} {b : Nat} {v : Value} (h : (E b).v = v) (s : SV) (hk : s.k = 3) : (unC b v s).k = 0 ∨ (unC b v s).k = 3 := by
 unfold unC
 split
 ·rename_i h5; omega
 ·rename_i h5; omega
 ·rcases unA_isA h s with e | e
  ·exact .inl e
  ·exact .inr (e.trans hk)
theorem unU_den {E : Nat → Ent} {b : Nat} {v : Value} (h : (E b).v = v) (s : SV) : (unU b v s).denU E = s.denU E := by
 obtain ⟨k, x, j, o, n, g, l, m, fn⟩ := s
 by_cases hk : k = 5
 ·subst hk
  show Value.agg ((l.map (unC b v)).map (SV.denC E)).toArray = Value.agg (l.map (SV.denC E)).toArray
  rw [List.map_map]
  congr 2
  exact List.map_congr_left fun x _ => unC_den h x
 ·have e1 : unU b v ⟨k, x, j, o, n, g, l, m, fn⟩ = unC b v ⟨k, x, j, o, n, g, l, m, fn⟩ := by
   unfold unU
   split
   ·rename_i h5; exact absurd h5 hk
   ·rfl
  have e2 : ∀ s : SV, s.k ≠ 5 → s.denU E = s.denC E := fun s hs => by
   unfold SV.denU
   split
   ·rename_i h5; exact absurd h5 hs
   ·rfl
  have e3 : (unC b v ⟨k, x, j, o, n, g, l, m, fn⟩).k ≠ 5 := by
   by_cases h3 : k = 3
   ·rcases unC_k3 h ⟨k, x, j, o, n, g, l, m, fn⟩ h3 with e | e <;> rw [e] <;> decide
   ·rw [unC_k h ⟨k, x, j, o, n, g, l, m, fn⟩ h3]
    exact hk
  rw [e1]
  exact (e2 _ e3).trans ((unC_den h _).trans (e2 _ hk).symm)
theorem unU_k {E : Nat → Ent} {b : Nat} {v : Value} (h : (E b).v = v) (s : SV) : (unU b v s).k = s.k ∨ s.k = 3 ∧ (unU b v s).k = 0 := by
 unfold unU
 split
 ·exact .inl rfl
 ·by_cases h3 : s.k = 3
  ·rcases unC_k3 h s h3 with e | e
   ·exact .inr ⟨h3, e⟩
   ·exact .inl (e.trans h3.symm)
  ·exact .inl (unC_k h s h3)
theorem unS_den {E : Nat → Ent} {b : Nat} {v : Value} (h : (E b).v = v) (s : SV) : (unS b v s).den E = s.den E := by
 obtain ⟨k, x, j, o, n, g, l, m, fn⟩ := s
 by_cases hk : k = 6
 ·subst hk
  show Value.tuple ((l.map (unU b v)).map (SV.denU E)).toArray = Value.tuple (l.map (SV.denU E)).toArray
  rw [List.map_map]
  congr 2
  exact List.map_congr_left fun x _ => unU_den h x
 ·have e1 : unS b v ⟨k, x, j, o, n, g, l, m, fn⟩ = unU b v ⟨k, x, j, o, n, g, l, m, fn⟩ := by
   unfold unS
   split
   ·rename_i h5; exact absurd h5 hk
   ·rfl
  have e2 : ∀ s : SV, s.k ≠ 6 → s.den E = s.denU E := fun s hs => by
   unfold SV.den
   split
   ·rename_i h5; exact absurd h5 hs
   ·rfl
  have e3 : (unU b v ⟨k, x, j, o, n, g, l, m, fn⟩).k ≠ 6 := by
   rcases unU_k h ⟨k, x, j, o, n, g, l, m, fn⟩ with e | ⟨_, e⟩ <;> rw [e]
   ·exact hk
   ·decide
  rw [e1]
  exact (e2 _ e3).trans ((unU_den h _).trans (e2 _ hk).symm)
theorem unI_den {E : Nat → Ent} {b : Nat} {v : Value} (h : (E b).v = v) (x : It) (i : Nat) : (unI b v x).den E i = x.den E i := by
 unfold unI
 split
 ·rename_i hk
  rw [it0 hk, it0 (show (tC (x.l.map (unC b v)) x.t).k = 0 from rfl)]
  show [(⟨(E i).g, .cells ((x.l.map (unC b v)).map (SV.denC E)).toArray x.t (0, 0)⟩ : Blk)] = _
  rw [List.map_map]
  congr 4
  exact List.map_congr_left fun y _ => unC_den h y
 ·rfl
theorem unI_ok {E : Nat → Ent} {b : Nat} {v : Value} {x : It} {i : Nat} (h : x.ok E i) : (unI b v x).ok E i := by
 unfold unI
 split
 ·exact trivial
 ·exact h
theorem unI_dens {E : Nat → Ent} {b : Nat} {v : Value} (h : (E b).v = v) : ∀ (m : List It) (k : Nat), dens E k (m.map (unI b v)) = dens E k m
 | [], _ => rfl
 | x :: m, k => by simp only [List.map_cons, dens, unI_den h, unI_dens h m (k + 1)]
theorem xOpen {P : Program} {S : Seat P} {c : Ctx} {E0 : Nat → Ent} {n : Nat} {B : Exit → Act → World → Prop} {K : List Fr} {s : St} (i : Nat) {D : Value → List Blk → Prop}
  (h : ∀ v0 T0, D v0 T0 → OK S c E0 n B K ⟨s.t.map (unS i v0), (s.m.map (unI i v0)).set i (tX T0)⟩) (hi : s.m[i]? = some (tD D) := by kernel_rfl)
  (hA : (fun v0 => (s.t.map (unS i v0)).all (SV.al (isLt s.m.length)) && (s.m.map (unI i v0)).all (It.al (isLt s.m.length))) = (fun _ => true) := by kernel_rfl) : OK S c E0 n B K s :=
 ⟨fun E a w hn hE H => by
  have hm : (s.m.map (unI i (E i).v))[i]? = some (tD D) := by rw [List.getElem?_map, hi]; rfl
  obtain ⟨hA1, hA2⟩ := Bool.and_eq_true_iff.1 (congrFun hA (E i).v)
  refine (h (E i).v (E i).T (H.ok i _ hi)).out E a w (by simpa using hn) hE ⟨?_, H.df, ?_, ?_, ?_, ?_⟩
  ·rw [H.tm]
   unfold tv
   rw [List.map_map]
   congr 1
   exact (List.map_congr_left fun y _ => unS_den (b := i) (v := (E i).v) rfl y).symm
  ·show Mem S c (dens E 0 ((s.m.map (unI i (E i).v)).set i (tX (E i).T))) w
   rw [dens_set_same E _ 0 i (tD D) (tX (E i).T) hm (by rw [Nat.zero_add]; rfl), unI_dens rfl]
   exact H.mem
  ·intro k x hx
   have hx : ((s.m.map (unI i (E i).v)).set i (tX (E i).T))[k]? = some x := hx
   rw [List.getElem?_set] at hx
   split at hx
   ·split at hx
    ·cases hx
     exact trivial
    ·cases hx
   ·rw [List.getElem?_map] at hx
    cases hy : s.m[k]? with
    | none => rw [hy] at hx; cases hx
    | some y =>
     rw [hy] at hx
     cases hx
     exact unI_ok (H.ok k y hy)
  ·simp only [List.length_set, List.length_map]
   exact hA1
  ·simp only [List.length_set, List.length_map]
   exact all_set hA2 rfl⟩
theorem xOpenF {P : Program} {S : Seat P} {c : Ctx} {E0 : Nat → Ent} {n : Nat} {B : Exit → Act → World → Prop} {K : List Fr} {s : St} (i : Nat) {D : Value → List Blk → Prop}
  (h : ∀ v0 T0, D v0 T0 → OK S c E0 n B K ⟨s.t.map (unS i v0), s.m.set i (tD (fixD v0 T0))⟩) (hi : s.m[i]? = some (tD D) := by kernel_rfl)
  (hA : (fun v0 => (s.t.map (unS i v0)).all (SV.al (isLt s.m.length))) = (fun _ => true) := by kernel_rfl) : OK S c E0 n B K s :=
 ⟨fun E a w hn hE H => by
  have H2 := data_set hi (D' := fixD (E i).v (E i).T) ⟨rfl, rfl⟩ H
  refine (h (E i).v (E i).T (H.ok i _ hi)).out E a w (by simpa using hn) hE ⟨?_, H2.df, H2.mem, H2.ok, ?_, H2.wm⟩
  ·rw [H.tm]
   unfold tv
   rw [List.map_map]
   congr 1
   exact (List.map_congr_left fun y _ => unS_den (b := i) (v := (E i).v) rfl y).symm
  ·simp only [List.length_set]
   exact congrFun hA (E i).v⟩
section
variable {P : Program} {S : Seat P} {C : World → Prop}
def dLdRF (t : TypeId) (b : Nat) (v0 : Value) {T : List Blk} {K n : Nat} {F : Nat → Nat → Value} {base : Option Addr} {g o : Nat} (H : SlO T K n F base g o) (i : Nat) (h : i < n) (hs : Nat.beq K (sizeT P t) = true := by kernel_rfl) (ha : aggT P t = some true := by kernel_rfl) : Dr S C :=
 dRdD (oOp 2 t 0 [] [vV (.pointer (some ⟨g, o + i * K, none⟩))]) b v0 T (vG (((List.range K).map (F i)).map vV)) fun E w _ _ _ hT => by
  obtain ⟨-, Z, e, fr, hm, hz⟩ := H (by omega)
  have hh := hT _ hm
  rw [vG_map]
  exact load_row (cs := (List.range K).map (F i)) ha (by rw [List.length_map, List.length_range]; exact nbeq.1 hs) (info_some ha) fun j x hx => by
   obtain ⟨hj, hx⟩ := List.getElem?_eq_some_iff.1 hx
   simp only [List.length_map, List.length_range] at hj
   simp only [List.getElem_map, List.getElem_range] at hx
   subst hx
   rw [cell_atR hh]
   exact hz i j h hj
end
theorem xSl {P : Program} {S : Seat P} {c : Ctx} {E0 : Nat → Ent} {n : Nat} {B : Exit → Act → World → Prop} {K : List Fr} {s : St} (k : Nat) (u : SV) (h : ∀ E : Nat → Ent, (∀ i, i < n → E i = E0 i) → ((s.t[k]?).getD (vV undef)).den E = u.den E)
  (kk : OK S c E0 n B K ⟨s.t.set k u, s.m⟩) (hA : u.al (isLt s.m.length) = true := by kernel_rfl) : OK S c E0 n B K s :=
 ⟨fun E a w hn hE H => by
  refine kk.out E a w hn hE ⟨?_, H.df, H.mem, H.ok, ?_, H.wm⟩
  ·rw [H.tm]
   unfold tv
   congr 1
   rw [List.map_set, ← h E hE]
   cases e : s.t[k]? with
   | none => rw [List.set_eq_of_length_le (by simpa using List.getElem?_eq_none_iff.1 e)]
   | some y =>
    obtain ⟨hk, rfl⟩ := List.getElem?_eq_some_iff.1 e
    simp only [Option.getD_some]
    have : (s.t[k]).den E = (s.t.map (SV.den E))[k]'(by simpa using hk) := by simp
    rw [this, List.set_getElem_self]
  ·exact List.all_eq_true.2 fun y hy => by
    rcases List.mem_or_eq_of_mem_set hy with hy | rfl
    ·exact List.all_eq_true.1 H.wt y hy
    ·exact hA⟩
theorem ct_join {P : Program} {S : Seat P} {C : World → Prop} {f : FuncId} {r : SV} (n : Nat) (D : Nat → Value → List Blk → Prop) (xs : List SV) (args : (Nat → Value) → List SV) (hden : ∀ E : Nat → Ent, xs.map (SV.den E) = (args fun i => (E i).v).map (SV.den E)) (hr : r.al (fun _ => false) = true)
  (h : ∀ (v : Nat → Value) (T : Nat → List Blk), (∀ i, i < n → D i (v i) (T i)) → Ct S C f (args v) [tX ((List.range n).flatMap T)] [] [] [] r) : Ct S C f xs ((List.range n).map fun i => tD (D i)) [] [] [] r := by
 have key : ∀ (E : Nat → Ent) (n k : Nat), denP E (ix k ((List.range' k n).map fun i => tD (D i))) = (List.range' k n).flatMap fun i => (E i).T := by
  intro E n
  induction n with
  | zero => intro k; rfl
  | succ n ih =>
   intro k
   rw [List.range'_succ, List.map_cons, List.flatMap_cons]
   show (E k).T ++ denP E (ix (k + 1) _) = _
   rw [ih (k + 1)]
 have key2 : ∀ E : Nat → Ent, denP E (ix 0 ((List.range n).map fun i => tD (D i))) = (List.range n).flatMap fun i => (E i).T := fun E => by
  rw [List.range_eq_range']
  exact key E n 0
 have ok2 : ∀ (E : Nat → Ent) (n k : Nat), okP E (ix k ((List.range' k n).map fun i => tD (D i))) ↔ ∀ i, k ≤ i → i < k + n → D i (E i).v (E i).T := by
  intro E n
  induction n with
  | zero => intro k; exact ⟨fun _ i h1 h2 => by omega, fun _ p hp => by simp [ix] at hp⟩
  | succ n ih =>
   intro k
   rw [List.range'_succ, List.map_cons]
   constructor
   ·intro h i h1 h2
    by_cases e : i = k
    ·subst e
     exact h (i, tD (D i)) (by simp [ix])
    ·exact (ih (k + 1)).1 (fun p hp => h p (by simp [ix, hp])) i (by omega) (by omega)
   ·intro h p hp
    simp only [ix, List.mem_cons] at hp
    rcases hp with rfl | hp
    ·exact h k (by omega) (by omega)
    ·exact (ih (k + 1)).2 (fun i h1 h2 => h i (by omega) (by omega)) p hp
 refine ⟨fun E w hL hC T hok => ?_⟩
 rw [List.append_nil] at hC T hok ⊢
 rw [key2] at hC T ⊢
 have hD : ∀ i, i < n → D i (E i).v (E i).T := fun i hi => (ok2 E n 0).1 (by rw [← List.range_eq_range']; exact hok) i (by omega) (by omega)
 have hx : denP E (ix 0 ([tX ((List.range n).flatMap fun i => (E i).T)] ++ [])) = (List.range n).flatMap fun i => (E i).T := by
  show _ ++ [] = _
  rw [List.append_nil]
  rfl
 have hq := (h (fun i => (E i).v) (fun i => (E i).T) hD).out E w hL (by rw [hx]; exact hC) (by rw [hx]; exact T) (fun p hp => by simp [ix] at hp; subst hp; exact trivial)
 have e1 : ((oCall f xs).sem E) = ((oCall f (args fun i => (E i).v)).sem E) := by
  show callFunc f (xs.map (SV.den E)).toArray = callFunc f ((args fun i => (E i).v).map (SV.den E)).toArray
  rw [hden]
 rw [e1]
 refine hq.mono ?_
 rintro r' w' ⟨E', hE', -, rfl, hT⟩
 rw [hx] at hT
 have hx2 : denP E' (postC [tX ((List.range n).flatMap fun i => (E i).T)] [] [] []) = (List.range n).flatMap fun i => (E i).T := by
  show _ ++ [] = _
  rw [List.append_nil]
  rfl
 rw [hx2] at hT
 have hp : ∀ E : Nat → Ent, denP E (postC ((List.range n).map fun i => tD (D i)) [] [] []) = (List.range n).flatMap fun i => (E i).T := fun E => by
  show denP E (ix 0 _ ++ ([] ++ [])) = _
  rw [List.append_nil, List.append_nil, key2]
 refine ⟨E, fun _ _ => rfl, ?_, r.den_congr (p := fun _ => false) (fun i hi => by cases hi) hr, by rw [hp]; exact hT⟩
 show okP E (ix 0 _ ++ ([] ++ []))
 rw [List.append_nil, List.append_nil]
 exact hok
end Go.Proofs.YtbdgncndhnnjoaaGreatDoor

namespace Go.Proofs.YtbdgncndhnnjoaaGreatDoor
open Go.RowKit
set_option linter.unusedVariables false
set_option linter.unusedSimpArgs false
theorem xMove {P : Program} {S : Seat P} {c : Ctx} {E0 : Nat → Ent} {n : Nat} {B : Exit → Act → World → Prop} {K : List Fr} {s : St} (i : Nat) (ts : List Nat) (cs : List (Nat × Nat)) (D : Value → List Blk → Prop)
  (k : OK S c E0 n B K (packS s [i] D ts cs)) (hi : lk s.m [i] = [(i, tD D)] := by kernel_rfl)
  (hA : ((vW i).isA && (inM s.m [i] && (vW i).al (isLt s.m.length))) = true := by kernel_rfl)
  (hT : pickT ts 0 s.t = (pickT ts 0 s.t).map fun _ => vW i := by kernel_rfl)
  (hC : pickC s.m.length cs (gapM s.m [i]) = (pickC s.m.length cs (gapM s.m [i])).map fun _ => vW i := by kernel_rfl) : OK S c E0 n B K s :=
 xPack (vW i) [i] D ts cs (fun E h => by
  rw [hi] at h ⊢
  refine ⟨(E i).one, ?_⟩
  have : denP E [(i, tD D)] = (E i).T := by
   show (E i).T ++ [] = _
   rw [List.append_nil]
  rw [this]
  exact h (i, tD D) (by simp)) k hA hT hC
section
variable {P : Program} {S : Seat P} {C : World → Prop}
def dRdE (q : VO) (b : Nat) (D : Value → List Blk → Prop) (v : SV) (h : ∀ E w, S.laid w → C w → D (E b).v (E b).T → (∀ x ∈ (E b).T, w.heap[x.g]? = some x.Z) → (q.sem E).run P w = .ok (.value (v.den E)) w) : Dr S C :=
 dSp fun _ => ⟨q, [(b, tD D)], [], [], [], v, fun _ _ => fun E w hL hC T hok => by
  have hd : denP E ([(b, tD D)] ++ []) = (E b).T := by
   show (E b).T ++ [] = _
   rw [List.append_nil]
  rw [hd] at T
  rw [h E w hL (hC w (grw_refl _ _)) (hok (b, tD D) (by simp)) T.at_]
  refine ⟨E, fun _ _ => rfl, fun p hp => hok p (by simpa [ix] using hp), rfl, ?_⟩
  rw [hd]
  show OkT w w (E b).T (denP E ([(b, tD D)] ++ []))
  rw [hd]
  exact OkT.refl T⟩
theorem RowD.len {α : Type} {K : Nat} {e : TypeId} {el : α → List Value → List Blk → Prop} {l : List α} {v : Value} {T : List Blk} (h : RowD K e el l v T) : ∃ base cap, v = .slice base l.length cap := by
 obtain ⟨cs, Tb, Te, hB, -, -⟩ := h
 rcases hB.2 with ⟨h0, ⟨a, rfl⟩, rfl⟩ | ⟨g, cap, Z, rfl, -⟩
 ·exact ⟨a, 0, by rw [h0]⟩
 ·exact ⟨_, _, rfl⟩
def dLenR (t ty : TypeId) (b : Nat) {α : Type} (K : Nat) (e : TypeId) (el : α → List Value → List Blk → Prop) (l : List α) (n : Nat) (hn : l.length = n) (hu : P.underlying t = some (.slice (P.elem t)) := by kernel_rfl) : Dr S C :=
 dRdE (oBi .len [t] ty [false] [vW b]) b (RowD K e el l) (vV (.int .i64 (n : Int))) fun E w _ _ hv _ => by
  subst hn
  obtain ⟨base, cap, hv⟩ := RowD.len hv
  show (do pure (Next.value (← Builtin.len_ #[t] ty #[(E b).v])) : Sem Next).run P w = _
  rw [hv]
  simp only [Sem.run_bind, run_len_slice w t ty base l.length cap hu, Result.andThen_ok, Sem.run_pure]
  rfl
end
end Go.Proofs.YtbdgncndhnnjoaaGreatDoor

namespace Go.Proofs.YtbdgncndhnnjoaaGreatDoor
open Go.RowKit
set_option linter.unusedVariables false
set_option linter.unusedSimpArgs false
section
variable {P : Program} {S : Seat P} {c : Ctx} {E0 : Nat → Ent} {n : Nat} {B : Exit → Act → World → Prop} {K : List Fr} {s : St}
end
theorem xPk {P : Program} {S : Seat P} {c : Ctx} {E0 : Nat → Ent} {n : Nat} {B : Exit → Act → World → Prop} {K : List Fr} {s : St} (sv : SV) (L : List (Nat × It)) (D : Value → List Blk → Prop) (ts : List Nat) (cs : List (Nat × Nat))
  (hD : ∀ E : Nat → Ent, okP E L → (sv.den E).oneCell' = true ∧ D (sv.den E) (denP E L))
  (k : OK S c E0 n B K (packS s (L.map Prod.fst) D ts cs)) (hl : lk s.m (L.map Prod.fst) = L := by kernel_rfl)
  (hA : (sv.isA && (inM s.m (L.map Prod.fst) && sv.al (isLt s.m.length))) = true := by kernel_rfl)
  (hT : pickT ts 0 s.t = (pickT ts 0 s.t).map fun _ => sv := by kernel_rfl)
  (hC : pickC s.m.length cs (gapM s.m (L.map Prod.fst)) = (pickC s.m.length cs (gapM s.m (L.map Prod.fst))).map fun _ => sv := by kernel_rfl) : OK S c E0 n B K s :=
 xPack sv (L.map Prod.fst) D ts cs (fun E h => by rw [hl] at h ⊢; exact hD E h) k hA hT hC
theorem okT_blk {P : Program} {S : Seat P} {w w' : World} {A B : List Blk} {g : Nat} {Z Z' : Obj} (T : There S w (A ++ ⟨g, Z⟩ :: B)) (hg : Grw w w' [g]) (hz : w'.heap[g]? = some Z') : OkT w w' (A ++ ⟨g, Z⟩ :: B) (A ++ ⟨g, Z'⟩ :: B) := by
 have hn := T.nodup
 have hne : ∀ b ∈ A ++ B, b.g ≠ g := by
  intro b hb e
  rw [List.map_append, List.map_cons] at hn
  have hp : ((A.map Blk.g) ++ g :: B.map Blk.g).Perm (g :: ((A ++ B).map Blk.g)) := by rw [List.map_append]; exact List.perm_middle
  have := (hp.nodup_iff.1 hn)
  exact (List.nodup_cons.1 this).1 (e ▸ List.mem_map_of_mem hb)
 refine ⟨hg.sub fun x hx => by rw [List.mem_singleton.1 hx]; simp, fun b hb => ?_, by simpa using hn, fun b hb => .inl (by
  rcases List.mem_append.1 hb with h | h
  ·simp; exact .inl ⟨b, h, rfl⟩
  ·rcases List.mem_cons.1 h with rfl | h
   ·simp
   ·simp; exact .inr (.inr ⟨b, h, rfl⟩))⟩
 have old : b ∈ A ++ B → w'.heap[b.g]? = some b.Z := fun h => by
  have hm : b ∈ A ++ ⟨g, Z⟩ :: B := by
   rcases List.mem_append.1 h with h | h
   ·exact List.mem_append_left _ h
   ·exact List.mem_append_right _ (List.mem_cons_of_mem _ h)
  rw [hg.block _ (T.lt hm) fun e => hne b h (List.mem_singleton.1 e)]
  exact T.at_ b hm
 rcases List.mem_append.1 hb with h | h
 ·exact old (List.mem_append_left _ h)
 ·rcases List.mem_cons.1 h with rfl | h
  ·exact hz
  ·exact old (List.mem_append_right _ h)
section
variable {P : Program} {S : Seat P} {C : World → Prop}
def dWrX (q : VO) (b : Nat) (T T' : List Blk) (v : SV) (h : ∀ E w, S.laid w → There S w T → Fin P ((q.sem E).run P w) fun r w' => r = v.den E ∧ OkT w w' T T') : Dr S C :=
 dSp fun _ => ⟨q, [], [(b, tX T)], [tX T'], [], v, fun _ _ => fun E w hL hC Th hok => by
  have hd : denP E ([] ++ [(b, tX T)]) = T := by
   show T ++ [] = T
   rw [List.append_nil]
  have hd' : denP E ([] ++ (([(b, tX T)].map Prod.fst).zip [tX T'] ++ ix b [])) = T' := by
   show T' ++ [] = T'
   rw [List.append_nil]
  rw [hd] at Th
  refine (h E w hL Th).mono fun r w' hr => ⟨E, fun _ _ => rfl, ?_, hr.1, ?_⟩
  ·intro p hp
   simp [ix] at hp
   subst hp
   trivial
  ·rw [hd]
   have hd2 : denP E ([] ++ (([(b, tX T)].map Prod.fst).zip [tX T'] ++ ix ‹Nat› [])) = T' := by
    show T' ++ [] = T'
    rw [List.append_nil]
   rw [hd2]
   exact hr.2⟩
def dLdX (t : TypeId) (b : Nat) (T : List Blk) (g off : Nat) (Z : List Value) (e : TypeId) (v : Value) (hm : (⟨g, .cells Z.toArray e (0, 0)⟩ : Blk) ∈ T) (hz : Z[off]? = some v) (ha : aggT P t = some false := by kernel_rfl) : Dr S C :=
 dRdX (oOp 2 t 0 [] [vV (.pointer (some ⟨g, off, none⟩))]) b T (vV v) fun E w _ _ hT => by
  exact load_one ha (by rw [cell_at (hT _ hm)]; exact hz)
def dStX (t : TypeId) (b : Nat) (A B : List Blk) (g off : Nat) (Z : List Value) (e : TypeId) (v : Value) (ho : off < Z.length) (h1 : v.oneCell' = true := by rfl) (hc : v.cells.toList = [v] := by rfl) (hs : Nat.beq 1 (sizeT P t) = true := by kernel_rfl) (h0 : (P.info? t).isSome = true := by kernel_rfl) : Dr S C :=
 dWrX (oOp 3 t 0 [] [vV (.pointer (some ⟨g, off, none⟩)), vV v]) b (A ++ ⟨g, .cells Z.toArray e (0, 0)⟩ :: B) (A ++ ⟨g, .cells (Z.set off v).toArray e (0, 0)⟩ :: B) (vV undef) fun E w _ T => by
  have hg : w.heap[g]? = some (.cells Z.toArray e (0, 0)) := T.at_ ⟨g, .cells Z.toArray e (0, 0)⟩ (by simp)
  have hr : ((oOp 3 t 0 [] [vV (.pointer (some ⟨g, off, none⟩)), vV v]).sem E).run P w = .ok .skip (w.setCells g off [v]) := store_run (vs := [v]) hg hc (nbeq.1 hs) h0 (by simp only [List.length_singleton]; omega) (by simpa using h1)
  rw [hr]
  refine ⟨rfl, okT_blk T (grw_setCells g [v] w off) ?_⟩
  rw [heap_setCells g e [v] w Z.toArray off hg]
  simp [setAll]
end
def ents {α : Type} (enc : α → Value) (ms : List (α × Value × Nat)) : List MapEntry := ms.map fun e => ⟨enc e.1, e.2.1, e.2.2⟩
def fndM {α : Type} [DecidableEq α] (x : α) : List (α × Value × Nat) → Nat → Option (Nat × Value)
 | [], _ => none
 | e :: l, i => if x = e.1 then some (i, e.2.1) else fndM x l (i + 1)
def lkM {α : Type} [DecidableEq α] (x : α) : List (α × Value × Nat) → Option Value
 | [] => none
 | e :: l => if x = e.1 then some e.2.1 else lkM x l
def rmM {α : Type} [DecidableEq α] (x : α) : List (α × Value × Nat) → List (α × Value × Nat)
 | [] => []
 | e :: l => if x = e.1 then l else e :: rmM x l
theorem fnd_lk {α : Type} [DecidableEq α] (x : α) : ∀ (l : List (α × Value × Nat)) (i : Nat), fndM x l i = none ↔ lkM x l = none
 | [], _ => by simp [fndM, lkM]
 | e :: l, i => by
  unfold fndM lkM
  split
  ·simp
  ·exact fnd_lk x l (i + 1)
theorem fnd_some {α : Type} [DecidableEq α] (x : α) : ∀ (l : List (α × Value × Nat)) (i j : Nat) (v : Value), fndM x l i = some (j, v) → lkM x l = some v ∧ ∃ k, j = i + k ∧ k < l.length ∧ l.eraseIdx k = rmM x l
 | [], _, _, _, h => by simp [fndM] at h
 | e :: l, i, j, v, h => by
  unfold fndM at h
  unfold lkM rmM
  split
  ·rename_i hx
   rw [if_pos hx] at h
   simp only [Option.some.injEq, Prod.mk.injEq] at h
   exact ⟨by rw [h.2], 0, by omega, by simp, rfl⟩
  ·rename_i hx
   rw [if_neg hx] at h
   obtain ⟨h1, k, h2, h3, h4⟩ := fnd_some x l (i + 1) j v h
   exact ⟨h1, k + 1, by omega, by simp; omega, by simp [h4]⟩
structure KM {α : Type} [DecidableEq α] (P : Program) (kt : TypeId) (enc : α → Value) : Prop where
 check : ∀ (em : Bool) (w : World) (x : α), (Instr.checkKey em 10000 kt (enc x)).run P w = .ok () w
 find : ∀ (w : World) (x : α) (ms : List (α × Value × Nat)), (Instr.findKey kt (enc x) (ents enc ms)).run P w = .ok (fndM x ms 0) w
def mapO {α : Type} (enc : α → Value) (ms : List (α × Value × Nat)) (clock : Nat) : Obj := .map (ents enc ms).toArray clock
section
variable {P : Program} {S : Seat P} {C : World → Prop} {α : Type} [DecidableEq α] {enc : α → Value}
theorem lk_run {t kt et : TypeId} (K : KM P kt enc) (hu : P.underlying t = some (.map kt et)) {w : World} {gm clock : Nat} {ms : List (α × Value × Nat)} (hg : w.heap[gm]? = some (mapO enc ms clock)) (x : α) (z : Value) (hz : (fun w => (zeroValue et).run P w) = (fun w => .ok z w)) (ok : Bool) :
  (semV (Instr.lookup t (.map (some gm)) (enc x) ok)).run P w = .ok (.value (match lkM x ms with | some v => if ok then .tuple #[v, .bool true] else v | none => if ok then .tuple #[z, .bool false] else z)) w := by
 have hz := congrFun hz w
 simp only [semV, Instr.lookup, Sem.run_bind, run_underlying hu, Result.andThen_ok, MapKept.run_getObj_map hg, K.check, Sem.run_pure]
 have hf := K.find w x ms
 have : (Instr.findKey kt (enc x) (ents enc ms).toArray.toList).run P w = .ok (fndM x ms 0) w := hf
 simp only [this, Result.andThen_ok]
 cases h : fndM x ms 0 with
 | none =>
  rw [(fnd_lk x ms 0).1 h]
  simp only [Sem.run_bind, hz, Result.andThen_ok, Sem.run_pure]
 | some p =>
  obtain ⟨j, v⟩ := p
  rw [(fnd_some x ms 0 j v h).1]
  simp only [Sem.run_bind, Result.andThen_ok, Sem.run_pure]
def dLk1 (t kt et : TypeId) (K : KM P kt enc) (b : Nat) (T : List Blk) (gm : Nat) (ms : List (α × Value × Nat)) (clock : Nat) (x : α) (ks : SV) (z v : Value) (hks : ∀ E, ks.den E = enc x) (hm : (⟨gm, mapO enc ms clock⟩ : Blk) ∈ T) (h : lkM x ms = some v) (hu : P.underlying t = some (.map kt et) := by kernel_rfl) (hz : (fun w => (zeroValue et).run P w) = (fun w => .ok z w) := by kernel_rfl) : Dr S C :=
 dRdX (oOp 9 t 0 [true] [vV (.map (some gm)), ks]) b T (vT [vV v, vV (.bool true)]) fun E w _ _ hT => by
  have := lk_run K hu (hT _ hm) x z hz true
  rw [h] at this
  show (semV (Instr.lookup t (.map (some gm)) (ks.den E) true)).run P w = _
  rw [hks, this]
  exact rfl
def dLk0 (t kt et : TypeId) (K : KM P kt enc) (b : Nat) (T : List Blk) (gm : Nat) (ms : List (α × Value × Nat)) (clock : Nat) (x : α) (ks : SV) (z : Value) (hks : ∀ E, ks.den E = enc x) (hm : (⟨gm, mapO enc ms clock⟩ : Blk) ∈ T) (h : lkM x ms = none) (hu : P.underlying t = some (.map kt et) := by kernel_rfl) (hz : (fun w => (zeroValue et).run P w) = (fun w => .ok z w) := by kernel_rfl) : Dr S C :=
 dRdX (oOp 9 t 0 [true] [vV (.map (some gm)), ks]) b T (vT [vV z, vV (.bool false)]) fun E w _ _ hT => by
  have := lk_run K hu (hT _ hm) x z hz true
  rw [h] at this
  show (semV (Instr.lookup t (.map (some gm)) (ks.den E) true)).run P w = _
  rw [hks, this]
  exact rfl
theorem grw_setB {w : World} {g : Nat} {Z : Obj} : Grw w { w with heap := w.heap.setIfInBounds g Z } [g] :=
 ⟨rfl, rfl, rfl, by simp, fun k hk hr => by
  show (w.heap.setIfInBounds g Z)[k]? = _
  rw [Array.getElem?_setIfInBounds, if_neg fun e => hr (by simp [e])]⟩
theorem at_setB {w : World} {g : Nat} {Z Z0 : Obj} (h : w.heap[g]? = some Z0) : ({ w with heap := w.heap.setIfInBounds g Z } : World).heap[g]? = some Z := by
 show (w.heap.setIfInBounds g Z)[g]? = _
 have := (Array.getElem?_eq_some_iff.1 h).1
 rw [Array.getElem?_setIfInBounds, if_pos rfl, if_pos this]
def mkD (v : Value) (T : List Blk) : Prop := ∃ gm, v = .map (some gm) ∧ T = [⟨gm, .map #[] 0⟩]
def dMk (t : TypeId) : Dr S C :=
 dSp fun b => ⟨oOp 12 t 0 [] [], [], [], [], [tD mkD], vW b, fun _ _ => fun E w hL hC T hok => by
  let E' : Nat → Ent := fun i => bif Nat.beq i b then ⟨0, .map (some w.heap.size), [⟨w.heap.size, .map #[] 0⟩], rfl⟩ else E i
  have hb : E' b = ⟨0, .map (some w.heap.size), [⟨w.heap.size, .map #[] 0⟩], rfl⟩ := by
   have : Nat.beq b b = true := nbeq.2 rfl
   simp only [E', this, cond_true]
  have hr : ((oOp 12 t 0 [] []).sem E).run P w = .ok (.value (.map (some w.heap.size))) (w.alloc (.map #[] 0)) := rfl
  rw [hr]
  refine ⟨E', fun i hi => ?_, ?_, ?_, ?_⟩
  ·have : Nat.beq i b = false := by
    cases h : Nat.beq i b with
    | false => rfl
    | true =>
     have h2 : newAt b 1 b = true := by simp [newAt, Nat.blt_eq]
     rw [nbeq.1 h] at hi
     have hi : newAt b 1 b = false := hi
     rw [h2] at hi
     cases hi
   simp only [E', this, cond_false]
  ·intro p hp
   simp [ix] at hp
   subst hp
   show mkD (E' b).v (E' b).T
   rw [hb]
   exact ⟨_, rfl, rfl⟩
  ·show Value.map (some w.heap.size) = (E' b).v
   rw [hb]
  ·have e1 : denP E' (([] : List (Nat × It)) ++ (((([] : List (Nat × It)).map Prod.fst).zip ([] : List It)) ++ ix b [tD mkD])) = [⟨w.heap.size, .map #[] 0⟩] := by
    show (E' b).T ++ [] = _
    rw [hb]
    rfl
   rw [e1]
   refine ⟨⟨rfl, rfl, rfl, by simp, fun k hk _ => Below.heap_alloc _ _ _ hk⟩, ?_, by simp, ?_⟩
   ·intro x hx
    simp only [List.mem_singleton] at hx
    subst hx
    exact heap_alloc_new w _
   ·intro x hx
    simp only [List.mem_singleton] at hx
    subst hx
    exact .inr (Nat.le_refl _)⟩
end
end Go.Proofs.YtbdgncndhnnjoaaGreatDoor

namespace Go.Proofs.YtbdgncndhnnjoaaGreatDoor
open Go.RowKit
set_option linter.unusedVariables false
set_option linter.unusedSimpArgs false
section
variable {P : Program} {S : Seat P} {C : World → Prop}
def dCat (t : TypeId) (a b : ByteArray) (h : a.size + b.size ≤ 1000000000) (hu : P.underlying t = some .string := by kernel_rfl) : Dr S C :=
 dRd (oOp 16 t 0 [] [vV (.string a), vV (.string b)]) (vV (.string (a ++ b))) fun _ w _ _ => by
  have h1 := run_string_add_sum (P := P) w a b (by omega)
  show (semV (do eqGuard .add t (.tmp 0) (.tmp 0) (.string a) (.string b); binOp .add t (.string a) (.string b))).run P w = _
  simp [semV, eqGuard, binOp, run_underlying hu, h1]
  rfl
end
end Go.Proofs.YtbdgncndhnnjoaaGreatDoor

namespace Go.Proofs.YtbdgncndhnnjoaaGreatDoor
open Go.RowKit
variable {C : World → Prop}
set_option maxRecDepth 100000
set_option linter.unusedVariables false
set_option linter.unusedSimpArgs false
set_option maxHeartbeats 0
open YtbdgncndhnnjoaaGreatDoor in
structure LaidP (w : World) : Prop where
 ip : Ip.Laid w
 pn : w.rangeAt 0 0 [.int .u8 1, .string ⟨#[105, 99, 109, 112]⟩, .int .u8 6, .string ⟨#[116, 99, 112]⟩, .int .u8 17, .string ⟨#[117, 100, 112]⟩]
 sn : w.rangeAt 1 0 [.int .u8 2, .string ⟨#[117, 115, 101, 114]⟩, .int .u8 3, .string ⟨#[103, 114, 111, 117, 112]⟩, .int .u8 4, .string ⟨#[116, 97, 103]⟩, .int .u8 5, .string ⟨#[104, 111, 115, 116]⟩, .int .u8 6, .string ⟨#[110, 101, 116]⟩]
theorem rangeAt_of {w w' : World} {k o : Nat} {cs : List Value} (h : w.rangeAt k o cs) (e : w'.heap[k]? = w.heap[k]?) : w'.rangeAt k o cs := fun j x hx => by
 rw [YtbdgncndhnnjoaaGreatDoor.Ip.cell_of e]
 exact h j x hx
def S0 : Seat Tryz.prog := ⟨10, LaidP, fun w h => h.ip.lt, fun w w' h e hs => ⟨h.ip.of e hs, rangeAt_of h.pn (e 0 (by decide)), rangeAt_of h.sn (e 1 (by decide))⟩, by kernel_rfl⟩
def dGl0 : Dr S0 C := dRd (oOp 2 145 0 [] [vV (.pointer (some ⟨0, 0, none⟩))]) (vG ([.int .u8 1, .string ⟨#[105, 99, 109, 112]⟩, .int .u8 6, .string ⟨#[116, 99, 112]⟩, .int .u8 17, .string ⟨#[117, 100, 112]⟩].map vV)) fun E w hL _ => by
 rw [vG_map]
 exact load_row (by kernel_rfl) (by kernel_rfl) (by kernel_rfl) hL.pn
def dGl1 : Dr S0 C := dRd (oOp 2 154 0 [] [vV (.pointer (some ⟨1, 0, none⟩))]) (vG ([.int .u8 2, .string ⟨#[117, 115, 101, 114]⟩, .int .u8 3, .string ⟨#[103, 114, 111, 117, 112]⟩, .int .u8 4, .string ⟨#[116, 97, 103]⟩, .int .u8 5, .string ⟨#[104, 111, 115, 116]⟩, .int .u8 6, .string ⟨#[110, 101, 116]⟩].map vV)) fun E w hL _ => by
 rw [vG_map]
 exact load_row (by kernel_rfl) (by kernel_rfl) (by kernel_rfl) hL.sn
def smF (b : Int) : Bool := decide (97 ≤ b) && decide (b ≤ 122)
def nmF (b : Int) : Bool := smF b || ((decide (48 ≤ b) && decide (b ≤ 57)) || (decide (b = 46) || (decide (b = 95) || decide (b = 45))))
variable {C : World → Prop}
set_option maxRecDepth 100000
theorem c_small (b : Int) : Ct S0 C 29 [vV (.int .u8 b)] [] [] [] [] (vV (.bool (smF b))) := by
 refine xIn Tryz.f29 fun E0 w0 hL hC hk => ?_
 by_cases h : 97 ≤ b
 ·refine xR 14 [(2, dT h), (7, dB (b := decide (b ≤ 122)) (c := smF b) (by unfold smF; rw [decide_eq_true h]; rfl))] ?_
  exact xRetC []
 ·refine xR 14 [(2, dF h), (7, dB (b := false) (c := smF b) (by unfold smF; rw [decide_eq_false h]; rfl))] ?_
  exact xRetC []
theorem c_ofName (b : Int) : Ct S0 C 30 [vV (.int .u8 b)] [] [] [] [] (vV (.bool (nmF b))) := by
 refine xIn Tryz.f30 fun E0 w0 hL hC hk => ?_
 cases h1 : smF b
 ·by_cases h2 : 48 ≤ b
  ·by_cases h3 : b ≤ 57
   ·refine xR 30 [(2, dC ((c_small b).rb h1) []), (5, dT h2), (8, dT h3)] ?_
    exact xB (b' := true) (by simp [nmF, h1, h2, h3]) (xRetC [])
   ·by_cases h4 : b = 95
    ·refine xR 30 [(2, dC ((c_small b).rb h1) []), (5, dT h2), (8, dF h3), (13, dB (iEq b 46)), (14, dF (p := b = 46) (by omega)), (17, dB (((iEq b 95)).trans (DT h4)))] ?_
     exact xB (b' := true) (by simp [nmF, h1, h2, h3, h4]) (xRetC [])
    ·refine xR 30 [(2, dC ((c_small b).rb h1) []), (5, dT h2), (8, dF h3), (13, dB (iEq b 46)), (14, dF (p := b = 46) (by omega)), (17, dB (((iEq b 95)).trans (DF h4))), (21, dB (iEq b 45)), (22, dF (p := b = 45) (by omega))] ?_
     exact xB (b' := false) (by simp [nmF, h1, h2, h3, h4] <;> omega) (xRetC [])
  ·by_cases h3 : b = 46
   ·refine xR 30 [(2, dC ((c_small b).rb h1) []), (5, dF h2), (13, dB (((iEq b 46)).trans (DT h3)))] ?_
    exact xB (b' := true) (by simp [nmF, h1, h2, h3]) (xRetC [])
   ·refine xR 30 [(2, dC ((c_small b).rb h1) []), (5, dF h2), (13, dB (((iEq b 46)).trans (DF h3))), (17, dB (iEq b 95)), (18, dF (p := b = 95) (by omega)), (21, dB (iEq b 45))] ?_
    exact xB (b' := (decide (b = 45))) (by simp [nmF, h1, h2, h3] <;> omega) (xRetC [])
 ·refine xR 30 [(2, dC ((c_small b).rb h1) [])] ?_
  exact xB (b' := true) (by simp [nmF, h1]) (xRetC [])
def labF (s : ByteArray) : Bool := decide (s.size ≠ 0) && (decide (s.size ≤ 32) && (smF (bt s 0) && (List.range s.size).all fun i => nmF (bt s i)))
theorem c_label (s : ByteArray) : Ct S0 C 16 [vV (.string s)] [] [] [] [] (vV (.bool (labF s))) := by
 refine xIn Tryz.f16 fun E0 w0 hL hC hk => ?_
 by_cases h1 : s.size = 0
 ·refine xR 26 [(2, dB ((sE0 s).trans (DT h1)))] ?_
  exact xB (b' := false) (by simp [labF, h1]) (xRetC [])
 ·by_cases h2 : (s.size : Int) > 32
  ·refine xR 26 [(2, dB ((sE0 s).trans (DF h1))), (6, dT h2)] ?_
   exact xB (b' := false) (by simp [labF, h1]; omega) (xRetC [])
  ·cases h3 : smF (bt s 0)
   ·refine xR 26 [(2, dB ((sE0 s).trans (DF h1))), (6, dF h2), (10, dIs 9 s 0 (by omega)), (11, dC ((c_small (bt s 0)).rb h3) [])] ?_
    exact xB (b' := false) (by simp [labF, h3]) (xRetC [])
   ·refine xR 31 [(2, dB ((sE0 s).trans (DF h1))), (6, dF h2), (10, dIs 9 s 0 (by omega)), (11, dC ((c_small (bt s 0)).rb h3) [])] ?_
    refine xLp (fun (x : Nat) => [(19, vV (.int .i64 (x : Int)))]) (fun x => []) [20, 21, 3, 22, 23, 24, 25, 26, 2, 27] (fun x => x ≤ s.size ∧ ∀ i, i < x → nmF (bt s i) = true) (fun x => s.size - x) 0 ⟨by omega, by omega⟩ fun x d hx g => ?_
    by_cases h4 : (x : Int) < (s.size : Int)
    ·cases h5 : nmF (bt s x)
     ·refine xR 27 [(0, dT h4), (5, dIs 9 s x (by omega)), (6, dC ((c_ofName (bt s x)).rb h5) [])] ?_
      exact xB (b' := false) (by simp only [labF, Bool.false_eq, Bool.and_eq_false_iff]; exact .inr (.inr (.inr (List.all_eq_false.2 ⟨x, List.mem_range.2 (by omega), by rw [h5]; exact Bool.false_ne_true⟩)))) (xRetC [])
     ·refine xR 29 [(0, dT h4), (5, dIs 9 s x (by omega)), (6, dC ((c_ofName (bt s x)).rb h5) []), (8, dW (↑x + 1) (↑(x + 1)) (by omega) (by omega) (by omega))] ?_
      exact xNx g (x + 1) [20, 21, 3, 22, 23, 24, 25, 26, 2, 27] [] ⟨by omega, fun i hi => by rcases Nat.lt_succ_iff_lt_or_eq.1 hi with h | h; exact hx.2 i h; rw [h, h5]⟩ (by omega)
    ·refine xR 11 [(0, dF h4)] ?_
     exact xB (b' := true) (by
      have : x = s.size := by omega
      subst this
      simp only [labF, h3, Bool.true_and, Bool.true_eq, Bool.and_eq_true, decide_eq_true_eq, List.all_eq_true, List.mem_range]
      exact ⟨h1, by omega, hx.2⟩) (xRetC [])
end Go.Proofs.YtbdgncndhnnjoaaGreatDoor

namespace Go.Proofs.YtbdgncndhnnjoaaGreatDoor
open Go.RowKit YtbdgncndhnnjoaaGreatDoor
set_option linter.unusedVariables false
set_option linter.unusedSimpArgs false
set_option maxRecDepth 100000
variable {C : World → Prop}
theorem run_eqS {P : Program} {t : TypeId} {a b : Array Value} {r : Bool} {w : World} (hg : P.eqGuardType P.depth t = false) (h : (Op.equalIn 10000 t (.agg a) (.agg b)).run P w = .ok r w) : (semV (do eqGuard .eql t (.tmp 0) (.tmp 0) (.agg a) (.agg b); binOp .eql t (.agg a) (.agg b))).run P w = .ok (.value (.bool r)) w := by
 have h1 : (binOp .eql t (.agg a) (.agg b)).run P w = .ok (.bool r) w := by
  rw [run_eql_struct, h]
  rfl
 simp [semV, eqGuard, hg, h1]
theorem run_neS {P : Program} {t : TypeId} {a b : Array Value} {r : Bool} {w : World} (hg : P.eqGuardType P.depth t = false) (h : (Op.equalIn 10000 t (.agg a) (.agg b)).run P w = .ok r w) : (semV (do eqGuard .neq t (.tmp 0) (.tmp 0) (.agg a) (.agg b); binOp .neq t (.agg a) (.agg b))).run P w = .ok (.value (.bool !r)) w := by
 have h1 : (binOp .neq t (.agg a) (.agg b)).run P w = .ok (.bool !r) w := by
  rw [run_neq_struct, h]
  rfl
 simp [semV, eqGuard, hg, h1]
theorem eqI59 (d : Nat) (k k' : Int) (s s' : ByteArray) (v v' : Bool) (h h' l l' b b' : Int) (w : World) : (Op.equalIn (d + 4) 59 (.agg #[.int .u8 k, .string s, .bool v, .int .u64 h, .int .u64 l, .int .u8 b]) (.agg #[.int .u8 k', .string s', .bool v', .int .u64 h', .int .u64 l', .int .u8 b'])).run Tryz.prog w = .ok (decide (k = k' ∧ s = s' ∧ v = v' ∧ h = h' ∧ l = l' ∧ b = b')) w := by
 rw [run_equalIn_struct w (d + 3) 59 _ _ (by kernel_rfl) (by kernel_rfl)]
 rw [Ip.eqF_all (d + 3) _ _ w _ [(5, 0, .int .u8 k, .int .u8 k', k == k'), (9, 1, .string s, .string s', s.toList == s'.toList), (51, 2, .agg #[.bool v, .int .u64 h, .int .u64 l, .int .u8 b], .agg #[.bool v', .int .u64 h', .int .u64 l', .int .u8 b'], decide (v = v' ∧ h = h' ∧ l = l' ∧ b = b'))] (by kernel_rfl) (by
  intro e he
  simp only [List.mem_cons, List.mem_nil_iff, or_false] at he
  rcases he with rfl | rfl | rfl
  ·exact ⟨by kernel_rfl, by kernel_rfl, run_equalIn_int w (d + 2) 5 .u8 .u8 k k' Tryz.underlying5⟩
  ·exact ⟨by kernel_rfl, by kernel_rfl, run_equalIn_string w (d + 2) 9 s s' Tryz.underlying9⟩
  ·exact ⟨by kernel_rfl, by kernel_rfl, Ip.eqI39 d v v' h h' l l' b b' w⟩)]
 simp [Bool.decide_and, Ip.dec_int, Ip.dec_str, Bool.and_assoc]
def dEq59 (k : Int) (s : ByteArray) (v : Bool) (h l b k' : Int) (s' : ByteArray) (v' : Bool) (h' l' b' : Int) (r : Bool) (hr : decide (k = k' ∧ s = s' ∧ v = v' ∧ h = h' ∧ l = l' ∧ b = b') = r) : Dr S0 C := dRd (oOp 13 59 0 [] [vG [vV (.int .u8 k), vV (.string s), vV (.bool v), vV (.int .u64 h), vV (.int .u64 l), vV (.int .u8 b)], vG [vV (.int .u8 k'), vV (.string s'), vV (.bool v'), vV (.int .u64 h'), vV (.int .u64 l'), vV (.int .u8 b')]]) (vV (.bool r)) fun E w _ _ => by
 subst hr
 exact run_eqS (by kernel_rfl) (eqI59 9996 k k' s s' v v' h h' l l' b b' w)
end Go.Proofs.YtbdgncndhnnjoaaGreatDoor

namespace Go.Proofs.YtbdgncndhnnjoaaGreatDoor
open Go.RowKit
set_option linter.unusedVariables false
set_option linter.unusedSimpArgs false
set_option maxHeartbeats 0
set_option maxRecDepth 100000
variable {C : World → Prop}
structure Net where
 v6 : Bool
 hi : Int
 lo : Int
 bits : Int
structure Sel where
 kind : Int
 name : ByteArray
 net : Net
def Net.cs (x : Net) : List Value := [.bool x.v6, .int .u64 x.hi, .int .u64 x.lo, .int .u8 x.bits]
def Sel.cs (x : Sel) : List Value := .int .u8 x.kind :: .string x.name :: x.net.cs
abbrev selS (x : Sel) : List SV := [vV (.int .u8 x.kind), vV (.string x.name), vV (.bool x.net.v6), vV (.int .u64 x.net.hi), vV (.int .u64 x.net.lo), vV (.int .u8 x.net.bits)]
def fstI (p : Nat → Bool) (n : Nat) : Int := match (List.range n).find? p with
 | some i => (i : Int)
 | none => -1
theorem fstI_hit {p : Nat → Bool} {n x : Nat} (hx : x < n) (h : ∀ i, i < x → p i = false) (hp : p x = true) : fstI p n = (x : Int) := by
 unfold fstI
 cases e : (List.range n).find? p with
 | none => rw [List.find?_eq_none] at e; exact absurd hp (e x (List.mem_range.2 hx))
 | some y =>
  have h1 := List.find?_some e
  have h2 := List.mem_range.1 (List.mem_of_find?_eq_some e)
  rw [List.find?_eq_some_iff_append] at e
  obtain ⟨-, l1, l2, h3, h4⟩ := e
  by_cases hxy : x < y
  ·have : x ∈ l1 := by
    have hm : x ∈ List.range n := List.mem_range.2 hx
    have hl : l1 = List.range y := by
     have h5 : l1.length = y := by
      have h6 : (List.range n)[l1.length]? = some y := by rw [h3]; simp
      rw [List.getElem?_range (by have := congrArg List.length h3; simp at this; omega)] at h6
      simpa using h6
     have h7 : (List.range n).take l1.length = l1 := by rw [h3]; simp
     rw [← h7, h5, List.take_range]
     congr 1
     omega
    rw [hl]
    exact List.mem_range.2 hxy
   have h8 := h4 x this
   rw [hp] at h8
   cases h8
  ·by_cases hyx : y < x
   ·rw [h y hyx] at h1
    cases h1
   ·have : x = y := by omega
    rw [this]
theorem fstI_none {p : Nat → Bool} {n x : Nat} (hx : ¬ x < n) (h : ∀ i, i < x → p i = false) : fstI p n = -1 := by
 unfold fstI
 have : (List.range n).find? p = none := List.find?_eq_none.2 fun i hi => by rw [h i (by have := List.mem_range.1 hi; omega)]; exact Bool.false_ne_true
 rw [this]
theorem fstI_any {p : Nat → Bool} {n : Nat} : decide (fstI p n ≥ 0) = (List.range n).any p := by
 unfold fstI
 cases e : (List.range n).find? p with
 | none =>
  have : (List.range n).any p = false := List.any_eq_false.2 fun x hx => (List.find?_eq_none.1 e x hx)
  rw [this]
  rfl
 | some y =>
  have : (List.range n).any p = true := List.any_eq_true.2 ⟨y, List.mem_of_find?_eq_some e, List.find?_some e⟩
  rw [this]
  simp
def nF (nm : Nat → ByteArray) (sv : Nat → Value) (i : Nat) : Nat → Value
 | 0 => .string (nm i)
 | _ => sv i
end Go.Proofs.YtbdgncndhnnjoaaGreatDoor

namespace Go.Proofs.YtbdgncndhnnjoaaGreatDoor
open Go.RowKit
set_option linter.unusedVariables false
set_option linter.unusedSimpArgs false
set_option maxHeartbeats 0
set_option maxRecDepth 100000
variable {C : World → Prop}
theorem c_t1 (s : Sel) (a : ByteArray) (sv : Value) : Ct S0 C 104 [vG [vV (.string a), vV sv], vP 0 0] [tC (selS s) 59] [] [] [] (vV (.bool (decide (a = s.name)))) := by
 refine xIn Tryz.f104 fun E0 w0 hL hC hk => ?_
 refine xR 14 [(6, dB (sEq a s.name))] ?_
 exact (xRetC [])
theorem c_ixN (T : List Blk) (n : Nat) (nm : Nat → ByteArray) (sv : Nat → Value) (v : Value) (h : Sl T 2 n (nF nm sv) v) (s : Sel) (hn : n < 1000000) : Ct S0 C 140 [vV v, vF (.func 104) [] [vP 1 0]] [tX T, tC (selS s) 59] [] [] [] (vV (.int .i64 (fstI (fun i => decide (nm i = s.name)) n))) := by
 obtain ⟨base, cap, b0, o, rfl, H⟩ := h
 refine xIn Tryz.f140 fun E0 w0 hL hC hk => ?_
 refine xR 12 [(2, dLenV 22 3 base n cap)] ?_
 refine xLp (fun (x : Nat) => [(8, vV (.int .i64 (x : Int)))]) (fun x => []) [9, 10, 5, 11, 12, 13, 14, 15, 16, 17, 4, 18] (fun x => x ≤ n ∧ ∀ i, i < x → decide (nm i = s.name) = false) (fun x => n - x) 0 (by simp) fun x d hx g => ?_
 by_cases h1 : (↑x : Int) < (↑n : Int)
 ·by_cases h2 : nm x = s.name
  ·refine xR 29 [(0, dT h1), (6, dIxR 22 H cap x (by omega)), (7, dLdR 46 0 H x (by omega)), (8, dC ((c_t1 s (nm x) (sv x)).rb (DT h2)) [1])] ?_
   exact xI (b' := ((↑x : Int))) (by exact (fstI_hit (by omega) hx.2 (by simp [*])).symm) (xRetC [])
  ·refine xR 30 [(0, dT h1), (6, dIxR 22 H cap x (by omega)), (7, dLdR 46 0 H x (by omega)), (8, dC ((c_t1 s (nm x) (sv x)).rb (DF h2)) [1]), (9, dW ((↑x : Int) + 1) ((↑(x + 1) : Int)) (by omega) (by omega) (by omega))] ?_
   exact xNx g (x + 1) [9, 10, 5, 11, 12, 13, 14, 15, 16, 17, 4, 18] [0, 1] ⟨by omega, fun i hi => by rcases Nat.lt_succ_iff_lt_or_eq.1 hi with h | h; exact hx.2 i h; rw [h]; exact DF h2⟩ (by omega)
 ·refine xR 11 [(0, dF h1)] ?_
  exact xI (b' := (Int.negSucc 0)) (by exact (fstI_none (by omega) hx.2).symm) (xRetC [])
theorem c_anyN (T : List Blk) (n : Nat) (nm : Nat → ByteArray) (sv : Nat → Value) (v : Value) (h : Sl T 2 n (nF nm sv) v) (s : Sel) (hn : n < 1000000) : Ct S0 C 105 [vV v, vF (.func 104) [] [vP 1 0]] [tX T, tC (selS s) 59] [] [] [] (vV (.bool ((List.range n).any fun i => decide (nm i = s.name)))) := by
 refine xIn Tryz.f105 fun E0 w0 hL hC hk => ?_
 refine xR 12 [(3, dC (c_ixN T _ _ _ v h s hn) [0, 1])] ?_
 exact xB (b' := (decide (fstI (fun i => decide (nm i = s.name)) n ≥ 0))) (by exact fstI_any) (xRetC [])
end Go.Proofs.YtbdgncndhnnjoaaGreatDoor

namespace Go.Proofs.YtbdgncndhnnjoaaGreatDoor
open Go.RowKit
set_option linter.unusedVariables false
set_option linter.unusedSimpArgs false
set_option maxHeartbeats 0
set_option maxRecDepth 100000
variable {C : World → Prop}
structure Hst where
 name : ByteArray
 net : Net
def hF (nm : Nat → ByteArray) (nt : Nat → Net) (i : Nat) : Nat → Value
 | 0 => .string (nm i)
 | 1 => .bool (nt i).v6
 | 2 => .int .u64 (nt i).hi
 | 3 => .int .u64 (nt i).lo
 | _ => .int .u8 (nt i).bits
theorem c_t2 (s : Sel) (a : ByteArray) (nt : Net) : Ct S0 C 107 [vG [vV (.string a), vV (.bool nt.v6), vV (.int .u64 nt.hi), vV (.int .u64 nt.lo), vV (.int .u8 nt.bits)], vP 0 0] [tC (selS s) 59] [] [] [] (vV (.bool (decide (a = s.name)))) := by
 refine xIn Tryz.f107 fun E0 w0 hL hC hk => ?_
 refine xR 14 [(6, dB (sEq a s.name))] ?_
 exact (xRetC [])
theorem c_ixH (T : List Blk) (n : Nat) (nm : Nat → ByteArray) (nt : Nat → Net) (v : Value) (h : Sl T 5 n (hF nm nt) v) (s : Sel) (hn : n < 1000000) : Ct S0 C 141 [vV v, vF (.func 107) [] [vP 1 0]] [tX T, tC (selS s) 59] [] [] [] (vV (.int .i64 (fstI (fun i => decide (nm i = s.name)) n))) := by
 obtain ⟨base, cap, b0, o, rfl, H⟩ := h
 refine xIn Tryz.f141 fun E0 w0 hL hC hk => ?_
 refine xR 12 [(2, dLenV 23 3 base n cap)] ?_
 refine xLp (fun (x : Nat) => [(8, vV (.int .i64 (x : Int)))]) (fun x => []) [9, 10, 5, 11, 12, 13, 14, 15, 16, 17, 4, 18] (fun x => x ≤ n ∧ ∀ i, i < x → decide (nm i = s.name) = false) (fun x => n - x) 0 (by simp) fun x d hx g => ?_
 by_cases h1 : (↑x : Int) < (↑n : Int)
 ·by_cases h2 : nm x = s.name
  ·refine xR 29 [(0, dT h1), (6, dIxR 23 H cap x (by omega)), (7, dLdR 53 0 H x (by omega)), (8, dC ((c_t2 s (nm x) (nt x)).rb (DT h2)) [1])] ?_
   exact xI (b' := ((↑x : Int))) (by exact (fstI_hit (by omega) hx.2 (by simp [*])).symm) (xRetC [])
  ·refine xR 30 [(0, dT h1), (6, dIxR 23 H cap x (by omega)), (7, dLdR 53 0 H x (by omega)), (8, dC ((c_t2 s (nm x) (nt x)).rb (DF h2)) [1]), (9, dW ((↑x : Int) + 1) ((↑(x + 1) : Int)) (by omega) (by omega) (by omega))] ?_
   exact xNx g (x + 1) [9, 10, 5, 11, 12, 13, 14, 15, 16, 17, 4, 18] [0, 1] (by exact ⟨by omega, fun i hi => by rcases Nat.lt_succ_iff_lt_or_eq.1 hi with h | h; exact hx.2 i h; rw [h]; exact DF h2⟩) (by omega)
 ·refine xR 11 [(0, dF h1)] ?_
  exact xI (b' := (Int.negSucc 0)) (by exact (fstI_none (by omega) hx.2).symm) (xRetC [])
theorem c_anyH (T : List Blk) (n : Nat) (nm : Nat → ByteArray) (nt : Nat → Net) (v : Value) (h : Sl T 5 n (hF nm nt) v) (s : Sel) (hn : n < 1000000) : Ct S0 C 106 [vV v, vF (.func 107) [] [vP 1 0]] [tX T, tC (selS s) 59] [] [] [] (vV (.bool ((List.range n).any fun i => decide (nm i = s.name)))) := by
 refine xIn Tryz.f106 fun E0 w0 hL hC hk => ?_
 refine xR 12 [(3, dC (c_ixH T _ _ _ v h s hn) [0, 1])] ?_
 exact xB (b' := (decide (fstI (fun i => decide (nm i = s.name)) n ≥ 0))) (by exact fstI_any) (xRetC [])
structure Tl (T : List Blk) (v0 v1 v2 : Value) where
 ng : Nat
 nt : Nat
 nh : Nat
 g : Nat → ByteArray
 t : Nat → ByteArray
 h : Nat → ByteArray
 gs : Nat → Value
 ts : Nat → Value
 hs : Nat → Net
 Hg : Sl T 2 ng (nF g gs) v0
 Ht : Sl T 2 nt (nF t ts) v1
 Hh : Sl T 5 nh (hF h hs) v2
 bg : ng < 1000000
 bt : nt < 1000000
 bh : nh < 1000000
def tlF {T : List Blk} {v0 v1 v2 : Value} (p : Tl T v0 v1 v2) (s : Sel) : Bool := if s.kind = 3 then (List.range p.ng).any fun i => decide (p.g i = s.name) else if s.kind = 4 then (List.range p.nt).any fun i => decide (p.t i = s.name) else if s.kind = 5 then (List.range p.nh).any fun i => decide (p.h i = s.name) else true
theorem c_tells (T : List Blk) (v0 v1 v2 v3 : Value) (p : Tl T v0 v1 v2) (s : Sel) : Ct S0 C 68 [vG [vV v0, vV v1, vV v2, vV v3], vG (selS s)] [tX T] [] [] [] (vV (.bool (tlF p s))) := by
 have Hg := p.Hg
 have Ht := p.Ht
 have Hh := p.Hh
 have bg := p.bg
 have bt := p.bt
 have bh := p.bh
 refine xIn Tryz.f68 fun E0 w0 hL hC hk => ?_
 by_cases h1 : s.kind = 3
 ·refine xR 32 [(7, dB (((iEq s.kind 3)).trans (DT h1))), (12, dC (c_anyN T _ _ _ v0 Hg s bg) [0, 2])] ?_
  exact xB (b' := ((List.range p.ng).any fun i => decide (p.g i = s.name))) (by simp [tlF, h1]) (xRetC [])
 ·by_cases h2 : s.kind = 4
  ·refine xR 38 [(7, dB (((iEq s.kind 3)).trans (DF h1))), (9, dB (((iEq s.kind 4)).trans (DT h2))), (14, dC (c_anyN T _ _ _ v1 Ht s bt) [0, 2])] ?_
   exact xB (b' := ((List.range p.nt).any fun i => decide (p.t i = s.name))) (by simp [tlF, h1, h2]) (xRetC [])
  ·by_cases h3 : s.kind = 5
   ·refine xR 44 [(7, dB (((iEq s.kind 3)).trans (DF h1))), (9, dB (((iEq s.kind 4)).trans (DF h2))), (11, dB (((iEq s.kind 5)).trans (DT h3))), (16, dC (c_anyH T _ _ _ v2 Hh s bh) [0, 2])] ?_
    exact xB (b' := ((List.range p.nh).any fun i => decide (p.h i = s.name))) (by simp [tlF, h1, h2, h3]) (xRetC [])
   ·refine xR 42 [(7, dB (((iEq s.kind 3)).trans (DF h1))), (9, dB (((iEq s.kind 4)).trans (DF h2))), (11, dB (((iEq s.kind 5)).trans (DF h3)))] ?_
    exact xB (b' := true) (by simp [tlF, h1, h2, h3]) (xRetC [])
end Go.Proofs.YtbdgncndhnnjoaaGreatDoor

namespace Go.Proofs.YtbdgncndhnnjoaaGreatDoor
open Go.RowKit YtbdgncndhnnjoaaGreatDoor
set_option linter.unusedVariables false
set_option linter.unusedSimpArgs false
set_option maxHeartbeats 0
set_option maxRecDepth 100000
variable {C : World → Prop}
def itoaF (n : Int) : ByteArray := ⟨(Lib.itoa n).toArray⟩
theorem c_itoa (n : Int) (h0 : 0 ≤ n) (h1 : n < 1000000) : Ct S0 C 82 [vV (.int .i64 n)] [] [] [] [] (vV (.string (itoaF n))) :=
 ct_flatX (args := [.int .i64 n]) (fun w hL _ => (Any.strconv_Itoa Ip.laysM171 n (by omega) (by omega) w hL.ip.pw).mono fun e w' ⟨he, k, os, hw⟩ => ⟨he, hw ▸ Ip.below_grw w k os⟩) (fun _ => rfl) (fun _ => rfl)
theorem c_cut (s sep : ByteArray) (hs : s.size < 4294967281) : Ct S0 C 163 [vV (.string s), vV (.string sep)] [] [] [] [] (vT [vV (.string (Ip.cuA s sep)), vV (.string (Ip.cuB s sep)), vV (.bool (Ip.cuC s sep))]) :=
 ct_flatX (args := [.string s, .string sep]) (fun w hL _ => Ip.c_Cut s sep hs w hL.ip) (fun _ => rfl) (fun _ => rfl)
theorem c_mayPrefix (x : Net) (hb0 : 0 ≤ x.bits) (hb1 : x.bits ≤ 255) : Ct S0 C 78 [vG [vV (.bool x.v6), vV (.int .u64 x.hi), vV (.int .u64 x.lo), vV (.int .u8 x.bits)]] [] [] [] [] (vV (.bool (Ip.mP x.v6 x.hi x.lo x.bits))) :=
 ct_flatX (args := [.agg #[.bool x.v6, .int .u64 x.hi, .int .u64 x.lo, .int .u8 x.bits]]) (fun w hL _ => Ip.c_MayPrefix x.v6 x.hi x.lo x.bits hb0 hb1 w hL.ip) (fun _ => rfl) (fun _ => rfl)
def trimF (s : ByteArray) : ByteArray := ⟨(Lib.trimLeftS s.data.toList [32, 9]).toArray⟩
theorem c_trim (s : ByteArray) : Ct S0 C 137 [vV (.string s), vV (.string ⟨#[32, 9]⟩)] [] [] [] [] (vV (.string (trimF s))) :=
 ct_flatX (args := [.string s, .string ⟨#[32, 9]⟩]) (fun w hL _ => Any.strings_TrimLeft_laid Ip.lays161 (by kernel_rfl) s ⟨#[32, 9]⟩ w (by decide) (ascii_of_all (by decide))) (fun _ => rfl) (fun _ => rfl)
end Go.Proofs.YtbdgncndhnnjoaaGreatDoor

namespace Go.Proofs.YtbdgncndhnnjoaaGreatDoor
open Go.RowKit YtbdgncndhnnjoaaGreatDoor
set_option linter.unusedVariables false
set_option linter.unusedSimpArgs false
set_option maxHeartbeats 0
set_option maxRecDepth 100000
variable {C : World → Prop}
def protoF (w : ByteArray) : Int := if ⟨#[105, 99, 109, 112]⟩ = w then 1 else if ⟨#[116, 99, 112]⟩ = w then 6 else if ⟨#[117, 100, 112]⟩ = w then 17 else 0
def kindF (w : ByteArray) : Int := if ⟨#[117, 115, 101, 114]⟩ = w then 2 else if ⟨#[103, 114, 111, 117, 112]⟩ = w then 3 else if ⟨#[116, 97, 103]⟩ = w then 4 else if ⟨#[104, 111, 115, 116]⟩ = w then 5 else if ⟨#[110, 101, 116]⟩ = w then 6 else 0
theorem c_protoOf (w : ByteArray) : Ct S0 C 166 [vV (.string w)] [] [] [] [] (vV (.int .u8 (protoF w))) := by
 refine xIn Tryz.f166 fun E0 w0 hL hC hk => ?_
 refine xR 11 [(1, dGl0)] ?_
 refine xUn 4 ?_
 by_cases h1 : { data := #[105, 99, 109, 112] } = w
 ·refine xR 29 [(7, dB (((sEq ({ data := #[105, 99, 109, 112] }) w)).trans (DT h1)))] ?_
  exact xI (b' := (Int.ofNat 1)) (by simp [protoF, h1]) (xRetC [])
 ·refine xR 29 [(7, dB (((sEq ({ data := #[105, 99, 109, 112] }) w)).trans (DF h1)))] ?_
  refine xUm 3 ?_
  by_cases h2 : { data := #[116, 99, 112] } = w
  ·refine xR 29 [(7, dB (((sEq ({ data := #[116, 99, 112] }) w)).trans (DT h2)))] ?_
   exact xI (b' := (Int.ofNat 6)) (by simp [protoF, h1, h2]) (xRetC [])
  ·refine xR 29 [(7, dB (((sEq ({ data := #[116, 99, 112] }) w)).trans (DF h2)))] ?_
   refine xUm 2 ?_
   by_cases h3 : { data := #[117, 100, 112] } = w
   ·refine xR 29 [(7, dB (((sEq ({ data := #[117, 100, 112] }) w)).trans (DT h3)))] ?_
    exact xI (b' := (Int.ofNat 17)) (by simp [protoF, h1, h2, h3]) (xRetC [])
   ·refine xR 29 [(7, dB (((sEq ({ data := #[117, 100, 112] }) w)).trans (DF h3)))] ?_
    refine xUm 1 ?_
    refine xR 11 [] ?_
    exact xI (b' := (Int.ofNat 0)) (by simp [protoF, h1, h2, h3]) (xRetC [])
theorem c_kindOf (w : ByteArray) : Ct S0 C 194 [vV (.string w)] [] [] [] [] (vV (.int .u8 (kindF w))) := by
 refine xIn Tryz.f194 fun E0 w0 hL hC hk => ?_
 refine xR 11 [(1, dGl1)] ?_
 refine xUn 6 ?_
 by_cases h1 : { data := #[117, 115, 101, 114] } = w
 ·refine xR 29 [(7, dB (((sEq ({ data := #[117, 115, 101, 114] }) w)).trans (DT h1)))] ?_
  exact xI (b' := (Int.ofNat 2)) (by simp [kindF, h1]) (xRetC [])
 ·refine xR 29 [(7, dB (((sEq ({ data := #[117, 115, 101, 114] }) w)).trans (DF h1)))] ?_
  refine xUm 5 ?_
  by_cases h2 : { data := #[103, 114, 111, 117, 112] } = w
  ·refine xR 29 [(7, dB (((sEq ({ data := #[103, 114, 111, 117, 112] }) w)).trans (DT h2)))] ?_
   exact xI (b' := (Int.ofNat 3)) (by simp [kindF, h1, h2]) (xRetC [])
  ·refine xR 29 [(7, dB (((sEq ({ data := #[103, 114, 111, 117, 112] }) w)).trans (DF h2)))] ?_
   refine xUm 4 ?_
   by_cases h3 : { data := #[116, 97, 103] } = w
   ·refine xR 29 [(7, dB (((sEq ({ data := #[116, 97, 103] }) w)).trans (DT h3)))] ?_
    exact xI (b' := (Int.ofNat 4)) (by simp [kindF, h1, h2, h3]) (xRetC [])
   ·refine xR 29 [(7, dB (((sEq ({ data := #[116, 97, 103] }) w)).trans (DF h3)))] ?_
    refine xUm 3 ?_
    by_cases h4 : { data := #[104, 111, 115, 116] } = w
    ·refine xR 29 [(7, dB (((sEq ({ data := #[104, 111, 115, 116] }) w)).trans (DT h4)))] ?_
     exact xI (b' := (Int.ofNat 5)) (by simp [kindF, h1, h2, h3, h4]) (xRetC [])
    ·refine xR 29 [(7, dB (((sEq ({ data := #[104, 111, 115, 116] }) w)).trans (DF h4)))] ?_
     refine xUm 2 ?_
     by_cases h5 : { data := #[110, 101, 116] } = w
     ·refine xR 29 [(7, dB (((sEq ({ data := #[110, 101, 116] }) w)).trans (DT h5)))] ?_
      exact xI (b' := (Int.ofNat 6)) (by simp [kindF, h1, h2, h3, h4, h5]) (xRetC [])
     ·refine xR 29 [(7, dB (((sEq ({ data := #[110, 101, 116] }) w)).trans (DF h5)))] ?_
      refine xUm 1 ?_
      refine xR 11 [] ?_
      exact xI (b' := (Int.ofNat 0)) (by simp [kindF, h1, h2, h3, h4, h5]) (xRetC [])
theorem c_portText (n : Int) (h0 : 0 ≤ n) (h1 : n < 65536) : Ct S0 C 119 [vV (.int .u16 n)] [] [] [] [] (vV (.string (itoaF n))) := by
 refine xIn Tryz.f119 fun E0 w0 hL hC hk => ?_
 refine xR 11 [(2, dW n n (by omega) (by omega) (by omega)), (3, dC (c_itoa n h0 (by omega)) [])] ?_
 exact (xRetC [])
end Go.Proofs.YtbdgncndhnnjoaaGreatDoor

namespace Go.Proofs.YtbdgncndhnnjoaaGreatDoor
open Go.RowKit YtbdgncndhnnjoaaGreatDoor
set_option linter.unusedVariables false
set_option linter.unusedSimpArgs false
set_option maxHeartbeats 0
set_option maxRecDepth 100000
variable {C : World → Prop}
def oneF (f : Nat → Int) (i : Nat) (_ : Nat) : Value := .int .u8 (f i)
def lastF (f : Nat → Int) : Nat → Int
 | 0 => 0
 | n + 1 => f n
def risF (f : Nat → Int) (n : Nat) : Bool := (List.range n).all fun i => decide (lastF f i < f i)
theorem risF_no {f : Nat → Int} {n x : Nat} (hx : x < n) (h : f x ≤ lastF f x) : risF f n = false := List.all_eq_false.2 ⟨x, List.mem_range.2 hx, by simpa using h⟩
theorem risF_yes {f : Nat → Int} {n x : Nat} (hx : ¬ x < n) (h : ∀ i, i < x → lastF f i < f i) : risF f n = true := List.all_eq_true.2 fun i hi => by
 have := List.mem_range.1 hi
 simpa using h i (by omega)
theorem c_rising (T : List Blk) (n : Nat) (f : Nat → Int) (v : Value) (h : Sl T 1 n (oneF f) v) (hn : n < 1000000) : Ct S0 C 71 [vV v] [tX T] [] [] [] (vV (.bool (risF f n))) := by
 obtain ⟨base, cap, b0, o, rfl, H⟩ := h
 refine xIn Tryz.f71 fun E0 w0 hL hC hk => ?_
 refine xR 16 [(3, dLenV 41 3 base n cap)] ?_
 refine xLp (fun (x : Nat) => [(8, vV (.int .i64 (x : Int))), (3, vV (.int .u8 (lastF f x)))]) (fun x => []) [9, 10, 11, 5, 12, 13, 14, 2, 15, 16] (fun x => x ≤ n ∧ ∀ i, i < x → lastF f i < f i) (fun x => n - x) 0 (by simp) fun x d hx g => ?_
 by_cases h1 : (↑x : Int) < (↑n : Int)
 ·by_cases h2 : f x ≤ lastF f x
  ·refine xR 27 [(0, dT h1), (1, dIxR 41 H cap x (by omega)), (2, dLdR1 5 0 H x 0 (o + x * 1) (by omega)), (6, dT h2)] ?_
   exact xB (b' := false) (by exact (risF_no (by omega) h2).symm) (xRetC [])
  ·refine xR 33 [(0, dT h1), (1, dIxR 41 H cap x (by omega)), (2, dLdR1 5 0 H x 0 (o + x * 1) (by omega)), (6, dF h2), (9, dW ((↑x : Int) + 1) ((↑(x + 1) : Int)) (by omega) (by omega) (by omega))] ?_
   exact xNx g (x + 1) [9, 10, 11, 5, 12, 13, 14, 2, 15, 16] [0] (by exact ⟨by omega, fun i hi => by rcases Nat.lt_succ_iff_lt_or_eq.1 hi with h | h; exact hx.2 i h; rw [h]; omega⟩) (by omega)
 ·refine xR 11 [(0, dF h1)] ?_
  exact xB (b' := true) (by exact (risF_yes (by omega) hx.2).symm) (xRetC [])
end Go.Proofs.YtbdgncndhnnjoaaGreatDoor

namespace Go.Proofs.YtbdgncndhnnjoaaGreatDoor
open Go.RowKit YtbdgncndhnnjoaaGreatDoor
set_option linter.unusedVariables false
set_option linter.unusedSimpArgs false
set_option maxHeartbeats 0
set_option maxRecDepth 100000
variable {C : World → Prop}
def netZ (x : Net) : Bool := decide (x.v6 = false ∧ x.hi = 0 ∧ x.lo = 0 ∧ x.bits = 0)
def maySelF (s : Sel) : Bool := if s.kind = 1 then decide (s.name = ⟨#[]⟩) && netZ s.net else if s.kind = 2 ∨ s.kind = 3 ∨ s.kind = 4 ∨ s.kind = 5 then netZ s.net && labF s.name else if s.kind = 6 then decide (s.name = ⟨#[]⟩) && Ip.mP s.net.v6 s.net.hi s.net.lo s.net.bits else false
theorem c_maySel (s : Sel) (hb0 : 0 ≤ s.net.bits) (hb1 : s.net.bits ≤ 255) : Ct S0 C 67 [vG (selS s)] [] [] [] [] (vV (.bool (maySelF s))) := by
 refine xIn Tryz.f67 fun E0 w0 hL hC hk => ?_
 by_cases h1 : s.kind = 1
 ·refine xR 27 [(4, dB (((iEq s.kind 1)).trans (DT h1))), (10, dEq59 s.kind s.name s.net.v6 s.net.hi s.net.lo s.net.bits s.kind ({ data := #[] }) false (Int.ofNat 0) (Int.ofNat 0) (Int.ofNat 0) _ rfl)] ?_
  exact xB (b' := (decide (s.kind = s.kind ∧ s.name = { data := #[] } ∧ s.net.v6 = false ∧ s.net.hi = Int.ofNat 0 ∧ s.net.lo = Int.ofNat 0 ∧ s.net.bits = Int.ofNat 0))) (by simp [maySelF, netZ, h1]) (xRetC [])
 ·by_cases h2 : s.kind = 2
  ·by_cases h3 : s.kind = s.kind ∧ s.name = s.name ∧ s.net.v6 = false ∧ s.net.hi = Int.ofNat 0 ∧ s.net.lo = Int.ofNat 0 ∧ s.net.bits = Int.ofNat 0
   ·refine xR 43 [(4, dB (((iEq s.kind 1)).trans (DF h1))), (6, dB (((iEq s.kind 2)).trans (DT h2))), (14, dEq59 s.kind s.name s.net.v6 s.net.hi s.net.lo s.net.bits s.kind s.name false (Int.ofNat 0) (Int.ofNat 0) (Int.ofNat 0) true (DT h3)), (18, dC (c_label s.name) [])] ?_
    exact xB (b' := (labF s.name)) (by simp [maySelF, netZ, h1, h2, h3]) (xRetC [])
   ·refine xR 43 [(4, dB (((iEq s.kind 1)).trans (DF h1))), (6, dB (((iEq s.kind 2)).trans (DT h2))), (14, dEq59 s.kind s.name s.net.v6 s.net.hi s.net.lo s.net.bits s.kind s.name false (Int.ofNat 0) (Int.ofNat 0) (Int.ofNat 0) false (DF h3))] ?_
    exact xB (b' := false) (by simp_all [maySelF, netZ]) (xRetC [])
  ·by_cases h3 : s.kind = 3
   ·by_cases h4 : s.kind = s.kind ∧ s.name = s.name ∧ s.net.v6 = false ∧ s.net.hi = Int.ofNat 0 ∧ s.net.lo = Int.ofNat 0 ∧ s.net.bits = Int.ofNat 0
    ·refine xR 49 [(4, dB (((iEq s.kind 1)).trans (DF h1))), (6, dB (((iEq s.kind 2)).trans (DF h2))), (8, dB (((iEq s.kind 3)).trans (DT h3))), (16, dEq59 s.kind s.name s.net.v6 s.net.hi s.net.lo s.net.bits s.kind s.name false (Int.ofNat 0) (Int.ofNat 0) (Int.ofNat 0) true (DT h4)), (20, dC (c_label s.name) [])] ?_
     exact xB (b' := (labF s.name)) (by simp [maySelF, netZ, h1, h2, h3, h4]) (xRetC [])
    ·refine xR 49 [(4, dB (((iEq s.kind 1)).trans (DF h1))), (6, dB (((iEq s.kind 2)).trans (DF h2))), (8, dB (((iEq s.kind 3)).trans (DT h3))), (16, dEq59 s.kind s.name s.net.v6 s.net.hi s.net.lo s.net.bits s.kind s.name false (Int.ofNat 0) (Int.ofNat 0) (Int.ofNat 0) false (DF h4))] ?_
     exact xB (b' := false) (by simp_all [maySelF, netZ]) (xRetC [])
   ·by_cases h4 : s.kind = 4
    ·by_cases h5 : s.kind = s.kind ∧ s.name = s.name ∧ s.net.v6 = false ∧ s.net.hi = Int.ofNat 0 ∧ s.net.lo = Int.ofNat 0 ∧ s.net.bits = Int.ofNat 0
     ·refine xR 55 [(4, dB (((iEq s.kind 1)).trans (DF h1))), (6, dB (((iEq s.kind 2)).trans (DF h2))), (8, dB (((iEq s.kind 3)).trans (DF h3))), (10, dB (((iEq s.kind 4)).trans (DT h4))), (18, dEq59 s.kind s.name s.net.v6 s.net.hi s.net.lo s.net.bits s.kind s.name false (Int.ofNat 0) (Int.ofNat 0) (Int.ofNat 0) true (DT h5)), (22, dC (c_label s.name) [])] ?_
      exact xB (b' := (labF s.name)) (by simp [maySelF, netZ, h1, h2, h3, h4, h5]) (xRetC [])
     ·refine xR 55 [(4, dB (((iEq s.kind 1)).trans (DF h1))), (6, dB (((iEq s.kind 2)).trans (DF h2))), (8, dB (((iEq s.kind 3)).trans (DF h3))), (10, dB (((iEq s.kind 4)).trans (DT h4))), (18, dEq59 s.kind s.name s.net.v6 s.net.hi s.net.lo s.net.bits s.kind s.name false (Int.ofNat 0) (Int.ofNat 0) (Int.ofNat 0) false (DF h5))] ?_
      exact xB (b' := false) (by simp_all [maySelF, netZ]) (xRetC [])
    ·by_cases h5 : s.kind = 5
     ·by_cases h6 : s.kind = s.kind ∧ s.name = s.name ∧ s.net.v6 = false ∧ s.net.hi = Int.ofNat 0 ∧ s.net.lo = Int.ofNat 0 ∧ s.net.bits = Int.ofNat 0
      ·refine xR 58 [(4, dB (((iEq s.kind 1)).trans (DF h1))), (6, dB (((iEq s.kind 2)).trans (DF h2))), (8, dB (((iEq s.kind 3)).trans (DF h3))), (10, dB (((iEq s.kind 4)).trans (DF h4))), (12, dB (((iEq s.kind 5)).trans (DT h5))), (20, dEq59 s.kind s.name s.net.v6 s.net.hi s.net.lo s.net.bits s.kind s.name false (Int.ofNat 0) (Int.ofNat 0) (Int.ofNat 0) true (DT h6)), (24, dC (c_label s.name) [])] ?_
       exact xB (b' := (labF s.name)) (by simp [maySelF, netZ, h1, h2, h3, h4, h5, h6]) (xRetC [])
      ·refine xR 58 [(4, dB (((iEq s.kind 1)).trans (DF h1))), (6, dB (((iEq s.kind 2)).trans (DF h2))), (8, dB (((iEq s.kind 3)).trans (DF h3))), (10, dB (((iEq s.kind 4)).trans (DF h4))), (12, dB (((iEq s.kind 5)).trans (DT h5))), (20, dEq59 s.kind s.name s.net.v6 s.net.hi s.net.lo s.net.bits s.kind s.name false (Int.ofNat 0) (Int.ofNat 0) (Int.ofNat 0) false (DF h6))] ?_
       exact xB (b' := false) (by simp_all [maySelF, netZ]) (xRetC [])
     ·by_cases h6 : s.kind = 6
      ·by_cases h7 : s.kind = s.kind ∧ s.name = { data := #[] } ∧ s.net.v6 = s.net.v6 ∧ s.net.hi = s.net.hi ∧ s.net.lo = s.net.lo ∧ s.net.bits = s.net.bits
       ·refine xR 64 [(4, dB (((iEq s.kind 1)).trans (DF h1))), (6, dB (((iEq s.kind 2)).trans (DF h2))), (8, dB (((iEq s.kind 3)).trans (DF h3))), (10, dB (((iEq s.kind 4)).trans (DF h4))), (12, dB (((iEq s.kind 5)).trans (DF h5))), (14, dB (((iEq s.kind 6)).trans (DT h6))), (22, dEq59 s.kind s.name s.net.v6 s.net.hi s.net.lo s.net.bits s.kind ({ data := #[] }) s.net.v6 s.net.hi s.net.lo s.net.bits true (DT h7)), (26, dC (c_mayPrefix s.net hb0 hb1) [])] ?_
        exact xB (b' := (Ip.mP s.net.v6 s.net.hi s.net.lo s.net.bits)) (by simp [maySelF, netZ, h1, h2, h3, h4, h5, h6, h7]) (xRetC [])
       ·refine xR 64 [(4, dB (((iEq s.kind 1)).trans (DF h1))), (6, dB (((iEq s.kind 2)).trans (DF h2))), (8, dB (((iEq s.kind 3)).trans (DF h3))), (10, dB (((iEq s.kind 4)).trans (DF h4))), (12, dB (((iEq s.kind 5)).trans (DF h5))), (14, dB (((iEq s.kind 6)).trans (DT h6))), (22, dEq59 s.kind s.name s.net.v6 s.net.hi s.net.lo s.net.bits s.kind ({ data := #[] }) s.net.v6 s.net.hi s.net.lo s.net.bits false (DF h7))] ?_
        exact xB (b' := false) (by simp_all [maySelF, netZ]) (xRetC [])
      ·refine xR 54 [(4, dB (((iEq s.kind 1)).trans (DF h1))), (6, dB (((iEq s.kind 2)).trans (DF h2))), (8, dB (((iEq s.kind 3)).trans (DF h3))), (10, dB (((iEq s.kind 4)).trans (DF h4))), (12, dB (((iEq s.kind 5)).trans (DF h5))), (14, dB (((iEq s.kind 6)).trans (DF h6)))] ?_
       exact xB (b' := false) (by simp [maySelF, netZ, h1, h2, h3, h4, h5, h6]) (xRetC [])
end Go.Proofs.YtbdgncndhnnjoaaGreatDoor

namespace Go.Proofs.YtbdgncndhnnjoaaGreatDoor
open Go.RowKit
set_option linter.unusedVariables false
set_option linter.unusedSimpArgs false
set_option maxHeartbeats 0
set_option maxRecDepth 100000
def fltA (e l a : Int) : Value := .agg #[.int .i64 e, .int .i64 l, .int .i64 a]
theorem k_idle (p : Addr) (w : World) :
  CallsD Tryz.prog 60 #[.pointer (some p)] .returning w fun e u' w' => e = .returned (.tuple #[]) ∧ u' = .returning ∧ w' = w := by
 refine callsD_of_wpS Tryz.func60 rfl fun c₀ cs hu => ?_
 apply wpS_seq
 apply wpS_region
 simp [wpOpsS, go_sem, recoverD, hu, Tryz.ntmps60, Exit.thenS]
 apply wpS_seq
 apply wpS_region
 simp [wpOpsS, go_sem, Exit.thenS, Array.replicate]
 refine wpS_cond (t := false) (by simp [Act.eval, Array.replicate]) ?_
 simp only [Bool.false_eq_true, if_false]
 refine wpS_of_wp (wp_skip ?_)
 cases c₀
 simp_all [bodyPostS, results, Tryz.results60]
theorem k_pan (g Tp : Nat) (x0 x1 x2 : Value) (e l a : Int) (older : List PanicEntry) (w : World) (hg : w.heap[g]? = some (.cells [x0, x1, x2].toArray Tp (0, 0))) :
  CallsD Tryz.prog 60 #[.pointer (some ⟨g, 0, none⟩)] (.panicking ({ v := .iface 109 (fltA e l a), recovered := false } :: older)) w fun e' u' w' =>
   e' = .returned (.tuple #[]) ∧ u' = .panicking ({ v := .iface 109 (fltA e l a), recovered := true } :: older) ∧ w' = w.setCells g 0 [.int .i64 e, .int .i64 l, .int .i64 a] := by
 refine callsD_of_wpS Tryz.func60 rfl fun c₀ cs hu => ?_
 apply wpS_seq
 apply wpS_region
 simp [wpOpsS, go_sem, recoverD, hu, Tryz.ntmps60, Exit.thenS]
 apply wpS_seq
 apply wpS_region
 simp [wpOpsS, go_sem, Exit.thenS, Array.replicate]
 refine wpS_cond (t := true) (by simp [Act.eval, Array.replicate]) ?_
 simp only [if_true]
 apply wpS_region
 have hta : ∀ w, (Instr.typeAssert (.iface 109 (fltA e l a)) 20 109 false).run Tryz.prog w = .ok (fltA e l a) w := fun w => by kernel_rfl
 have hc : ∀ (W : World) (cs : List Value) (i : Nat), W.heap[g]? = some (.cells cs.toArray Tp (0, 0)) → i < cs.length → (W.cell? ⟨g, i, none⟩).isSome = true ∧ W.frozen? ⟨g, i, none⟩ = false := fun W cs i h hi => ⟨by rw [cell_at h, List.getElem?_eq_getElem hi]; rfl, free_at h _⟩
 have c0 : w.cell? ⟨g, 0, none⟩ = some x0 := by rw [cell_at hg]; rfl
 have f0 := free_at hg 0
 have h1 := heap_setCell_same w g 0 _ Tp (.int .i64 e) hg
 have c1 : (w.setCell ⟨g, 0, none⟩ (.int .i64 e)).cell? ⟨g, 1, none⟩ = some x1 := by rw [show (#[x0, x1, x2].setIfInBounds 0 (.int .i64 e)) = [.int .i64 e, x1, x2].toArray from rfl] at h1; rw [cell_at h1]; rfl
 have f1 := free_at h1 1
 have h2 := heap_setCell_same _ g 1 _ Tp (.int .i64 l) h1
 have c2 : ((w.setCell ⟨g, 0, none⟩ (.int .i64 e)).setCell ⟨g, 1, none⟩ (.int .i64 l)).cell? ⟨g, 2, none⟩ = some x2 := by rw [show ((#[x0, x1, x2].setIfInBounds 0 (.int .i64 e)).setIfInBounds 1 (.int .i64 l)) = [.int .i64 e, .int .i64 l, x2].toArray from rfl] at h2; rw [cell_at h2]; rfl
 have f2 := free_at h2 2
 simp only [fltA] at hta ⊢
 simp [wpOpsS, go_sem, hta, c0, f0, c1, f1, c2, f2, bodyPostS, results, Tryz.results60]
 rfl
end Go.Proofs.YtbdgncndhnnjoaaGreatDoor

namespace Go.Proofs.YtbdgncndhnnjoaaGreatDoor
open Go.RowKit
set_option linter.unusedVariables false
set_option linter.unusedSimpArgs false
set_option maxHeartbeats 0
set_option maxRecDepth 100000
variable {C : World → Prop}
abbrev DP := Value → List Blk → Prop
def rdI (line at_ : Nat) (word : ByteArray) : It := tC [vW 0, vW 1, vW 2, vW 3, vV (.int .i64 (line : Int)), vV (.int .i64 (at_ : Int)), vV (.string word), vF (.func 136) [] [vP 6 0], vW 4] 70
def clp (b : ByteArray) : ByteArray := if b.size ≤ 100000 then b else ⟨#[]⟩
theorem clp_eq {b : ByteArray} (h : b.size ≤ 100000) : clp b = b := if_pos h
theorem clp_le (b : ByteArray) : (clp b).size ≤ 100000 := by
 unfold clp
 split
 ·assumption
 ·show 0 ≤ 100000; omega
theorem clp_sz (b : ByteArray) : (clp b).size ≤ b.size := by
 unfold clp
 split
 ·exact Nat.le_refl _
 ·exact Nat.zero_le _
def rsI (rest : ByteArray) : It := tC [vV (.string (clp rest))] 9
def rdr (g t h a n : DP) (line at_ : Nat) (word rest : ByteArray) : List It := [tD g, tD t, tD h, tD a, tD n, rdI line at_ word, rsI rest]
def fltV (e : Int) (line at_ : Nat) : SV := vG [vV (.int .i64 e), vV (.int .i64 (line : Int)), vV (.int .i64 (at_ : Int))]
theorem c_here (g t h a n : DP) (line at_ : Nat) (word rest : ByteArray) (e : Int) : Ct S0 C 103 [vP 5 0, vV (.int .i64 e)] (rdr g t h a n line at_ word rest) [] [] [] (fltV e line at_) := by
 refine xIn Tryz.f103 fun E0 w0 hL hC hk => ?_
 refine xR 6 [] ?_
 exact (xRetC [])
def fltI (e : Int) (line at_ : Nat) : SV := vI 109 (fltV e line at_)
theorem c_need (g t h a n : DP) (line at_ : Nat) (word rest : ByteArray) (e : Int) : Ct S0 C 64 [vP 5 0, vV (.bool true), vV (.int .i64 e)] (rdr g t h a n line at_ word rest) [] [] [] (vT []) := by
 refine xIn Tryz.f64 fun E0 w0 hL hC hk => ?_
 refine xR 7 [] ?_
 exact (xRetC [])
theorem p_need (g t h a n : DP) (line at_ : Nat) (word rest : ByteArray) (e : Int) : CtP S0 C 64 [vP 5 0, vV (.bool false), vV (.int .i64 e)] (rdr g t h a n line at_ word rest) (fltI e line at_) := by
 refine xInP Tryz.f64 fun E0 w0 hL hC hk => ?_
 refine xR 11 [(4, dC (c_here g t h a n line at_ word rest e) [0, 1, 2, 3, 4, 5, 6])] ?_
 exact xPan
theorem c_need2 (g t h a n : DP) (line at_ : Nat) (word rest : ByteArray) (e : Int) (hw : word.size ≠ 0) : Ct S0 C 124 [vP 5 0, vV (.bool true), vV (.int .i64 e)] (rdr g t h a n line at_ word rest) [] [] [] (vT []) := by
 refine xIn Tryz.f124 fun E0 w0 hL hC hk => ?_
 refine xR 16 [(5, dB ((sN0 word).trans (DNT hw))), (6, dC (c_need g t h a n line at_ word rest 190) [0, 1, 2, 3, 4, 5, 6]), (10, dC (c_need g t h a n line at_ word rest e) [0, 1, 2, 3, 4, 5, 6])] ?_
 exact (xRetC [])
theorem p_need2 (g t h a n : DP) (line at_ : Nat) (word rest : ByteArray) (e : Int) (b : Bool) (hw : word.size = 0) : CtP S0 C 124 [vP 5 0, vV (.bool b), vV (.int .i64 e)] (rdr g t h a n line at_ word rest) (fltI 190 line at_) := by
 refine xInP Tryz.f124 fun E0 w0 hL hC hk => ?_
 refine xR 8 [(5, dB ((sN0 word).trans (DNF hw)))] ?_
 exact xPc (p_need g t h a n line at_ word rest 190) [0, 1, 2, 3, 4, 5, 6]
theorem c_room (g t h a n : DP) (line at_ : Nat) (word rest : ByteArray) (k : Nat) : Cu S0 C 126 [vP 5 0, vV (.int .i64 (k : Int))] (rdr g t h a n line at_ word rest) [] (if k < 64 then oR [] [] (vT []) else oP (fltI 198 line at_)) := by
 refine xInU Tryz.f126 fun E0 w0 hL hC hk => ?_
 by_cases h1 : (k : Int) < 64
 ·refine xR 6 [(2, dT h1), (3, dC (c_need g t h a n line at_ word rest 198) [0, 1, 2, 3, 4, 5, 6])] ?_
  exact (xUr (J := []) (N := []) (v := vT []) (by rw [if_pos (by omega)]) (xRetC []))
 ·refine xR 4 [(2, dF h1)] ?_
  exact xUp (by rw [if_neg (by omega)]) (xPc (p_need g t h a n line at_ word rest 198) [0, 1, 2, 3, 4, 5, 6])
end Go.Proofs.YtbdgncndhnnjoaaGreatDoor

namespace Go.Proofs.YtbdgncndhnnjoaaGreatDoor
open Go.RowKit
set_option linter.unusedVariables false
set_option linter.unusedSimpArgs false
set_option maxHeartbeats 0
set_option maxRecDepth 100000
theorem caught_pan (p1 p2 : Value) (e l t : Int) (w : World) (Q : World → Prop)
  (h : Calls Tryz.prog 27 #[p1, p2] (w.alloc (.cells #[.int .i64 0, .int .i64 0, .int .i64 0] 36 (0, 0))) fun e' w' => ∃ v, e' = .panicked (pn v) ∧ v = .iface 109 (fltA e l t) ∧ w'.heap[w.heap.size]? = some (.cells [.int .i64 0, .int .i64 0, .int .i64 0].toArray 36 (0, 0)) ∧ Q w') :
  Calls Tryz.prog 26 #[.func (.func 27) #[] #[p1, p2]] w fun e' w' => e' = .returned (fltA e l t) ∧ ∃ w2, Q w2 ∧ w2.heap[w.heap.size]? = some (.cells [.int .i64 0, .int .i64 0, .int .i64 0].toArray 36 (0, 0)) ∧ w' = w2.setCells w.heap.size 0 [.int .i64 e, .int .i64 l, .int .i64 t] := by
 have hmf : ∀ (fn : Fn) (first cap : Array Value) (w : World), (Instr.makeFunc fn first cap).run Tryz.prog w = .ok (.func fn first cap) w := fun _ _ _ _ => rfl
 go_enter_defers Tryz.func26, Tryz.ntmps26
 go_wp2_with (refine h.mono ?_; rintro e' w' ⟨v, rfl, rfl, hz, hQ⟩)
 refine leaves_cons (f := 60) (args := #[.pointer (some ⟨w.heap.size, 0, none⟩)]) (by simp) (by simp [go_sem]) ?_
 refine (k_pan w.heap.size 36 _ _ _ e l t [] w' hz).mono ?_
 rintro e' u' w'' ⟨rfl, rfl, rfl⟩
 have hz2 := heap_setCells w.heap.size 36 [.int .i64 e, .int .i64 l, .int .i64 t] w' _ 0 hz
 have hld : (loadVar 36 ⟨w.heap.size, 0, none⟩).run Tryz.prog (w'.setCells w.heap.size 0 [.int .i64 e, .int .i64 l, .int .i64 t]) = .ok (fltA e l t) (w'.setCells w.heap.size 0 [.int .i64 e, .int .i64 l, .int .i64 t]) :=
  semV_inv (q := loadVar 36 ⟨w.heap.size, 0, none⟩) (load_row (P := Tryz.prog) (cs := [.int .i64 e, .int .i64 l, .int .i64 t]) (by kernel_rfl) (by kernel_rfl) (by kernel_rfl) fun j x hx => by
   rw [show setAll [Value.int .i64 0, .int .i64 0, .int .i64 0].toArray 0 [.int .i64 e, .int .i64 l, .int .i64 t] = [Value.int .i64 e, .int .i64 l, .int .i64 t].toArray from rfl] at hz2
   rw [cell_at hz2, Nat.zero_add]
   exact hx)
 refine ⟨fltA e l t, ?_, rfl, w', hQ, hz, rfl⟩
 simp [results, Tryz.results26, asAddr, hld]
theorem caught_ret (p1 p2 : Value) (w : World) (Q : World → Prop)
  (h : Calls Tryz.prog 27 #[p1, p2] (w.alloc (.cells #[.int .i64 0, .int .i64 0, .int .i64 0] 36 (0, 0))) fun e' w' => e' = .returned (.tuple #[]) ∧ w'.heap[w.heap.size]? = some (.cells [.int .i64 0, .int .i64 0, .int .i64 0].toArray 36 (0, 0)) ∧ Q w') :
  Calls Tryz.prog 26 #[.func (.func 27) #[] #[p1, p2]] w fun e' w' => e' = .returned (fltA 0 0 0) ∧ ∃ w2, Q w2 ∧ w2.heap[w.heap.size]? = some (.cells [.int .i64 0, .int .i64 0, .int .i64 0].toArray 36 (0, 0)) ∧ w' = w2.setCells w.heap.size 0 [.int .i64 0, .int .i64 0, .int .i64 0] := by
 have hmf : ∀ (fn : Fn) (first cap : Array Value) (w : World), (Instr.makeFunc fn first cap).run Tryz.prog w = .ok (.func fn first cap) w := fun _ _ _ _ => rfl
 have ten : ∀ W : World, W.heap[w.heap.size]? = some (.cells [.int .i64 0, .int .i64 0, .int .i64 0].toArray 36 (0, 0)) → W.cell? ⟨w.heap.size, 0, none⟩ = some (.int .i64 0) ∧ W.frozen? ⟨w.heap.size, 0, none⟩ = false ∧ (W.setCell ⟨w.heap.size, 0, none⟩ (.int .i64 0)).cell? ⟨w.heap.size, 1, none⟩ = some (.int .i64 0) ∧ (W.setCell ⟨w.heap.size, 0, none⟩ (.int .i64 0)).frozen? ⟨w.heap.size, 1, none⟩ = false ∧
   ((W.setCell ⟨w.heap.size, 0, none⟩ (.int .i64 0)).setCell ⟨w.heap.size, 1, none⟩ (.int .i64 0)).cell? ⟨w.heap.size, 2, none⟩ = some (.int .i64 0) ∧ ((W.setCell ⟨w.heap.size, 0, none⟩ (.int .i64 0)).setCell ⟨w.heap.size, 1, none⟩ (.int .i64 0)).frozen? ⟨w.heap.size, 2, none⟩ = false := fun W hg => by
  have h1 := heap_setCell_same W w.heap.size 0 _ 36 (.int .i64 0) hg
  have h2 := heap_setCell_same _ w.heap.size 1 _ 36 (.int .i64 0) h1
  have a1 := h1
  have a2 := h2
  rw [show ([Value.int .i64 0, .int .i64 0, .int .i64 0].toArray.setIfInBounds 0 (.int .i64 0)) = [Value.int .i64 0, .int .i64 0, .int .i64 0].toArray from rfl] at a1 a2
  rw [show ([Value.int .i64 0, .int .i64 0, .int .i64 0].toArray.setIfInBounds 1 (.int .i64 0)) = [Value.int .i64 0, .int .i64 0, .int .i64 0].toArray from rfl] at a2
  exact ⟨by rw [cell_at hg]; rfl, free_at hg 0, by rw [cell_at a1]; rfl, free_at h1 1, by rw [cell_at a2]; rfl, free_at h2 2⟩
 have hbu : ∀ w, (Instr.build 36 #[]).run Tryz.prog w = .ok (.agg #[.int .i64 0, .int .i64 0, .int .i64 0]) w := fun _ => by kernel_rfl
 go_enter_defers Tryz.func26, Tryz.ntmps26
 go_wp2_with (refine h.mono ?_; rintro e' w' ⟨rfl, hz, hQ⟩; obtain ⟨c0, f0, c1, f1, c2, f2⟩ := ten w' hz)
 refine leaves_cons (f := 60) (args := #[.pointer (some ⟨w.heap.size, 0, none⟩)]) (by simp) (by simp [go_sem]) ?_
 refine (k_idle ⟨w.heap.size, 0, none⟩ _).mono ?_
 rintro e' u' w'' ⟨rfl, rfl, rfl⟩
 have hz2 := heap_setCells w.heap.size 36 [.int .i64 0, .int .i64 0, .int .i64 0] w' _ 0 hz
 have hld : (loadVar 36 ⟨w.heap.size, 0, none⟩).run Tryz.prog (w'.setCells w.heap.size 0 [.int .i64 0, .int .i64 0, .int .i64 0]) = .ok (fltA 0 0 0) (w'.setCells w.heap.size 0 [.int .i64 0, .int .i64 0, .int .i64 0]) :=
  semV_inv (q := loadVar 36 ⟨w.heap.size, 0, none⟩) (load_row (P := Tryz.prog) (cs := [.int .i64 0, .int .i64 0, .int .i64 0]) (by kernel_rfl) (by kernel_rfl) (by kernel_rfl) fun j x hx => by
   rw [show setAll [Value.int .i64 0, .int .i64 0, .int .i64 0].toArray 0 [.int .i64 0, .int .i64 0, .int .i64 0] = [Value.int .i64 0, .int .i64 0, .int .i64 0].toArray from rfl] at hz2
   rw [cell_at hz2, Nat.zero_add]
   exact hx)
 refine ⟨fltA 0 0 0, ?_, rfl, w', hQ, hz, rfl⟩
 have e1 : w'.setCells w.heap.size 0 [.int .i64 0, .int .i64 0, .int .i64 0] = ((w'.setCell ⟨w.heap.size, 0, none⟩ (.int .i64 0)).setCell ⟨w.heap.size, 1, none⟩ (.int .i64 0)).setCell ⟨w.heap.size, 2, none⟩ (.int .i64 0) := rfl
 rw [e1] at hld
 simp [results, Tryz.results26, asAddr, hld]
end Go.Proofs.YtbdgncndhnnjoaaGreatDoor

namespace Go.Proofs.YtbdgncndhnnjoaaGreatDoor
open Go.RowKit
set_option linter.unusedVariables false
set_option linter.unusedSimpArgs false
set_option maxHeartbeats 0
set_option maxRecDepth 100000
variable {C : World → Prop}
theorem denP_ixgap (E : Nat → Ent) : ∀ (I : List It) (k : Nat), denP E (ix k (I.map fun _ => gap)) = []
 | [], _ => rfl
 | x :: I, k => by simp only [List.map_cons, ix, denP, gap_den, denP_ixgap E I (k + 1), List.append_nil]
theorem okP_ixgap (E : Nat → Ent) : ∀ (I : List It) (k : Nat), okP E (ix k (I.map fun _ => gap))
 | [], _ => by simp [okP, ix]
 | x :: I, k => by
  intro p hp
  simp only [List.map_cons, ix, List.mem_cons] at hp
  rcases hp with rfl | hp
  ·exact trivial
  ·exact okP_ixgap E I (k + 1) p hp
theorem zero_alloc {w : World} {o : Obj} {T : List Blk} {P : Program} {S : Seat P} (h : There S w T) : There S (w.alloc o) T :=
 ⟨fun b hb => by rw [Below.heap_alloc _ _ _ (h.lt hb)]; exact h.at_ b hb, h.nodup, h.ne⟩
theorem grw_alloc (w : World) (o : Obj) (r : List Nat) : Grw w (w.alloc o) r := ⟨rfl, rfl, rfl, by simp, fun k hk _ => Below.heap_alloc _ _ _ hk⟩
end Go.Proofs.YtbdgncndhnnjoaaGreatDoor

namespace Go.Proofs.YtbdgncndhnnjoaaGreatDoor
open Go.RowKit
set_option linter.unusedVariables false
set_option linter.unusedSimpArgs false
set_option maxHeartbeats 0
set_option maxRecDepth 100000
variable {C : World → Prop}
theorem p_need3 (g t h a n : DP) (line at_ : Nat) (word rest : ByteArray) (e : Int) (hw : word.size ≠ 0) : CtP S0 C 124 [vP 5 0, vV (.bool false), vV (.int .i64 e)] (rdr g t h a n line at_ word rest) (fltI e line at_) := by
 refine xInP Tryz.f124 fun E0 w0 hL hC hk => ?_
 refine xR 14 [(5, dB ((sN0 word).trans (DNT hw))), (6, dC (c_need g t h a n line at_ word rest 190) [0, 1, 2, 3, 4, 5, 6])] ?_
 exact xPc (p_need g t h a n line at_ word rest e) [0, 1, 2, 3, 4, 5, 6]
def nameO (line at_ : Nat) (word : ByteArray) : Out := if word.size = 0 then oP (fltI 190 line at_) else if labF word = true then oR [] [] (vV (.string word)) else oP (fltI 191 line at_)
theorem c_name (g t h a n : DP) (line at_ : Nat) (word rest : ByteArray) : Cu S0 C 162 [vP 5 0] (rdr g t h a n line at_ word rest) [] (nameO line at_ word) := by
 refine xInU Tryz.f162 fun E0 w0 hL hC hk => ?_
 by_cases hw : word.size = 0
 ·refine xR 12 [(6, dC (c_label word) [])] ?_
  exact xUp (by simp [nameO, hw]) (xPc (p_need2 g t h a n line at_ word rest 191 (labF word) hw) [0, 1, 2, 3, 4, 5, 6])
 ·cases h1 : labF word
  ·refine xR 12 [(6, dC ((c_label word).rb h1) [])] ?_
   exact xUp (by simp [nameO, hw, h1]) (xPc (p_need3 g t h a n line at_ word rest 191 hw) [0, 1, 2, 3, 4, 5, 6])
  ·refine xR 22 [(6, dC ((c_label word).rb h1) []), (7, dC (c_need2 g t h a n line at_ word rest 191 hw) [0, 1, 2, 3, 4, 5, 6])] ?_
   exact xUr (J := []) (N := []) (v := vV (Value.string word)) (by simp [nameO, hw, h1]) (xRetC [])
end Go.Proofs.YtbdgncndhnnjoaaGreatDoor

namespace Go.Proofs.YtbdgncndhnnjoaaGreatDoor
open Go.RowKit YtbdgncndhnnjoaaGreatDoor
set_option linter.unusedVariables false
set_option linter.unusedSimpArgs false
set_option maxHeartbeats 0
set_option maxRecDepth 100000
variable {C : World → Prop}
def net0 : Net := ⟨false, 0, 0, 0⟩
structure Nam where
 name : ByteArray
 list : List ByteArray
def nam0 : Nam := ⟨⟨#[]⟩, []⟩
def hst0 : Hst := ⟨⟨#[]⟩, net0⟩
def strEl (s : ByteArray) (c : List Value) (T : List Blk) : Prop := c = [.string s] ∧ T = []
def namEl (x : Nam) (c : List Value) (T : List Blk) : Prop := ∃ v, c = [.string x.name, v] ∧ RowD 1 9 strEl x.list v T
def hstEl (x : Hst) (c : List Value) (T : List Blk) : Prop := c = .string x.name :: x.net.cs ∧ T = []
abbrev namD (l : List Nam) : DP := RowD 2 46 namEl l
abbrev hstD (l : List Hst) : DP := RowD 5 53 hstEl l
theorem any_range {α : Type} (d : α) (p : α → Bool) (l : List α) : ((List.range l.length).any fun i => p (l.getD i d)) = l.any p := by
 rw [Bool.eq_iff_iff, List.any_eq_true, List.any_eq_true]
 constructor
 ·rintro ⟨i, hi, h⟩
  have hi := List.mem_range.1 hi
  refine ⟨l[i], List.getElem_mem hi, ?_⟩
  rwa [List.getD_eq_getElem?_getD, List.getElem?_eq_getElem hi] at h
 ·rintro ⟨x, hx, h⟩
  obtain ⟨i, hi, rfl⟩ := List.getElem_of_mem hx
  refine ⟨i, List.mem_range.2 hi, ?_⟩
  rw [List.getD_eq_getElem?_getD, List.getElem?_eq_getElem hi]
  exact h
theorem rowN {G : List Nam} {v : Value} {T T' : List Blk} (h : namD G v T) (hs : ∀ b ∈ T, b ∈ T') : ∃ gs, Sl T' 2 G.length (nF (fun i => (G.getD i nam0).name) gs) v := by
 obtain ⟨F, h1, h2⟩ := h.sl
 refine ⟨fun i => F i 1, (h1.sub hs).congr fun i j hi hj => ?_⟩
 have hg : G[i]? = some G[i] := List.getElem?_eq_getElem hi
 obtain ⟨cs, Te, ⟨u, rfl, -⟩, -, h3, -⟩ := h2 i _ hg
 match j, hj with
 | 0, _ =>
  rw [h3 0 _ rfl]
  show _ = Value.string (G.getD i nam0).name
  rw [List.getD_eq_getElem?_getD, hg]
  rfl
 | 1, _ => rfl
theorem rowH {H : List Hst} {v : Value} {T T' : List Blk} (h : hstD H v T) (hs : ∀ b ∈ T, b ∈ T') : Sl T' 5 H.length (hF (fun i => (H.getD i hst0).name) (fun i => (H.getD i hst0).net)) v := by
 obtain ⟨F, h1, h2⟩ := h.sl
 refine (h1.sub hs).congr fun i j hi hj => ?_
 have hg : H[i]? = some H[i] := List.getElem?_eq_getElem hi
 obtain ⟨cs, Te, ⟨rfl, -⟩, -, h3, -⟩ := h2 i _ hg
 have e : H.getD i hst0 = H[i] := by rw [List.getD_eq_getElem?_getD, hg]; rfl
 match j, hj with
 | 0, _ | 1, _ | 2, _ | 3, _ | 4, _ =>
  simp only [hF, e]
  exact h3 _ _ rfl
def tellL (G T : List Nam) (H : List Hst) (k : Int) (s : ByteArray) : Bool := if k = 3 then G.any fun x => decide (x.name = s) else if k = 4 then T.any fun x => decide (x.name = s) else if k = 5 then H.any fun x => decide (x.name = s) else true
def pol4 (G T : List Nam) (H : List Hst) (a : DP) : Nat → DP
 | 0 => namD G
 | 1 => namD T
 | 2 => hstD H
 | _ => a
theorem c_tellsD (G T : List Nam) (H : List Hst) (a : DP) (k : Int) (s : ByteArray) (v6 : Bool) (hi lo b : Int) (hG : G.length < 1000000) (hT : T.length < 1000000) (hH : H.length < 1000000) : Ct S0 C 68 [vG [vW 0, vW 1, vW 2, vW 3], vG [vV (.int .u8 k), vV (.string s), vV (.bool v6), vV (.int .u64 hi), vV (.int .u64 lo), vV (.int .u8 b)]] [tD (namD G), tD (namD T), tD (hstD H), tD a] [] [] [] (vV (.bool (tellL G T H k s))) := by
 refine ct_join 4 (pol4 G T H a) _ (fun v => [vG [vV (v 0), vV (v 1), vV (v 2), vV (v 3)], vG (selS ⟨k, s, ⟨v6, hi, lo, b⟩⟩)]) (fun _ => rfl) rfl fun v B hv => ?_
 have hb : ∀ i, i < 4 → ∀ b ∈ B i, b ∈ (List.range 4).flatMap B := fun i hi b hb => List.mem_flatMap.2 ⟨i, List.mem_range.2 hi, hb⟩
 obtain ⟨gs, h0⟩ := rowN (hv 0 (by decide)) (hb 0 (by decide))
 obtain ⟨ts, h1⟩ := rowN (hv 1 (by decide)) (hb 1 (by decide))
 have h2 := rowH (hv 2 (by decide)) (hb 2 (by decide))
 have := c_tells (C := C) _ (v 0) (v 1) (v 2) (v 3) ⟨_, _, _, _, _, _, gs, ts, _, h0, h1, h2, hG, hT, hH⟩ ⟨k, s, ⟨v6, hi, lo, b⟩⟩
 refine this.rb ?_
 unfold tlF tellL
 rw [any_range nam0 (fun x => decide (x.name = s)), any_range nam0 (fun x => decide (x.name = s)), any_range hst0 (fun x => decide (x.name = s))]
end Go.Proofs.YtbdgncndhnnjoaaGreatDoor

namespace Go.Proofs.YtbdgncndhnnjoaaGreatDoor
open Go.RowKit YtbdgncndhnnjoaaGreatDoor
set_option linter.unusedVariables false
set_option linter.unusedSimpArgs false
set_option maxHeartbeats 0
set_option maxRecDepth 1000000
abbrev blB : ByteArray := ⟨#[32, 9]⟩
theorem ir_bad (w : World) : Calls Tryz.prog 178 #[.string blB, .int .i32 65533] w fun e w' => e = .returned (.int .i64 (-1)) ∧ Below w.heap.size w w' := by
 have hB : blB.size = 2 := rfl
 go_enter Tryz.func178, Tryz.ntmps178
 go_wp2
 go_loopg [5, 6] 2 (fun g _ _ wx => ∃ i : Nat, i + g = 2 ∧ wx = w.iter blB i)
 case atStart => exact ⟨0, by omega, rfl⟩
 case round =>
  obtain ⟨i, hig, rfl⟩ := hrel
  cases gk with
  | zero =>
   obtain rfl : i = 2 := by omega
   have hnx := run_next_end (P := Tryz.prog) w blB 2
   go_wp2
   go_ret
   exact ⟨rfl, (Below.refl _ _).alloc (Nat.le_refl _) _⟩
  | succ g =>
   have hi : i < blB.size := by omega
   obtain ⟨x, hx⟩ : ∃ x : UInt8, blB[i]'hi = x := ⟨_, rfl⟩
   have hx128 : x.toNat < 128 := by
    subst hx
    match i, hi with
    | 0, _ => show (32 : UInt8).toNat < 128; decide
    | 1, _ => show (9 : UInt8).toNat < 128; decide
   have hnx := fun ty => run_next_ascii (P := Tryz.prog) w blB i ty hi (by rw [hx]; exact hx128)
   rw [hx] at hnx
   have hne : ((x.toNat : Int) == 65533) = false := by
    rw [beq_eq_false_iff_ne]; omega
   clear hx
   go_wp2
   go_roundg g
   case measure => omega
   case rel => exact ⟨i + 1, by omega, rfl⟩
theorem ir_good (r : Int) (h : 128 ≤ r) (hr : r ≤ 2147483647) (hne : r ≠ 65533) (w : World) : Calls Tryz.prog 178 #[.string blB, .int .i32 r] w fun e w' => e = .returned (.int .i64 (-1)) ∧ Below w.heap.size w w' := by
 have hB : blB.size = 2 := rfl
 have h1 : decide (r < 128) = false := decide_eq_false (by omega)
 have h2 : (r == 65533) = false := beq_eq_false_iff_ne.2 hne
 have hs21 : (Tryz.prog.underlying 21).isSome = true := rfl
 have hd9 : Tryz.prog.underlying 9 = some .string := rfl
 have hcv : ∀ (a : Act) (o : Oper), o.op = .convert 21 9 (.tmp 17) → a.eval (.tmp 17) = .int .i32 r → ∀ w, (execOp a.eval o).run Tryz.prog w = .ok (.value (.string (Utf8.encode r))) w := fun a o ho ha w => by
  unfold execOp
  simp [ho, ha, run_convert_int_string w 21 9 .i32 r hs21 hd9]
 have hvr := validRune_eq r
 by_cases hva : 0 ≤ r ∧ r < 55296
 ·have hok : Utf8.valid r = true := by rw [hvr]; simp [validRune, hva]
  obtain ⟨f1, f2, f3⟩ := encode_facts r hok h
  go_enter Tryz.func178, Tryz.ntmps178
  go_wp2
  refine wp_scope_straight ?_
  have hsz : (Utf8.encode r).size = 2 ∨ (Utf8.encode r).size = 3 ∨ (Utf8.encode r).size = 4 := by omega
  rcases hsz with e | e | e
  ·have hi1 : 1 < (Utf8.encode r).size := by omega
   have hb : 128 ≤ ((Utf8.encode r)[1]'hi1).toNat := by
    have := f3 (by omega)
    simpa only [e] using this
   have hsi : ((Utf8.encode r).size : Int) = 2 := by omega
   have hi2 : 1 < blB.size := by decide
   generalize hbx : (Utf8.encode r)[1]'hi1 = bx at hb
   clear f3
   go_wp2
   go_loopg [9] 1 (fun g a wx => a = .int .i64 1 ∧ wx = w)
   case atStart => exact ⟨rfl, rfl⟩
   case round =>
    obtain ⟨rfl, rfl⟩ := hrel
    go_wp2
    refine wp_scope_straight ?_
    go_wp2
    go_region
    all_goals go_wp2
    ·have hib : ∀ w, Calls Tryz.prog 202 #[.string ByteArray.empty, .int .u8 (bx.toNat : Int)] w fun e w' => e = .returned (.int .i64 (-1)) ∧ w' = w := fun w => by
      have := Any.strings_IndexByte (ρ := Ip.repRen) { Ip.lays153 with } ByteArray.empty (bx.toNat : Int) w
      exact this
     go_region_with (go_at_call 202; refine (hib _).mono ?_; rintro e w' ⟨rfl, rfl⟩)
     all_goals go_wp2
     all_goals (simp only [Exit.noGoto, Exit.inBlock, Exit.then]; refine bodyPost_ret (results_tmp rfl _ _ _) rfl ?_; exact ⟨rfl, rfl, rfl, rfl, Nat.le_refl _, fun _ _ => rfl⟩)
    ·exfalso
     have hq : (((blB[1]'hi2).toNat : Int) != (bx.toNat : Int)) = false := by assumption
     have h9 : ((blB[1]'hi2).toNat : Int) = 9 := rfl
     rw [h9] at hq
     simp at hq
     omega
  ·have hsi : ((Utf8.encode r).size : Int) = 3 := by omega
   clear f3
   go_wp2
   go_loopg [9] 1 (fun g a wx => a = .int .i64 2 ∧ wx = w)
   case atStart => exact ⟨rfl, rfl⟩
   case round =>
    obtain ⟨rfl, rfl⟩ := hrel
    go_wp2
    all_goals (simp only [Exit.noGoto, Exit.inBlock, Exit.then]; refine bodyPost_ret (results_tmp rfl _ _ _) rfl ?_; exact ⟨rfl, rfl, rfl, rfl, Nat.le_refl _, fun _ _ => rfl⟩)
  ·have hsi : ((Utf8.encode r).size : Int) = 4 := by omega
   clear f3
   go_wp2
   go_loopg [9] 1 (fun g a wx => a = .int .i64 3 ∧ wx = w)
   case atStart => exact ⟨rfl, rfl⟩
   case round =>
    obtain ⟨rfl, rfl⟩ := hrel
    go_wp2
    all_goals (simp only [Exit.noGoto, Exit.inBlock, Exit.then]; refine bodyPost_ret (results_tmp rfl _ _ _) rfl ?_; exact ⟨rfl, rfl, rfl, rfl, Nat.le_refl _, fun _ _ => rfl⟩)
 ·have hv1 : 55296 ≤ r := by omega
  by_cases hvb : 57343 < r
  ·by_cases hvc : r ≤ 1114111
   ·have hok : Utf8.valid r = true := by rw [hvr]; simp [validRune, hvb, hvc]
    obtain ⟨f1, f2, f3⟩ := encode_facts r hok h
    go_enter Tryz.func178, Tryz.ntmps178
    go_wp2
    refine wp_scope_straight ?_
    have hsz : (Utf8.encode r).size = 2 ∨ (Utf8.encode r).size = 3 ∨ (Utf8.encode r).size = 4 := by omega
    rcases hsz with e | e | e
    ·have hi1 : 1 < (Utf8.encode r).size := by omega
     have hb : 128 ≤ ((Utf8.encode r)[1]'hi1).toNat := by
      have := f3 (by omega)
      simpa only [e] using this
     have hsi : ((Utf8.encode r).size : Int) = 2 := by omega
     have hi2 : 1 < blB.size := by decide
     generalize hbx : (Utf8.encode r)[1]'hi1 = bx at hb
     clear f3
     go_wp2
     go_loopg [9] 1 (fun g a wx => a = .int .i64 1 ∧ wx = w)
     case atStart => exact ⟨rfl, rfl⟩
     case round =>
      obtain ⟨rfl, rfl⟩ := hrel
      go_wp2
      refine wp_scope_straight ?_
      go_wp2
      go_region
      all_goals go_wp2
      ·have hib : ∀ w, Calls Tryz.prog 202 #[.string ByteArray.empty, .int .u8 (bx.toNat : Int)] w fun e w' => e = .returned (.int .i64 (-1)) ∧ w' = w := fun w => by
        have := Any.strings_IndexByte (ρ := Ip.repRen) { Ip.lays153 with } ByteArray.empty (bx.toNat : Int) w
        exact this
       go_region_with (go_at_call 202; refine (hib _).mono ?_; rintro e w' ⟨rfl, rfl⟩)
       all_goals go_wp2
       all_goals (simp only [Exit.noGoto, Exit.inBlock, Exit.then]; refine bodyPost_ret (results_tmp rfl _ _ _) rfl ?_; exact ⟨rfl, rfl, rfl, rfl, Nat.le_refl _, fun _ _ => rfl⟩)
      ·exfalso
       have hq : (((blB[1]'hi2).toNat : Int) != (bx.toNat : Int)) = false := by assumption
       have h9 : ((blB[1]'hi2).toNat : Int) = 9 := rfl
       rw [h9] at hq
       simp at hq
       omega
    ·have hsi : ((Utf8.encode r).size : Int) = 3 := by omega
     clear f3
     go_wp2
     go_loopg [9] 1 (fun g a wx => a = .int .i64 2 ∧ wx = w)
     case atStart => exact ⟨rfl, rfl⟩
     case round =>
      obtain ⟨rfl, rfl⟩ := hrel
      go_wp2
      all_goals (simp only [Exit.noGoto, Exit.inBlock, Exit.then]; refine bodyPost_ret (results_tmp rfl _ _ _) rfl ?_; exact ⟨rfl, rfl, rfl, rfl, Nat.le_refl _, fun _ _ => rfl⟩)
    ·have hsi : ((Utf8.encode r).size : Int) = 4 := by omega
     clear f3
     go_wp2
     go_loopg [9] 1 (fun g a wx => a = .int .i64 3 ∧ wx = w)
     case atStart => exact ⟨rfl, rfl⟩
     case round =>
      obtain ⟨rfl, rfl⟩ := hrel
      go_wp2
      all_goals (simp only [Exit.noGoto, Exit.inBlock, Exit.then]; refine bodyPost_ret (results_tmp rfl _ _ _) rfl ?_; exact ⟨rfl, rfl, rfl, rfl, Nat.le_refl _, fun _ _ => rfl⟩)
   ·have hvd : 1114111 < r := by omega
    go_enter Tryz.func178, Tryz.ntmps178
    go_wp2
    go_ret
    exact ⟨rfl, rfl, rfl, rfl, Nat.le_refl _, fun _ _ => rfl⟩
  ·have hvd : r ≤ 57343 := by omega
   go_enter Tryz.func178, Tryz.ntmps178
   go_wp2
   go_ret
   exact ⟨rfl, rfl, rfl, rfl, Nat.le_refl _, fun _ _ => rfl⟩
end Go.Proofs.YtbdgncndhnnjoaaGreatDoor
