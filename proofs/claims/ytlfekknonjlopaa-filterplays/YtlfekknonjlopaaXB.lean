/- Runs. -/
import Derived.Test.YtlfekknonjlopaaXA
namespace Go.Proofs.Ytlfekknonjlopaa
open Go.RowKit
set_option linter.unusedVariables false
set_option linter.unusedSimpArgs false

def opM {P : Program} {S : Seat P} {C : World → Prop} (z : Ms S C) (all : List Oper) (o : Oper) (rest : List Oper) (k : List Fr) : Option (Ms S C × Tk × Tk) := match wantS all z.s.t o with
  | some true => if noSel o then match opS S C (evS z.s.t) z.s.m o (dirOf z.n z.ds) with
    | some (rs, a, b) =>
      let L := isLt (z.s.m.length + rs.N.length)
      if rs.v.al L && (rs.W.all (fun p => p.2.al L) && rs.N.all (It.al L)) then
        some (⟨z.n + 1, dirNx z.n z.ds, frO all rest :: k, ⟨putS z.s.t o.dst rs.v, setsM z.s.m rs.W ++ rs.N⟩⟩, { a with b := (gdTk all z.s.t o true).1 }, { b with b := (gdTk all z.s.t o true).2 })
      else none
    | none => none
    else none
  | some false => some (⟨z.n + 1, z.ds, frO all rest :: k, ⟨putS z.s.t o.dst (vV undef), z.s.m⟩⟩, { tk0 with b := (gdTk all z.s.t o false).1 }, { tk0 with b := (gdTk all z.s.t o false).2 })
  | none => none
def step1 {P : Program} {S : Seat P} {C : World → Prop} (z : Ms S C) : Option (Ms S C × List Tk × List Tk) := match z.K with
  | [] => none
  | f :: k => match f.k with
    | 0 => match f.c with
      | .skip => some ({ z with K := k }, [], [])
      | .label _ => some ({ z with K := k }, [], [])
      | .seq x y => some ({ z with K := frC x :: frC y :: k }, [], [])
      | .cond c x y => match asBoolS (evS z.s.t c) with
        | some true => some ({ z with K := frC x :: k }, [], [])
        | some false => some ({ z with K := frC y :: k }, [], [])
        | none => none
      | .block id c => some ({ z with K := frC c :: frB id :: k }, [], [])
      | .exit id => match exitK id k with
        | some k' => some ({ z with K := k' }, [], [])
        | none => none
      | .region _ ops false => some ({ z with K := frO ops.toList ops.toList :: k }, [], [])
      | .region _ ops true => match regE ops.toList z.n z.ds z.s.t z.s.m ops.toList with
        | some r => if regOK ops.toList r.es then some (⟨r.n, r.ds, k, ⟨r.t, r.m⟩⟩, r.A, r.B) else none
        | none => none
      | _ => none
    | 1 => some ({ z with K := k }, [], [])
    | 2 => match f.rest with
      | [] => some ({ z with K := k }, [], [])
      | o :: rest => match opM z f.all o rest k with
        | some (z', a, b) => some (z', [a], [b])
        | none => none
    | _ => none
/-- One operation of a plain region. -/
theorem opM_ok {P : Program} {S : Seat P} {c : Ctx} {E0 : Nat → Ent} {n : Nat} {B : Exit → Act → World → Prop} {z z' : Ms S fun w => Mem S c [] w} {a b : Tk} {f : Fr} {o : Oper} {rest : List Oper} {k : List Fr} (hf : f.k = 2) (hr : f.rest = o :: rest)
    (h : opM z f.all o rest k = some (z', a, b)) (e : a = b) (kk : OK S c E0 n B z'.K z'.s) : OK S c E0 n B (f :: k) z.s := by
  refine ⟨fun E act w hn hE H => ?_⟩
  unfold opM at h
  show post P B (f :: k) .normal act w
  obtain ⟨fk, fc, fi, fa, fr, fI⟩ := f
  simp only at hf hr h
  subst hf
  subst hr
  show wpList P fa.toArray (post P B k) (o :: rest) act w
  split at h
  · rename_i hw
    split at h
    · rename_i hsel
      split at h
      · rename_i rs x y hop
        split at h
        · rename_i hv
          simp only [Option.some.injEq, Prod.mk.injEq] at h
          obtain ⟨rfl, rfl, rfl⟩ := h
          have hg : (gdTk fa z.s.t o true).1 = (gdTk fa z.s.t o true).2 := congrArg Tk.b e
          have hwd := want_of hg hw H.tm
          have e2 : ({ x with b := fun _ => none } : Tk) = { y with b := fun _ => none } := by
            obtain ⟨q1, i1, s1, r1, -⟩ := Tk.mk.inj e
            rw [q1, i1, s1, r1]
          have hh := op_hold H hop e2 hv (noSel_of hsel)
          unfold wpList
          rw [if_pos hwd]
          left
          refine Fin.wp (Fin.mono hh ?_)
          rintro v w' ⟨E', hE', H'⟩
          refine kk.out E' _ w' (by simp only [List.length_append, setsM_len]; omega) (fun i hi => ?_) H'
          rw [hE' i (by omega), hE i hi]
        · cases h
      · cases h
    · cases h
  · rename_i hw
    simp only [Option.some.injEq, Prod.mk.injEq] at h
    obtain ⟨rfl, rfl, rfl⟩ := h
    have hg : (gdTk fa z.s.t o false).1 = (gdTk fa z.s.t o false).2 := congrArg Tk.b e
    have hwd := want_of hg hw H.tm
    unfold wpList
    rw [if_neg (by rw [hwd]; exact Bool.false_ne_true)]
    refine kk.out E _ w hn hE ⟨tv_put E _ _ (vV undef) _ H.tm, by rw [put_defers]; exact H.df, H.mem, H.ok, ?_, H.wm⟩
    exact all_putS H.wt rfl
  · cases h
theorem step1_ok {P : Program} {S : Seat P} {c : Ctx} {E0 : Nat → Ent} {n : Nat} {B : Exit → Act → World → Prop} {z z' : Ms S fun w => Mem S c [] w} {a b : List Tk} (h : step1 z = some (z', a, b)) (e : a = b) (kk : OK S c E0 n B z'.K z'.s) : OK S c E0 n B z.K z.s := by
  unfold step1 at h
  split at h
  · cases h
  · rename_i f k hK
    rw [hK]
    split at h
    · rename_i hk
      obtain ⟨fk, fc, fi, fa, fr, fI⟩ := f
      simp only at hk h
      subst hk
      split at h
      · simp only [Option.some.injEq, Prod.mk.injEq] at h
        obtain ⟨rfl, rfl, rfl⟩ := h
        exact ⟨fun E a w hn hE H => wp_skip (kk.out E a w hn hE H)⟩
      · simp only [Option.some.injEq, Prod.mk.injEq] at h
        obtain ⟨rfl, rfl, rfl⟩ := h
        exact ⟨fun E a w hn hE H => wp_label (kk.out E a w hn hE H)⟩
      · simp only [Option.some.injEq, Prod.mk.injEq] at h
        obtain ⟨rfl, rfl, rfl⟩ := h
        exact ⟨fun E a w hn hE H => wp_seq (kk.out E a w hn hE H)⟩
      · split at h
        · rename_i hb
          simp only [Option.some.injEq, Prod.mk.injEq] at h
          obtain ⟨rfl, rfl, rfl⟩ := h
          exact ⟨fun E a w hn hE H => wp_cond_true (by rw [ev_den H.tm]; exact asBoolS_den hb E) (kk.out E a w hn hE H)⟩
        · rename_i hb
          simp only [Option.some.injEq, Prod.mk.injEq] at h
          obtain ⟨rfl, rfl, rfl⟩ := h
          exact ⟨fun E a w hn hE H => wp_cond_false (by rw [ev_den H.tm]; exact asBoolS_den hb E) (kk.out E a w hn hE H)⟩
        · cases h
      · simp only [Option.some.injEq, Prod.mk.injEq] at h
        obtain ⟨rfl, rfl, rfl⟩ := h
        exact ⟨fun E a w hn hE H => wp_block (kk.out E a w hn hE H)⟩
      · split at h
        · rename_i hx
          simp only [Option.some.injEq, Prod.mk.injEq] at h
          obtain ⟨rfl, rfl, rfl⟩ := h
          exact ⟨fun E a w hn hE H => wp_exit (post_exit hx (kk.out E a w hn hE H))⟩
        · cases h
      · simp only [Option.some.injEq, Prod.mk.injEq] at h
        obtain ⟨rfl, rfl, rfl⟩ := h
        refine ⟨fun E a w hn hE H => wp_region_list ?_⟩
        have := kk.out E a w hn hE H
        change wpList P (Array.toList _).toArray (post P B k) (Array.toList _) a w at this
        rw [Array.toArray_toList] at this
        exact this
      · rename_i rid rops
        split at h
        · rename_i r hr
          split at h
          · rename_i hc
            simp only [Option.some.injEq, Prod.mk.injEq] at h
            obtain ⟨rfl, rfl, rfl⟩ := h
            refine ⟨fun E a w hn hE H => ?_⟩
            have := reg_ok (id := rid) (Q := post P B k) hr e hc H fun E' a' w' hE' H' => kk.out E' a' w' (by
              have h1 := (regE_ok _ _ _ _ _ r hr e).2.2.2.2.2
              exact Nat.le_trans hn h1) (fun i hi => by rw [hE' i (by omega), hE i hi]) H'
            rwa [Array.toArray_toList] at this
          · cases h
        · cases h
      · cases h
    · rename_i hk
      obtain ⟨fk, fc, fi, fa, fr, fI⟩ := f
      simp only at hk
      subst hk
      simp only [Option.some.injEq, Prod.mk.injEq] at h
      obtain ⟨rfl, rfl, rfl⟩ := h
      exact ⟨fun E a w hn hE H => kk.out E a w hn hE H⟩
    · rename_i h2
      split at h
      · rename_i hr
        obtain ⟨fk, fc, fi, fa, fr, fI⟩ := f
        simp only at h2 hr
        subst h2
        subst hr
        simp only [Option.some.injEq, Prod.mk.injEq] at h
        obtain ⟨rfl, rfl, rfl⟩ := h
        exact ⟨fun E a w hn hE H => show wpList P fa.toArray (post P B k) [] a w from wpList_nil (kk.out E a w hn hE H)⟩
      · rename_i o rest hr
        split at h
        · rename_i z1 a1 b1 h1
          simp only [Option.some.injEq, Prod.mk.injEq] at h
          obtain ⟨rfl, rfl, rfl⟩ := h
          exact opM_ok h2 hr h1 (List.cons.inj e).1 kk
        · cases h
    · cases h
def runX {P : Program} {S : Seat P} {C : World → Prop} : Nat → Ms S C → Option (Ms S C × List (List Tk) × List (List Tk))
  | 0, z => some (z, [], [])
  | n + 1, z => match step1 z with
    | some (z', a, b) => match runX n z' with
      | some (z2, A, B) => some (z2, a :: A, b :: B)
      | none => none
    | none => none
theorem runX_ok {P : Program} {S : Seat P} {c : Ctx} {E0 : Nat → Ent} {n : Nat} {B : Exit → Act → World → Prop} : ∀ (N : Nat) {z z' : Ms S fun w => Mem S c [] w} {X Y : List (List Tk)}, runX N z = some (z', X, Y) → X = Y → OK S c E0 n B z'.K z'.s → OK S c E0 n B z.K z.s
  | 0, _, _, _, _, h, _, k => by cases h; exact k
  | N + 1, z, z', X, Y, h, e, k => by
    unfold runX at h
    split at h
    · rename_i z1 a b h1
      split at h
      · rename_i z2 A B' h2
        simp only [Option.some.injEq, Prod.mk.injEq] at h
        obtain ⟨rfl, rfl, rfl⟩ := h
        obtain ⟨e1, e2⟩ := List.cons.inj e
        exact step1_ok h1 e1 (runX_ok N h2 e2 k)
      · cases h
    · cases h
def outX {P : Program} {S : Seat P} {C : World → Prop} (N : Nat) (z : Ms S C) : Ms S C := match runX N z with
  | some r => r.1
  | none => z
def tkX {P : Program} {S : Seat P} {C : World → Prop} (N : Nat) (z : Ms S C) : List (List Tk) := match runX N z with
  | some r => r.2.1
  | none => []
section
variable {P : Program} {S : Seat P} {c : Ctx} {E0 : Nat → Ent} {n : Nat} {B : Exit → Act → World → Prop} {K : List Fr} {s : St}
/-- N steps, with words on some operations. -/
theorem xR (N : Nat) (ds : List (Nat × Dr S fun w => Mem S c [] w)) (k : OK S c E0 n B (outX N ⟨0, ds, K, s⟩).K (outX N ⟨0, ds, K, s⟩).s) (h : runX N ⟨0, ds, K, s⟩ = some (outX N ⟨0, ds, K, s⟩, tkX N ⟨0, ds, K, s⟩, tkX N ⟨0, ds, K, s⟩) := by kernel_rfl) : OK S c E0 n B K s := runX_ok (z := ⟨0, ds, K, s⟩) N h rfl k
/-- An 'if' whose test is open. -/
def condT (K : List Fr) (t : List SV) : Option Bool := match K with
  | f :: _ => match f.k with
    | 0 => match f.c with
      | .cond c _ _ => asBoolS (evS t c)
      | _ => none
    | _ => none
  | [] => none
def condK (b : Bool) (K : List Fr) : List Fr := match K with
  | f :: k => match f.k with
    | 0 => match f.c with
      | .cond _ x y => match b with
        | true => frC x :: k
        | false => frC y :: k
      | _ => []
    | _ => []
  | [] => []
theorem xF (b : Bool) (h1 : b = true → OK S c E0 n B (condK true K) s) (h2 : b = false → OK S c E0 n B (condK false K) s) (h : condT K s.t = some b := by kernel_rfl) : OK S c E0 n B K s := by
  unfold condT at h
  split at h
  · rename_i f k
    split at h
    · rename_i hk
      split at h
      · rename_i cc x y hc
        obtain ⟨fk, fc, fi, fa, fr, fI⟩ := f
        simp only at hk hc
        subst hk
        subst hc
        refine ⟨fun E a w hn hE H => ?_⟩
        have hb := asBoolS_den h E
        rw [← ev_den H.tm] at hb
        cases b with
        | true => exact wp_cond_true hb ((h1 rfl).out E a w hn hE H)
        | false => exact wp_cond_false hb ((h2 rfl).out E a w hn hE H)
      · cases h
    · cases h
  · cases h
theorem xFd (p : Prop) [Decidable p] (h1 : p → OK S c E0 n B (condK true K) s) (h2 : ¬ p → OK S c E0 n B (condK false K) s) (h : condT K s.t = some (decide p) := by kernel_rfl) : OK S c E0 n B K s :=
  xF (decide p) (fun e => h1 (of_decide_eq_true e)) (fun e => h2 (of_decide_eq_false e)) h
end

/-- Loops: what holds at a round's beginning (I x d: x tells how far it is, d what lies in slots that nobody reads again), with a measure. -/
def lpI {P : Program} (S : Seat P) (c : Ctx) (E0 : Nat → Ent) (n : Nat) {α : Type} (I : α → (Nat → Value) → St) (R : α → Prop) (μ : α → Nat) (x : α) : Act → World → Prop := fun a w =>
  ∃ (y : α) (d : Nat → Value) (E : Nat → Ent), R y ∧ μ y < μ x ∧ n ≤ (I y d).m.length ∧ (∀ i, i < n → E i = E0 i) ∧ Hold S c E (I y d) a w
theorem post_out {P : Program} {B : Exit → Act → World → Prop} {c : Code} {I : Act → World → Prop} {k : List Fr} : post P B (frC c :: frL I :: k) .normal = c.wp P (Exit.then I (post P B k)) := rfl
/-- A loop. D: slots that nobody reads again; j: where the items of a round's beginning lie. -/
theorem xLoop {P : Program} {S : Seat P} {c : Ctx} {E0 : Nat → Ent} {n : Nat} {B : Exit → Act → World → Prop} {body : Code} {k : List Fr} {s : St} {α : Type} (I : α → (Nat → Value) → St) (R : α → Prop) (μ : α → Nat) (x0 : α) (D j : List Nat) (h0 : R x0)
    (round : ∀ (x : α) (d : Nat → Value), R x → OK S c E0 n B (frC body :: frL (lpI S c E0 n I R μ x) :: k) (I x d))
    (hs : (fun d => subL D j (I x0 d)) = (fun d => subR D j n d s (I x0 d)) := by kernel_rfl) : OK S c E0 n B (frC (.loop body) :: k) s := by
  refine ⟨fun E a w hn hE H => ?_⟩
  show (Code.loop body).wp P (post P B k) a w
  have hex : ∀ (m : Nat) (a : Act) (w : World), (∃ (y : α) (d : Nat → Value) (E : Nat → Ent), R y ∧ μ y = m ∧ n ≤ (I y d).m.length ∧ (∀ i, i < n → E i = E0 i) ∧ Hold S c E (I y d) a w) → (Code.loop body).wp P (post P B k) a w := by
    intro m0 a0 w0 h
    refine wp_loop_ghost (fun m a w => ∃ (y : α) (d : Nat → Value) (E : Nat → Ent), R y ∧ μ y = m ∧ n ≤ (I y d).m.length ∧ (∀ i, i < n → E i = E0 i) ∧ Hold S c E (I y d) a w) m0 h fun m a w ⟨y, d, E, hy, hm, hn, hE, H⟩ => ?_
    refine wp_mono ((round y d hy).out E a w hn hE H) fun e a' w' hq => ?_
    cases e <;> first | exact hq | skip
    obtain ⟨z, d', E', hz, hlt, hn', hE', H'⟩ := hq
    exact ⟨μ z, by omega, z, d', E', hz, rfl, hn', hE', H'⟩
  obtain ⟨d, E', h1, h2, h3⟩ := sub_hold D j hs hE H
  exact hex (μ x0) a w ⟨x0, d, E', h0, rfl, h1, h2, h3⟩
/-- A round's end. -/
theorem xRnd {P : Program} {S : Seat P} {c : Ctx} {E0 : Nat → Ent} {n : Nat} {B : Exit → Act → World → Prop} {k : List Fr} {s : St} {α : Type} {I : α → (Nat → Value) → St} {R : α → Prop} {μ : α → Nat} {x : α} {K : List Fr} (y : α) (D j : List Nat) (hy : R y) (hlt : μ y < μ x)
    (hs : (fun d => subL D j (I y d)) = (fun d => subR D j n d s (I y d)) := by kernel_rfl) (hK : K = frL (lpI S c E0 n I R μ x) :: k := by kernel_rfl) : OK S c E0 n B K s := by
  subst hK
  refine ⟨fun E a w hn hE H => ?_⟩
  obtain ⟨d, E', h1, h2, h3⟩ := sub_hold D j hs hE H
  exact ⟨y, d, E', hy, hlt, h1, h2, h3⟩
/-- Slots and memory, but for what is told. -/
def upT (D : List Nat) (d : Nat → Value) (u : List (Nat × SV)) : Nat → List SV → List SV
  | _, [] => []
  | i, v :: l => (bif D.any (Nat.beq i) then vV (d i) else match u.find? (fun p => Nat.beq p.1 i) with
    | some p => p.2
    | none => v) :: upT D d u (i + 1) l
def upI {α : Type} (U : α → List (Nat × SV)) (W : α → List (Nat × It)) (D : List Nat) (s : St) (x : α) (d : Nat → Value) : St := ⟨upT D d (U x) 0 s.t, setsM s.m (W x)⟩
def lpB (K : List Fr) : Code := match K with
  | f :: _ => match f.c with
    | .loop b => b
    | _ => .skip
  | [] => .skip
def lpK (K : List Fr) : List Fr := match K with
  | _ :: k => k
  | [] => []
def lpY (K : List Fr) : Bool := match K with
  | f :: _ => match f.k with
    | 0 => match f.c with
      | .loop _ => true
      | _ => false
    | _ => false
  | [] => false
/-- Which round is gone. -/
structure Rd {P : Program} (S : Seat P) (c : Ctx) (E0 : Nat → Ent) (n : Nat) {α : Type} (I : α → (Nat → Value) → St) (R : α → Prop) (μ : α → Nat) (x : α) (k : List Fr) : Prop where
  t : True
theorem xNx {P : Program} {S : Seat P} {c : Ctx} {E0 : Nat → Ent} {n : Nat} {B : Exit → Act → World → Prop} {k : List Fr} {s : St} {α : Type} {I : α → (Nat → Value) → St} {R : α → Prop} {μ : α → Nat} {x : α} {K : List Fr} (g : Rd S c E0 n I R μ x k) (y : α) (D j : List Nat) (hy : R y) (hlt : μ y < μ x)
    (hs : (fun d => subL D j (I y d)) = (fun d => subR D j n d s (I y d)) := by kernel_rfl) (hK : K = frL (lpI S c E0 n I R μ x) :: k := by kernel_rfl) : OK S c E0 n B K s := xRnd y D j hy hlt hs hK
/-- A loop: U: what its rounds tell of slots, W: of items, D: slots that nobody reads again. -/
theorem xLp {P : Program} {S : Seat P} {c : Ctx} {E0 : Nat → Ent} {n : Nat} {B : Exit → Act → World → Prop} {K : List Fr} {s : St} {α : Type} (U : α → List (Nat × SV)) (W : α → List (Nat × It)) (D : List Nat) (R : α → Prop) (μ : α → Nat) (x0 : α) (h0 : R x0)
    (round : ∀ (x : α) (d : Nat → Value), R x → Rd S c E0 n (upI U W D s) R μ x (lpK K) → OK S c E0 n B (frC (lpB K) :: frL (lpI S c E0 n (upI U W D s) R μ x) :: lpK K) (upI U W D s x d))
    (hk : lpY K = true := by kernel_rfl)
    (hs : (fun d => subL D (List.range s.m.length) (upI U W D s x0 d)) = (fun d => subR D (List.range s.m.length) n d s (upI U W D s x0 d)) := by kernel_rfl) : OK S c E0 n B K s := by
  unfold lpY at hk
  split at hk
  · rename_i f k
    split at hk
    · rename_i hf
      split at hk
      · rename_i b hc
        obtain ⟨fk, fc, fi, fa, fr, fI⟩ := f
        simp only at hf hc
        subst hf
        subst hc
        refine ⟨fun E a w hn hE H => ?_⟩
        exact (xLoop (k := k) (upI U W D s) R μ x0 D (List.range s.m.length) h0 (fun x d h => round x d h ⟨trivial⟩) hs).out E a w hn hE H
      · cases hk
    · cases hk
  · cases hk
/-- The same from other slots and other memory that say less. -/
theorem xSub {P : Program} {S : Seat P} {c : Ctx} {E0 : Nat → Ent} {n : Nat} {B : Exit → Act → World → Prop} {K : List Fr} {s : St} (T : (Nat → Value) → St) (D j : List Nat) (h : ∀ d, OK S c E0 n B K (T d)) (hs : (fun d => subL D j (T d)) = (fun d => subR D j n d s (T d)) := by kernel_rfl) : OK S c E0 n B K s := by
  refine ⟨fun E a w hn hE H => ?_⟩
  obtain ⟨d, E', h1, h2, h3⟩ := sub_hold D j hs hE H
  exact (h d).out E' a w h1 h2 h3
end Go.Proofs.Ytlfekknonjlopaa
