/- Every order leads to where the text's order leads. -/
import Derived.Test.YtlfekknonjlopaaX9
namespace Go.Proofs.Ytlfekknonjlopaa
open Go.RowKit
set_option linter.unusedVariables false
set_option linter.unusedSimpArgs false

def hasN (l : List Nat) (i : Nat) : Bool := l.any (fun j => Nat.beq j i)
theorem hasN_iff {l : List Nat} {i : Nat} : hasN l i = true ↔ i ∈ l := by
  simp only [hasN, List.any_eq_true]
  exact ⟨fun ⟨j, hj, e⟩ => nbeq.1 e ▸ hj, fun h => ⟨i, h, nbeq.2 rfl⟩⟩
/-- What an operation waits for, in every order. -/
def preds (o : Oper) : List Nat := (o.after.toList.filter (Region.binds .any)).map (·.on)
def onceN (l : List Nat) : List Nat := l.foldl (fun a i => bif hasN a i then a else i :: a) []
def ancGo : List (List Nat) → List Oper → List (List Nat)
  | acc, [] => acc
  | acc, o :: l => ancGo (acc ++ [onceN ((preds o).flatMap fun p => p :: (acc[p]?).getD [])]) l
/-- These lists tell no more than what waits for what. -/
def okAnc (all : List Oper) (A : List (List Nat)) : Bool := (List.range all.length).all fun i => match all[i]? with
  | some o => (preds o).all (fun p => Nat.blt p i) && ((A[i]?).getD []).all fun k => (preds o).any fun p => Nat.beq k p || hasN ((A[p]?).getD []) k
  | none => true
def disj (l m : List Nat) : Bool := l.all fun i => !hasN m i
def newNo (b n : Nat) (j : Nat) : Bool := !newAt b n j
def noMent (e : Ef) (b n : Nat) : Bool := e.v.al (newNo b n) && e.W.all (fun p => p.2.al (newNo b n))
def dstL (e : Ef) : List Nat := match e.d with
  | some x => [x]
  | none => []
def ind1 (e f : Ef) : Bool := disj (dstL e) f.rd && (disj (dstL e) (dstL f) && (disj (e.W.map Prod.fst) (f.R ++ f.W.map Prod.fst) && noMent e f.b f.n))
def pairsOK (A : List (List Nat)) (es : List Ef) : Bool := (List.range es.length).all fun j => (List.range j).all fun i => hasN ((A[j]?).getD []) i || match es[i]?, es[j]? with
  | some e, some f => ind1 e f && ind1 f e
  | _, _ => true
def regOK (all : List Oper) (es : List Ef) : Bool := okAnc all (ancGo [] all) && pairsOK (ancGo [] all) es

section
variable {all : List Oper} {A : List (List Nat)}
theorem okAnc_lt (h : okAnc all A = true) {i p : Nat} {o : Oper} (ho : all[i]? = some o) (hp : p ∈ preds o) : p < i := by
  have hi := (List.getElem?_eq_some_iff.1 ho).1
  have := List.all_eq_true.1 h i (List.mem_range.2 hi)
  simp only [ho, Bool.and_eq_true, List.all_eq_true] at this
  simpa [Nat.blt_eq] using this.1 p hp
/-- What is done goes with all that it waits for. -/
theorem anc_in (h : okAnc all A = true) {D : Nat → Bool} (hD : ∀ j o, D j = true → all[j]? = some o → ∀ p ∈ preds o, D p = true) (hlt : ∀ j, D j = true → j < all.length) : ∀ (i : Nat) (o : Oper), all[i]? = some o → (∀ p ∈ preds o, D p = true) → ∀ k ∈ (A[i]?).getD [], D k = true := by
  intro i
  induction i using Nat.strongRecOn with
  | _ i ih =>
    intro o ho hp k hk
    have hi := (List.getElem?_eq_some_iff.1 ho).1
    have := List.all_eq_true.1 h i (List.mem_range.2 hi)
    simp only [ho, Bool.and_eq_true, List.all_eq_true] at this
    have hk2 := this.2 k hk
    simp only [List.any_eq_true, Bool.or_eq_true] at hk2
    obtain ⟨p, hpm, hq⟩ := hk2
    rcases hq with hq | hq
    · rw [nbeq.1 hq]
      exact hp p hpm
    · have hpD := hp p hpm
      have hpl := hlt p hpD
      exact ih p (okAnc_lt h ho hpm) all[p] (List.getElem?_eq_getElem hpl) (hD p _ hpD (List.getElem?_eq_getElem hpl)) k (hasN_iff.1 hq)
end
theorem disj_of {l m : List Nat} (h : disj l m = true) {i : Nat} (hl : i ∈ l) : i ∉ m := fun hm => by
  have := List.all_eq_true.1 h i hl
  rw [hasN_iff.2 hm] at this
  cases this
theorem newAt_iff {b n j : Nat} : newAt b n j = true ↔ b ≤ j ∧ j < b + n := by
  simp [newAt, Nat.blt_eq]
theorem ix_len : ∀ (N : List It) (b : Nat), (ix b N).length = N.length
  | [], _ => rfl
  | _ :: N, b => congrArg (· + 1) (ix_len N (b + 1))
theorem ix_key : ∀ (N : List It) (k j : Nat) (x : It), N[j]? = some x → (k + j, x) ∈ ix k N := by
  intro N
  induction N with
  | nil => intro k j x h; simp at h
  | cons y N ih =>
    intro k j x h
    cases j with
    | zero => simp at h; subst h; simp [ix]
    | succ j =>
      simp only [ix, List.mem_cons]
      right
      have := ih (k + 1) j x (by simpa using h)
      rwa [show k + 1 + j = k + (j + 1) by omega] at this
theorem noTw_iff {l : List Nat} : noTw l = true ↔ l.Nodup := by
  induction l with
  | nil => simp [noTw]
  | cons i l ih =>
    simp only [noTw, Bool.and_eq_true, List.all_eq_true, List.nodup_cons, ih]
    constructor
    · rintro ⟨h1, h2⟩
      refine ⟨fun hm => ?_, h2⟩
      have := h1 i hm
      rw [Nat.beq_refl] at this
      cases this
    · rintro ⟨h1, h2⟩
      refine ⟨fun j hj => ?_, h2⟩
      rw [nbne.2 (fun e : i = j => h1 (by rw [e]; exact hj))]
      rfl
theorem ix_nodup : ∀ (N : List It) (b : Nat), ((ix b N).map Prod.fst).Nodup
  | [], _ => by simp [ix]
  | x :: N, b => by
    simp only [ix, List.map_cons, List.nodup_cons]
    refine ⟨fun h => ?_, ix_nodup N (b + 1)⟩
    obtain ⟨p, hp, e⟩ := List.mem_map.1 h
    have := ix_fst N (b + 1) p hp
    omega
/-- An operation where the places of what it makes lie ready. -/
theorem ls_gap {P : Program} {S : Seat P} {c : Ctx} {q : (Nat → Ent) → Sem Next} {m : List It} {R : List Nat} {W : List (Nat × It)} {N : List It} {b : Nat} {v : SV} {pre : List (Nat × It)} (hlt : ∀ i ∈ R ++ W.map Prod.fst, i < b) (hnd : noTw (R ++ W.map Prod.fst) = true) (hb : b + N.length ≤ m.length)
    (hpre : pre = lk m (R ++ W.map Prod.fst)) (h : LS S (fun w => Mem S c [] w) q pre (newAt b N.length) v (lk m R ++ (W ++ ix b N))) (hg : ∀ j, b ≤ j → j < b + N.length → m[j]? = some gap) {E : Nat → Ent} {w : World} (M : Mem S c (dens E 0 m) w) (hok : oks E m) (hal : m.all (It.al (newNo b N.length)) = true) :
    Fin P ((q E).run P w) fun r w' => ∃ E' : Nat → Ent, (∀ i, newAt b N.length i = false → E' i = E i) ∧ r = v.den E' ∧ Mem S c (dens E' 0 (setsM m (W ++ ix b N))) w' ∧ oks E' (setsM m (W ++ ix b N)) := by
  subst hpre
  have hin : inM m (R ++ (W ++ ix b N).map Prod.fst) = true := by
    simp only [inM, Bool.and_eq_true, List.all_eq_true]
    refine ⟨fun i hi => ?_, ?_⟩
    · rw [List.map_append, ← List.append_assoc] at hi
      rcases List.mem_append.1 hi with hi | hi
      · have := hlt i hi
        simp only [isLt, Nat.blt_eq]
        omega
      · obtain ⟨p, hp, rfl⟩ := List.mem_map.1 hi
        have := ix_fst N b p hp
        simp only [isLt, Nat.blt_eq]
        omega
    · rw [noTw_iff, List.map_append, ← List.append_assoc, List.nodup_append]
      refine ⟨noTw_iff.1 hnd, ix_nodup N b, fun x hx y hy e => ?_⟩
      obtain ⟨p, hp, rfl⟩ := List.mem_map.1 hy
      have := ix_fst N b p hp
      have := hlt x hx
      omega
  have p := dens_part E _ _ hin
  have M1 := M.perm p
  have hixg : ∀ (N : List It) (b : Nat), (∀ j, b ≤ j → j < b + N.length → m[j]? = some gap) → denP E (lk m ((ix b N).map Prod.fst)) = [] := by
    intro N
    induction N with
    | nil => intro b _; rfl
    | cons x N ih =>
      intro b hg
      simp only [ix, List.map_cons, lk, denP]
      rw [hg b (Nat.le_refl _) (by simp)]
      have := ih (b + 1) fun j h1 h2 => hg j (by omega) (by simp at h2 ⊢; omega)
      simp only [lk] at this
      rw [this]
      rfl
  have e1 : denP E (lk m (R ++ (W ++ ix b N).map Prod.fst)) = denP E (lk m (R ++ W.map Prod.fst)) := by
    rw [List.map_append, ← List.append_assoc, lk_app, denP_app, hixg N b hg, List.append_nil]
  rw [e1] at M1
  have hin' := hin
  simp only [inM, Bool.and_eq_true, List.all_eq_true] at hin'
  have hlt2 : ∀ i ∈ R ++ (W ++ ix b N).map Prod.fst, i < m.length := fun i hi => by simpa [isLt, Nat.blt_eq] using hin'.1 i hi
  refine (h E w M.laid (fun w' hg => ?_) (M1.drop (List.sublist_append_left _ _)).there fun x hx => ?_).mono ?_
  · refine ⟨M.old.trans hg fun x hx => ?_, by simp, by simp, by simp, M.lay, M.ne⟩
    obtain ⟨d, hd, rfl⟩ := List.mem_map.1 hx
    exact M1.ge d (List.mem_append_left _ hd)
  · obtain ⟨i, hi, rfl⟩ := List.mem_map.1 hx
    have hl : i < m.length := by have := hlt i hi; omega
    simp only [List.getElem?_eq_getElem hl, Option.getD_some]
    exact hok i _ (List.getElem?_eq_getElem hl)
  · rintro r w' ⟨E', hE, hok', hr, hT⟩
    refine ⟨E', hE, hr, ?_, ?_⟩
    · have M2 := M1.step hT
      refine M2.perm ?_
      have p2 := dens_part E' (R ++ (W ++ ix b N).map Prod.fst) (setsM m (W ++ ix b N)) (by simpa only [inM, setsM_len] using hin)
      rw [lk_sets hin, gapM_sets] at p2
      have e : dens E' 0 (gapM m (R ++ (W ++ ix b N).map Prod.fst)) = dens E 0 (gapM m (R ++ (W ++ ix b N).map Prod.fst)) := by
        have key : ∀ (l : List It) (k : Nat), (∀ i x, l[i]? = some x → newAt b N.length (k + i) = true → x = gap) → l.all (It.al (newNo b N.length)) = true → dens E' k l = dens E k l := by
          intro l
          induction l with
          | nil => intro _ _ _; rfl
          | cons x l ih =>
            intro k h1 h2
            simp only [List.all_cons, Bool.and_eq_true] at h2
            simp only [dens]
            rw [ih (k + 1) (fun i y hy hn => h1 (i + 1) y (by simpa using hy) (by rwa [show k + (i + 1) = k + 1 + i by omega])) h2.2]
            congr 1
            cases hn : newAt b N.length k with
            | true =>
              have := h1 0 x rfl (by simpa using hn)
              subst this
              rfl
            | false =>
              exact x.den_congr (p := newNo b N.length) (fun i hi => hE i (by simpa [newNo] using hi)) (hE k hn) h2.1
        refine key _ 0 (fun i x hx hn => ?_) (all_gapM rfl _ hal)
        rw [Nat.zero_add] at hn
        have hm : i ∈ R ++ (W ++ ix b N).map Prod.fst := by
          obtain ⟨h1, h2⟩ := newAt_iff.1 hn
          rw [List.map_append]
          refine List.mem_append_right _ (List.mem_append_right _ ?_)
          have hj : i - b < N.length := by omega
          have := ix_key N b (i - b) N[i - b] (List.getElem?_eq_getElem hj)
          rw [show b + (i - b) = i by omega] at this
          exact List.mem_map.2 ⟨_, this, rfl⟩
        rw [gapM_at _ _ _ hm (hlt2 i hm)] at hx
        exact (Option.some.inj hx).symm
      rw [e, denP_app] at p2
      rw [denP_app]
      exact p2.symm
    · intro i x hx
      by_cases hw : i ∈ (W ++ ix b N).map Prod.fst
      · obtain ⟨q, hq, rfl⟩ := List.mem_map.1 hw
        rw [setsM_at (W ++ ix b N) m (noTw_append hin'.2).1 (fun r hr => hlt2 _ (List.mem_append_right _ (List.mem_map_of_mem hr))) q hq] at hx
        cases hx
        exact hok' q (List.mem_append_right _ hq)
      · rw [setsM_get _ _ _ fun q hq e => hw (List.mem_map.2 ⟨q, hq, e⟩)] at hx
        by_cases hn : newAt b N.length i = true
        · exfalso
          obtain ⟨h1, h2⟩ := newAt_iff.1 hn
          have hj : i - b < N.length := by omega
          have := ix_key N b (i - b) N[i - b] (List.getElem?_eq_getElem hj)
          rw [show b + (i - b) = i by omega] at this
          exact hw (by rw [List.map_append]; exact List.mem_append_right _ (List.mem_map.2 ⟨_, this, rfl⟩))
        · rw [It.ok_congr (hE i (by simpa using hn))]
          exact hok i x hx

theorem wanted_at {all : List Oper} {o : Oper} {t t' : Array Value} (h : ∀ x ∈ o.looksAt all.toArray, t.getD x undef = t'.getD x undef) : Region.wanted o (yielded all.toArray t) = Region.wanted o (yielded all.toArray t') := by
  unfold Region.wanted
  cases hg : o.guard with
  | none => rfl
  | some gw =>
    obtain ⟨g, want⟩ := gw
    have hy : yielded all.toArray t g = yielded all.toArray t' g := by
      unfold yielded
      cases ht : (all.toArray[g]?).bind (·.dst) with
      | none => rfl
      | some d =>
        have hm : d ∈ o.looksAt all.toArray := by
          unfold Oper.looksAt
          rw [hg]
          simp only [ht]
          exact List.mem_append_right _ (by simp)
        have := h d hm
        rw [Array.getD_eq_getD_getElem?, Array.getD_eq_getD_getElem?] at this
        simp only [Option.bind_some]
        cases h1 : t[d]? <;> cases h2 : t'[d]? <;> rw [h1, h2] at this <;> simp only [Option.getD_some, Option.getD_none] at this
        · subst this; rfl
        · subst this; rfl
        · subst this; rfl
    simp only [hy]
theorem want_of' {all : List Oper} {t : List SV} {o : Oper} {b : Bool} (h : (gdTk all t o b).1 = (gdTk all t o b).2) (hw : wantS all t o = some b) (E : Nat → Ent) : Region.wanted o (yielded all.toArray (tv E t)) = b :=
  want_of h hw (a := ⟨tv E t, []⟩) rfl
theorem tv_at (E : Nat → Ent) (t : List SV) (x : Nat) : (tv E t).getD x undef = ((t[x]?).getD (vV undef)).den E := by
  rw [Array.getD_eq_getD_getElem?]
  simp only [tv, List.getElem?_toArray, List.getElem?_map]
  cases t[x]? <;> rfl
/-- A region whose order is open. -/
theorem reg_ok {P : Program} {S : Seat P} {c : Ctx} {all : List Oper} {n : Nat} {ds : List (Nat × Dr S fun w => Mem S c [] w)} {s : St} {r : Re S fun w => Mem S c [] w} {id : Nat} {Q : Exit → Act → World → Prop} (hr : regE all n ds s.t s.m all = some r) (hA : r.A = r.B) (hc : regOK all r.es = true)
    {E : Nat → Ent} {a : Act} {w : World} (H : Hold S c E s a w) (k : ∀ E' a' w', (∀ i, i < s.m.length → E' i = E i) → Hold S c E' ⟨r.t, r.m⟩ a' w' → Q .normal a' w') : (Code.region id all.toArray true).wp P Q a w := by
  obtain ⟨hlen, hfin, hat, hmono, hal, hlm⟩ := regE_ok all n ds s.t s.m r hr hA
  simp only [regOK, Bool.and_eq_true] at hc
  obtain ⟨hanc, hpair⟩ := hc
  generalize ancGo [] all = A at hanc hpair
  have pairs : ∀ (i j : Nat) (e f : Ef), r.es[i]? = some e → r.es[j]? = some f → i ≠ j → i ∈ (A[j]?).getD [] ∨ j ∈ (A[i]?).getD [] ∨ (ind1 e f = true ∧ ind1 f e = true) := by
    intro i j e f he hf hij
    have hi := (List.getElem?_eq_some_iff.1 he).1
    have hj := (List.getElem?_eq_some_iff.1 hf).1
    rcases Nat.lt_or_gt_of_ne hij with h | h
    · have := List.all_eq_true.1 (List.all_eq_true.1 hpair j (List.mem_range.2 hj)) i (List.mem_range.2 h)
      simp only [he, hf, Bool.or_eq_true, Bool.and_eq_true] at this
      exact this.imp hasN_iff.1 fun h => .inr h
    · have := List.all_eq_true.1 (List.all_eq_true.1 hpair i (List.mem_range.2 hi)) j (List.mem_range.2 h)
      simp only [he, hf, Bool.or_eq_true, Bool.and_eq_true] at this
      exact .inr (this.imp hasN_iff.1 fun h => h.symm)
  let s0 : St := ⟨s.t, s.m ++ gaps (sumN r.es)⟩
  -- what holds behind those that are listed
  let Inv : Array Bool → Act → World → Prop := fun L a w => L.size = all.length ∧ (∀ (j : Nat) (o : Oper), L.getD j false = true → all[j]? = some o → ∀ p ∈ preds o, L.getD p false = true) ∧
    ∃ E' : Nat → Ent, (∀ i, i < s.m.length → E' i = E i) ∧ a.tmps = tv E' (stD (fun j => L.getD j false) 0 s0 r.es).t ∧ a.defers = [] ∧ Mem S c (dens E' 0 (stD (fun j => L.getD j false) 0 s0 r.es).m) w ∧ oks E' (stD (fun j => L.getD j false) 0 s0 r.es).m
  have key : ∀ (fuel : Nat) (L : Array Bool) (a : Act) (w : World), (L.toList.countP (fun b => !b)) = fuel → Inv L a w → wpAny P .any all.toArray Q fuel L a w := by
    intro fuel
    induction fuel with
    | zero =>
      intro L a w hcnt ⟨hsz, hcl, E', hE', htm, hdf, hM, hok⟩
      have hall : ∀ j, j < all.length → L.getD j false = true := fun j hj => by
        have h1 := List.countP_eq_zero.1 hcnt
        have h2 : L.toList[j]? = some L[j] := by rw [Array.getElem?_toList]; exact Array.getElem?_eq_getElem (by omega)
        have h3 := h1 L[j] (List.mem_of_getElem? h2)
        rw [Array.getD_eq_getD_getElem?, Array.getElem?_eq_getElem (by omega)]
        simpa using h3
      have hst : stD (fun j => L.getD j false) 0 s0 r.es = ⟨r.t, r.m⟩ := by
        rw [hfin]
        exact stD_congr _ _ _ fun j _ hj => hall j (by omega)
      rw [hst] at htm hM hok
      refine ⟨?_, k E' a w hE' ⟨htm, hdf, hM, hok, (hal H.wt H.wm).1, (hal H.wt H.wm).2⟩⟩
      cases hrd : Region.ready .any all.toArray L with
      | nil => rfl
      | cons i l =>
        exfalso
        have hm : i ∈ Region.ready .any all.toArray L := by rw [hrd]; simp
        obtain ⟨h1, o, ho, -⟩ := mem_ready.1 hm
        have hi : i < all.length := by simpa using (Array.getElem?_eq_some_iff.1 ho).1
        have := hall i hi
        rw [Array.getD_eq_getD_getElem?, Array.getElem?_eq_getElem (by omega)] at h1 this
        simp only [Option.getD_some] at h1 this
        rw [this] at h1
        cases h1
    | succ fuel ih =>
      intro L a w hcnt hI
      obtain ⟨hsz, hcl, E', hE', htm, hdf, hM, hok⟩ := hI
      have hD : ∀ j o, L.getD j false = true → all[j]? = some o → ∀ p ∈ preds o, L.getD p false = true := hcl
      have hDlt : ∀ j, L.getD j false = true → j < all.length := fun j h => by
        rw [Array.getD_eq_getD_getElem?] at h
        cases hj : L[j]? with
        | none => rw [hj] at h; cases h
        | some b => have := (Array.getElem?_eq_some_iff.1 hj).1; omega
      refine ⟨fun hrd => ?_, fun i hi => ?_⟩
      · -- something is ready: the first that is not listed
        exfalso
        have hex : ∃ j, j < all.length ∧ L.getD j false = false := by
          refine Classical.byContradiction fun hno => ?_
          have : L.toList.countP (fun b => !b) = 0 := List.countP_eq_zero.2 fun b hb => by
            obtain ⟨j, hj⟩ := List.mem_iff_getElem?.1 hb
            have hjl := (List.getElem?_eq_some_iff.1 hj).1
            simp only [Array.length_toList] at hjl
            have : L.getD j false = true := by
              cases h : L.getD j false with
              | true => rfl
              | false => exact absurd ⟨j, by omega, h⟩ hno
            rw [Array.getD_eq_getD_getElem?, ← Array.getElem?_toList, hj] at this
            simpa using this
          omega
        obtain ⟨j, hj, hj2⟩ := hex
        have hmin : ∃ j, (j < all.length ∧ L.getD j false = false) ∧ ∀ i, i < j → L.getD i false = true := by
          clear hcnt ih
          induction j using Nat.strongRecOn with
          | _ j ihj =>
            by_cases h : ∃ i, i < j ∧ L.getD i false = false
            · obtain ⟨i, h1, h2⟩ := h
              exact ihj i h1 (by omega) h2
            · refine ⟨j, ⟨hj, hj2⟩, fun i hi => ?_⟩
              cases h2 : L.getD i false with
              | true => rfl
              | false => exact absurd ⟨i, hi, h2⟩ h
        obtain ⟨j, ⟨hj, hj2⟩, hmin⟩ := hmin
        have : j ∈ Region.ready .any all.toArray L := mem_ready.2 ⟨by
          rw [Array.getD_eq_getD_getElem?, Array.getElem?_eq_getElem (by omega)] at hj2 ⊢
          simpa using hj2, all[j], by simp [hj], fun e he hb => hmin _ (okAnc_lt hanc (List.getElem?_eq_getElem hj) (by
          unfold preds
          exact List.mem_map.2 ⟨e, List.mem_filter.2 ⟨by simpa using he, hb⟩, rfl⟩))⟩
        rw [hrd] at this
        cases this
      · obtain ⟨hun, o, ho, hpr⟩ := mem_ready.1 hi
        have ho' : all[i]? = some o := by simpa using ho
        have hil := (List.getElem?_eq_some_iff.1 ho').1
        have hiF : L.getD i false = false := by
          rw [Array.getD_eq_getD_getElem?, Array.getElem?_eq_getElem (by omega)] at hun ⊢
          simpa using hun
        obtain ⟨e, he⟩ : ∃ e, r.es[i]? = some e := ⟨r.es[i], List.getElem?_eq_getElem (by omega)⟩
        have hprD : ∀ p ∈ preds o, L.getD p false = true := fun p hp => by
          obtain ⟨x, hx, rfl⟩ := List.mem_map.1 hp
          obtain ⟨hx1, hx2⟩ := List.mem_filter.1 hx
          exact hpr x (by simpa using hx1) hx2
        have hanD : ∀ k ∈ (A[i]?).getD [], L.getD k false = true := anc_in hanc hD hDlt i o ho' hprD
        -- nobody who waits for i is listed
        have hnot : ∀ j, L.getD j false = true → i ∉ (A[j]?).getD [] := fun j hj hm => by
          have hjl := hDlt j hj
          have := anc_in hanc hD hDlt j all[j] (List.getElem?_eq_getElem hjl) (hD j _ hj (List.getElem?_eq_getElem hjl)) i hm
          rw [hiF] at this
          cases this
        have hancl : ∀ k ∈ (A[i]?).getD [], k < i := by
          have : ∀ (i : Nat) (o : Oper), all[i]? = some o → ∀ k ∈ (A[i]?).getD [], k < i := by
            intro i
            induction i using Nat.strongRecOn with
            | _ i ihi =>
              intro o ho k hk
              have hi := (List.getElem?_eq_some_iff.1 ho).1
              have h2 := List.all_eq_true.1 hanc i (List.mem_range.2 hi)
              simp only [ho, Bool.and_eq_true, List.all_eq_true] at h2
              have hk2 := h2.2 k hk
              simp only [List.any_eq_true, Bool.or_eq_true] at hk2
              obtain ⟨p, hpm, hq⟩ := hk2
              have hpi := okAnc_lt hanc ho hpm
              rcases hq with hq | hq
              · rw [nbeq.1 hq]; exact hpi
              · have := ihi p hpi all[p] (List.getElem?_eq_getElem (by omega)) k (hasN_iff.1 hq)
                omega
          exact this i o ho'
        -- who meddles with i is done just if it stands ahead in the text
        have hmask : ∀ (j : Nat) (f : Ef), r.es[j]? = some f → ¬ (ind1 e f = true ∧ ind1 f e = true) → L.getD j false = Nat.blt j i := by
          intro j f hf hni
          by_cases hji : j = i
          · subst hji
            rw [hiF]
            symm
            rw [← Bool.not_eq_true, Nat.blt_eq]
            omega
          · rcases pairs i j e f he hf (fun h => hji h.symm) with h | h | h
            · -- i ahead of j
              have h1 : L.getD j false = false := by
                cases hj : L.getD j false with
                | false => rfl
                | true => exact absurd h (hnot j hj)
              rw [h1]
              symm
              rw [← Bool.not_eq_true, Nat.blt_eq]
              have hjl := (List.getElem?_eq_some_iff.1 hf).1
              have : i < j := by
                have h3 : ∀ (j : Nat) (o : Oper), all[j]? = some o → ∀ k ∈ (A[j]?).getD [], k < j := by
                  intro i
                  induction i using Nat.strongRecOn with
                  | _ i ihi =>
                    intro o ho k hk
                    have hi := (List.getElem?_eq_some_iff.1 ho).1
                    have h2 := List.all_eq_true.1 hanc i (List.mem_range.2 hi)
                    simp only [ho, Bool.and_eq_true, List.all_eq_true] at h2
                    have hk2 := h2.2 k hk
                    simp only [List.any_eq_true, Bool.or_eq_true] at hk2
                    obtain ⟨p, hpm, hq⟩ := hk2
                    have hpi := okAnc_lt hanc ho hpm
                    rcases hq with hq | hq
                    · rw [nbeq.1 hq]; exact hpi
                    · have := ihi p hpi all[p] (List.getElem?_eq_getElem (by omega)) k (hasN_iff.1 hq)
                      omega
                exact h3 j all[j] (List.getElem?_eq_getElem (by omega)) i h
              omega
            · rw [hanD j h]
              symm
              rw [Nat.blt_eq]
              exact hancl j h
            · exact absurd h hni
        obtain ⟨mi, g, hmi, heb, hlb, hfact⟩ := hat i o e ho' he
        have hlenD := stD_len (fun j => L.getD j false) r.es 0 s0
        have hlenI := stD_len (fun j => Nat.blt j i) r.es 0 s0
        have hslot : ∀ x ∈ e.rd, (stD (fun j => L.getD j false) 0 s0 r.es).t[x]? = (stD (fun j => Nat.blt j i) 0 s0 r.es).t[x]? := fun x hx => by
          refine stD_slot r.es 0 s0 s0 rfl rfl fun j f hf hd => ?_
          rw [Nat.zero_add]
          refine hmask j f hf fun h => ?_
          have h2 := h.2
          simp only [ind1, Bool.and_eq_true] at h2
          exact disj_of h2.1 (by simp [dstL, hd]) hx
        have hitem : ∀ x ∈ e.R ++ e.W.map Prod.fst, (stD (fun j => L.getD j false) 0 s0 r.es).m[x]? = (stD (fun j => Nat.blt j i) 0 s0 r.es).m[x]? := fun x hx => by
          refine stD_item r.es 0 s0 s0 rfl rfl fun j f hf hd => ?_
          rw [Nat.zero_add]
          refine hmask j f hf fun h => ?_
          have h2 := h.2
          simp only [ind1, Bool.and_eq_true] at h2
          exact disj_of h2.2.2.1 hd hx
        have hcomm : ∀ j f, r.es[j]? = some f → i < j → L.getD (0 + j) false = true → (∀ x, e.d = some x → f.d ≠ some x) ∧ ∀ p ∈ e.W, ∀ q ∈ f.W, p.1 ≠ q.1 := fun j f hf hij hj => by
          rw [Nat.zero_add] at hj
          rcases pairs i j e f he hf (by omega) with h | h | h
          · exact absurd h (hnot j hj)
          · have := hancl j h; omega
          · have h1 := h.1
            simp only [ind1, Bool.and_eq_true] at h1
            refine ⟨fun x hx hf2 => disj_of h1.2.1 (i := x) (by simp [dstL, hx]) (by simp [dstL, hf2]), fun p hp q hq e2 => disj_of h1.2.2.1 (List.mem_map_of_mem hp) (List.mem_append_right _ (List.mem_map.2 ⟨q, hq, e2.symm⟩))⟩
        have hmore : stD (fun j => (L.setIfInBounds i true).getD j false) 0 s0 r.es = e.ap (stD (fun j => L.getD j false) 0 s0 r.es) := by
          rw [← stD_more (D := fun j => L.getD j false) (i := i) (e := e) r.es 0 s0 he (by simpa using hiF) hcomm]
          refine stD_congr _ _ _ fun j _ hj => ?_
          by_cases hji : j = i
          · subst hji
            simp [Nat.beq_refl, Array.getD_eq_getD_getElem?, show j < L.size by omega]
          · rw [Nat.zero_add, nbne.2 hji, cond_false, Array.getD_eq_getD_getElem?, Array.getD_eq_getD_getElem?, Array.getElem?_setIfInBounds_ne (fun h => hji h.symm)]
        have hcnt2 : (L.setIfInBounds i true).toList.countP (fun b => !b) = fuel := by
          have hL : L.toList[i]? = some false := by
            rw [Array.getElem?_toList, Array.getElem?_eq_getElem (by omega)]
            rw [Array.getD_eq_getD_getElem?, Array.getElem?_eq_getElem (by omega)] at hiF
            simpa using hiF
          have h2 : ∀ (l : List Bool) (i : Nat), l[i]? = some false → (l.set i true).countP (fun b => !b) + 1 = l.countP (fun b => !b) := by
            intro l
            induction l with
            | nil => intro i h; simp at h
            | cons b l ih =>
              intro i h
              cases i with
              | zero => simp at h; subst h; simp
              | succ i =>
                simp only [List.set_cons_succ, List.countP_cons]
                have := ih i (by simpa using h)
                omega
          have := h2 L.toList i hL
          rw [Array.toList_setIfInBounds]
          omega
        have hcl2 : ∀ (j : Nat) (o : Oper), (L.setIfInBounds i true).getD j false = true → all[j]? = some o → ∀ p ∈ preds o, (L.setIfInBounds i true).getD p false = true := fun j o2 hj ho2 p hp => by
          by_cases hji : j = i
          · subst hji
            rw [ho'] at ho2
            cases ho2
            exact getD_set_true (hprD p hp)
          · rw [Array.getD_eq_getD_getElem?, Array.getElem?_setIfInBounds_ne (fun h => hji h.symm), ← Array.getD_eq_getD_getElem?] at hj
            exact getD_set_true (hcl j o2 hj ho2 p hp)
        have hrdx : e.rd = o.looksAt all.toArray := by
          rcases hfact with ⟨d, rs, x, y, -, -, -, -, -, -, rfl⟩ | ⟨-, -, rfl⟩ <;> rfl
        have hlook : ∀ (E' : Nat → Ent), ∀ x ∈ o.looksAt all.toArray, (tv E' (stD (fun j => L.getD j false) 0 s0 r.es).t).getD x undef = (tv E' (stD (fun j => Nat.blt j i) 0 s0 r.es).t).getD x undef := fun E' x hx => by
          rw [tv_at, tv_at, hslot x (by rw [hrdx]; exact hx)]
        unfold wpOp
        rw [ho]
        simp only
        rcases hfact with ⟨d, rs, x, y, hop, hxy, hsel, hw, hgd, hv, hedef⟩ | ⟨hw, hgd, hedef⟩
        · have hwd : Region.wanted o (yielded all.toArray a.tmps) = true := by
            rw [htm, wanted_at (hlook E')]
            exact want_of' hgd hw E'
          rw [if_pos hwd]
          left
          obtain ⟨hin, hls⟩ := opS_ok hop hxy
          have hex : execOp a.eval o = execOp (fun x => (evS (stD (fun j => Nat.blt j i) 0 s0 r.es).t x).den E') o := execOp_congr o (noSel_of hsel) fun z hz => by
            cases z with
            | tmp k =>
              simp only [Act.eval, evS, htm]
              rw [hlook E' k (List.mem_append_left _ (List.mem_filterMap.2 ⟨.tmp k, by simpa using hz, rfl⟩)), tv_at]
            | const v => rfl
            | global g => rfl
            | func f => rfl
          simp only [inM, Bool.and_eq_true, List.all_eq_true] at hin
          have hltm : ∀ j ∈ rs.R ++ rs.W.map Prod.fst, j < mi.length := fun j hj => by simpa [isLt, Nat.blt_eq] using hin.1 j hj
          have hsub : ∀ j ∈ rs.R ++ rs.W.map Prod.fst, j ∈ e.R ++ e.W.map Prod.fst := fun j hj => by
            rw [hedef]
            simp only [List.map_append]
            rcases List.mem_append.1 hj with h | h
            · exact List.mem_append_left _ h
            · exact List.mem_append_right _ (List.mem_append_left _ h)
          have hm1 : ∀ j ∈ rs.R ++ rs.W.map Prod.fst, (stD (fun j => L.getD j false) 0 s0 r.es).m[j]? = mi[j]? := fun j hj => by
            rw [hitem j (hsub j hj), hmi, List.getElem?_append_left (hltm j hj)]
          have hlenm : (stD (fun j => L.getD j false) 0 s0 r.es).m.length = mi.length + g := by
            rw [hlenD.2, ← hlenI.2, hmi]
            simp [gaps]
          have hnew : ∀ j, mi.length ≤ j → j < mi.length + rs.N.length → j ∈ e.R ++ e.W.map Prod.fst := fun j h1 h2 => by
            rw [hedef]
            simp only [List.map_append]
            refine List.mem_append_right _ (List.mem_append_right _ ?_)
            have := ix_key rs.N mi.length (j - mi.length) rs.N[j - mi.length] (List.getElem?_eq_getElem (by omega))
            rw [show mi.length + (j - mi.length) = j by omega] at this
            exact List.mem_map.2 ⟨_, this, rfl⟩
          have hgapx : ∀ j, mi.length ≤ j → j < mi.length + rs.N.length → (stD (fun j => L.getD j false) 0 s0 r.es).m[j]? = (gaps g)[j - mi.length]? := fun j h1 h2 => by
            rw [hitem j (hnew j h1 h2), hmi, List.getElem?_append_right h1]
          have hgb : rs.N.length ≤ g := by
            -- the places lie ready
            have hsum : ∀ (l : List Ef) (i : Nat) (e : Ef), l[i]? = some e → e.n ≤ sumN l := by
              intro l
              induction l with
              | nil => intro i e h; simp at h
              | cons f l ih =>
                intro i e h
                cases i with
                | zero => simp at h; subst h; simp [sumN]
                | succ i => have := ih i e (by simpa using h); simp only [sumN]; omega
            have hfinal : mi.length + rs.N.length ≤ r.m.length := by
              -- of all that is made, the last place is within
              have h1 : (stD (fun _ => true) 0 s0 r.es).m.length = s.m.length + sumN r.es := by rw [(stD_len _ _ _ _).2]; simp [s0, gaps]
              have h2 : ∀ (l : List Ef) (b : Nat), (∀ (i j : Nat) (e f : Ef), l[i]? = some e → l[j]? = some f → i < j → e.b + e.n ≤ f.b) → (∀ (i : Nat) (e : Ef), l[i]? = some e → e.b + e.n ≤ b + sumN l) ∨ ∃ (i : Nat) (e : Ef), l[i]? = some e ∧ b + sumN l < e.b + e.n := by
                intro l b _
                by_cases h : ∀ (i : Nat) (e : Ef), l[i]? = some e → e.b + e.n ≤ b + sumN l
                · exact .inl h
                · right
                  obtain ⟨i, h⟩ := Classical.not_forall.1 h
                  obtain ⟨e, h⟩ := Classical.not_forall.1 h
                  obtain ⟨h3, h4⟩ := Classical.not_imp.1 h
                  exact ⟨i, e, h3, by omega⟩
              have h4 : e.b + e.n ≤ r.m.length := regE_le all n ds s.t s.m r hr i e he
              rw [hedef] at h4
              simpa using h4
            have h5 : r.m.length = (stD (fun _ => true) 0 s0 r.es).m.length := by
              have := congrArg (fun z : St => z.m.length) hfin
              exact this
            rw [(stD_len _ _ _ _).2] at h5
            have h6 := hlenI.2
            rw [hmi] at h6
            simp only [List.length_append, gaps, List.length_replicate] at h6
            omega
          have hq1 : ∀ j f, r.es[j]? = some f → L.getD (0 + j) false = true → SV.al (newNo mi.length rs.N.length) f.v = true ∧ f.W.all (fun p => p.2.al (newNo mi.length rs.N.length)) = true := fun j f hf hj => by
            rw [Nat.zero_add] at hj
            have hji : j ≠ i := fun h => by rw [h, hiF] at hj; cases hj
            have hmen : (e.b = mi.length) ∧ e.n = rs.N.length := ⟨heb, by rw [hedef]⟩
            rcases pairs i j e f he hf (fun h => hji h.symm) with h | h | h
            · exact absurd h (hnot j hj)
            · have hjlt := hancl j h
              have hle := hmono j i f e hf he hjlt
              obtain ⟨m2, g2, -, hfb, -, hf2⟩ := hat j all[j] f (List.getElem?_eq_getElem (by have := (List.getElem?_eq_some_iff.1 hf).1; omega)) hf
              have himp : ∀ z, isLt (f.b + f.n) z = true → newNo mi.length rs.N.length z = true := fun z hz => by
                simp only [isLt, Nat.blt_eq] at hz
                have : newAt mi.length rs.N.length z = false := by
                  cases h : newAt mi.length rs.N.length z with
                  | false => rfl
                  | true => have := newAt_iff.1 h; omega
                simp [newNo, this]
              rcases hf2 with ⟨d2, rs2, x2, y2, hop2, -, -, -, -, hv2, hf2⟩ | ⟨-, -, hf2⟩
              · simp only [Bool.and_eq_true] at hv2
                rw [hf2] at himp ⊢
                simp only at himp ⊢
                refine ⟨SV.al_imp himp _ hv2.1, ?_⟩
                rw [List.all_append, Bool.and_eq_true]
                refine ⟨List.all_eq_true.2 fun p hp => It.al_imp himp _ (List.all_eq_true.1 hv2.2.1 p hp), List.all_eq_true.2 fun p hp => ?_⟩
                have : p.2 ∈ rs2.N := by
                  have key : ∀ (N : List It) (b : Nat) (p : Nat × It), p ∈ ix b N → p.2 ∈ N := by
                    intro N
                    induction N with
                    | nil => intro b p h; simp [ix] at h
                    | cons x N ih =>
                      intro b p h
                      simp only [ix, List.mem_cons] at h
                      rcases h with rfl | h
                      · simp
                      · exact List.mem_cons_of_mem _ (ih _ p h)
                  exact key _ _ p hp
                exact It.al_imp himp _ (List.all_eq_true.1 hv2.2.2 _ this)
              · rw [hf2]
                exact ⟨rfl, rfl⟩
            · have h2 := h.2
              simp only [ind1, Bool.and_eq_true, noMent] at h2
              rw [hmen.1, hmen.2] at h2
              exact h2.2.2.2
          have hlow : ∀ z, isLt s.m.length z = true → newNo mi.length rs.N.length z = true := fun z hz => by
            simp only [isLt, Nat.blt_eq] at hz
            have : newAt mi.length rs.N.length z = false := by
              cases h : newAt mi.length rs.N.length z with
              | false => rfl
              | true => have := newAt_iff.1 h; omega
            simp [newNo, this]
          have hall := stD_all (f := SV.al (newNo mi.length rs.N.length)) (g := It.al (newNo mi.length rs.N.length)) (D := fun j => L.getD j false) r.es 0 s0 (all_imp (SV.al_imp hlow) H.wt) (by
            show (s.m ++ gaps (sumN r.es)).all _ = true
            rw [List.all_append, Bool.and_eq_true]
            exact ⟨all_imp (It.al_imp hlow) H.wm, List.all_eq_true.2 fun x hx => by rw [List.eq_of_mem_replicate hx]; rfl⟩) hq1
          have hpre : lk mi (rs.R ++ rs.W.map Prod.fst) = lk (stD (fun j => L.getD j false) 0 s0 r.es).m (rs.R ++ rs.W.map Prod.fst) := List.map_congr_left fun j hj => by rw [hm1 j hj]
          have hpR : lk mi rs.R = lk (stD (fun j => L.getD j false) 0 s0 r.es).m rs.R := List.map_congr_left fun j hj => by rw [hm1 j (List.mem_append_left _ hj)]
          rw [hpR] at hls
          have hfin2 := ls_gap (c := c) (m := (stD (fun j => L.getD j false) 0 s0 r.es).m) hltm hin.2 (by omega) hpre hls (fun j h1 h2 => by
            rw [hgapx j h1 h2]
            exact List.getElem?_replicate_of_lt (by omega)) hM hok hall.2
          refine Fin.wp ?_
          rw [hex]
          refine hfin2.mono ?_
          rintro v w' ⟨E2, hE2, rfl, hM2, hok2⟩
          refine ih _ _ _ hcnt2 ⟨by simpa using hsz, hcl2, E2, fun z hz => ?_, ?_, by rw [put_defers]; exact hdf, ?_, ?_⟩
          · rw [hE2 z (by
              cases h : newAt mi.length rs.N.length z with
              | false => rfl
              | true => have := newAt_iff.1 h; omega)]
            exact hE' z hz
          · rw [hmore, hedef]
            simp only [Ef.ap]
            refine tv_put E2 _ _ _ _ ?_
            rw [htm]
            unfold tv
            rw [map_all (f := SV.den E') (g := SV.den E2) (p := SV.al (newNo mi.length rs.N.length)) (fun x hx => SV.den_congr (fun z hz => (hE2 z (by simpa [newNo] using hz)).symm) x hx) hall.1]
          · rw [hmore, hedef]
            exact hM2
          · rw [hmore, hedef]
            exact hok2
        · have hwd : Region.wanted o (yielded all.toArray a.tmps) = false := by
            rw [htm, wanted_at (hlook E')]
            exact want_of' hgd hw E'
          rw [if_neg (by rw [hwd]; exact Bool.false_ne_true)]
          refine ih _ _ _ hcnt2 ⟨by simpa using hsz, hcl2, E', hE', ?_, by rw [put_defers]; exact hdf, ?_, ?_⟩
          · rw [hmore, hedef]
            exact tv_put E' _ _ (vV undef) _ htm
          · rw [hmore, hedef]
            exact hM
          · rw [hmore, hedef]
            exact hok
  refine wp_region_any S.mix ?_
  have hz : stD (fun j => (Array.replicate all.toArray.size false).getD j false) 0 s0 r.es = s0 := by
    have : ∀ (l : List Ef) (k : Nat) (s : St), stD (fun j => (Array.replicate all.toArray.size false).getD j false) k s l = s := by
      intro l
      induction l with
      | nil => intro _ _; rfl
      | cons x l ih =>
        intro k s
        simp only [stD]
        have h0 : (Array.replicate all.toArray.size false).getD k false = false := by
          rw [Array.getD_eq_getD_getElem?]
          simp only [Array.getElem?_replicate]
          split <;> rfl
        rw [h0]
        exact ih _ _
    exact this _ _ _
  refine key _ _ _ _ (by simp [List.countP_replicate]) ⟨by simp, fun j o hj => ?_, E, fun _ _ => rfl, ?_, H.df, ?_, ?_⟩
  · exfalso
    rw [Array.getD_eq_getD_getElem?] at hj
    simp only [Array.getElem?_replicate] at hj
    split at hj <;> cases hj
  · rw [hz]; exact H.tm
  · rw [hz]
    have : dens E 0 (s.m ++ gaps (sumN r.es)) = dens E 0 s.m := by
      rw [dens_app]
      have h0 : ∀ (n k : Nat), dens E k (gaps n) = [] := by
        intro n
        induction n with
        | zero => intro _; rfl
        | succ n ih => intro k; exact ih (k + 1)
      rw [h0, List.append_nil]
    show Mem S c (dens E 0 (s.m ++ gaps (sumN r.es))) _
    rw [this]
    exact H.mem.drew
  · rw [hz]
    intro i x hx
    have hx : (s.m ++ gaps (sumN r.es))[i]? = some x := hx
    by_cases hi : i < s.m.length
    · rw [List.getElem?_append_left hi] at hx
      exact H.ok i x hx
    · rw [List.getElem?_append_right (by omega)] at hx
      have := List.eq_of_mem_replicate (List.mem_of_getElem? hx)
      rw [this]
      trivial
end Go.Proofs.Ytlfekknonjlopaa
