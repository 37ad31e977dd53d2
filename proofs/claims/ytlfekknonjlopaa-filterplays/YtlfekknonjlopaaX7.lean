/- The end of a body; calls by what was shown of them; loops. -/
import Derived.Test.YtlfekknonjlopaaX6
namespace Go.Proofs.Ytlfekknonjlopaa
open Go.RowKit
set_option linter.unusedVariables false
set_option linter.unusedSimpArgs false

/-- Numbers of what is left: those below k as they are; new ones as mm tells. -/
def mmF (k : Nat) (mm : List Nat) (i : Nat) : Nat := bif Nat.blt i k then i else (mm[i - k]?).getD 0
theorem okP_app {E : Nat → Ent} {l m : List (Nat × It)} : okP E (l ++ m) ↔ okP E l ∧ okP E m := by
  unfold okP
  exact ⟨fun h => ⟨fun p hp => h p (by simp [hp]), fun p hp => h p (by simp [hp])⟩, fun h p hp => (List.mem_append.1 hp).elim (h.1 p) (h.2 p)⟩
theorem ix_fst : ∀ (l : List It) (b : Nat) (p : Nat × It), p ∈ ix b l → b ≤ p.1 ∧ p.1 < b + l.length
  | [], _, _, h => by simp [ix] at h
  | x :: l, b, p, h => by
    simp only [ix, List.mem_cons] at h
    rcases h with rfl | h
    · simp
    · have := ix_fst l (b + 1) p h
      simp only [List.length_cons]
      omega
theorem ix_app : ∀ (l m : List It) (b : Nat), ix b (l ++ m) = ix b l ++ ix (b + l.length) m
  | [], m, b => by simp [ix]
  | x :: l, m, b => by simp only [List.cons_append, ix, ix_app l m (b + 1), List.length_cons]; rw [show b + (l.length + 1) = b + 1 + l.length by omega]
def rnP (f : Nat → Nat) (p : Nat × It) : Nat × It := (f p.1, p.2.ren f)
theorem denP_ren (f : Nat → Nat) (E : Nat → Ent) : ∀ l : List (Nat × It), denP E (l.map (rnP f)) = denP (fun i => E (f i)) l
  | [] => rfl
  | (i, x) :: l => by
    simp only [List.map_cons, rnP, denP]
    rw [It.den_ren, ← denP_ren f E l]
theorem okP_ren (f : Nat → Nat) (E : Nat → Ent) (l : List (Nat × It)) : okP E (l.map (rnP f)) ↔ okP (fun i => E (f i)) l := by
  unfold okP
  constructor
  · intro h p hp
    have := h _ (List.mem_map_of_mem (f := rnP f) hp)
    rwa [rnP, It.ok_ren] at this
  · intro h p hp
    obtain ⟨q, hq, rfl⟩ := List.mem_map.1 hp
    rw [rnP, It.ok_ren]
    exact h q hq
theorem denP_congr {E E' : Nat → Ent} {n : Nat} (h : ∀ i, i < n → E i = E' i) : ∀ l : List (Nat × It), (∀ p ∈ l, p.1 < n) → l.all (fun p => p.2.al (isLt n)) = true → denP E l = denP E' l
  | [], _, _ => rfl
  | (i, x) :: l, hl, hb => by
    simp only [List.all_cons, Bool.and_eq_true] at hb
    simp only [denP]
    rw [x.den_congr (p := isLt n) (fun j hj => h j (by simpa [isLt, Nat.blt_eq] using hj)) (h i (hl (i, x) (by simp))) hb.1, denP_congr h l (fun p hp => hl p (by simp [hp])) hb.2]
theorem okP_congr {E E' : Nat → Ent} {n : Nat} (h : ∀ i, i < n → E i = E' i) {l : List (Nat × It)} (hl : ∀ p ∈ l, p.1 < n) (hk : okP E l) : okP E' l := fun p hp => by
  rw [← It.ok_congr (h p.1 (hl p hp))]
  exact hk p hp
/-- The end of a body. -/
theorem ret_ok {P : Program} {S : Seat P} {c : Ctx} {n : Nat} {E : Nat → Ent} {s : St} {a : Act} {w w0 : World} {E0 : Nat → Ent} {R I J N : List It} {v : SV} (mm : List Nat) (hc : c = ⟨w0, (denP E0 (ix 0 (R ++ I))).map Blk.g⟩) (hn : n = R.length + I.length) (hJ : J.length = I.length)
    (hE : ∀ i, i < n → E i = E0 i) (H : Hold S c E s a w) (hin : inM s.m ((postC R I J N).map fun p => mmF n mm p.1) = true) (hm : ((postC R I J N).map (rnP (mmF n mm))).map Prod.snd = (lk s.m ((postC R I J N).map fun p => mmF n mm p.1)).map Prod.snd)
    (hv : v.al (isLt (n + N.length)) = true) (hp : (postC R I J N).all (fun p => p.2.al (isLt (n + N.length))) = true) :
    ∃ E' : Nat → Ent, (∀ i, newAt (R.length + I.length) N.length i = false → E' i = E0 i) ∧ okP E' (postC R I J N) ∧ (v.ren (mmF n mm)).den E = v.den E' ∧ OkT w0 w (denP E0 (ix 0 (R ++ I))) (denP E' (postC R I J N)) := by
  subst hc
  let E' : Nat → Ent := fun i => bif newAt n N.length i then E (mmF n mm i) else E0 i
  have hlt : ∀ i, i < n + N.length → E (mmF n mm i) = E' i := fun i hi => by
    by_cases h : i < n
    · have h1 : newAt n N.length i = false := by
        have : Nat.ble n i = false := by
          cases e : Nat.ble n i with
          | false => rfl
          | true => exact absurd (Nat.le_of_ble_eq_true e) (by omega)
        simp [newAt, this]
      have h2 : mmF n mm i = i := by
        have : Nat.blt i n = true := by simpa [Nat.blt_eq] using h
        simp [mmF, this]
      simp only [E', h1, cond_false, h2]
      exact hE i h
    · have h1 : newAt n N.length i = true := by
        simp [newAt, Nat.blt_eq]
        omega
      simp only [E', h1, cond_true]
  have hi : ∀ p ∈ postC R I J N, p.1 < n + N.length := fun p hp => by
    simp only [postC, List.mem_append] at hp
    rcases hp with hp | hp | hp
    · have := ix_fst _ _ _ hp; omega
    · have := ix_fst _ _ _ hp; omega
    · have := ix_fst _ _ _ hp; omega
  have hl : (postC R I J N).map (rnP (mmF n mm)) = lk s.m ((postC R I J N).map fun p => mmF n mm p.1) := pair_ext (by rw [lk_fst, List.map_map]; rfl) hm
  have hd : denP E' (postC R I J N) = denP E (lk s.m ((postC R I J N).map fun p => mmF n mm p.1)) := by
    rw [← hl, denP_ren]
    exact (denP_congr hlt _ hi hp).symm
  refine ⟨E', fun i h0 => ?_, ?_, ?_, ?_⟩
  · subst hn
    show (bif newAt (R.length + I.length) N.length i then _ else E0 i) = E0 i
    rw [h0]
    rfl
  · refine okP_congr hlt hi ?_
    rw [← okP_ren, hl]
    intro p hp
    obtain ⟨i, hi2, rfl⟩ := List.mem_map.1 hp
    simp only [inM, Bool.and_eq_true, List.all_eq_true] at hin
    have hil : i < s.m.length := by simpa [isLt, Nat.blt_eq] using hin.1 i hi2
    simp only [List.getElem?_eq_getElem hil, Option.getD_some]
    exact H.ok i _ (List.getElem?_eq_getElem hil)
  · rw [SV.den_ren]
    exact v.den_congr (p := isLt (n + N.length)) (fun i hi => hlt i (by simpa [isLt, Nat.blt_eq] using hi)) hv
  · have M1 := (H.mem.perm (dens_part E _ _ hin)).drop (List.sublist_append_left _ _)
    rw [← hd] at M1
    exact M1.okT
theorem xRet {P : Program} {S : Seat P} {s : St} {w0 : World} {E0 : Nat → Ent} {fn : Func} {R I J N : List It} {v : SV} {K : List Fr} (mm : List Nat)
    (hk : (match K with | [] => true | f :: _ => match f.k with | 0 => (match f.c with | .ret => true | _ => false) | _ => false) = true := by kernel_rfl)
    (hr : (fun (E : Nat → Ent) w => (results fn (tv E s.t)).run P w) = fun E w => .ok ((v.ren (mmF (R ++ I).length mm)).den E) w := by kernel_rfl)
    (hq : (Nat.beq J.length I.length && (inM s.m ((postC R I J N).map fun p => mmF (R ++ I).length mm p.1) && (v.al (isLt ((R ++ I).length + N.length)) && (postC R I J N).all (fun p => p.2.al (isLt ((R ++ I).length + N.length)))))) = true := by kernel_rfl)
    (hm : ((postC R I J N).map (rnP (mmF (R ++ I).length mm))).map Prod.snd = (lk s.m ((postC R I J N).map fun p => mmF (R ++ I).length mm p.1)).map Prod.snd := by kernel_rfl) : OK S ⟨w0, (denP E0 (ix 0 (R ++ I))).map Blk.g⟩ E0 (R ++ I).length (Bk S fn w0 E0 R I J N v) K s := by
  refine ⟨fun E a w _ hE H => ?_⟩
  simp only [Bool.and_eq_true, nbeq] at hq
  have key : Bk S fn w0 E0 R I J N v .ret a w := by
    refine ⟨H.df, _, by rw [H.tm]; exact congrFun (congrFun hr E) w, _, rfl, ret_ok mm rfl (by simp) hq.1 hE H hq.2.1 hm hq.2.2.1 hq.2.2.2⟩
  cases K with
  | nil => exact key
  | cons f k =>
    obtain ⟨fk, fc, fi, fa, fr, fI⟩ := f
    simp only at hk
    split at hk
    · split at hk
      · exact wp_ret (post_ret key k)
      · cases hk
    · cases hk
/-- Other numbers: what was shown of a call serves wherever its items lie. -/
def clF (k : Nat) (mm : List Nat) (b : Nat) (i : Nat) : Nat := bif Nat.blt i k then (mm[i]?).getD 0 else b + (i - k)
theorem LS.ren {P : Program} {S : Seat P} {C : World → Prop} {xs : List SV} {f : FuncId} {pre post : List (Nat × It)} {k n b : Nat} {mm : List Nat} {v : SV} (h : LS S C (oCall f xs).sem pre (newAt k n) v post) (hb : ∀ i, i < k → (mm[i]?).getD 0 < b) :
    LS S C (oCall f (xs.map (SV.ren (clF k mm b)))).sem (pre.map (rnP (clF k mm b))) (newAt b n) (v.ren (clF k mm b)) (post.map (rnP (clF k mm b))) := by
  intro E w hL hC T hok
  rw [denP_ren] at hC T
  rw [okP_ren] at hok
  have h1 := h (fun i => E (clF k mm b i)) w hL hC T hok
  have hx : (oCall f (xs.map (SV.ren (clF k mm b)))).sem E = (oCall f xs).sem fun i => E (clF k mm b i) := by
    show callFunc f ((xs.map (SV.ren (clF k mm b))).map (SV.den E)).toArray = callFunc f (xs.map (SV.den fun i => E (clF k mm b i))).toArray
    rw [List.map_map]
    simp only [Function.comp_def, SV.den_ren]
  rw [hx]
  refine Fin.mono h1 ?_
  rintro r w' ⟨E1, hE, hk, rfl, hT⟩
  let E' : Nat → Ent := fun j => bif newAt b n j then E1 (k + (j - b)) else E j
  have hEE : (fun i => E' (clF k mm b i)) = E1 := by
    funext i
    by_cases hi : i < k
    · have h2 : clF k mm b i = (mm[i]?).getD 0 := by
        have : Nat.blt i k = true := by simpa [Nat.blt_eq] using hi
        simp [clF, this]
      have h3 := hb i hi
      have h4 : newAt b n ((mm[i]?).getD 0) = false := by
        have : Nat.ble b ((mm[i]?).getD 0) = false := by
          cases e : Nat.ble b ((mm[i]?).getD 0) with
          | false => rfl
          | true => exact absurd (Nat.le_of_ble_eq_true e) (by omega)
        simp [newAt, this]
      have h5 : newAt k n i = false := by
        have : Nat.ble k i = false := by
          cases e : Nat.ble k i with
          | false => rfl
          | true => exact absurd (Nat.le_of_ble_eq_true e) (by omega)
        simp [newAt, this]
      simp only [E', h2, h4, cond_false]
      rw [hE i h5, h2]
    · have h2 : clF k mm b i = b + (i - k) := by
        have : Nat.blt i k = false := by
          cases e : Nat.blt i k with
          | false => rfl
          | true => exact absurd (Nat.blt_eq ▸ e) hi
        simp [clF, this]
      by_cases hj : i < k + n
      · have h4 : newAt b n (b + (i - k)) = true := by
          simp [newAt, Nat.blt_eq]
          omega
        simp only [E', h2, h4, cond_true]
        congr 1
        omega
      · have h4 : newAt b n (b + (i - k)) = false := by
          cases e : newAt b n (b + (i - k)) with
          | false => rfl
          | true =>
            simp [newAt, Nat.blt_eq] at e
            omega
        have h5 : newAt k n i = false := by
          cases e : newAt k n i with
          | false => rfl
          | true =>
            simp [newAt, Nat.blt_eq] at e
            omega
        simp only [E', h2, h4, cond_false]
        rw [hE i h5, h2]
  refine ⟨E', fun i hi => by simp only [E', hi, cond_false], ?_, ?_, ?_⟩
  · rw [okP_ren, hEE]
    exact hk
  · rw [SV.den_ren, hEE]
  · rw [denP_ren, denP_ren, hEE]
    exact hT
theorem ix_ren (f : Nat → Nat) (b : Nat) : ∀ (N : List It) (k : Nat), (∀ j, j < N.length → f (k + j) = b + j) → (ix k N).map (rnP f) = ix b (N.map (It.ren f))
  | [], _, _ => rfl
  | x :: N, k, h => by
    simp only [ix, List.map_cons, rnP]
    have h0 := h 0 (by simp)
    simp only [Nat.add_zero] at h0
    have ih := ix_ren f (b + 1) N (k + 1) fun j hj => by
      have := h (j + 1) (by simpa using hj)
      rw [show k + 1 + j = k + (j + 1) by omega, this]
      omega
    rw [h0]
    exact congrArg (List.cons _) ih
theorem zip_ren (f : Nat → Nat) : ∀ (I J : List It) (k : Nat), J.length = I.length → (((ix k I).map (rnP f)).map Prod.fst).zip (J.map (It.ren f)) = (ix k J).map (rnP f)
  | [], [], _, _ => rfl
  | [], _ :: _, _, h => by simp at h
  | _ :: _, [], _, h => by simp at h
  | x :: I, y :: J, k, h => by
    simp only [ix, List.map_cons, List.zip_cons_cons, rnP]
    have ih := zip_ren f I J (k + 1) (by simpa using h)
    exact congrArg (List.cons _) ih
/-- A call by what was shown of it; mm: where its items lie. -/
def dC {P : Program} {S : Seat P} {C : World → Prop} {f : FuncId} {xs : List SV} {R I J N : List It} {v : SV} (h : Ct S C f xs R I J N v) (mm : List Nat) : Dr S C :=
  let k := R.length + I.length
  dSp fun b => ⟨oCall f (xs.map (SV.ren (clF k mm b))), (ix 0 R).map (rnP (clF k mm b)), (ix R.length I).map (rnP (clF k mm b)), J.map (It.ren (clF k mm b)), N.map (It.ren (clF k mm b)), v.ren (clF k mm b), fun hJ hp => by
    simp only [List.length_map] at hJ hp ⊢
    have hJ2 : J.length = I.length := by
      have : ∀ (l : List It) (b : Nat), (ix b l).length = l.length := by
        intro l
        induction l with
        | nil => intro b; rfl
        | cons x l ih => intro b; simp [ix, ih]
      rwa [this] at hJ
    have hb : ∀ i, i < k → (mm[i]?).getD 0 < b := fun i hi => by
      have hm : ∃ x, (i, x) ∈ ix 0 R ++ ix R.length I := by
        have key : ∀ (N : List It) (k j : Nat), j < N.length → ∃ x, (k + j, x) ∈ ix k N := by
          intro N
          induction N with
          | nil => intro k j h; simp at h
          | cons y N ih =>
            intro k j h
            cases j with
            | zero => exact ⟨y, by simp [ix]⟩
            | succ j =>
              obtain ⟨x, hx⟩ := ih (k + 1) j (by simpa using h)
              exact ⟨x, by simp only [ix, List.mem_cons]; right; rwa [show k + 1 + j = k + (j + 1) by omega] at hx⟩
        by_cases h : i < R.length
        · obtain ⟨x, hx⟩ := key R 0 i h
          exact ⟨x, List.mem_append_left _ (by simpa using hx)⟩
        · obtain ⟨x, hx⟩ := key I R.length (i - R.length) (by omega)
          exact ⟨x, List.mem_append_right _ (by rwa [show R.length + (i - R.length) = i by omega] at hx)⟩
      obtain ⟨x, hx⟩ := hm
      have := hp (clF k mm b i, x.ren (clF k mm b)) (by
        rw [← List.map_append]
        exact List.mem_map_of_mem (f := rnP (clF k mm b)) hx)
      have h2 : clF k mm b i = (mm[i]?).getD 0 := by
        have : Nat.blt i k = true := by simpa [Nat.blt_eq] using hi
        simp [clF, this]
      rwa [h2] at this
    have h1 := LS.ren h.out hb
    rw [ix_app, Nat.zero_add, List.map_append] at h1
    rw [zip_ren _ _ _ _ hJ2, ← ix_ren (clF k mm b) b N k (fun j hj => by
      have : Nat.blt (k + j) k = false := by
        cases e : Nat.blt (k + j) k with
        | false => rfl
        | true => exact absurd (Nat.blt_eq ▸ e : k + j < k) (by omega)
      simp [clF, this])]
    have e : (postC R I J N).map (rnP (clF k mm b)) = (ix 0 R).map (rnP (clF k mm b)) ++ ((ix R.length J).map (rnP (clF k mm b)) ++ (ix k N).map (rnP (clF k mm b))) := by
      simp only [postC, List.map_append]
      rfl
    rwa [e] at h1⟩

/-- Slots that nobody reads again are forgotten; items may lie elsewhere, or be left behind. D: these slots; j: where the items lie. -/
def mask (D : List Nat) : Nat → List SV → List SV
  | _, [] => []
  | k, x :: l => (if D.contains k then vV undef else x) :: mask D (k + 1) l
def selD (D : List Nat) (l : List SV) : List SV := D.map fun k => (l[k]?).getD (vV undef)
def jF (j : List Nat) (i : Nat) : Nat := (j[i]?).getD i
def subL (D j : List Nat) (t : St) : List (List SV) × List It × Nat × Bool := ([mask D 0 (t.t.map (SV.ren (jF j))), selD D t.t], t.m.map (It.ren (jF j)), t.t.length, true)
def subR (D j : List Nat) (n : Nat) (d : Nat → Value) (s t : St) : List (List SV) × List It × Nat × Bool :=
  ([mask D 0 s.t, D.map fun k => vV (d k)], (lk s.m j).map Prod.snd, s.t.length,
    t.t.all (SV.al (isLt t.m.length)) && (t.m.all (It.al (isLt t.m.length)) && (Nat.beq t.m.length j.length && (Nat.ble n t.m.length && (inM s.m j && (D.all (isLt s.t.length) && (List.range n).all fun i => Nat.beq (jF j i) i))))))
theorem mask_get (D : List Nat) : ∀ (l : List SV) (k i : Nat), (mask D k l)[i]? = (l[i]?).map fun x => if D.contains (k + i) then vV undef else x
  | [], _, _ => rfl
  | x :: l, k, 0 => rfl
  | x :: l, k, i + 1 => by
    simp only [mask, List.getElem?_cons_succ]
    rw [mask_get D l (k + 1) i, show k + 1 + i = k + (i + 1) by omega]
theorem denP_zip (E : Nat → Ent) (φ : Nat → Nat) : ∀ (m : List It) (k : Nat) (l : List (Nat × It)), l.map Prod.snd = m.map (It.ren φ) → (∀ i, i < m.length → (l.map Prod.fst)[i]? = some (φ (k + i))) → denP E l = dens (fun i => E (φ i)) k m
  | [], _, l, h, _ => by
    cases l with
    | nil => rfl
    | cons p l => simp at h
  | x :: m, k, l, h, hj => by
    cases l with
    | nil => simp at h
    | cons p l =>
      simp only [List.map_cons, List.cons.injEq] at h
      obtain ⟨i, y⟩ := p
      have h0 := hj 0 (by simp)
      simp only [List.map_cons, List.getElem?_cons_zero, Option.some.injEq, Nat.add_zero] at h0
      simp only at h
      simp only [denP, dens]
      rw [h.1, h0, It.den_ren, denP_zip E φ m (k + 1) l h.2 fun i hi => by
        have := hj (i + 1) (by simpa using hi)
        simpa only [List.map_cons, List.getElem?_cons_succ, show k + (i + 1) = k + 1 + i by omega] using this]
/-- What holds of slots and memory holds of others that say the same, or less. -/
theorem sub_hold {P : Program} {S : Seat P} {c : Ctx} {E0 E : Nat → Ent} {n : Nat} {s : St} {T : (Nat → Value) → St} (D j : List Nat) (h : (fun d => subL D j (T d)) = (fun d => subR D j n d s (T d))) {a : Act} {w : World} (hE : ∀ i, i < n → E i = E0 i) (H : Hold S c E s a w) :
    ∃ (d : Nat → Value) (E' : Nat → Ent), n ≤ (T d).m.length ∧ (∀ i, i < n → E' i = E0 i) ∧ Hold S c E' (T d) a w := by
  let d : Nat → Value := fun k => ((s.t[k]?).getD (vV undef)).den E
  have hd := congrFun h d
  simp only [subL, subR, Prod.mk.injEq, List.cons.injEq, and_true] at hd
  obtain ⟨⟨h1, h2⟩, h3, h4, h5⟩ := hd
  have h5 := h5.symm
  simp only [Bool.and_eq_true, nbeq] at h5
  obtain ⟨b1, b2, b3, b4, b5, b6, b7⟩ := h5
  have hj : ∀ i, i < j.length → j[i]? = some (jF j i) := fun i hi => by simp [jF, List.getElem?_eq_getElem hi]
  refine ⟨d, fun i => E (jF j i), Nat.le_of_ble_eq_true b4, fun i hi => ?_, ?_, H.df, ?_, ?_, b1, b2⟩
  · have := List.all_eq_true.1 b7 i (List.mem_range.2 hi)
    show E (jF j i) = E0 i
    rw [nbeq.1 this]
    exact hE i hi
  · rw [H.tm]
    unfold tv
    congr 1
    apply List.ext_getElem?
    intro k
    rw [List.getElem?_map, List.getElem?_map]
    by_cases hk : k < s.t.length
    · have hk2 : k < (T d).t.length := by omega
      rw [List.getElem?_eq_getElem hk, List.getElem?_eq_getElem hk2]
      simp only [Option.map_some, Option.some.injEq]
      by_cases hD : D.contains k = true
      · have hm : k ∈ D := by simpa using hD
        obtain ⟨i, hi⟩ := List.mem_iff_getElem?.1 hm
        have e := congrArg (fun l : List SV => l[i]?) h2
        simp only [selD, List.getElem?_map, hi, Option.map_some, Option.some.injEq] at e
        rw [List.getElem?_eq_getElem hk2] at e
        simp only [Option.getD_some] at e
        rw [e]
        show _ = d k
        simp only [d, List.getElem?_eq_getElem hk, Option.getD_some]
      · have e := congrArg (fun l : List SV => l[k]?) h1
        simp only [mask_get, List.getElem?_map, Nat.zero_add, hD, Bool.false_eq_true, if_false] at e
        rw [List.getElem?_eq_getElem hk, List.getElem?_eq_getElem hk2] at e
        simp only [Option.map_some, Option.some.injEq] at e
        rw [← e, SV.den_ren]
    · rw [List.getElem?_eq_none (by omega), List.getElem?_eq_none (by omega)]
      rfl
  · have p := dens_part E j s.m b5
    have e : denP E (lk s.m j) = dens (fun i => E (jF j i)) 0 (T d).m := denP_zip E (jF j) _ 0 _ h3.symm fun i hi => by
      rw [lk_fst, Nat.zero_add]
      exact hj i (by omega)
    rw [← e]
    exact (H.mem.perm p).drop (List.sublist_append_left _ _)
  · intro i x hx
    have hi := (List.getElem?_eq_some_iff.1 hx).1
    have e := congrArg (fun l : List It => l[i]?) h3
    simp only [List.getElem?_map, hx, Option.map_some, lk, hj i (by omega)] at e
    simp only [inM, Bool.and_eq_true, List.all_eq_true] at b5
    have hl : jF j i < s.m.length := by
      have := b5.1 (jF j i) (List.mem_of_getElem? (hj i (by omega)))
      simpa [isLt, Nat.blt_eq] using this
    rw [List.getElem?_eq_getElem hl] at e
    simp only [Option.getD_some, Option.some.injEq] at e
    have := H.ok (jF j i) _ (List.getElem?_eq_getElem hl)
    rw [← e, It.ok_ren] at this
    exact this
end Go.Proofs.Ytlfekknonjlopaa
