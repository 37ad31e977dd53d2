/- Operations whose order is open: what one of them does hangs on none that may come ahead of it or behind it: so they do the same in every order. -/
import Derived.Test.YtlfekknonjlopaaX7
namespace Go.Proofs.Ytlfekknonjlopaa
open Go.RowKit
set_option linter.unusedVariables false
set_option linter.unusedSimpArgs false

/-- What an operation did: the slot that it fills, with what; the items that it sets (the new ones too: from b on, n of them); the items that it looks at; the slots that it reads. -/
structure Ef where
  d : Option Tmp
  v : SV
  W : List (Nat × It)
  b : Nat
  n : Nat
  R : List Nat
  rd : List Tmp
def Ef.ap (e : Ef) (s : St) : St := ⟨putS s.t e.d e.v, setsM s.m e.W⟩
/-- Those of a list of operations that were done (D), in the text's order. -/
def stD (D : Nat → Bool) : Nat → St → List Ef → St
  | _, s, [] => s
  | k, s, e :: l => stD D (k + 1) (bif D k then e.ap s else s) l
theorem putS_len (t : List SV) (d : Option Tmp) (v : SV) : (putS t d v).length = t.length := by cases d <;> simp [putS]
theorem putS_get (t : List SV) (d : Option Tmp) (v : SV) (x : Nat) (h : d ≠ some x) : (putS t d v)[x]? = t[x]? := by
  cases d with
  | none => rfl
  | some d => exact List.getElem?_set_ne (fun e => h (by rw [e]))
theorem stD_len (D : Nat → Bool) : ∀ (l : List Ef) (k : Nat) (s : St), (stD D k s l).t.length = s.t.length ∧ (stD D k s l).m.length = s.m.length
  | [], _, _ => ⟨rfl, rfl⟩
  | e :: l, k, s => by
    simp only [stD]
    obtain ⟨h1, h2⟩ := stD_len D l (k + 1) (bif D k then e.ap s else s)
    rw [h1, h2]
    cases D k <;> simp [Ef.ap, putS_len, setsM_len]
theorem putS_eq (t t' : List SV) (d : Option Tmp) (v : SV) (x : Nat) (hl : t.length = t'.length) (h : t[x]? = t'[x]?) : (putS t d v)[x]? = (putS t' d v)[x]? := by
  cases d with
  | none => exact h
  | some d => simp only [putS, List.getElem?_set, hl, h]
theorem stD_slot {D D' : Nat → Bool} {x : Nat} : ∀ (l : List Ef) (k : Nat) (s s' : St), s.t.length = s'.t.length → s.t[x]? = s'.t[x]? → (∀ j e, l[j]? = some e → e.d = some x → D (k + j) = D' (k + j)) → (stD D k s l).t[x]? = (stD D' k s' l).t[x]?
  | [], _, _, _, _, h, _ => h
  | e :: l, k, s, s', hl, h, hd => by
    simp only [stD]
    have h0 := hd 0 e rfl
    refine stD_slot l (k + 1) _ _ ?_ ?_ fun j f hj hf => by
      have := hd (j + 1) f (by simpa using hj) hf
      rwa [show k + (j + 1) = k + 1 + j by omega] at this
    · cases D k <;> cases D' k <;> simp [Ef.ap, putS_len, hl]
    · by_cases hx : e.d = some x
      · have := h0 hx
        simp only [Nat.add_zero] at this
        rw [this]
        cases D' k with
        | false => exact h
        | true => exact putS_eq _ _ _ _ _ hl h
      · have h1 : ∀ u : St, (bif D k then e.ap u else u).t[x]? = u.t[x]? := fun u => by
          cases D k with
          | false => rfl
          | true => exact putS_get _ _ _ _ hx
        have h2 : ∀ u : St, (bif D' k then e.ap u else u).t[x]? = u.t[x]? := fun u => by
          cases D' k with
          | false => rfl
          | true => exact putS_get _ _ _ _ hx
        rw [h1, h2, h]
theorem setsM_eq : ∀ (W : List (Nat × It)) (m m' : List It) (x : Nat), m.length = m'.length → m[x]? = m'[x]? → (setsM m W)[x]? = (setsM m' W)[x]?
  | [], _, _, _, _, h => h
  | p :: W, m, m', x, hl, h => setsM_eq W _ _ x (by simp [hl]) (by simp only [List.getElem?_set, hl, h])
theorem stD_item {D D' : Nat → Bool} {x : Nat} : ∀ (l : List Ef) (k : Nat) (s s' : St), s.m.length = s'.m.length → s.m[x]? = s'.m[x]? → (∀ j e, l[j]? = some e → x ∈ e.W.map Prod.fst → D (k + j) = D' (k + j)) → (stD D k s l).m[x]? = (stD D' k s' l).m[x]?
  | [], _, _, _, _, h, _ => h
  | e :: l, k, s, s', hl, h, hd => by
    simp only [stD]
    have h0 := hd 0 e rfl
    refine stD_item l (k + 1) _ _ ?_ ?_ fun j f hj hf => by
      have := hd (j + 1) f (by simpa using hj) hf
      rwa [show k + (j + 1) = k + 1 + j by omega] at this
    · cases D k <;> cases D' k <;> simp [Ef.ap, setsM_len, hl]
    · by_cases hx : x ∈ e.W.map Prod.fst
      · have := h0 hx
        simp only [Nat.add_zero] at this
        rw [this]
        cases D' k with
        | false => exact h
        | true => exact setsM_eq _ _ _ _ hl h
      · have hne : ∀ p ∈ e.W, p.1 ≠ x := fun p hp e2 => hx (List.mem_map.2 ⟨p, hp, e2⟩)
        have h1 : ∀ u : St, (bif D k then e.ap u else u).m[x]? = u.m[x]? := fun u => by
          cases D k with
          | false => rfl
          | true => exact setsM_get _ _ _ hne
        have h2 : ∀ u : St, (bif D' k then e.ap u else u).m[x]? = u.m[x]? := fun u => by
          cases D' k with
          | false => rfl
          | true => exact setsM_get _ _ _ hne
        rw [h1, h2, h]
theorem putS_comm (t : List SV) (d d' : Option Tmp) (v v' : SV) (h : ∀ x, d = some x → d' ≠ some x) : putS (putS t d v) d' v' = putS (putS t d' v') d v := by
  cases d with
  | none => rfl
  | some x => cases d' with
    | none => rfl
    | some y => exact List.set_comm _ _ (fun e => h x rfl (by rw [e]))
theorem setsM_set : ∀ (W : List (Nat × It)) (m : List It) (i : Nat) (x : It), (∀ p ∈ W, p.1 ≠ i) → setsM (m.set i x) W = (setsM m W).set i x
  | [], _, _, _, _ => rfl
  | p :: W, m, i, x, h => by
    simp only [setsM]
    rw [List.set_comm _ _ (fun e => h p (by simp) e.symm), setsM_set W _ i x fun q hq => h q (by simp [hq])]
theorem setsM_comm : ∀ (W W' : List (Nat × It)) (m : List It), (∀ p ∈ W, ∀ q ∈ W', p.1 ≠ q.1) → setsM (setsM m W) W' = setsM (setsM m W') W
  | [], _, _, _ => rfl
  | p :: W, W', m, h => by
    simp only [setsM]
    rw [setsM_comm W W' _ fun a ha b hb => h a (by simp [ha]) b hb, setsM_set W' m p.1 p.2 fun q hq e => h p (by simp) q hq e.symm]
theorem stD_ap {D : Nat → Bool} (e : Ef) : ∀ (l : List Ef) (k : Nat) (s : St), (∀ j f, l[j]? = some f → D (k + j) = true → (∀ x, e.d = some x → f.d ≠ some x) ∧ ∀ p ∈ e.W, ∀ q ∈ f.W, p.1 ≠ q.1) → stD D k (e.ap s) l = e.ap (stD D k s l)
  | [], _, _, _ => rfl
  | f :: l, k, s, h => by
    simp only [stD]
    have h0 := h 0 f rfl
    simp only [Nat.add_zero] at h0
    have e1 : (bif D k then f.ap (e.ap s) else e.ap s) = e.ap (bif D k then f.ap s else s) := by
      cases hD : D k with
      | false => rfl
      | true =>
        obtain ⟨h1, h2⟩ := h0 hD
        simp only [cond_true, Ef.ap]
        rw [putS_comm _ _ _ _ _ h1, setsM_comm _ _ _ h2]
    rw [e1]
    exact stD_ap e l (k + 1) _ fun j g hj hD => h (j + 1) g (by simpa using hj) (by rwa [show k + (j + 1) = k + 1 + j by omega])
/-- One more is done. -/
theorem stD_more {D : Nat → Bool} {i : Nat} {e : Ef} : ∀ (l : List Ef) (k : Nat) (s : St), l[i]? = some e → D (k + i) = false → (∀ j f, l[j]? = some f → i < j → D (k + j) = true → (∀ x, e.d = some x → f.d ≠ some x) ∧ ∀ p ∈ e.W, ∀ q ∈ f.W, p.1 ≠ q.1) → stD (fun j => bif Nat.beq j (k + i) then true else D j) k s l = e.ap (stD D k s l) := by
  induction i with
  | zero =>
    intro l k s he hD hc
    cases l with
    | nil => simp at he
    | cons f l =>
      simp at he
      subst he
      simp only [stD, Nat.add_zero] at hD ⊢
      simp only [Nat.beq_refl, cond_true, hD, cond_false]
      have e1 : ∀ (l : List Ef) (k' : Nat) (s : St), k < k' → stD (fun j => bif Nat.beq j k then true else D j) k' s l = stD D k' s l := by
        intro l
        induction l with
        | nil => intro _ _ _; rfl
        | cons g l ih =>
          intro k' s hk
          simp only [stD]
          rw [show Nat.beq k' k = false from nbne.2 (by omega)]
          exact ih _ _ (by omega)
      rw [e1 l (k + 1) _ (by omega)]
      exact stD_ap f l (k + 1) s fun j g hj hD2 => hc (j + 1) g (by simpa using hj) (by omega) (by rwa [show k + (j + 1) = k + 1 + j by omega])
  | succ i ih =>
    intro l k s he hD hc
    cases l with
    | nil => simp at he
    | cons f l =>
      simp only [stD]
      rw [show Nat.beq k (k + (i + 1)) = false from nbne.2 (by omega)]
      simp only [cond_false]
      have := ih l (k + 1) (bif D k then f.ap s else s) (by simpa using he) (by rwa [show k + 1 + i = k + (i + 1) by omega]) fun j g hj hij hD2 => hc (j + 1) g (by simpa using hj) (by omega) (by rwa [show k + (j + 1) = k + 1 + j by omega])
      rwa [show k + 1 + i = k + (i + 1) by omega] at this
/-- What holds of all that is laid down holds of all that lies there. -/
theorem stD_all {f : SV → Bool} {g : It → Bool} {D : Nat → Bool} : ∀ (l : List Ef) (k : Nat) (s : St), s.t.all f = true → s.m.all g = true → (∀ j e, l[j]? = some e → D (k + j) = true → f e.v = true ∧ e.W.all (fun p => g p.2) = true) → (stD D k s l).t.all f = true ∧ (stD D k s l).m.all g = true
  | [], _, _, h1, h2, _ => ⟨h1, h2⟩
  | e :: l, k, s, h1, h2, h => by
    simp only [stD]
    have h0 := h 0 e rfl
    simp only [Nat.add_zero] at h0
    refine stD_all l (k + 1) _ ?_ ?_ fun j g hj hD => h (j + 1) g (by simpa using hj) (by rwa [show k + (j + 1) = k + 1 + j by omega])
    · cases hD : D k with
      | false => exact h1
      | true => exact all_putS h1 (h0 hD).1
    · cases hD : D k with
      | false => exact h2
      | true => exact all_setsM _ h2 (h0 hD).2
end Go.Proofs.Ytlfekknonjlopaa
