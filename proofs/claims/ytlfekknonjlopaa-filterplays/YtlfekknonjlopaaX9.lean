/- A region whose order is open, run in the text's order. -/
import Derived.Test.YtlfekknonjlopaaX8
namespace Go.Proofs.Ytlfekknonjlopaa
open Go.RowKit
set_option linter.unusedVariables false
set_option linter.unusedSimpArgs false

/-- A region's run: what its operations did; what the kernel is asked; slots and memory behind it; how many operations, and the words left. -/
structure Re {P : Program} (S : Seat P) (C : World → Prop) where
  es : List Ef
  A : List Tk
  B : List Tk
  t : List SV
  m : List It
  n : Nat
  ds : List (Nat × Dr S C)
def regE {P : Program} {S : Seat P} {C : World → Prop} (all : List Oper) : Nat → List (Nat × Dr S C) → List SV → List It → List Oper → Option (Re S C)
  | n, ds, t, m, [] => some ⟨[], [], [], t, m, n, ds⟩
  | n, ds, t, m, o :: rest => match wantS all t o with
    | some true => if noSel o then match opS S C (evS t) m o (dirOf n ds) with
      | some (rs, a, b) =>
        if rs.v.al (isLt (m.length + rs.N.length)) && (rs.W.all (fun p => p.2.al (isLt (m.length + rs.N.length))) && rs.N.all (It.al (isLt (m.length + rs.N.length)))) then
          match regE all (n + 1) (dirNx n ds) (putS t o.dst rs.v) (setsM m rs.W ++ rs.N) rest with
          | some r => some { r with es := ⟨o.dst, rs.v, rs.W ++ ix m.length rs.N, m.length, rs.N.length, rs.R, o.looksAt all.toArray⟩ :: r.es, A := { a with b := (gdTk all t o true).1 } :: r.A, B := { b with b := (gdTk all t o true).2 } :: r.B }
          | none => none
        else none
      | none => none
      else none
    | some false => match regE all (n + 1) ds (putS t o.dst (vV undef)) m rest with
      | some r => some { r with es := ⟨o.dst, vV undef, [], m.length, 0, [], o.looksAt all.toArray⟩ :: r.es, A := { tk0 with b := (gdTk all t o false).1 } :: r.A, B := { tk0 with b := (gdTk all t o false).2 } :: r.B }
      | none => none
    | none => none
/-- What is known of one operation of a run: slots t and memory m ahead of it. -/
def Fact {P : Program} (S : Seat P) (C : World → Prop) (all : List Oper) (o : Oper) (e : Ef) (t : List SV) (m : List It) : Prop :=
  (∃ (d : Option (Dr S C)) (rs : Rs) (a b : Tk), opS S C (evS t) m o d = some (rs, a, b) ∧ a = b ∧ noSel o = true ∧ wantS all t o = some true ∧ (gdTk all t o true).1 = (gdTk all t o true).2 ∧
    (rs.v.al (isLt (m.length + rs.N.length)) && (rs.W.all (fun p => p.2.al (isLt (m.length + rs.N.length))) && rs.N.all (It.al (isLt (m.length + rs.N.length))))) = true ∧
    e = ⟨o.dst, rs.v, rs.W ++ ix m.length rs.N, m.length, rs.N.length, rs.R, o.looksAt all.toArray⟩) ∨
  (wantS all t o = some false ∧ (gdTk all t o false).1 = (gdTk all t o false).2 ∧ e = ⟨o.dst, vV undef, [], m.length, 0, [], o.looksAt all.toArray⟩)
def gaps (n : Nat) : List It := List.replicate n gap
def sumN : List Ef → Nat
  | [] => 0
  | e :: l => e.n + sumN l
theorem opS_b {P : Program} {S : Seat P} {C : World → Prop} {ρ : Operand → SV} {m : List It} {o : Oper} {d : Option (Dr S C)} {rs : Rs} {x y : Tk} (h : opS S C ρ m o d = some (rs, x, y)) : x.b = (fun _ => none) ∧ y.b = fun _ => none := by
  unfold opS at h
  repeat' split at h
  all_goals first
    | (cases h; done)
    | (simp only [Option.some.injEq, Prod.mk.injEq] at h; obtain ⟨-, rfl, rfl⟩ := h; exact ⟨rfl, rfl⟩)
    | (simp only at h; split at h <;> first | (cases h; done) | (simp only [Option.some.injEq, Prod.mk.injEq] at h; obtain ⟨-, rfl, rfl⟩ := h; exact ⟨rfl, rfl⟩))
theorem setsM_gaps : ∀ (N : List It) (m : List It) (W : List (Nat × It)) (g : Nat), (∀ p ∈ W, p.1 < m.length) → setsM (m ++ gaps (N.length + g)) (W ++ ix m.length N) = (setsM m W ++ N) ++ gaps g := by
  have h1 : ∀ (W : List (Nat × It)) (m k : List It), (∀ p ∈ W, p.1 < m.length) → setsM (m ++ k) W = setsM m W ++ k := by
    intro W
    induction W with
    | nil => intro _ _ _; rfl
    | cons p W ih =>
      intro m k h
      simp only [setsM]
      rw [List.set_append_left _ _ (h p (by simp)), ih _ _ fun q hq => by simpa using h q (by simp [hq])]
  have h2 : ∀ (N m : List It) (g : Nat), setsM (m ++ gaps (N.length + g)) (ix m.length N) = m ++ (N ++ gaps g) := by
    intro N
    induction N with
    | nil => intro m g; simp [ix, setsM]
    | cons x N ih =>
      intro m g
      simp only [ix, setsM, List.length_cons]
      rw [show gaps (N.length + 1 + g) = gap :: gaps (N.length + g) by rw [show N.length + 1 + g = (N.length + g) + 1 by omega]; rfl]
      rw [List.set_append_right _ _ (Nat.le_refl _), Nat.sub_self, List.set_cons_zero]
      have := ih (m ++ [x]) g
      simp only [List.length_append, List.length_cons, List.length_nil, Nat.zero_add, List.append_assoc, List.cons_append, List.nil_append] at this
      rw [this]
      rfl
  have h3 : ∀ (W V : List (Nat × It)) (m : List It), setsM m (W ++ V) = setsM (setsM m W) V := by
    intro W
    induction W with
    | nil => intro _ _; rfl
    | cons p W ih => intro V m; exact ih V _
  intro N m W g hW
  rw [h3, h1 W m _ hW]
  have := h2 N (setsM m W) g
  rw [setsM_len] at this
  rw [this, List.append_assoc]
theorem stD_shift (D : Nat → Bool) : ∀ (l : List Ef) (k : Nat) (s : St), stD D (k + 1) s l = stD (fun j => D (j + 1)) k s l
  | [], _, _ => rfl
  | e :: l, k, s => by
    simp only [stD]
    exact stD_shift D l (k + 1) _
theorem stD_congr {D D' : Nat → Bool} : ∀ (l : List Ef) (k : Nat) (s : St), (∀ j, k ≤ j → j < k + l.length → D j = D' j) → stD D k s l = stD D' k s l
  | [], _, _, _ => rfl
  | e :: l, k, s, h => by
    simp only [stD]
    rw [h k (Nat.le_refl _) (by simp)]
    exact stD_congr l (k + 1) _ fun j h1 h2 => h j (by omega) (by simp at h2 ⊢; omega)
/-- What a run tells. -/
theorem regE_ok {P : Program} {S : Seat P} {C : World → Prop} {all : List Oper} : ∀ (l : List Oper) (n : Nat) (ds : List (Nat × Dr S C)) (t : List SV) (m : List It) (r : Re S C), regE all n ds t m l = some r → r.A = r.B →
    r.es.length = l.length ∧ (⟨r.t, r.m⟩ : St) = stD (fun _ => true) 0 ⟨t, m ++ gaps (sumN r.es)⟩ r.es ∧
    (∀ (i : Nat) (o : Oper) (e : Ef), l[i]? = some o → r.es[i]? = some e → ∃ (mi : List It) (g : Nat), (stD (fun j => Nat.blt j i) 0 ⟨t, m ++ gaps (sumN r.es)⟩ r.es).m = mi ++ gaps g ∧ e.b = mi.length ∧ m.length ≤ e.b ∧ Fact S C all o e (stD (fun j => Nat.blt j i) 0 ⟨t, m ++ gaps (sumN r.es)⟩ r.es).t mi) ∧
    (∀ (i j : Nat) (e f : Ef), r.es[i]? = some e → r.es[j]? = some f → i < j → e.b + e.n ≤ f.b) ∧
    (t.all (SV.al (isLt m.length)) = true → m.all (It.al (isLt m.length)) = true → r.t.all (SV.al (isLt r.m.length)) = true ∧ r.m.all (It.al (isLt r.m.length)) = true) ∧ m.length ≤ r.m.length
  | [], n, ds, t, m, r, h, e => by
    simp only [regE, Option.some.injEq] at h
    subst h
    refine ⟨rfl, by simp [stD, sumN, gaps], fun i o e h => by simp at h, fun i j e f h => by simp at h, fun h1 h2 => ⟨h1, h2⟩, Nat.le_refl _⟩
  | o :: l, n, ds, t, m, r, h, e => by
    -- the first operation, and the rest
    have main : ∀ (ef : Ef) (t' : List SV) (m' : List It) (n' : Nat) (ds' : List (Nat × Dr S C)) (r' : Re S C) (a b : Tk), regE all n' ds' t' m' l = some r' → r = { r' with es := ef :: r'.es, A := a :: r'.A, B := b :: r'.B } →
        (a = b → Fact S C all o ef t m) → ef.b = m.length → m'.length = m.length + ef.n → (∀ g, ef.ap ⟨t, m ++ gaps (ef.n + g)⟩ = ⟨t', m' ++ gaps g⟩) → (a = b → t.all (SV.al (isLt m.length)) = true → m.all (It.al (isLt m.length)) = true → t'.all (SV.al (isLt m'.length)) = true ∧ m'.all (It.al (isLt m'.length)) = true) →
        r.es.length = (o :: l).length ∧ (⟨r.t, r.m⟩ : St) = stD (fun _ => true) 0 ⟨t, m ++ gaps (sumN r.es)⟩ r.es ∧
        (∀ (i : Nat) (o' : Oper) (e : Ef), (o :: l)[i]? = some o' → r.es[i]? = some e → ∃ (mi : List It) (g : Nat), (stD (fun j => Nat.blt j i) 0 ⟨t, m ++ gaps (sumN r.es)⟩ r.es).m = mi ++ gaps g ∧ e.b = mi.length ∧ m.length ≤ e.b ∧ Fact S C all o' e (stD (fun j => Nat.blt j i) 0 ⟨t, m ++ gaps (sumN r.es)⟩ r.es).t mi) ∧
        (∀ (i j : Nat) (e f : Ef), r.es[i]? = some e → r.es[j]? = some f → i < j → e.b + e.n ≤ f.b) ∧
        (t.all (SV.al (isLt m.length)) = true → m.all (It.al (isLt m.length)) = true → r.t.all (SV.al (isLt r.m.length)) = true ∧ r.m.all (It.al (isLt r.m.length)) = true) ∧ m.length ≤ r.m.length := by
      intro ef t' m' n' ds' r' a b hr' hr hf hb hm' hap hal
      subst hr
      simp only at e ⊢
      obtain ⟨eab, e'⟩ := List.cons.inj e
      obtain ⟨i1, i2, i3, i4, i5, i6⟩ := regE_ok l n' ds' t' m' r' hr' e'
      have hs : ∀ D : Nat → Bool, D 0 = true → stD D 0 ⟨t, m ++ gaps (sumN (ef :: r'.es))⟩ (ef :: r'.es) = stD (fun j => D (j + 1)) 0 ⟨t', m' ++ gaps (sumN r'.es)⟩ r'.es := fun D hD => by
        simp only [stD, sumN, hD, cond_true, hap, stD_shift]
      refine ⟨by simp [i1], by rw [hs _ rfl]; exact i2, ?_, ?_, fun h1 h2 => ?_, by omega⟩
      · intro i o' e2 ho he
        cases i with
        | zero =>
          simp only [List.getElem?_cons_zero, Option.some.injEq] at ho he
          subst ho
          subst he
          have h0 : stD (fun j => Nat.blt j 0) 0 ⟨t, m ++ gaps (sumN (ef :: r'.es))⟩ (ef :: r'.es) = ⟨t, m ++ gaps (sumN (ef :: r'.es))⟩ := by
            have : ∀ (l : List Ef) (k : Nat) (s : St), stD (fun j => Nat.blt j 0) k s l = s := by
              intro l
              induction l with
              | nil => intro _ _; rfl
              | cons x l ih => intro k s; simp only [stD]; exact ih _ _
            exact this _ _ _
          rw [h0]
          exact ⟨m, _, rfl, hb, by omega, hf eab⟩
        | succ i =>
          simp only [List.getElem?_cons_succ] at ho he
          obtain ⟨mi, g, h1, h2, h3, h4⟩ := i3 i o' e2 ho he
          have hsh : stD (fun j => Nat.blt j (i + 1)) 0 ⟨t, m ++ gaps (sumN (ef :: r'.es))⟩ (ef :: r'.es) = stD (fun j => Nat.blt j i) 0 ⟨t', m' ++ gaps (sumN r'.es)⟩ r'.es := by
            rw [hs _ rfl]
            rfl
          rw [hsh]
          exact ⟨mi, g, h1, h2, by omega, h4⟩
      · intro i j x y hx hy hij
        cases i with
        | zero =>
          simp only [List.getElem?_cons_zero, Option.some.injEq] at hx
          subst hx
          cases j with
          | zero => omega
          | succ j =>
            simp only [List.getElem?_cons_succ] at hy
            have hjl : j < l.length := by
              have := (List.getElem?_eq_some_iff.1 hy).1
              omega
            obtain ⟨mi, g, -, -, h3, -⟩ := i3 j l[j] y (List.getElem?_eq_getElem hjl) hy
            omega
        | succ i =>
          cases j with
          | zero => omega
          | succ j => exact i4 i j x y (by simpa using hx) (by simpa using hy) (by omega)
      · obtain ⟨h3, h4⟩ := hal eab h1 h2
        exact i5 h3 h4
    unfold regE at h
    split at h
    · rename_i hw
      split at h
      · rename_i hsel
        split at h
        · rename_i rs a b hop
          split at h
          · rename_i hv
            split at h
            · rename_i r' hr'
              simp only [Option.some.injEq] at h
              have hb := opS_b hop
              have hab : ({ a with b := (gdTk all t o true).1 } : Tk) = { b with b := (gdTk all t o true).2 } → a = b := fun e2 => by
                obtain ⟨q1, j1, s1, r1, -⟩ := Tk.mk.inj e2
                obtain ⟨qa, ia, sa, ra, ba⟩ := a
                obtain ⟨qb, ib, sb, rb, bb⟩ := b
                simp only at q1 j1 s1 r1 hb
                rw [q1, j1, s1, r1, hb.1, hb.2]
              have hin := fun e2 => (opS_ok hop (hab e2)).1
              have hWl : ({ a with b := (gdTk all t o true).1 } : Tk) = { b with b := (gdTk all t o true).2 } → ∀ p ∈ rs.W, p.1 < m.length := fun e2 p hp => by
                have := hin e2
                simp only [inM, Bool.and_eq_true, List.all_eq_true] at this
                simpa [isLt, Nat.blt_eq] using this.1 p.1 (List.mem_append_right _ (List.mem_map_of_mem hp))
              have e0 : ({ a with b := (gdTk all t o true).1 } : Tk) = { b with b := (gdTk all t o true).2 } := by
                have := e
                rw [← h] at this
                exact (List.cons.inj this).1
              refine main _ _ _ _ _ r' _ _ hr' h.symm (fun e2 => .inl ⟨_, rs, a, b, hop, hab e2, hsel, hw, (Tk.mk.inj e2).2.2.2.2, hv, rfl⟩) rfl (by simp [setsM_len]) (fun g => ?_) fun e2 h1 h2 => ?_
              · simp only [Ef.ap]
                rw [setsM_gaps rs.N m rs.W g (hWl e0)]
              · simp only [Bool.and_eq_true] at hv
                simp only [List.length_append, setsM_len]
                refine ⟨all_putS (all_imp (SV.al_imp (lt_imp (by omega))) h1) hv.1, ?_⟩
                rw [List.all_append, Bool.and_eq_true]
                exact ⟨all_setsM _ (all_imp (It.al_imp (lt_imp (by omega))) h2) hv.2.1, hv.2.2⟩
            · cases h
          · cases h
        · cases h
      · cases h
    · rename_i hw
      split at h
      · rename_i r' hr'
        simp only [Option.some.injEq] at h
        refine main _ _ _ _ _ r' _ _ hr' h.symm (fun e2 => .inr ⟨hw, (Tk.mk.inj e2).2.2.2.2, rfl⟩) rfl (by simp) (fun g => ?_) fun _ h1 h2 => ⟨all_putS h1 rfl, h2⟩
        simp [Ef.ap, setsM]
      · cases h
    · cases h
theorem regE_le {P : Program} {S : Seat P} {C : World → Prop} {all : List Oper} : ∀ (l : List Oper) (n : Nat) (ds : List (Nat × Dr S C)) (t : List SV) (m : List It) (r : Re S C), regE all n ds t m l = some r → ∀ (i : Nat) (e : Ef), r.es[i]? = some e → e.b + e.n ≤ r.m.length
  | [], n, ds, t, m, r, h => by
    simp only [regE, Option.some.injEq] at h
    subst h
    intro i e he
    simp at he
  | o :: l, n, ds, t, m, r, h => by
    have hlen : ∀ (l : List Oper) (n : Nat) (ds : List (Nat × Dr S C)) (t : List SV) (m : List It) (r : Re S C), regE all n ds t m l = some r → m.length ≤ r.m.length := by
      intro l
      induction l with
      | nil => intro n ds t m r h; simp only [regE, Option.some.injEq] at h; subst h; exact Nat.le_refl _
      | cons o l ih =>
        intro n ds t m r h
        unfold regE at h
        split at h
        · split at h
          · split at h
            · split at h
              · split at h
                · rename_i r' hr'
                  simp only [Option.some.injEq] at h
                  subst h
                  have := ih _ _ _ _ _ hr'
                  simp only [List.length_append, setsM_len] at this
                  simp only
                  omega
                · cases h
              · cases h
            · cases h
          · cases h
        · split at h
          · rename_i r' hr'
            simp only [Option.some.injEq] at h
            subst h
            exact ih _ _ _ _ r' hr'
          · cases h
        · cases h
    unfold regE at h
    split at h
    · split at h
      · split at h
        · rename_i rs a b hop
          split at h
          · split at h
            · rename_i r' hr'
              simp only [Option.some.injEq] at h
              subst h
              have h1 := hlen _ _ _ _ _ _ hr'
              simp only [List.length_append, setsM_len] at h1
              intro i e he
              cases i with
              | zero =>
                simp only [List.getElem?_cons_zero, Option.some.injEq] at he
                subst he
                exact h1
              | succ i => exact regE_le l _ _ _ _ r' hr' i e (by simpa using he)
            · cases h
          · cases h
        · cases h
      · cases h
    · split at h
      · rename_i r' hr'
        simp only [Option.some.injEq] at h
        subst h
        have h1 := hlen _ _ _ _ _ _ hr'
        intro i e he
        cases i with
        | zero =>
          simp only [List.getElem?_cons_zero, Option.some.injEq] at he
          subst he
          exact h1
        | succ i => exact regE_le l _ _ _ _ r' hr' i e (by simpa using he)
      · cases h
    · cases h
end Go.Proofs.Ytlfekknonjlopaa
