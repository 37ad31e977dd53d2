/- What is known becomes data. -/
import Derived.Test.YtlfekknonjlopaaXL
namespace Go.Proofs.Ytlfekknonjlopaa
open Go.RowKit
set_option linter.unusedVariables false
set_option linter.unusedSimpArgs false

def setT (ts : List Nat) (b : Nat) : Nat → List SV → List SV
  | _, [] => []
  | i, v :: l => (bif ts.any (Nat.beq i) then vW b else v) :: setT ts b (i + 1) l
def pickT (ts : List Nat) : Nat → List SV → List SV
  | _, [] => []
  | i, v :: l => (bif ts.any (Nat.beq i) then [v] else []) ++ pickT ts (i + 1) l
def setC (b : Nat) (m : List It) (i j : Nat) : List It := match m[i]? with
  | some it => match it.k with
    | 0 => m.set i (tC (it.l.set j (vW b)) it.t)
    | _ => m
  | none => m
def cellC (m : List It) (i j : Nat) : List SV := match m[i]? with
  | some it => match it.k with
    | 0 => match it.l[j]? with
      | some x => [x]
      | none => []
    | _ => []
  | none => []
def setCs (b : Nat) : List (Nat × Nat) → List It → List It
  | [], m => m
  | p :: cs, m => setCs b cs (setC b m p.1 p.2)
def pickC (b : Nat) : List (Nat × Nat) → List It → List SV
  | [], _ => []
  | p :: cs, m => cellC m p.1 p.2 ++ pickC b cs (setC b m p.1 p.2)
theorem setT_den {E : Nat → Ent} {b : Nat} {sv : SV} (hv : (E b).v = sv.den E) (ts : List Nat) : ∀ (t : List SV) (i : Nat), (∀ x ∈ pickT ts i t, x = sv) → (setT ts b i t).map (SV.den E) = t.map (SV.den E)
  | [], _, _ => rfl
  | v :: l, i, h => by
    simp only [pickT, List.mem_append] at h
    simp only [setT, List.map_cons, setT_den hv ts l (i + 1) fun x hx => h x (.inr hx)]
    cases hq : ts.any (Nat.beq i) with
    | false => rfl
    | true =>
      have hv2 : v = sv := h v (.inl (by rw [hq]; simp))
      subst hv2
      show (E b).v :: _ = _
      rw [hv]
theorem setT_al {p : Nat → Bool} {b : Nat} (hb : p b = true) (ts : List Nat) : ∀ (t : List SV) (i : Nat), t.all (SV.al p) = true → (setT ts b i t).all (SV.al p) = true
  | [], _, _ => rfl
  | v :: l, i, h => by
    simp only [List.all_cons, Bool.and_eq_true] at h
    simp only [setT, List.all_cons, Bool.and_eq_true]
    refine ⟨?_, setT_al hb ts l (i + 1) h.2⟩
    cases ts.any (Nat.beq i) with
    | false => exact h.1
    | true => exact hb
theorem setC_len (b : Nat) (m : List It) (i j : Nat) : (setC b m i j).length = m.length := by
  unfold setC
  repeat' split
  all_goals simp
theorem setCs_len (b : Nat) : ∀ (cs : List (Nat × Nat)) (m : List It), (setCs b cs m).length = m.length
  | [], _ => rfl
  | p :: cs, m => by simp only [setCs, setCs_len b cs, setC_len]
theorem dens_set_same (E : Nat → Ent) : ∀ (m : List It) (k i : Nat) (x y : It), m[i]? = some x → y.den E (k + i) = x.den E (k + i) → dens E k (m.set i y) = dens E k m
  | [], _, _, _, _, h, _ => by simp at h
  | z :: m, k, 0, x, y, h, e => by
    simp only [List.getElem?_cons_zero, Option.some.injEq] at h
    subst h
    simp only [List.set_cons_zero, dens]
    rw [show k + 0 = k from rfl] at e
    rw [e]
  | z :: m, k, i + 1, x, y, h, e => by
    simp only [List.set_cons_succ, dens]
    rw [dens_set_same E m (k + 1) i x y (by simpa using h) (by rwa [show k + 1 + i = k + (i + 1) by omega])]
theorem setC_dens {E : Nat → Ent} {b : Nat} {sv : SV} (hv : (E b).v = sv.denC E) {m : List It} {i j : Nat} (h : ∀ x ∈ cellC m i j, x = sv) : dens E 0 (setC b m i j) = dens E 0 m := by
  unfold setC
  unfold cellC at h
  split
  · rename_i it hit
    rw [hit] at h
    simp only at h
    split
    · rename_i hk
      rw [hk] at h
      simp only at h
      refine dens_set_same E m 0 i it _ hit ?_
      rw [it0 hk, it0 (show (tC (it.l.set j (vW b)) it.t).k = 0 from rfl)]
      have : (it.l.set j (vW b)).map (SV.denC E) = it.l.map (SV.denC E) := by
        rw [List.map_set]
        cases hj : it.l[j]? with
        | none => exact List.set_eq_of_length_le (by simpa using List.getElem?_eq_none_iff.1 hj)
        | some x =>
          rw [hj] at h
          have hx : x = sv := h x (by simp)
          subst hx
          obtain ⟨hlt, he⟩ := List.getElem?_eq_some_iff.1 hj
          have : (vW b).denC E = (it.l.map (SV.denC E))[j]'(by simpa using hlt) := by
            simp only [List.getElem_map, he]
            exact hv
          rw [this]
          exact List.set_getElem_self _
      show [(⟨(E (0 + i)).g, .cells ((it.l.set j (vW b)).map (SV.denC E)).toArray it.t (0, 0)⟩ : Blk)] = _
      rw [this]
    · rfl
  · rfl
theorem setCs_dens {E : Nat → Ent} {b : Nat} {sv : SV} (hv : (E b).v = sv.denC E) : ∀ (cs : List (Nat × Nat)) (m : List It), (∀ x ∈ pickC b cs m, x = sv) → dens E 0 (setCs b cs m) = dens E 0 m
  | [], _, _ => rfl
  | p :: cs, m, h => by
    simp only [pickC, List.mem_append] at h
    simp only [setCs]
    rw [setCs_dens hv cs _ fun x hx => h x (.inr hx), setC_dens hv fun x hx => h x (.inl hx)]
theorem setC_oks {E : Nat → Ent} {b : Nat} {m : List It} {i j : Nat} (h : oks E m) : oks E (setC b m i j) := by
  unfold setC
  split
  · rename_i it hit
    split
    · intro k x hx
      rw [List.getElem?_set] at hx
      split at hx
      · split at hx
        · cases hx
          exact trivial
        · cases hx
      · exact h k x hx
    · exact h
  · exact h
theorem setCs_oks {E : Nat → Ent} {b : Nat} : ∀ (cs : List (Nat × Nat)) {m : List It}, oks E m → oks E (setCs b cs m)
  | [], _, h => h
  | p :: cs, m, h => setCs_oks cs (setC_oks h)
theorem setC_al {p : Nat → Bool} {b : Nat} (hb : p b = true) {m : List It} {i j : Nat} (h : m.all (It.al p) = true) : (setC b m i j).all (It.al p) = true := by
  unfold setC
  split
  · rename_i it hit
    split
    · rename_i hk
      refine List.all_eq_true.2 fun x hx => ?_
      rcases List.mem_or_eq_of_mem_set hx with hx | rfl
      · exact List.all_eq_true.1 h x hx
      · have h1 : it.al p = true := List.all_eq_true.1 h it (List.mem_of_getElem? hit)
        have h2 : it.l.all (SV.alC p) = true := by
          unfold It.al at h1
          rw [hk] at h1
          exact h1
        show (it.l.set j (vW b)).all (SV.alC p) = true
        refine List.all_eq_true.2 fun y hy => ?_
        rcases List.mem_or_eq_of_mem_set hy with hy | rfl
        · exact List.all_eq_true.1 h2 y hy
        · exact hb
    · exact h
  · exact h
theorem setCs_al {p : Nat → Bool} {b : Nat} (hb : p b = true) : ∀ (cs : List (Nat × Nat)) {m : List It}, m.all (It.al p) = true → (setCs b cs m).all (It.al p) = true
  | [], _, h => h
  | q :: cs, m, h => setCs_al hb cs (setC_al hb h)
def packS (s : St) (l : List Nat) (D : Value → List Blk → Prop) (ts : List Nat) (cs : List (Nat × Nat)) : St := ⟨setT ts s.m.length 0 s.t, setCs s.m.length cs (gapM s.m l) ++ [tD D]⟩
theorem oks_gapM {E : Nat → Ent} : ∀ (l : List Nat) {m : List It}, oks E m → oks E (gapM m l)
  | [], _, h => h
  | i :: l, m, h => oks_gapM l fun k x hx => by
    rw [List.getElem?_set] at hx
    split at hx
    · split at hx
      · cases hx
        exact trivial
      · cases hx
    · exact h k x hx
/-- What sv tells, with the items l, becomes data: in the slots ts, in the cells cs. -/
theorem xPack {P : Program} {S : Seat P} {c : Ctx} {E0 : Nat → Ent} {n : Nat} {B : Exit → Act → World → Prop} {K : List Fr} {s : St} (sv : SV) (l : List Nat) (D : Value → List Blk → Prop) (ts : List Nat) (cs : List (Nat × Nat))
    (hD : ∀ E : Nat → Ent, okP E (lk s.m l) → (sv.den E).oneCell' = true ∧ D (sv.den E) (denP E (lk s.m l)))
    (k : OK S c E0 n B K (packS s l D ts cs))
    (hA : (sv.isA && (inM s.m l && sv.al (isLt s.m.length))) = true := by kernel_rfl)
    (hT : pickT ts 0 s.t = (pickT ts 0 s.t).map fun _ => sv := by kernel_rfl)
    (hC : pickC s.m.length cs (gapM s.m l) = (pickC s.m.length cs (gapM s.m l)).map fun _ => sv := by kernel_rfl) : OK S c E0 n B K s := by
  simp only [Bool.and_eq_true] at hA
  obtain ⟨hA, hin, hal⟩ := hA
  have cst : ∀ {L : List SV}, L = L.map (fun _ => sv) → ∀ x ∈ L, x = sv := fun h x hx => by
    rw [h] at hx
    obtain ⟨_, _, rfl⟩ := List.mem_map.1 hx
    rfl
  refine ⟨fun E a w hn hE H => ?_⟩
  have hok : okP E (lk s.m l) := by
    intro p hp
    obtain ⟨i, hi2, rfl⟩ := List.mem_map.1 hp
    simp only [inM, Bool.and_eq_true, List.all_eq_true] at hin
    have hil : i < s.m.length := by simpa [isLt, Nat.blt_eq] using hin.1 i hi2
    simp only [List.getElem?_eq_getElem hil, Option.getD_some]
    exact H.ok i _ (List.getElem?_eq_getElem hil)
  obtain ⟨h1, h2⟩ := hD E hok
  let E' : Nat → Ent := fun i => bif Nat.beq i s.m.length then ⟨0, sv.den E, denP E (lk s.m l), h1⟩ else E i
  have hE' : ∀ i, i < s.m.length → E' i = E i := fun i hi => by
    have : Nat.beq i s.m.length = false := by
      cases e : Nat.beq i s.m.length with
      | false => rfl
      | true => exact absurd (nbeq.1 e) (by omega)
    simp only [E', this, cond_false]
  have hb : E' s.m.length = ⟨0, sv.den E, denP E (lk s.m l), h1⟩ := by
    have : Nat.beq s.m.length s.m.length = true := nbeq.2 rfl
    simp only [E', this, cond_true]
  have hden : sv.den E' = sv.den E := sv.den_congr (p := isLt s.m.length) (fun i hi => hE' i (by simpa [isLt, Nat.blt_eq] using hi)) hal
  have hv : (E' s.m.length).v = sv.den E' := by rw [hb, hden]
  have hvC : (E' s.m.length).v = sv.denC E' := by rw [hv, (SV.den_A hA E').1, (SV.den_A hA E').2.2.1]
  have hlen : (setCs s.m.length cs (gapM s.m l)).length = s.m.length := by rw [setCs_len, gapM_len]
  refine k.out E' a w ?_ (fun i hi => by rw [hE' i (by omega), hE i hi]) ⟨?_, H.df, ?_, ?_, ?_, ?_⟩
  · simp only [packS, List.length_append, hlen]
    omega
  · rw [H.tm, ← tv_congr hE' H.wt]
    unfold tv packS
    rw [setT_den hv ts s.t 0 (cst hT)]
  · have hg : (gapM s.m l).all (It.al (isLt s.m.length)) = true := all_gapM rfl l H.wm
    simp only [packS]
    rw [dens_app, setCs_dens hvC cs _ (cst hC), hlen]
    rw [dens_congr (E := E') (E' := E) (p := isLt s.m.length) (fun i hi => hE' i (by simpa [isLt, Nat.blt_eq] using hi)) (gapM s.m l) 0 (fun i _ hi => hE' i (by rw [gapM_len] at hi; omega)) hg]
    have : dens E' (0 + s.m.length) [tD D] = denP E (lk s.m l) := by
      simp only [dens, List.append_nil, Nat.zero_add]
      show (E' s.m.length).T = _
      rw [hb]
    rw [this]
    exact H.mem.perm ((dens_part E _ _ hin).trans List.perm_append_comm)
  · intro i x hx
    simp only [packS] at hx
    by_cases hi : i < s.m.length
    · rw [List.getElem?_append_left (by rw [hlen]; exact hi)] at hx
      have := setCs_oks (b := s.m.length) cs (oks_gapM l H.ok) i x hx
      rwa [x.ok_congr (hE' i hi)]
    · rw [List.getElem?_append_right (by rw [hlen]; omega), hlen] at hx
      have : i = s.m.length := by
        cases e : i - s.m.length with
        | zero => omega
        | succ k => rw [e] at hx; simp at hx
      subst this
      simp only [Nat.sub_self, List.getElem?_cons_zero, Option.some.injEq] at hx
      subst hx
      show D (E' s.m.length).v (E' s.m.length).T
      rw [hb]
      exact h2
  · simp only [packS, List.length_append, hlen]
    exact setT_al (by simp [isLt, Nat.blt_eq]) ts s.t 0 (all_imp (SV.al_imp (lt_imp (by omega))) H.wt)
  · simp only [packS, List.length_append, hlen, List.all_append, Bool.and_eq_true]
    exact ⟨setCs_al (by simp [isLt, Nat.blt_eq]) cs (all_gapM rfl l (all_imp (It.al_imp (lt_imp (by omega))) H.wm)), by rfl⟩
end Go.Proofs.Ytlfekknonjlopaa
