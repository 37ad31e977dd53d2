/- An operation in the whole of memory. -/
import Derived.Test.YtlfekknonjlopaaX3
namespace Go.Proofs.Ytlfekknonjlopaa
open Go.RowKit
set_option linter.unusedVariables false
set_option linter.unusedSimpArgs false

theorem pair_ext {α β : Type} : ∀ {l m : List (α × β)}, l.map Prod.fst = m.map Prod.fst → l.map Prod.snd = m.map Prod.snd → l = m
  | [], [], _, _ => rfl
  | [], _ :: _, h, _ => by simp at h
  | _ :: _, [], h, _ => by simp at h
  | (a, b) :: l, (c, d) :: m, h1, h2 => by
    simp only [List.map_cons, List.cons.injEq] at h1 h2
    obtain ⟨rfl, h1⟩ := h1
    obtain ⟨rfl, h2⟩ := h2
    rw [pair_ext h1 h2]
theorem lk_fst (m : List It) (l : List Nat) : (lk m l).map Prod.fst = l := by simp [lk, Function.comp_def]
theorem lk_app (m : List It) (l k : List Nat) : lk m (l ++ k) = lk m l ++ lk m k := by simp [lk]
theorem zip_fst {α β : Type} : ∀ {l : List α} {m : List β}, m.length = l.length → (l.zip m).map Prod.fst = l
  | [], [], _ => rfl
  | [], _ :: _, h => by simp at h
  | _ :: _, [], h => by simp at h
  | a :: l, b :: m, h => by simp only [List.zip_cons_cons, List.map_cons, zip_fst (l := l) (m := m) (by simpa using h)]
theorem noTw_append {l m : List Nat} (h : noTw (l ++ m) = true) : noTw m = true ∧ ∀ i ∈ l, ∀ j ∈ m, i ≠ j := by
  induction l with
  | nil => exact ⟨h, by simp⟩
  | cons i l ih =>
    simp only [List.cons_append, noTw, Bool.and_eq_true, List.all_eq_true] at h
    obtain ⟨h1, h2⟩ := ih h.2
    refine ⟨h1, fun x hx j hj => ?_⟩
    rcases List.mem_cons.1 hx with rfl | hx
    · have := h.1 j (by simp [hj])
      intro e
      subst e
      simp at this
    · exact h2 x hx j hj
theorem ls_congr {P : Program} {S : Seat P} {C : World → Prop} {q q' : (Nat → Ent) → Sem Next} {pre post : List (Nat × It)} {nw : Nat → Bool} {v : SV} (h : LS S C q pre nw v post) (e : ∀ E w, (q' E).run P w = (q E).run P w) : LS S C q' pre nw v post := fun E w h1 h2 h3 h4 => by
  rw [e]
  exact h E w h1 h2 h3 h4
theorem den0 {s : SV} (h : s.k = 0) (E : Nat → Ent) : s.den E = s.x := by
  simp only [SV.den, SV.denU, SV.denC, SV.denA, h]
theorem den1 {s : SV} (h : s.k = 1) (E : Nat → Ent) : s.den E = .pointer (some ⟨(E s.b).g, s.o, none⟩) := by
  simp only [SV.den, SV.denU, SV.denC, SV.denA, h]
theorem it0 {s : It} (h : s.k = 0) (E : Nat → Ent) (i : Nat) : s.den E i = [⟨(E i).g, .cells (s.l.map (SV.denC E)).toArray s.t (0, 0)⟩] := by
  simp only [It.den, h]
theorem getD_some {m : List It} {i : Nat} {x : It} (h : m[i]? = some x) : (m[i]?).getD gap = x := by rw [h]; rfl
theorem inM1 {m : List It} {i : Nat} {x : It} (h : m[i]? = some x) : inM m [i] = true := by
  have := (List.getElem?_eq_some_iff.1 h).1
  simp [inM, noTw, isLt, Nat.blt_eq, this]

theorem nbeq {a b : Nat} : Nat.beq a b = true ↔ a = b := ⟨Nat.eq_of_beq_eq_true, fun h => by subst h; exact Nat.beq_refl a⟩
theorem nbne {a b : Nat} : Nat.beq a b = false ↔ a ≠ b := ⟨Nat.ne_of_beq_eq_false, fun h => by
  cases e : Nat.beq a b with
  | false => rfl
  | true => exact absurd (nbeq.1 e) h⟩
theorem opS_ok {P : Program} {S : Seat P} {C : World → Prop} {ρ : Operand → SV} {m : List It} {o : Oper} {d : Option (Dr S C)} {rs : Rs} {a b : Tk} (h : opS S C ρ m o d = some (rs, a, b)) (e : a = b) :
    inM m (rs.R ++ rs.W.map Prod.fst) = true ∧ LS S C (fun E => execOp (fun x => (ρ x).den E) o) (lk m (rs.R ++ rs.W.map Prod.fst)) (newAt m.length rs.N.length) rs.v (lk m rs.R ++ (rs.W ++ ix m.length rs.N)) := by
  unfold opS at h
  split at h
  · rename_i d
    split at h
    · split at h
      · rename_i sp hsp
        split at h
        · rename_i hc
          simp only [Bool.and_eq_true, nbeq] at hc
          obtain ⟨hin, hlen⟩ := hc
          simp only [Option.some.injEq, Prod.mk.injEq] at h
          obtain ⟨rfl, rfl, rfl⟩ := h
          have hq : vop ρ o = some sp.q := congrArg Tk.q e
          have hi : (lk m (sp.R.map Prod.fst ++ sp.I.map Prod.fst)).map Prod.snd = (sp.R ++ sp.I).map Prod.snd := congrArg Tk.i e
          have hz : ((sp.I.map Prod.fst).zip sp.J).map Prod.fst = sp.I.map Prod.fst := zip_fst (by simpa using hlen)
          have hp : lk m (sp.R.map Prod.fst ++ sp.I.map Prod.fst) = sp.R ++ sp.I := pair_ext (by rw [lk_fst]; simp) hi
          have hR : lk m (sp.R.map Prod.fst) = sp.R := by
            rw [lk_app] at hp
            exact (List.append_inj hp (by simp [lk])).1
          have hlt : ∀ i ∈ sp.R.map Prod.fst ++ sp.I.map Prod.fst, i < m.length := fun i hi2 => by
            simp only [inM, Bool.and_eq_true, List.all_eq_true] at hin
            simpa [isLt, Nat.blt_eq] using hin.1 i hi2
          refine ⟨by rw [hz]; exact hin, ?_⟩
          rw [hz, hp, hR]
          exact ls_congr (sp.pf hlen fun p hp => hlt p.1 (by rw [← List.map_append]; exact List.mem_map_of_mem hp)) fun E w => vop_run hq E _ _
        · cases h
      · cases h
    · split at h
      · rename_i v hv
        simp only [Option.some.injEq, Prod.mk.injEq] at h
        obtain ⟨rfl, rfl, rfl⟩ := h
        have hs : [v] = [vV d.x] := congrArg Tk.s e
        have hr : (fun (E : Nat → Ent) w => (execOp (fun x => (ρ x).den E) o).run P w) = fun E w => .ok (.value (v.den E)) w := congrArg Tk.r e
        refine ⟨rfl, ls_pure fun E w => ?_⟩
        rw [congrFun (congrFun hr E) w, (List.cons.inj hs).1, ← d.e]
      · cases h
  · have pureCase : ∀ v : SV, (⟨v, [], [], [], [], []⟩ : Rs) = rs → (fun (E : Nat → Ent) w => (execOp (fun x => (ρ x).den E) o).run P w) = (fun E w => .ok (.value (v.den E)) w) → inM m (rs.R ++ rs.W.map Prod.fst) = true ∧ LS S C (fun E => execOp (fun x => (ρ x).den E) o) (lk m (rs.R ++ rs.W.map Prod.fst)) (newAt m.length rs.N.length) rs.v (lk m rs.R ++ (rs.W ++ ix m.length rs.N)) := fun v hv hr => by
      subst hv
      exact ⟨rfl, ls_pure fun E w => congrFun (congrFun hr E) w⟩
    have allocCase : ∀ (l : List SV) (t : TypeId) (v : SV), l.all (SV.alC (isLt m.length)) = true → (⟨v, [], [], [tC l t], [], []⟩ : Rs) = rs → (fun (E : Nat → Ent) w => (execOp (fun x => (ρ x).den E) o).run P w) = (fun E w => .ok (.value (v.den (upE E m.length w.heap.size))) (w.alloc (.cells (l.map (SV.denC E)).toArray t (0, 0)))) → inM m (rs.R ++ rs.W.map Prod.fst) = true ∧ LS S C (fun E => execOp (fun x => (ρ x).den E) o) (lk m (rs.R ++ rs.W.map Prod.fst)) (newAt m.length rs.N.length) rs.v (lk m rs.R ++ (rs.W ++ ix m.length rs.N)) := fun l t v hl hv hr => by
      subst hv
      refine ⟨rfl, fun E w hL _ _ _ => ?_⟩
      rw [congrFun (congrFun hr E) w]
      have hE : ∀ i, isLt m.length i = true → upE E m.length w.heap.size i = E i := fun i hi => by
        have : i < m.length := by simpa [isLt, Nat.blt_eq] using hi
        have h2 : Nat.beq i m.length = false := nbne.2 (by omega)
        simp only [upE, h2, cond_false]
      have hb : (upE E m.length w.heap.size m.length).g = w.heap.size := by simp [upE]
      refine ⟨upE E m.length w.heap.size, fun i hi => ?_, ?_, rfl, ⟨⟨rfl, rfl, rfl, by simp, fun k hk _ => Below.heap_alloc _ _ _ hk⟩, ?_, by simp [denP, ix, It.den, tC, lk], ?_⟩⟩
      · have h2 : Nat.beq i m.length = false := nbne.2 fun h3 => by
          subst h3
          simp [newAt, Nat.blt] at hi
          rw [show Nat.ble (m.length + 1) (m.length + 1) = true from Nat.ble_eq ▸ Nat.le_refl _] at hi
          cases hi
        simp only [upE, h2, cond_false]
      · intro p hp
        simp [lk, ix] at hp
        subst hp
        trivial
      · intro x hx
        simp only [lk, List.map_nil, List.nil_append, ix, denP, List.append_nil, It.den, tC, List.mem_singleton] at hx
        subst hx
        simp only [hb]
        rw [heap_alloc_new, map_all (SV.denC_congr fun i hi => (hE i hi).symm) hl]
      · intro x hx
        simp only [lk, List.map_nil, List.nil_append, ix, denP, List.append_nil, It.den, tC, List.mem_singleton] at hx
        subst hx
        right
        simp only [hb]
        exact Nat.le_refl _
    have purM : ∀ x : Option SV, (match x with
        | some v => some (((⟨v, [], [], [], [], []⟩ : Rs), ({ tk0 with r := fun E w => (execOp (fun x => (ρ x).den E) o).run P w } : Tk), ({ tk0 with r := fun E w => .ok (.value (v.den E)) w } : Tk)) : Rs × Tk × Tk)
        | none => none) = some (rs, a, b) → inM m (rs.R ++ rs.W.map Prod.fst) = true ∧ LS S C (fun E => execOp (fun x => (ρ x).den E) o) (lk m (rs.R ++ rs.W.map Prod.fst)) (newAt m.length rs.N.length) rs.v (lk m rs.R ++ (rs.W ++ ix m.length rs.N)) := fun x hx => by
      cases x with
      | none => cases hx
      | some v =>
        simp only [Option.some.injEq, Prod.mk.injEq] at hx
        obtain ⟨h1, rfl, rfl⟩ := hx
        exact pureCase v h1 (congrArg Tk.r e)
    have allocM : ∀ x : Option (List SV × TypeId × SV), (match x with
        | some (l, t, v) => if l.all (SV.alC (isLt m.length)) then some (((⟨v, [], [], [tC l t], [], []⟩ : Rs), ({ tk0 with r := fun E w => (execOp (fun x => (ρ x).den E) o).run P w } : Tk), ({ tk0 with r := fun E w => .ok (.value (v.den (upE E m.length w.heap.size))) (w.alloc (.cells (l.map (SV.denC E)).toArray t (0, 0))) } : Tk)) : Rs × Tk × Tk) else none
        | none => none) = some (rs, a, b) → inM m (rs.R ++ rs.W.map Prod.fst) = true ∧ LS S C (fun E => execOp (fun x => (ρ x).den E) o) (lk m (rs.R ++ rs.W.map Prod.fst)) (newAt m.length rs.N.length) rs.v (lk m rs.R ++ (rs.W ++ ix m.length rs.N)) := fun x hx => by
      rcases x with _ | ⟨l, t, v⟩
      · cases hx
      · simp only at hx
        split at hx
        · rename_i hl
          simp only [Option.some.injEq, Prod.mk.injEq] at hx
          obtain ⟨h1, rfl, rfl⟩ := hx
          exact allocCase l t v hl h1 (congrArg Tk.r e)
        · cases hx
    split at h
    · -- load
      rename_i t x hop
      split at h
      · rename_i it ag hk hit hag
        split at h
        · rename_i hk0
          have hx := fun E => den1 hk E
          have hq : ∀ (E : Nat → Ent) w, (execOp (fun x => (ρ x).den E) o).run P w = (semV (Instr.loadAt t (.pointer (some ⟨(E (ρ x).b).g, (ρ x).o, none⟩)))).run P w := fun E w => by
            rw [← hx E]
            simp only [execOp, hop]
            rfl
          split at h
          · split at h
            · rename_i hle
              simp only [Option.some.injEq, Prod.mk.injEq] at h
              obtain ⟨rfl, rfl, rfl⟩ := h
              refine ⟨by simpa using inM1 hit, fun E w hL _ T hok => ?_⟩
              simp only [List.map_nil, List.append_nil, lk, List.map_cons, getD_some hit, denP, it0 hk0, ix] at T hok ⊢
              have hc := there1 T
              have hle := Nat.le_of_ble_eq_true hle
              rw [hq, load_row (cs := ((it.l.drop (ρ x).o).take (sizeT P t)).map (SV.denC E)) hag (by simp; omega) (info_some hag) (fun j v hv => by
                have hj := (List.getElem?_eq_some_iff.1 hv).1
                simp only [List.length_map, List.length_take, List.length_drop] at hj
                rw [cell_at hc, ← hv, List.getElem?_map, List.getElem?_map, List.getElem?_take_of_lt (by omega), List.getElem?_drop])]
              exact ⟨E, fun _ _ => rfl, hok, rfl, OkT.refl T⟩
            · cases h
          · split at h
            · rename_i s hs
              split at h
              · rename_i hC
                simp only [Option.some.injEq, Prod.mk.injEq] at h
                obtain ⟨rfl, rfl, rfl⟩ := h
                refine ⟨by simpa using inM1 hit, fun E w hL _ T hok => ?_⟩
                simp only [List.map_nil, List.append_nil, lk, List.map_cons, getD_some hit, denP, it0 hk0, ix] at T hok ⊢
                have hc := there1 T
                rw [hq, load_one hag (v := s.denC E) (by rw [cell_at hc, List.getElem?_map, hs]; rfl)]
                exact ⟨E, fun _ _ => rfl, hok, ((SV.den_C hC E).1).symm, OkT.refl T⟩
              · cases h
            · cases h
        · cases h
      · cases h
    · -- store
      rename_i t x y hop
      split at h
      · rename_i it hk hit
        split at h
        · rename_i hk0
          simp only at h
          split at h
          · rename_i hc
            simp only [Bool.and_eq_true, nbeq] at hc
            obtain ⟨⟨⟨⟨h1, h2⟩, h3⟩, h4⟩, h5⟩ := hc
            simp only [Option.some.injEq, Prod.mk.injEq] at h
            obtain ⟨rfl, rfl, rfl⟩ := h
            refine ⟨by simpa using inM1 hit, fun E w hL _ T hok => ?_⟩
            simp only [List.map_nil, List.nil_append, lk, List.map_cons, getD_some hit, denP, it0 hk0, ix, List.append_nil] at T hok ⊢
            have hg := there1 T
            have hq : (execOp (fun x => (ρ x).den E) o).run P w = (semU (Instr.storeAt t (.pointer (some ⟨(E (ρ x).b).g, (ρ x).o, none⟩)) ((ρ y).den E))).run P w := by
              rw [← den1 hk E]
              simp only [execOp, hop]
              rfl
            have h3 := Nat.le_of_ble_eq_true h3
            rw [hq, store_run (vs := (cellsS (ρ y)).map (SV.denC E)) hg (cellsS_den h4 E) (by simpa using h1) h2 (by simpa using h3) (fun u hu => by
              obtain ⟨s, hs, rfl⟩ := List.mem_map.1 hu
              exact one_den (List.all_eq_true.1 h4 s hs) E)]
            refine ⟨E, fun _ _ => rfl, by intro p hp; simp at hp; subst hp; trivial, rfl, ⟨grw_setCells _ _ _ _, ?_, by simp [It.den, tC], ?_⟩⟩
            · intro z hz
              simp only [It.den, tC, List.mem_singleton] at hz
              subst hz
              simp only
              rw [heap_setCells _ _ _ _ _ _ hg, setAll_eq _ _ _ (by simpa using h3), layS_den]
            · intro z hz
              simp only [It.den, tC, List.mem_singleton] at hz
              subst hz
              exact .inl (by simp)
          · cases h
        · cases h
      · cases h
    · exact allocM _ h
    · exact allocM _ h
    · exact allocM _ h
    · exact allocM _ h
    · exact purM _ h

/-- Items that are set, one behind the other. -/
def setsM : List It → List (Nat × It) → List It
  | m, [] => m
  | m, p :: W => setsM (m.set p.1 p.2) W
def gapM : List It → List Nat → List It
  | m, [] => m
  | m, i :: l => gapM (m.set i gap) l
theorem setsM_len : ∀ (W : List (Nat × It)) (m : List It), (setsM m W).length = m.length
  | [], _ => rfl
  | p :: W, m => by simp only [setsM, setsM_len W, List.length_set]
theorem gapM_len : ∀ (l : List Nat) (m : List It), (gapM m l).length = m.length
  | [], _ => rfl
  | i :: l, m => by simp only [gapM, gapM_len l, List.length_set]
theorem setsM_get : ∀ (W : List (Nat × It)) (m : List It) (j : Nat), (∀ p ∈ W, p.1 ≠ j) → (setsM m W)[j]? = m[j]?
  | [], _, _, _ => rfl
  | p :: W, m, j, h => by
    simp only [setsM]
    rw [setsM_get W _ j fun q hq => h q (by simp [hq]), List.getElem?_set_ne (h p (by simp))]
theorem setsM_at : ∀ (W : List (Nat × It)) (m : List It), noTw (W.map Prod.fst) = true → (∀ p ∈ W, p.1 < m.length) → ∀ p ∈ W, (setsM m W)[p.1]? = some p.2
  | q :: W, m, h, hl, p, hp => by
    simp only [List.map_cons, noTw, Bool.and_eq_true, List.all_eq_true] at h
    simp only [setsM]
    rcases List.mem_cons.1 hp with rfl | hp
    · rw [setsM_get W _ _ fun r hr e => by
        have := h.1 r.1 (List.mem_map_of_mem hr)
        simp [e, Nat.beq_refl] at this]
      simp [hl p (by simp)]
    · exact setsM_at W _ h.2 (fun r hr => by simpa using hl r (by simp [hr])) p hp
theorem gapM_get : ∀ (l : List Nat) (m : List It) (j : Nat), j ∉ l → (gapM m l)[j]? = m[j]?
  | [], _, _, _ => rfl
  | i :: l, m, j, h => by
    simp only [List.mem_cons, not_or] at h
    simp only [gapM]
    rw [gapM_get l _ j h.2, List.getElem?_set_ne (fun e => h.1 e.symm)]
theorem gapM_at : ∀ (l : List Nat) (m : List It) (j : Nat), j ∈ l → j < m.length → (gapM m l)[j]? = some gap
  | i :: l, m, j, h, hl => by
    simp only [gapM]
    by_cases hj : j ∈ l
    · exact gapM_at l _ j hj (by simpa using hl)
    · rcases List.mem_cons.1 h with rfl | h
      · rw [gapM_get l _ j hj]
        simp [hl]
      · exact absurd h hj
/-- A part of memory, taken out. -/
theorem dens_part (E : Nat → Ent) : ∀ (l : List Nat) (m : List It), inM m l = true → (dens E 0 m).Perm (denP E (lk m l) ++ dens E 0 (gapM m l))
  | [], _, _ => by simp [lk, denP, gapM]
  | i :: l, m, h => by
    simp only [inM, List.all_cons, noTw, Bool.and_eq_true, List.all_eq_true] at h
    obtain ⟨⟨h1, h2⟩, h3, h4⟩ := h
    have hi : i < m.length := by simpa [isLt, Nat.blt_eq] using h1
    have hne : ∀ j ∈ l, i ≠ j := fun j hj e => by
      have := h3 j hj
      simp [e, Nat.beq_refl] at this
    have hg : m[i]? = some m[i] := List.getElem?_eq_getElem hi
    have ih := dens_part E l (m.set i gap) (by
      simp only [inM, Bool.and_eq_true, List.all_eq_true]
      exact ⟨fun j hj => by simpa [isLt, Nat.blt_eq] using h2 j hj, h4⟩)
    have e : lk (m.set i gap) l = lk m l := List.map_congr_left fun j hj => by rw [List.getElem?_set_ne (hne j hj)]
    rw [e] at ih
    have h0 := dens_get E m 0 i _ hg
    rw [Nat.zero_add] at h0
    simp only [lk, List.map_cons, denP, gapM, hg, Option.getD_some, List.append_assoc]
    exact h0.trans (List.Perm.append_left _ ih)
theorem dens_congr {E E' : Nat → Ent} {p : Nat → Bool} (h : ∀ i, p i = true → E i = E' i) : ∀ (m : List It) (k : Nat), (∀ i, k ≤ i → i < k + m.length → E i = E' i) → m.all (It.al p) = true → dens E k m = dens E' k m
  | [], _, _, _ => rfl
  | x :: m, k, hk, hb => by
    simp only [List.all_cons, Bool.and_eq_true] at hb
    simp only [dens]
    rw [x.den_congr h (hk k (Nat.le_refl _) (by simp)) hb.1, dens_congr h m (k + 1) (fun i h1 h2 => hk i (by omega) (by simp at h2 ⊢; omega)) hb.2]
theorem dens_ix (E : Nat → Ent) : ∀ (N : List It) (k : Nat), dens E k N = denP E (ix k N)
  | [], _ => rfl
  | x :: N, k => by simp only [dens, ix, denP, dens_ix E N (k + 1)]
theorem all_set {f : It → Bool} {m : List It} {i : Nat} {x : It} (h : m.all f = true) (hx : f x = true) : (m.set i x).all f = true :=
  List.all_eq_true.2 fun y hy => (List.mem_or_eq_of_mem_set hy).elim (List.all_eq_true.1 h y) fun e => e ▸ hx
theorem all_gapM {f : It → Bool} (hg : f gap = true) : ∀ (l : List Nat) {m : List It}, m.all f = true → (gapM m l).all f = true
  | [], _, h => h
  | _ :: l, _, h => all_gapM hg l (all_set h hg)
theorem all_setsM {f : It → Bool} : ∀ (W : List (Nat × It)) {m : List It}, m.all f = true → W.all (fun p => f p.2) = true → (setsM m W).all f = true
  | [], _, h, _ => h
  | p :: W, _, h, hw => by
    simp only [List.all_cons, Bool.and_eq_true] at hw
    exact all_setsM W (all_set h hw.1) hw.2
theorem gapM_sets (W : List (Nat × It)) (R : List Nat) (m : List It) : gapM (setsM m W) (R ++ W.map Prod.fst) = gapM m (R ++ W.map Prod.fst) := by
  apply List.ext_getElem?
  intro j
  by_cases hj : j ∈ R ++ W.map Prod.fst
  · by_cases hl : j < m.length
    · rw [gapM_at _ _ _ hj (by rw [setsM_len]; exact hl), gapM_at _ _ _ hj hl]
    · rw [List.getElem?_eq_none (by rw [gapM_len, setsM_len]; omega), List.getElem?_eq_none (by rw [gapM_len]; omega)]
  · rw [gapM_get _ _ _ hj, gapM_get _ _ _ hj, setsM_get _ _ _ fun p hp e => hj (List.mem_append_right _ (List.mem_map.2 ⟨p, hp, e⟩))]
theorem lk_sets {m : List It} {R : List Nat} {W : List (Nat × It)} (h : inM m (R ++ W.map Prod.fst) = true) : lk (setsM m W) (R ++ W.map Prod.fst) = lk m R ++ W := by
  simp only [inM, Bool.and_eq_true] at h
  obtain ⟨h1, h2⟩ := h
  obtain ⟨h3, h4⟩ := noTw_append h2
  rw [lk_app]
  congr 1
  · exact List.map_congr_left fun i hi => by rw [setsM_get _ _ _ fun p hp e => h4 i hi p.1 (List.mem_map_of_mem hp) e.symm]
  · have hl : ∀ p ∈ W, p.1 < m.length := fun p hp => by
      have := List.all_eq_true.1 h1 p.1 (List.mem_append_right _ (List.mem_map_of_mem hp))
      simpa [isLt, Nat.blt_eq] using this
    unfold lk
    rw [List.map_map]
    refine (List.map_congr_left fun p hp => ?_).trans (List.map_id W)
    simp only [Function.comp_def, setsM_at W m h3 hl p hp, Option.getD_some, id]
/-- An operation in the whole of memory. -/
theorem ls_all {P : Program} {S : Seat P} {c : Ctx} {q : (Nat → Ent) → Sem Next} {m : List It} {R : List Nat} {W : List (Nat × It)} {N : List It} {v : SV} (hin : inM m (R ++ W.map Prod.fst) = true)
    (h : LS S (fun w => Mem S c [] w) q (lk m (R ++ W.map Prod.fst)) (newAt m.length N.length) v (lk m R ++ (W ++ ix m.length N))) {E : Nat → Ent} {w : World} (M : Mem S c (dens E 0 m) w) (hok : oks E m) (hal : m.all (It.al (isLt m.length)) = true) :
    Fin P ((q E).run P w) fun r w' => ∃ E' : Nat → Ent, (∀ i, i < m.length → E' i = E i) ∧ r = v.den E' ∧ Mem S c (dens E' 0 (setsM m W ++ N)) w' ∧ oks E' (setsM m W ++ N) := by
  have p := dens_part E _ _ hin
  have M1 := M.perm p
  have hin' := hin
  simp only [inM, Bool.and_eq_true, List.all_eq_true] at hin'
  have hlt : ∀ i ∈ R ++ W.map Prod.fst, i < m.length := fun i hi => by simpa [isLt, Nat.blt_eq] using hin'.1 i hi
  refine (h E w M.laid (fun w' hg => ?_) (M1.drop (List.sublist_append_left _ _)).there fun x hx => ?_).mono ?_
  · refine ⟨M.old.trans hg fun x hx => ?_, by simp, by simp, by simp, M.lay, M.ne⟩
    obtain ⟨b, hb, rfl⟩ := List.mem_map.1 hx
    exact M1.ge b (List.mem_append_left _ hb)
  · obtain ⟨i, hi, rfl⟩ := List.mem_map.1 hx
    have hl := hlt i hi
    simp only [List.getElem?_eq_getElem hl, Option.getD_some]
    exact hok i _ (List.getElem?_eq_getElem hl)
  · rintro r w' ⟨E', hE, hok', hr, hT⟩
    have hE' : ∀ i, i < m.length → E' i = E i := fun i hi => hE i (by
      have : Nat.ble m.length i = false := by
        cases e : Nat.ble m.length i with
        | false => rfl
        | true => exact absurd (Nat.le_of_ble_eq_true e) (by omega)
      simp [newAt, this])
    refine ⟨E', hE', hr, ?_, ?_⟩
    · have M2 := M1.step hT
      refine M2.perm ?_
      rw [dens_app, setsM_len, Nat.zero_add, dens_ix E' N m.length]
      have p2 := dens_part E' (R ++ W.map Prod.fst) (setsM m W) (by simpa only [inM, setsM_len] using hin)
      rw [lk_sets hin, gapM_sets] at p2
      have e : dens E' 0 (gapM m (R ++ W.map Prod.fst)) = dens E 0 (gapM m (R ++ W.map Prod.fst)) := dens_congr (p := isLt m.length) (fun i hi => hE' i (by simpa [isLt, Nat.blt_eq] using hi)) _ _ (fun i _ hi => hE' i (by rw [gapM_len] at hi; omega)) (all_gapM rfl _ hal)
      rw [e] at p2
      rw [denP_app, denP_app]
      rw [denP_app] at p2
      refine List.Perm.trans ?_ (p2.symm.append_right _)
      simp only [List.append_assoc]
      exact List.Perm.append_left _ (List.Perm.append_left _ List.perm_append_comm)
    · intro i x hx
      by_cases hi : i < m.length
      · rw [List.getElem?_append_left (by rw [setsM_len]; exact hi)] at hx
        by_cases hw : i ∈ W.map Prod.fst
        · obtain ⟨q, hq, rfl⟩ := List.mem_map.1 hw
          rw [setsM_at W m (noTw_append hin'.2).1 (fun r hr => hlt _ (List.mem_append_right _ (List.mem_map_of_mem hr))) q hq] at hx
          cases hx
          exact hok' q (by simp [hq])
        · rw [setsM_get _ _ _ fun q hq e => hw (List.mem_map.2 ⟨q, hq, e⟩)] at hx
          rw [It.ok_congr (hE' i hi)]
          exact hok i x hx
      · rw [List.getElem?_append_right (by rw [setsM_len]; omega), setsM_len] at hx
        have key : ∀ (N : List It) (k j : Nat) (x : It), N[j]? = some x → (k + j, x) ∈ ix k N := by
          intro N
          induction N with
          | nil => intro k j x h; simp at h
          | cons y N ih =>
            intro k j x h
            cases j with
            | zero => simp at h; subst h; simp [ix]
            | succ j =>
              simp only [ix, List.mem_cons]
              right
              have := ih (k + 1) j x (by simpa using h)
              rwa [show k + 1 + j = k + (j + 1) by omega] at this
        have := hok' _ (List.mem_append_right _ (List.mem_append_right _ (key N m.length _ x hx)))
        simpa only [show m.length + (i - m.length) = i by omega] using this
end Go.Proofs.Ytlfekknonjlopaa
