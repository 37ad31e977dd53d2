/- What an operation does, shown. -/
import Derived.Test.YtlfekknonjlopaaX2
namespace Go.Proofs.Ytlfekknonjlopaa
open Go.RowKit
set_option linter.unusedVariables false
set_option linter.unusedSimpArgs false

def lk (m : List It) (l : List Nat) : List (Nat × It) := l.map fun i => (i, (m[i]?).getD gap)
def noTw : List Nat → Bool
  | [] => true
  | i :: l => l.all (fun j => !Nat.beq i j) && noTw l
def inM (m : List It) (l : List Nat) : Bool := l.all (isLt m.length) && noTw l
def one1 (s : SV) : Bool := match s.k with
  | 0 => s.x.oneCell'
  | 1 | 2 | 3 | 4 | 7 => true
  | 8 => Nat.beq s.l.length 1
  | _ => false
def upE (E : Nat → Ent) (b g : Nat) : Nat → Ent := fun i => bif Nat.beq i b then ⟨g, .bool false, [], rfl⟩ else E i
def aggT (P : Program) (t : TypeId) : Option Bool := (P.underlying t).map (·.isRow)
def tk0 : Tk := tkQ none
/-- An operation, with a word on it or without. -/
def opS {P : Program} (S : Seat P) (C : World → Prop) (ρ : Operand → SV) (m : List It) (o : Oper) : Option (Dr S C) → Option (Rs × Tk × Tk)
  | some d => match d.k with
    | 0 => match d.f m.length with
      | some sp => if inM m (sp.R.map Prod.fst ++ sp.I.map Prod.fst) && Nat.beq sp.J.length sp.I.length then
          some (⟨sp.v, sp.R.map Prod.fst, (sp.I.map Prod.fst).zip sp.J, sp.N, [], []⟩,
            { tk0 with q := vop ρ o, i := (lk m (sp.R.map Prod.fst ++ sp.I.map Prod.fst)).map Prod.snd }, { tk0 with q := some sp.q, i := (sp.R ++ sp.I).map Prod.snd }) else none
      | none => none
    | _ => match (pureS P ρ o).orElse fun _ => pureV P ρ o with
      | some v => some (⟨vV d.y, [], [], [], [], []⟩,
          { tk0 with s := [v], r := fun E w => (execOp (fun x => (ρ x).den E) o).run P w }, { tk0 with s := [vV d.x], r := fun E w => .ok (.value (v.den E)) w })
      | none => none
  | none => match o.op with
    | .load t a => match (ρ a).k, m[(ρ a).b]?, aggT P t with
      | 1, some it, some ag => match it.k with
        | 0 => match ag with
          | true => if Nat.ble ((ρ a).o + sizeT P t) it.l.length then some (⟨vG ((it.l.drop (ρ a).o).take (sizeT P t)), [(ρ a).b], [], [], [], []⟩, tk0, tk0) else none
          | false => match it.l[(ρ a).o]? with
            | some s => if s.isC then some (⟨s, [(ρ a).b], [], [], [], []⟩, tk0, tk0) else none
            | none => none
        | _ => none
      | _, _, _ => none
    | .store t a x => match (ρ a).k, m[(ρ a).b]? with
      | 1, some it => match it.k with
        | 0 => let c := cellsS (ρ x)
          if Nat.beq c.length (sizeT P t) && (P_some P t) && Nat.ble ((ρ a).o + c.length) it.l.length && c.all one1 && c.all SV.isC then some (⟨vV undef, [], [((ρ a).b, tC (layS it.l (ρ a).o c) it.t)], [], [], []⟩, tk0, tk0) else none
        | _ => none
      | _, _ => none
    | .alloc _ | .box _ _ | .buildSlice _ _ _ | .makeSlice _ _ _ => match allocS P ρ o m.length with
      | some (l, t, v) => if l.all (SV.alC (isLt m.length)) then some (⟨v, [], [], [tC l t], [], []⟩,
          { tk0 with r := fun E w => (execOp (fun x => (ρ x).den E) o).run P w }, { tk0 with r := fun E w => .ok (.value (v.den (upE E m.length w.heap.size))) (w.alloc (.cells (l.map (SV.denC E)).toArray t (0, 0))) }) else none
      | none => none
    | _ => match (pureS P ρ o).orElse fun _ => pureV P ρ o with
      | some v => some (⟨v, [], [], [], [], []⟩,
          { tk0 with r := fun E w => (execOp (fun x => (ρ x).den E) o).run P w }, { tk0 with r := fun E w => .ok (.value (v.den E)) w })
      | none => none
where
  P_some (P : Program) (t : TypeId) : Bool := (P.info? t).isSome

theorem denP_lk (E : Nat → Ent) (m : List It) (l : List Nat) : denP E (lk m l) = l.flatMap fun i => ((m[i]?).getD gap).den E i := by
  induction l with
  | nil => rfl
  | cons i l ih => simp only [lk, List.map_cons, denP, List.flatMap_cons] at *; rw [ih]
theorem fin_ok {P : Program} {K : Value → World → Prop} {v : Value} {w : World} (h : K v w) : Fin P (.ok (.value v) w) K := h
theorem ls_pure {P : Program} {S : Seat P} {C : World → Prop} {q : (Nat → Ent) → Sem Next} {v : SV} {b : Nat} (h : ∀ E w, (q E).run P w = .ok (.value (v.den E)) w) : LS S C q [] (newAt b 0) v [] := fun E w _ _ T _ => by
  rw [h]
  exact ⟨E, fun _ _ => rfl, by simp [okP], rfl, OkT.refl T⟩
theorem load_one {P : Program} {w : World} {g o : Nat} {t : TypeId} {v : Value} (ha : aggT P t = some false) (hc : w.cell? ⟨g, o, none⟩ = some v) : (semV (Instr.loadAt t (.pointer (some ⟨g, o, none⟩)))).run P w = .ok (.value v) w := by
  unfold aggT at ha
  cases hu : P.underlying t with
  | none => rw [hu] at ha; cases ha
  | some d =>
    rw [hu] at ha
    have hd : d.isRow = false := by simpa using ha
    have hag : (isAgg t).run P w = .ok false w := by
      unfold isAgg
      rw [Sem.run_bind, run_underlying hu w]
      cases d <;> simp_all
    simp [semV, Instr.loadAt, Instr.sureAddr, loadVar, hag, hc]
theorem load_row {P : Program} {w : World} {g o : Nat} {t : TypeId} {cs : List Value} (ha : aggT P t = some true) (hs : cs.length = sizeT P t) (h0 : (P.info? t).isSome = true) (hc : w.rangeAt g o cs) : (semV (Instr.loadAt t (.pointer (some ⟨g, o, none⟩)))).run P w = .ok (.value (.agg cs.toArray)) w := by
  unfold aggT at ha
  cases hu : P.underlying t with
  | none => rw [hu] at ha; cases ha
  | some d =>
    rw [hu] at ha
    have hd : d.isRow = true := by simpa using ha
    have hi : (P.info? t).map (·.size) = some cs.length := by
      unfold sizeT at hs
      cases hq : P.info? t with
      | none => rw [hq] at h0; cases h0
      | some i => rw [hq] at hs; simpa using hs.symm
    simp [semV, run_loadAt_mid w g o t cs d hc hu hd hi]
theorem info_some {P : Program} {t : TypeId} {b : Bool} (h : aggT P t = some b) : (P.info? t).isSome = true := by
  unfold aggT Program.underlying at h
  cases hq : P.info? t with
  | none => rw [hq] at h; cases h
  | some i => rfl
def setAll (cs : Array Value) : Nat → List Value → Array Value
  | _, [] => cs
  | o, v :: vs => setAll (cs.setIfInBounds o v) (o + 1) vs
theorem setAll_eq : ∀ (vs : List Value) (cs : List Value) (o : Nat), o + vs.length ≤ cs.length → setAll cs.toArray o vs = (cs.take o ++ (vs ++ cs.drop (o + vs.length))).toArray
  | [], cs, o, _ => by simp [setAll]
  | v :: vs, cs, o, h => by
    simp only [List.length_cons] at h
    have ih := setAll_eq vs (cs.set o v) (o + 1) (by simp; omega)
    simp only [setAll]
    rw [show cs.toArray.setIfInBounds o v = (cs.set o v).toArray by simp, ih]
    congr 1
    rw [List.take_set, List.drop_set, if_pos (by omega), List.length_cons]
    have ht : (cs.take (o + 1)).set o v = cs.take o ++ [v] := by
      rw [List.set_eq_take_append_cons_drop, if_pos (by simp; omega), List.take_take, Nat.min_eq_left (by omega)]
      simp
    rw [ht, show o + 1 + vs.length = o + (vs.length + 1) by omega]
    simp
theorem heap_setCells (g : Nat) (T : TypeId) (vs : List Value) : ∀ (W : World) (cs : Array Value) (o : Nat), W.heap[g]? = some (.cells cs T (0, 0)) → (W.setCells g o vs).heap[g]? = some (.cells (setAll cs o vs) T (0, 0)) := by
  induction vs with
  | nil => intro W cs o h; exact h
  | cons v vs ih =>
    intro W cs o h
    exact ih _ _ _ (heap_setCell_same W g o cs T v h)
theorem grw_setCell (W : World) (g o : Nat) (v : Value) : Grw W (W.setCell ⟨g, o, none⟩ v) [g] :=
  ⟨rfl, rfl, rfl, by simp, fun k _ hr => Below.heap_setCell _ _ _ _ (fun e => hr (by rw [e]; exact List.mem_singleton.2 rfl))⟩
theorem grw_setCells (g : Nat) (vs : List Value) : ∀ (W : World) (o : Nat), Grw W (W.setCells g o vs) [g] := by
  induction vs with
  | nil => intro W o; exact grw_refl _ _
  | cons v vs ih => intro W o; exact (grw_setCell W g o v).trans (ih _ _) fun x hx => .inr hx
theorem cell_at {W : World} {g T : Nat} {cs : List Value} (h : W.heap[g]? = some (.cells cs.toArray T (0, 0))) (i : Nat) : W.cell? ⟨g, i, none⟩ = cs[i]? := by
  unfold World.cell?
  rw [h]
  simp
theorem free_at {W : World} {g T : Nat} {cs : Array Value} (h : W.heap[g]? = some (.cells cs T (0, 0))) (i : Nat) : W.frozen? ⟨g, i, none⟩ = false := by
  unfold World.frozen?
  rw [h]
  simp
theorem store_run {P : Program} {w : World} {g o T : Nat} {t : TypeId} {v : Value} {cs vs : List Value} (hg : w.heap[g]? = some (.cells cs.toArray T (0, 0))) (hv : v.cells.toList = vs) (hs : vs.length = sizeT P t) (h0 : (P.info? t).isSome = true) (hle : o + vs.length ≤ cs.length) (h1 : ∀ u ∈ vs, u.oneCell' = true) :
    (semU (Instr.storeAt t (.pointer (some ⟨g, o, none⟩)) v)).run P w = .ok .skip (w.setCells g o vs) := by
  have hst := run_storeCells_cells (P := P) g o vs 0 w (fun j hj => by rw [Nat.add_zero, cell_at hg, List.getElem?_eq_getElem (by omega)]; rfl) (fun j _ => free_at hg _) h1
  rw [Nat.add_zero] at hst
  unfold sizeT at hs
  cases hq : P.info? t with
  | none => rw [hq] at h0; cases h0
  | some i =>
    rw [hq] at hs
    have hsz : v.cells.size = i.size := by
      rw [← Array.length_toList, hv]
      simpa using hs
    simp [semU, Instr.storeAt, Instr.sureAddr, storeVar, sizeOf, typeInfo, hq, hsz, hv, hst]
theorem one_den {s : SV} (h : one1 s = true) (E : Nat → Ent) : (s.denC E).oneCell' = true := by
  obtain ⟨k, x, b, o, n, hh, l, m, fn⟩ := s
  match k, h with
  | 0, h => exact h
  | 1, _ | 2, _ | 4, _ | 7, _ => rfl
  | 3, _ => exact (E b).one
  | 8, h =>
    match l, h with
    | [y], _ => rfl
theorem cells_one {v : Value} (h : v.oneCell' = true) : v.cells.toList = [v] := by
  cases v <;> first | rfl | cases h
theorem cellsS_den {s : SV} (h : (cellsS s).all one1 = true) (E : Nat → Ent) : (s.den E).cells.toList = (cellsS s).map (SV.denC E) := by
  have key : one1 s = true → s.isC = true → (s.den E).cells.toList = [s.denC E] := fun h1 h2 => by
    rw [(SV.den_C h2 E).1]
    exact cells_one (one_den h1 E)
  obtain ⟨k, x, b, o, n, hh, l, m, fn⟩ := s
  match k with
  | 5 => simp [SV.den, SV.denU, cellsS, Value.cells]
  | 0 =>
    show x.cells.toList = (x.cells.toList.map vV).map (SV.denC E)
    rw [List.map_map]
    exact (List.map_id _).symm
  | 6 => simp [cellsS, one1] at h
  | 1 | 2 | 3 | 4 | 7 | 8 => exact key (by simpa [cellsS] using h) rfl
  | k + 9 => simp [cellsS, one1] at h
theorem layS_den (E : Nat → Ent) (l c : List SV) (o : Nat) : (layS l o c).map (SV.denC E) = (l.map (SV.denC E)).take o ++ (c.map (SV.denC E) ++ (l.map (SV.denC E)).drop (o + (c.map (SV.denC E)).length)) := by
  simp [layS, List.map_take, List.map_drop]
theorem there1 {P : Program} {S : Seat P} {w : World} {b : Blk} (h : There S w [b]) : w.heap[b.g]? = some b.Z := h.at_ b (by simp)
end Go.Proofs.Ytlfekknonjlopaa
