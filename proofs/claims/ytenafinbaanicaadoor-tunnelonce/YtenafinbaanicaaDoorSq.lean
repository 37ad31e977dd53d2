/- The steps of a walk, said shortly: what is asked by the kernel alone is not written down; a row of operations that only reckon is one step. -/
import Derived.Test.YtenafinbaanicaaDoorGrow
namespace Go.Proofs.YtenafinbaanicaaDoor
open Go.RowKit

/-- n operations of a list, one behind the other, that hand back values. -/
def stepA (P : Program) (ops : Array Oper) : Nat → List Oper → Act → World → Option (Act × World)
  | 0, _, a, w => some (a, w)
  | _ + 1, [], _, _ => none
  | n + 1, o :: rest, a, w =>
    match Region.wanted o (yielded ops a.tmps) with
    | true => match (execOp a.eval o).run P w with
      | .ok (.value v) w' => stepA P ops n rest (a.put o.dst v) w'
      | _ => none
    | false => stepA P ops n rest (a.put o.dst undef) w
def actA (P : Program) (ops : Array Oper) (n : Nat) (l : List Oper) (a : Act) (w : World) : Act := match stepA P ops n l a w with
  | some p => p.1
  | none => a
/-- The same, with all values and worlds. -/
def stepL (P : Program) (ops : Array Oper) : Nat → List Oper → Act → World → Option (List (Value × World) × Act)
  | 0, _, a, _ => some ([], a)
  | _ + 1, [], _, _ => none
  | n + 1, o :: rest, a, w =>
    match Region.wanted o (yielded ops a.tmps) with
    | true => match (execOp a.eval o).run P w with
      | .ok (.value v) w' => match stepL P ops n rest (a.put o.dst v) w' with
        | some (L, A) => some ((v, w') :: L, A)
        | none => none
      | _ => none
    | false => stepL P ops n rest (a.put o.dst undef) w
def valL (P : Program) (ops : Array Oper) (n : Nat) (l : List Oper) (a : Act) (w : World) : List Value := match stepL P ops n l a w with
  | some p => p.1.map Prod.fst
  | none => []
def actL (P : Program) (ops : Array Oper) (n : Nat) (l : List Oper) (a : Act) (w : World) : Act := match stepL P ops n l a w with
  | some p => p.2
  | none => a
/-- The frame's slots. -/
def slt (a : Act) : Nat → Value := fun k => a.tmps[k]?.getD undef
/-- Slots of a row that are left open, or hold nothing. -/
def vr (v : Nat → Value) (i n : Nat) : List Value := (List.range' i n).map v
def und (n : Nat) : List Value := List.replicate n undef
/-- A frame. -/
abbrev fm (l : List Value) : Act := ⟨l.toArray, []⟩
theorem Mem.nf {c : Ctx} {L L' : List Blk} {W : World} (M : Mem c L W) (h : L = L' := by first | (simp only [List.set_cons_zero, List.set_cons_succ, List.cons_append, List.nil_append]; exact rfl) | exact rfl) : Mem c L' W := h ▸ M
theorem exS {a : Act} {F : (Nat → Value) → Act} {R : (Nat → Value) → Prop} (hR : R (slt a)) (h : a = F (slt a) := by kernel_rfl) : ∃ v, a = F v ∧ R v := ⟨slt a, h, hR⟩
section
variable {P : Program} {ops : Array Oper} {l : List Oper} {a : Act} {w W : World} {Q : Exit → Act → World → Prop} {R : Act → Prop}
theorem pl_steps : ∀ (n : Nat) (l : List Oper) (a A : Act) (w w' : World), stepA P ops n l a w = some (A, w') → PL P ops Q (l.drop n) A w' → PL P ops Q l a w
  | 0, _, a, A, w, w', h, k => by
    obtain ⟨rfl, rfl⟩ : a = A ∧ w = w' := by simpa [stepA] using h
    exact k
  | n + 1, [], _, _, _, _, h, _ => by simp [stepA] at h
  | n + 1, o :: rest, a, A, w, w', h, k => by
    unfold stepA at h
    cases e : Region.wanted o (yielded ops a.tmps) with
    | true =>
      rw [e] at h
      simp only at h
      split at h
      · rename_i v u hr
        exact pl_to e _ rfl v u hr (pl_steps n rest _ A _ w' h k)
      · cases h
    | false =>
      rw [e] at h
      simp only at h
      exact pl_skip e _ rfl (pl_steps n rest _ A _ w' h k)
theorem rV (n : Nat) (h : PL P ops Q (l.drop n) (actA P ops n l a w) w) (hr : stepA P ops n l a w = some (actA P ops n l a w, w) := by kernel_rfl) : PL P ops Q l a w := pl_steps n l a _ w w hr h
theorem sq {id : Nat} {y : Code} (h : y.wp P Q (actA P l.toArray l.length l a w) w) (hr : stepA P l.toArray l.length l a w = some (actA P l.toArray l.length l a w, w) := by kernel_rfl) : (Code.seq (Code.region id l.toArray false) y).wp P Q a w :=
  wp_seq (rg_lit (pl_steps l.length l a _ w w hr (by rw [List.drop_length]; exact pl_nil (au_then h))))
theorem sR {id : Nat} {l : List Oper} {y : Code} (h : PL P l.toArray (Exit.then (y.wp P Q) Q) l a w) : (Code.seq (Code.region id l.toArray false) y).wp P Q a w := wp_seq (rg_lit h)
theorem nT {K : Act → World → Prop} (h : K a w) : PL P ops (Exit.then K Q) [] a w := pl_nil (au_then h)
/-- n values of a region whose order is open, the same in every world. -/
structure RnL (P : Program) (ops : Array Oper) (n : Nat) (l : List Oper) (a : Act) (V : List Value) (A : Act) : Prop where
  out : ∀ w, stepL P ops n l a w = some (V.map (fun v => (v, w)), A)
theorem k_steps : ∀ (n : Nat) (l : List Oper) (a : Act) (V : List Value) (A : Act), RnL P ops n l a V A → KL P ops W R (l.drop n) A → KL P ops W R l a
  | 0, _, a, V, A, h, k => by
    have := h.out W
    obtain ⟨-, rfl⟩ : _ ∧ a = A := by simpa [stepL] using this
    exact k
  | n + 1, [], _, _, _, h, _ => by simpa [stepL] using h.out W
  | n + 1, o :: rest, a, V, A, ⟨h⟩, k => by
    unfold stepL at h
    cases e : Region.wanted o (yielded ops a.tmps) with
    | true =>
      simp only [e] at h
      have key : ∀ w, ∃ v V', V = v :: V' ∧ (execOp a.eval o).run P w = .ok (.value v) w ∧ stepL P ops n rest (a.put o.dst v) w = some (V'.map (fun v => (v, w)), A) := fun w => by
        have hw := h w
        split at hw
        · rename_i v u hr
          split at hw
          · rename_i L B hs
            cases V with
            | nil => simp at hw
            | cons x V' =>
              simp only [List.map_cons, Option.some.injEq, Prod.mk.injEq, List.cons.injEq] at hw
              obtain ⟨⟨⟨rfl, rfl⟩, rfl⟩, rfl⟩ := hw
              exact ⟨v, V', rfl, hr, hs⟩
          · cases hw
        · cases hw
      obtain ⟨v, V', rfl, -, -⟩ := key W
      have key2 : ∀ w, (execOp a.eval o).run P w = .ok (.value v) w ∧ stepL P ops n rest (a.put o.dst v) w = some (V'.map (fun v => (v, w)), A) := fun w => by
        obtain ⟨v2, V2, e2, h1, h2⟩ := key w
        obtain ⟨rfl, rfl⟩ := List.cons.inj e2
        exact ⟨h1, h2⟩
      exact k_val e _ rfl v (fun w => (key2 w).1) (k_steps n rest _ V' A ⟨fun w => (key2 w).2⟩ k)
    | false =>
      simp only [e] at h
      exact k_skip e _ rfl (k_steps n rest _ V A ⟨h⟩ k)
theorem kR (n : Nat) (h : KL P ops W R (l.drop n) (actL P ops n l a W)) (hr : RnL P ops n l a (valL P ops n l a W) (actL P ops n l a W) := by exact ⟨fun _ => by kernel_rfl⟩) : KL P ops W R l a := k_steps n l a _ _ hr h
end
/-- What an operation is in every world. -/
structure Rn (P : Program) (a : Act) (o : Oper) (v : Value) : Prop where
  out : ∀ w, (execOp a.eval o).run P w = .ok (.value v) w
/-- Which function an operation calls. -/
structure Rc (P : Program) (a : Act) (o : Oper) (f : FuncId) (xs : Array Value) : Prop where
  out : ∀ w, (execOp a.eval o).run P w = .ok (.enter f xs) w
structure Ra (P : Program) (a : Act) (o : Oper) (Z : Obj) : Prop where
  out : ∀ w, (execOp a.eval o).run P w = .ok (.value (.pointer (some ⟨w.heap.size, 0, none⟩))) (w.alloc Z)
structure Ev (a : Act) (x : Operand) (v : Value) : Prop where
  out : a.eval x = v
structure Na (P : Program) (ty : TypeId) : Prop where
  out : ∀ w, (isAgg ty).run P w = .ok false w
theorem isRow_of {P : Program} {ty : TypeId} (h : (P.underlying ty).map TypeDesc.isRow = some true) : ∃ t, P.underlying ty = some t ∧ t.isRow = true := by
  cases e : P.underlying ty with
  | none => rw [e] at h; cases h
  | some t => rw [e] at h; exact ⟨t, rfl, by simpa using h⟩
section
variable {P : Program} {ops : Array Oper} {rest : List Oper} {o : Oper} {a : Act} {w W : World} {c : Ctx} {L : List Blk} {Q : Exit → Act → World → Prop} {K : Act → World → Prop} {R : Act → Prop}
theorem pV (d : Tmp) (v : Value) (h : PL P ops Q rest (a.put (some d) v) w) (hw : Region.wanted o (yielded ops a.tmps) = true := by first | exact want_no rfl | kernel_rfl) (hd : o.dst = some d := by exact rfl) (hr : Rn P a o v := by exact ⟨fun _ => by kernel_rfl⟩) : PL P ops Q (o :: rest) a w := pl_val hw (some d) hd v hr.out h
theorem kV (d : Tmp) (v : Value) (h : KL P ops W R rest (a.put (some d) v)) (hw : Region.wanted o (yielded ops a.tmps) = true := by first | exact want_no rfl | kernel_rfl) (hd : o.dst = some d := by exact rfl) (hr : Rn P a o v := by exact ⟨fun _ => by kernel_rfl⟩) : KL P ops W R (o :: rest) a := k_val hw (some d) hd v hr.out h
theorem pN (M : Mem c L w) (d : Tmp) (Z : Obj) (h : ∀ g w', Mem c (L ++ [⟨g, Z⟩]) w' → PL P ops Q rest (a.put (some d) (.pointer (some ⟨g, 0, none⟩))) w') (hw : Region.wanted o (yielded ops a.tmps) = true := by first | exact want_no rfl | kernel_rfl) (hd : o.dst = some d := by exact rfl) (hr : Ra P a o Z := by exact ⟨fun _ => by kernel_rfl⟩) : PL P ops Q (o :: rest) a w := pl_new M hw (some d) hd Z hr.out h
theorem pC (M : Mem c L w) (d : Tmp) (f : FuncId) (xs : Array Value) (v : Value) (hc : ∀ w, Mem c L w → Calls P f xs w fun e w' => e = .returned v ∧ Below w.heap.size w w') (h : ∀ w', Mem c L w' → PL P ops Q rest (a.put (some d) v) w') (hw : Region.wanted o (yielded ops a.tmps) = true := by first | exact want_no rfl | kernel_rfl) (hd : o.dst = some d := by exact rfl) (hr : Rc P a o f xs := by exact ⟨fun _ => by kernel_rfl⟩) : PL P ops Q (o :: rest) a w := pl_call M hw (some d) hd f xs v hr.out hc h
theorem kC (M : Mem c L W) (d : Tmp) (f : FuncId) (xs : Array Value) (v : Value) (hc : ∀ w, Mem c L w → Calls P f xs w fun e w' => e = .returned v ∧ Below w.heap.size w w') (h : KL P ops W R rest (a.put (some d) v)) (hw : Region.wanted o (yielded ops a.tmps) = true := by first | exact want_no rfl | kernel_rfl) (hd : o.dst = some d := by exact rfl) (hr : Rc P a o f xs := by exact ⟨fun _ => by kernel_rfl⟩) : KL P ops W R (o :: rest) a := k_call M hw (some d) hd f xs v hr.out hc h
theorem pE (M : Mem c L w) (d : Tmp) (g off : Nat) (v : Value) (hc : ∀ w, Mem c L w → w.cell? ⟨g, off, none⟩ = some v) (h : PL P ops Q rest (a.put (some d) v) w) {ty : TypeId} {x : Operand} (hw : Region.wanted o (yielded ops a.tmps) = true := by first | exact want_no rfl | kernel_rfl) (hd : o.dst = some d := by exact rfl) (ho : o.op = .load ty x := by exact rfl) (hx : Ev a x (.pointer (some ⟨g, off, none⟩)) := by exact ⟨by kernel_rfl⟩) (ha : Na P ty := by exact ⟨fun _ => by kernel_rfl⟩) : PL P ops Q (o :: rest) a w := pl_cell M hw (some d) hd ty x ho g off hx.out v ha.out hc h
theorem kE (M : Mem c L W) (d : Tmp) (g off : Nat) (v : Value) (hc : ∀ w, Mem c L w → w.cell? ⟨g, off, none⟩ = some v) (h : KL P ops W R rest (a.put (some d) v)) {ty : TypeId} {x : Operand} (hw : Region.wanted o (yielded ops a.tmps) = true := by first | exact want_no rfl | kernel_rfl) (hd : o.dst = some d := by exact rfl) (ho : o.op = .load ty x := by exact rfl) (hx : Ev a x (.pointer (some ⟨g, off, none⟩)) := by exact ⟨by kernel_rfl⟩) (ha : Na P ty := by exact ⟨fun _ => by kernel_rfl⟩) : KL P ops W R (o :: rest) a := k_cell M hw (some d) hd ty x ho g off hx.out v ha.out hc h
theorem pL (M : Mem c L w) (d : Tmp) (i : Nat) {g n T : Nat} {F : Nat → Value} (hi : L[i]? = some ⟨g, .cells (av n F) T⟩) (off k : Nat) (F' : Nat → Value) (hp : ∀ j, j < k → F (off + j) = F' j) (h : PL P ops Q rest (a.put (some d) (.agg (av k F'))) w) {ty : TypeId} {x : Operand} (hw : Region.wanted o (yielded ops a.tmps) = true := by first | exact want_no rfl | kernel_rfl) (hd : o.dst = some d := by exact rfl) (ho : o.op = .load ty x := by exact rfl) (hx : Ev a x (.pointer (some ⟨g, off, none⟩)) := by exact ⟨by kernel_rfl⟩) (hk : off + k ≤ n := by decide) (hu : (P.underlying ty).map TypeDesc.isRow = some true := by kernel_rfl) (hz : (P.info? ty).map (·.size) = some k := by kernel_rfl) : PL P ops Q (o :: rest) a w := by
  obtain ⟨t, h1, h2⟩ := isRow_of hu
  exact pl_load M hw (some d) hd ty x ho i g off hx.out n T F hi k F' hp hk t h1 h2 hz h
theorem kL (M : Mem c L W) (d : Tmp) (i : Nat) {g n T : Nat} {F : Nat → Value} (hi : L[i]? = some ⟨g, .cells (av n F) T⟩) (off k : Nat) (F' : Nat → Value) (hp : ∀ j, j < k → F (off + j) = F' j) (h : KL P ops W R rest (a.put (some d) (.agg (av k F')))) {ty : TypeId} {x : Operand} (hw : Region.wanted o (yielded ops a.tmps) = true := by first | exact want_no rfl | kernel_rfl) (hd : o.dst = some d := by exact rfl) (ho : o.op = .load ty x := by exact rfl) (hx : Ev a x (.pointer (some ⟨g, off, none⟩)) := by exact ⟨by kernel_rfl⟩) (hk : off + k ≤ n := by decide) (hu : (P.underlying ty).map TypeDesc.isRow = some true := by kernel_rfl) (hz : (P.info? ty).map (·.size) = some k := by kernel_rfl) : KL P ops W R (o :: rest) a := by
  obtain ⟨t, h1, h2⟩ := isRow_of hu
  exact k_load M hw (some d) hd ty x ho i g off hx.out n T F hi k F' hp hk t h1 h2 hz h
theorem pA (M : Mem c L w) (d : Tmp) (i n : Nat) (F : Nat → Value) (h : PL P ops Q rest (a.put (some d) (.agg (av n F))) w) {g T : Nat} {ty : TypeId} {x : Operand} (hw : Region.wanted o (yielded ops a.tmps) = true := by first | exact want_no rfl | kernel_rfl) (hd : o.dst = some d := by exact rfl) (ho : o.op = .load ty x := by exact rfl) (hi : L[i]? = some ⟨g, .cells (av n F) T⟩ := by exact rfl) (hx : Ev a x (.pointer (some ⟨g, 0, none⟩)) := by exact ⟨by kernel_rfl⟩) (hu : (P.underlying ty).map TypeDesc.isRow = some true := by kernel_rfl) (hz : (P.info? ty).map (·.size) = some n := by kernel_rfl) : PL P ops Q (o :: rest) a w := by
  obtain ⟨t, h1, h2⟩ := isRow_of hu
  exact pl_load M hw (some d) hd ty x ho i g 0 hx.out n T F hi n F (fun j _ => by rw [Nat.zero_add]) (by omega) t h1 h2 hz h
theorem kA (M : Mem c L W) (d : Tmp) (i n : Nat) (F : Nat → Value) (h : KL P ops W R rest (a.put (some d) (.agg (av n F)))) {g T : Nat} {ty : TypeId} {x : Operand} (hw : Region.wanted o (yielded ops a.tmps) = true := by first | exact want_no rfl | kernel_rfl) (hd : o.dst = some d := by exact rfl) (ho : o.op = .load ty x := by exact rfl) (hi : L[i]? = some ⟨g, .cells (av n F) T⟩ := by exact rfl) (hx : Ev a x (.pointer (some ⟨g, 0, none⟩)) := by exact ⟨by kernel_rfl⟩) (hu : (P.underlying ty).map TypeDesc.isRow = some true := by kernel_rfl) (hz : (P.info? ty).map (·.size) = some n := by kernel_rfl) : KL P ops W R (o :: rest) a := by
  obtain ⟨t, h1, h2⟩ := isRow_of hu
  exact k_load M hw (some d) hd ty x ho i g 0 hx.out n T F hi n F (fun j _ => by rw [Nat.zero_add]) (by omega) t h1 h2 hz h
theorem pW (M : Mem c L w) (i n : Nat) (f : Nat → Int) {g T : Nat} {F : Nat → Value} (h : ∀ w', Mem c (L.set i ⟨g, .cells (av n (w64 f)) T⟩) w' → PL P ops Q rest a w') {ty : TypeId} {x y : Operand} (hw : Region.wanted o (yielded ops a.tmps) = true := by first | exact want_no rfl | kernel_rfl) (hd : o.dst = none := by exact rfl) (ho : o.op = .store ty x y := by exact rfl) (hi : L[i]? = some ⟨g, .cells (av n F) T⟩ := by exact rfl) (hx : Ev a x (.pointer (some ⟨g, 0, none⟩)) := by exact ⟨by kernel_rfl⟩) (hy : Ev a y (.agg (av n (w64 f))) := by exact ⟨by kernel_rfl⟩) (hz : (P.info? ty).map (·.size) = some n := by kernel_rfl) : PL P ops Q (o :: rest) a w :=
  pl_put M hw hd ty x y ho i g 0 hx.out n T F hi n (w64 f) (w64 f) hy.out hz (by omega) (fun _ _ => rfl) (fun j hj => by rw [if_pos (by omega), Nat.sub_zero]) h
theorem pP (M : Mem c L w) (i : Nat) {g n T : Nat} {F : Nat → Value} (hi : L[i]? = some ⟨g, .cells (av n F) T⟩) (off : Nat) (v : Value) (Fn : Nat → Value) (hk : off < n) (hfn : ∀ j, j < n → (if j = off then v else F j) = Fn j) (h : ∀ w', Mem c (L.set i ⟨g, .cells (av n Fn) T⟩) w' → PL P ops Q rest a w') {ty : TypeId} {x y : Operand} (hw : Region.wanted o (yielded ops a.tmps) = true := by first | exact want_no rfl | kernel_rfl) (hd : o.dst = none := by exact rfl) (ho : o.op = .store ty x y := by exact rfl) (hx : Ev a x (.pointer (some ⟨g, off, none⟩)) := by exact ⟨by kernel_rfl⟩) (hy : Ev a y v := by exact ⟨by kernel_rfl⟩) (hz : (P.info? ty).map (·.size) = some 1 := by kernel_rfl) (h1 : v.oneCell' = true := by exact rfl) (hc : v.cells = #[v] := by exact rfl) : PL P ops Q (o :: rest) a w :=
  pl_put1 M hw hd ty x y ho i g off hx.out n T F hi v Fn hy.out hz hk h1 hc hfn h
theorem pH (d : Tmp) (v : Value) (hr : ∀ w, (execOp a.eval o).run P w = .ok (.value v) w) (h : PL P ops Q rest (a.put (some d) v) w) (hw : Region.wanted o (yielded ops a.tmps) = true := by first | exact want_no rfl | kernel_rfl) (hd : o.dst = some d := by exact rfl) : PL P ops Q (o :: rest) a w := pl_val hw (some d) hd v hr h
theorem kH (d : Tmp) (v : Value) (hr : ∀ w, (execOp a.eval o).run P w = .ok (.value v) w) (h : KL P ops W R rest (a.put (some d) v)) (hw : Region.wanted o (yielded ops a.tmps) = true := by first | exact want_no rfl | kernel_rfl) (hd : o.dst = some d := by exact rfl) : KL P ops W R (o :: rest) a := k_val hw (some d) hd v hr h
theorem jT (p : Prop) [Decidable p] (hp : p) (hr : Rn P a o (.bool (decide p)) := by exact ⟨fun _ => by kernel_rfl⟩) (w : World) : (execOp a.eval o).run P w = .ok (.value (.bool true)) w := (hr.out w).trans (by rw [decide_eq_true hp])
theorem jF (p : Prop) [Decidable p] (hp : ¬ p) (hr : Rn P a o (.bool (decide p)) := by exact ⟨fun _ => by kernel_rfl⟩) (w : World) : (execOp a.eval o).run P w = .ok (.value (.bool false)) w := (hr.out w).trans (by rw [decide_eq_false hp])
theorem jD (p : Prop) [Decidable p] (hp : p) (hr : Rn P a o (.bool (!(decide p))) := by exact ⟨fun _ => by kernel_rfl⟩) (w : World) : (execOp a.eval o).run P w = .ok (.value (.bool false)) w := (hr.out w).trans (by rw [decide_eq_true hp]; rfl)
theorem jU (p : Prop) [Decidable p] (hp : ¬ p) (hr : Rn P a o (.bool (!(decide p))) := by exact ⟨fun _ => by kernel_rfl⟩) (w : World) : (execOp a.eval o).run P w = .ok (.value (.bool true)) w := (hr.out w).trans (by rw [decide_eq_false hp]; rfl)
theorem jV (x : Int) {v : Int} (h : x = v) (h0 : -9223372036854775808 ≤ x) (h1 : x < 9223372036854775808) (hr : Rn P a o (.int .i64 (IntKind.wrap .i64 x)) := by exact ⟨fun _ => by kernel_rfl⟩) (w : World) : (execOp a.eval o).run P w = .ok (.value (.int .i64 v)) w := (hr.out w).trans (by
  rw [show IntKind.wrap .i64 x = x by simp [IntKind.wrap, IntKind.signed, IntKind.bits, go_sem]; omega, h])
end
section
variable {P : Program} {ops : Array Oper} {o : Oper} {a : Act} {w : World} {Q : Exit → Act → World → Prop} {S : World → Prop} {n fuel : Nat} {listed : Array Bool}
theorem qV (M : S w) (i : Nat) (d : Tmp) (v : Value) (h : HL P ops Q S n fuel (listed.setIfInBounds i true) (a.put (some d) v) w) (hi : ops.toList[i]? = some o := by exact rfl) (hin : i < n := by decide) (hf : Region.free .any ops listed i = true := by kernel_rfl) (hr : (Region.ready .any ops listed).contains i = true := by kernel_rfl) (hw : Region.wanted o (yielded ops a.tmps) = true := by first | exact want_no rfl | kernel_rfl) (hd : o.dst = some d := by exact rfl) (hrun : Rn P a o v := by exact ⟨fun _ => by kernel_rfl⟩) : HL P ops Q S n (fuel + 1) listed a w := hl_val M i hi hin hf hr hw (some d) hd v (fun w _ => hrun.out w) h
end
section
variable {P : Program} {ops : Array Oper} {rest : List Oper} {o : Oper} {a : Act} {w W : World} {c : Ctx} {L : List Blk} {Q : Exit → Act → World → Prop} {R : Act → Prop}
theorem ZT (d : Tmp) (p : Prop) [Decidable p] (h : PL P ops Q rest (a.put (some d) (.bool true)) w) (hp : p := by first | omega | decide) (hr : Rn P a o (.bool (decide p)) := by exact ⟨fun _ => by kernel_rfl⟩) (hw : Region.wanted o (yielded ops a.tmps) = true := by first | exact want_no rfl | kernel_rfl) (hd : o.dst = some d := by exact rfl) : PL P ops Q (o :: rest) a w := pH d _ (jT p hp hr) h hw hd
theorem eT (d : Tmp) (p : Prop) [Decidable p] (h : KL P ops W R rest (a.put (some d) (.bool true))) (hp : p := by first | omega | decide) (hr : Rn P a o (.bool (decide p)) := by exact ⟨fun _ => by kernel_rfl⟩) (hw : Region.wanted o (yielded ops a.tmps) = true := by first | exact want_no rfl | kernel_rfl) (hd : o.dst = some d := by exact rfl) : KL P ops W R (o :: rest) a := kH d _ (jT p hp hr) h hw hd
theorem ZF (d : Tmp) (p : Prop) [Decidable p] (h : PL P ops Q rest (a.put (some d) (.bool false)) w) (hp : ¬ p := by first | omega | decide) (hr : Rn P a o (.bool (decide p)) := by exact ⟨fun _ => by kernel_rfl⟩) (hw : Region.wanted o (yielded ops a.tmps) = true := by first | exact want_no rfl | kernel_rfl) (hd : o.dst = some d := by exact rfl) : PL P ops Q (o :: rest) a w := pH d _ (jF p hp hr) h hw hd
theorem eF (d : Tmp) (p : Prop) [Decidable p] (h : KL P ops W R rest (a.put (some d) (.bool false))) (hp : ¬ p := by first | omega | decide) (hr : Rn P a o (.bool (decide p)) := by exact ⟨fun _ => by kernel_rfl⟩) (hw : Region.wanted o (yielded ops a.tmps) = true := by first | exact want_no rfl | kernel_rfl) (hd : o.dst = some d := by exact rfl) : KL P ops W R (o :: rest) a := kH d _ (jF p hp hr) h hw hd
theorem ZD (d : Tmp) (p : Prop) [Decidable p] (h : PL P ops Q rest (a.put (some d) (.bool false)) w) (hp : p := by first | omega | decide) (hr : Rn P a o (.bool (!(decide p))) := by exact ⟨fun _ => by kernel_rfl⟩) (hw : Region.wanted o (yielded ops a.tmps) = true := by first | exact want_no rfl | kernel_rfl) (hd : o.dst = some d := by exact rfl) : PL P ops Q (o :: rest) a w := pH d _ (jD p hp hr) h hw hd
theorem eD (d : Tmp) (p : Prop) [Decidable p] (h : KL P ops W R rest (a.put (some d) (.bool false))) (hp : p := by first | omega | decide) (hr : Rn P a o (.bool (!(decide p))) := by exact ⟨fun _ => by kernel_rfl⟩) (hw : Region.wanted o (yielded ops a.tmps) = true := by first | exact want_no rfl | kernel_rfl) (hd : o.dst = some d := by exact rfl) : KL P ops W R (o :: rest) a := kH d _ (jD p hp hr) h hw hd
theorem ZS (d : Tmp) (p : Prop) [Decidable p] (h : PL P ops Q rest (a.put (some d) (.bool true)) w) (hp : ¬ p := by first | omega | decide) (hr : Rn P a o (.bool (!(decide p))) := by exact ⟨fun _ => by kernel_rfl⟩) (hw : Region.wanted o (yielded ops a.tmps) = true := by first | exact want_no rfl | kernel_rfl) (hd : o.dst = some d := by exact rfl) : PL P ops Q (o :: rest) a w := pH d _ (jU p hp hr) h hw hd
theorem eS (d : Tmp) (p : Prop) [Decidable p] (h : KL P ops W R rest (a.put (some d) (.bool true))) (hp : ¬ p := by first | omega | decide) (hr : Rn P a o (.bool (!(decide p))) := by exact ⟨fun _ => by kernel_rfl⟩) (hw : Region.wanted o (yielded ops a.tmps) = true := by first | exact want_no rfl | kernel_rfl) (hd : o.dst = some d := by exact rfl) : KL P ops W R (o :: rest) a := kH d _ (jU p hp hr) h hw hd
theorem ZI (d : Tmp) (x v : Int) (h : PL P ops Q rest (a.put (some d) (.int .i64 v)) w) (e1 : x = v := by omega) (e2 : -9223372036854775808 ≤ x := by omega) (e3 : x < 9223372036854775808 := by omega) (hr : Rn P a o (.int .i64 (IntKind.wrap .i64 x)) := by exact ⟨fun _ => by kernel_rfl⟩) (hw : Region.wanted o (yielded ops a.tmps) = true := by first | exact want_no rfl | kernel_rfl) (hd : o.dst = some d := by exact rfl) : PL P ops Q (o :: rest) a w := pH d _ (jV x e1 e2 e3 hr) h hw hd
theorem eI (d : Tmp) (x v : Int) (h : KL P ops W R rest (a.put (some d) (.int .i64 v))) (e1 : x = v := by omega) (e2 : -9223372036854775808 ≤ x := by omega) (e3 : x < 9223372036854775808 := by omega) (hr : Rn P a o (.int .i64 (IntKind.wrap .i64 x)) := by exact ⟨fun _ => by kernel_rfl⟩) (hw : Region.wanted o (yielded ops a.tmps) = true := by first | exact want_no rfl | kernel_rfl) (hd : o.dst = some d := by exact rfl) : KL P ops W R (o :: rest) a := kH d _ (jV x e1 e2 e3 hr) h hw hd
theorem ZQ (d : Tmp) (k : IntKind) (x : Int) {v : Int} (e1 : x = v) (h : PL P ops Q rest (a.put (some d) (.int k v)) w) (hr : Rn P a o (.int k x) := by exact ⟨fun _ => by kernel_rfl⟩) (hw : Region.wanted o (yielded ops a.tmps) = true := by first | exact want_no rfl | kernel_rfl) (hd : o.dst = some d := by exact rfl) : PL P ops Q (o :: rest) a w := pH d _ (fun w => (hr.out w).trans (by rw [e1])) h hw hd
theorem eQ (d : Tmp) (k : IntKind) (x : Int) {v : Int} (e1 : x = v) (h : KL P ops W R rest (a.put (some d) (.int k v))) (hr : Rn P a o (.int k x) := by exact ⟨fun _ => by kernel_rfl⟩) (hw : Region.wanted o (yielded ops a.tmps) = true := by first | exact want_no rfl | kernel_rfl) (hd : o.dst = some d := by exact rfl) : KL P ops W R (o :: rest) a := kH d _ (fun w => (hr.out w).trans (by rw [e1])) h hw hd
/-- An array type: how long, and how many cells an element has. -/
def ixN (P : Program) (t : TypeId) : Option (Nat × Option Nat) := match P.underlying t with
  | some (.array n e) => some (n, (P.info? e).map (·.size))
  | _ => none
def ixS (P : Program) (t : TypeId) : Option Nat := match P.underlying t with
  | some (.slice e) => (P.info? e).map (·.size)
  | _ => none
theorem run_zx (k : IntKind) (g i n : Nat) {t : TypeId} {x ix : Operand} (ho : o.op = .indexAddr t x ix) (hx : Ev a x (.pointer (some ⟨g, 0, none⟩))) (hi : Ev a ix (.int k (i : Int))) (hu : ixN P t = some (n, some 1)) (hlt : i < n) (w : World) : (execOp a.eval o).run P w = .ok (.value (.pointer (some ⟨g, i, none⟩))) w := by
  unfold ixN at hu
  split at hu
  · rename_i m e h
    obtain ⟨rfl, h2⟩ : m = n ∧ (P.info? e).map (·.size) = some 1 := by simpa using hu
    exact run_ix1 t m e h h2 x ix ho g hx.out k i hi.out hlt w
  · cases hu
theorem ZX (d : Tmp) (k : IntKind) (g i n : Nat) (h : PL P ops Q rest (a.put (some d) (.pointer (some ⟨g, i, none⟩))) w) {t : TypeId} {x ix : Operand} (ho : o.op = .indexAddr t x ix := by exact rfl) (hx : Ev a x (.pointer (some ⟨g, 0, none⟩)) := by exact ⟨by kernel_rfl⟩) (hi : Ev a ix (.int k (i : Int)) := by exact ⟨by kernel_rfl⟩) (hu : ixN P t = some (n, some 1) := by kernel_rfl) (hlt : i < n := by first | omega | decide) (hw : Region.wanted o (yielded ops a.tmps) = true := by first | exact want_no rfl | kernel_rfl) (hd : o.dst = some d := by exact rfl) : PL P ops Q (o :: rest) a w := pH d _ (run_zx k g i n ho hx hi hu hlt) h hw hd
theorem eX (d : Tmp) (k : IntKind) (g i n : Nat) (h : KL P ops W R rest (a.put (some d) (.pointer (some ⟨g, i, none⟩)))) {t : TypeId} {x ix : Operand} (ho : o.op = .indexAddr t x ix := by exact rfl) (hx : Ev a x (.pointer (some ⟨g, 0, none⟩)) := by exact ⟨by kernel_rfl⟩) (hi : Ev a ix (.int k (i : Int)) := by exact ⟨by kernel_rfl⟩) (hu : ixN P t = some (n, some 1) := by kernel_rfl) (hlt : i < n := by first | omega | decide) (hw : Region.wanted o (yielded ops a.tmps) = true := by first | exact want_no rfl | kernel_rfl) (hd : o.dst = some d := by exact rfl) : KL P ops W R (o :: rest) a := kH d _ (run_zx k g i n ho hx hi hu hlt) h hw hd
theorem ZE (M : Mem c L w) (d : Tmp) (i off : Nat) {g n T : Nat} {F : Nat → Value} (h : PL P ops Q rest (a.put (some d) (F off)) w) {ty : TypeId} {x : Operand} (hw : Region.wanted o (yielded ops a.tmps) = true := by first | exact want_no rfl | kernel_rfl) (hd : o.dst = some d := by exact rfl) (ho : o.op = .load ty x := by exact rfl) (hi : L[i]? = some ⟨g, .cells (av n F) T⟩ := by exact rfl) (hk : off < n := by first | omega | decide) (hx : Ev a x (.pointer (some ⟨g, off, none⟩)) := by exact ⟨by kernel_rfl⟩) (ha : Na P ty := by exact ⟨fun _ => by kernel_rfl⟩) : PL P ops Q (o :: rest) a w := pE M d g off (F off) (fun _ M => M.cell i hi hk rfl) h hw hd ho hx ha
theorem eE (M : Mem c L W) (d : Tmp) (i off : Nat) {g n T : Nat} {F : Nat → Value} (h : KL P ops W R rest (a.put (some d) (F off))) {ty : TypeId} {x : Operand} (hw : Region.wanted o (yielded ops a.tmps) = true := by first | exact want_no rfl | kernel_rfl) (hd : o.dst = some d := by exact rfl) (ho : o.op = .load ty x := by exact rfl) (hi : L[i]? = some ⟨g, .cells (av n F) T⟩ := by exact rfl) (hk : off < n := by first | omega | decide) (hx : Ev a x (.pointer (some ⟨g, off, none⟩)) := by exact ⟨by kernel_rfl⟩) (ha : Na P ty := by exact ⟨fun _ => by kernel_rfl⟩) : KL P ops W R (o :: rest) a := kE M d g off (F off) (fun _ M => M.cell i hi hk rfl) h hw hd ho hx ha
theorem ZP8 (M : Mem c L w) (i off : Nat) (y : Int) {g n T : Nat} {f : Nat → Int} (h : ∀ w2, Mem c (L.set i ⟨g, .cells (av n (w8 (upd f off y))) T⟩) w2 → PL P ops Q rest a w2) {ty : TypeId} {x z : Operand} (hw : Region.wanted o (yielded ops a.tmps) = true := by first | exact want_no rfl | kernel_rfl) (hd : o.dst = none := by exact rfl) (ho : o.op = .store ty x z := by exact rfl) (hi : L[i]? = some ⟨g, .cells (av n (w8 f)) T⟩ := by exact rfl) (hk : off < n := by first | omega | decide) (hx : Ev a x (.pointer (some ⟨g, off, none⟩)) := by exact ⟨by kernel_rfl⟩) (hy : Ev a z (.int .u8 y) := by exact ⟨by kernel_rfl⟩) (hz : (P.info? ty).map (·.size) = some 1 := by kernel_rfl) : PL P ops Q (o :: rest) a w := pP M i hi off (.int .u8 y) (w8 (upd f off y)) hk (fun j _ => put_w8 _ _ _ j) h hw hd ho hx hy hz
theorem ZP32 (M : Mem c L w) (i off : Nat) (y : Int) {g n T : Nat} {f : Nat → Int} (h : ∀ w2, Mem c (L.set i ⟨g, .cells (av n (w32 (upd f off y))) T⟩) w2 → PL P ops Q rest a w2) {ty : TypeId} {x z : Operand} (hw : Region.wanted o (yielded ops a.tmps) = true := by first | exact want_no rfl | kernel_rfl) (hd : o.dst = none := by exact rfl) (ho : o.op = .store ty x z := by exact rfl) (hi : L[i]? = some ⟨g, .cells (av n (w32 f)) T⟩ := by exact rfl) (hk : off < n := by first | omega | decide) (hx : Ev a x (.pointer (some ⟨g, off, none⟩)) := by exact ⟨by kernel_rfl⟩) (hy : Ev a z (.int .u32 y) := by exact ⟨by kernel_rfl⟩) (hz : (P.info? ty).map (·.size) = some 1 := by kernel_rfl) : PL P ops Q (o :: rest) a w := pP M i hi off (.int .u32 y) (w32 (upd f off y)) hk (fun j _ => put_w32 _ _ _ j) h hw hd ho hx hy hz
theorem ZP64 (M : Mem c L w) (i off : Nat) (y : Int) {g n T : Nat} {f : Nat → Int} (h : ∀ w2, Mem c (L.set i ⟨g, .cells (av n (w64 (upd f off y))) T⟩) w2 → PL P ops Q rest a w2) {ty : TypeId} {x z : Operand} (hw : Region.wanted o (yielded ops a.tmps) = true := by first | exact want_no rfl | kernel_rfl) (hd : o.dst = none := by exact rfl) (ho : o.op = .store ty x z := by exact rfl) (hi : L[i]? = some ⟨g, .cells (av n (w64 f)) T⟩ := by exact rfl) (hk : off < n := by first | omega | decide) (hx : Ev a x (.pointer (some ⟨g, off, none⟩)) := by exact ⟨by kernel_rfl⟩) (hy : Ev a z (.int .u64 y) := by exact ⟨by kernel_rfl⟩) (hz : (P.info? ty).map (·.size) = some 1 := by kernel_rfl) : PL P ops Q (o :: rest) a w := pP M i hi off (.int .u64 y) (w64 (upd f off y)) hk (fun j _ => put_w64 _ _ _ j) h hw hd ho hx hy hz
theorem ZG (M : Mem c L w) (i n : Nat) (F' : Nat → Value) {g T : Nat} {F : Nat → Value} (h : ∀ w2, Mem c (L.set i ⟨g, .cells (av n F') T⟩) w2 → PL P ops Q rest a w2) {ty : TypeId} {x y : Operand} (hw : Region.wanted o (yielded ops a.tmps) = true := by first | exact want_no rfl | kernel_rfl) (hd : o.dst = none := by exact rfl) (ho : o.op = .store ty x y := by exact rfl) (hi : L[i]? = some ⟨g, .cells (av n F) T⟩ := by exact rfl) (h1 : ∀ j, j < n → (F' j).oneCell' = true := by exact fun _ _ => rfl) (hx : Ev a x (.pointer (some ⟨g, 0, none⟩)) := by exact ⟨by kernel_rfl⟩) (hy : Ev a y (.agg (av n F')) := by exact ⟨by kernel_rfl⟩) (hz : (P.info? ty).map (·.size) = some n := by kernel_rfl) : PL P ops Q (o :: rest) a w := pl_put M hw hd ty x y ho i g 0 hx.out n T F hi n F' F' hy.out hz (by omega) h1 (fun j hj => by rw [if_pos (by omega), Nat.sub_zero]) h
theorem ZC (M : Mem c L w) (d : Tmp) {f : FuncId} {xs : Array Value} {v : Value} (hc : ∀ w, Mem c L w → Calls P f xs w fun e w' => e = .returned v ∧ Below w.heap.size w w') (h : ∀ w', Mem c L w' → PL P ops Q rest (a.put (some d) v) w') (hw : Region.wanted o (yielded ops a.tmps) = true := by first | exact want_no rfl | kernel_rfl) (hd : o.dst = some d := by exact rfl) (hr : Rc P a o f xs := by exact ⟨fun _ => by kernel_rfl⟩) : PL P ops Q (o :: rest) a w := pC M d f xs v hc h hw hd hr
theorem eC (M : Mem c L W) (d : Tmp) {f : FuncId} {xs : Array Value} {v : Value} (hc : ∀ w, Mem c L w → Calls P f xs w fun e w' => e = .returned v ∧ Below w.heap.size w w') (h : KL P ops W R rest (a.put (some d) v)) (hw : Region.wanted o (yielded ops a.tmps) = true := by first | exact want_no rfl | kernel_rfl) (hd : o.dst = some d := by exact rfl) (hr : Rc P a o f xs := by exact ⟨fun _ => by kernel_rfl⟩) : KL P ops W R (o :: rest) a := kC M d f xs v hc h hw hd hr
structure Rm (P : Program) (a : Act) (o : Oper) (v : Nat → Value) (Z : Obj) : Prop where
  out : ∀ w, (execOp a.eval o).run P w = .ok (.value (v w.heap.size)) (w.alloc Z)
theorem ZM (M : Mem c L w) (d : Tmp) (v : Nat → Value) (Z : Obj) (h : ∀ g w2, Mem c (L ++ [⟨g, Z⟩]) w2 → PL P ops Q rest (a.put (some d) (v g)) w2) (hw : Region.wanted o (yielded ops a.tmps) = true := by first | exact want_no rfl | kernel_rfl) (hd : o.dst = some d := by exact rfl) (hr : Rm P a o v Z := by exact ⟨fun _ => by kernel_rfl⟩) : PL P ops Q (o :: rest) a w := pl_mk M hw (some d) hd v Z hr.out h
structure Rs (P : Program) (fn : Func) (a : Act) (v : Value) : Prop where
  out : ∀ w, (results fn a.tmps).run P w = .ok v w
theorem b1 {fn : Func} {w0 : World} {v : Value} (M : Mem ⟨w0, []⟩ L w) (hr : Rs P fn a v := by exact ⟨fun _ => by kernel_rfl⟩) (hd : a.defers = [] := by kernel_rfl) : bodyPost P fn (fun r w2 => r = .returned v ∧ Below w0.heap.size w0 w2) .ret a w := bodyPost_ret (hr.out w) hd ⟨rfl, below_grown M.old⟩
end
/-- More short forms. -/
theorem exS2 {A : Type} {a : Act} {F : (Nat → Value) → A → Act} {R : (Nat → Value) → A → Prop} (y : A) (hR : R (slt a) y) (h : a = F (slt a) y := by kernel_rfl) : ∃ v y, a = F v y ∧ R v y := ⟨slt a, y, h, hR⟩
theorem exS3 {A : Type} {a : Act} {K : A → Prop} {F : (Nat → Value) → A → Act} {R : (Nat → Value) → A → Prop} (y : A) (hR : R (slt a) y) (hy : K y := by omega) (h : a = F (slt a) y := by kernel_rfl) : ∃ v y, K y ∧ a = F v y ∧ R v y := ⟨slt a, y, hy, h, hR⟩
section
variable {P : Program} {ops : Array Oper} {rest : List Oper} {o : Oper} {a : Act} {w W : World} {c : Ctx} {L : List Blk} {Q : Exit → Act → World → Prop} {R : Act → Prop}
theorem wT (d : Tmp) {p : Prop} [Decidable p] (hp : p) (h : PL P ops Q rest (a.put (some d) (.bool true)) w) (hr : Rn P a o (.bool (decide p)) := by exact ⟨fun _ => by kernel_rfl⟩) (hw : Region.wanted o (yielded ops a.tmps) = true := by first | exact want_no rfl | kernel_rfl) (hd : o.dst = some d := by exact rfl) : PL P ops Q (o :: rest) a w := pH d _ (jT p hp hr) h hw hd
theorem xT (d : Tmp) {p : Prop} [Decidable p] (hp : p) (h : KL P ops W R rest (a.put (some d) (.bool true))) (hr : Rn P a o (.bool (decide p)) := by exact ⟨fun _ => by kernel_rfl⟩) (hw : Region.wanted o (yielded ops a.tmps) = true := by first | exact want_no rfl | kernel_rfl) (hd : o.dst = some d := by exact rfl) : KL P ops W R (o :: rest) a := kH d _ (jT p hp hr) h hw hd
theorem wF (d : Tmp) {p : Prop} [Decidable p] (hp : ¬ p) (h : PL P ops Q rest (a.put (some d) (.bool false)) w) (hr : Rn P a o (.bool (decide p)) := by exact ⟨fun _ => by kernel_rfl⟩) (hw : Region.wanted o (yielded ops a.tmps) = true := by first | exact want_no rfl | kernel_rfl) (hd : o.dst = some d := by exact rfl) : PL P ops Q (o :: rest) a w := pH d _ (jF p hp hr) h hw hd
theorem xF (d : Tmp) {p : Prop} [Decidable p] (hp : ¬ p) (h : KL P ops W R rest (a.put (some d) (.bool false))) (hr : Rn P a o (.bool (decide p)) := by exact ⟨fun _ => by kernel_rfl⟩) (hw : Region.wanted o (yielded ops a.tmps) = true := by first | exact want_no rfl | kernel_rfl) (hd : o.dst = some d := by exact rfl) : KL P ops W R (o :: rest) a := kH d _ (jF p hp hr) h hw hd
theorem wD (d : Tmp) {p : Prop} [Decidable p] (hp : p) (h : PL P ops Q rest (a.put (some d) (.bool false)) w) (hr : Rn P a o (.bool (!(decide p))) := by exact ⟨fun _ => by kernel_rfl⟩) (hw : Region.wanted o (yielded ops a.tmps) = true := by first | exact want_no rfl | kernel_rfl) (hd : o.dst = some d := by exact rfl) : PL P ops Q (o :: rest) a w := pH d _ (jD p hp hr) h hw hd
theorem xD (d : Tmp) {p : Prop} [Decidable p] (hp : p) (h : KL P ops W R rest (a.put (some d) (.bool false))) (hr : Rn P a o (.bool (!(decide p))) := by exact ⟨fun _ => by kernel_rfl⟩) (hw : Region.wanted o (yielded ops a.tmps) = true := by first | exact want_no rfl | kernel_rfl) (hd : o.dst = some d := by exact rfl) : KL P ops W R (o :: rest) a := kH d _ (jD p hp hr) h hw hd
theorem wU (d : Tmp) {p : Prop} [Decidable p] (hp : ¬ p) (h : PL P ops Q rest (a.put (some d) (.bool true)) w) (hr : Rn P a o (.bool (!(decide p))) := by exact ⟨fun _ => by kernel_rfl⟩) (hw : Region.wanted o (yielded ops a.tmps) = true := by first | exact want_no rfl | kernel_rfl) (hd : o.dst = some d := by exact rfl) : PL P ops Q (o :: rest) a w := pH d _ (jU p hp hr) h hw hd
theorem xU (d : Tmp) {p : Prop} [Decidable p] (hp : ¬ p) (h : KL P ops W R rest (a.put (some d) (.bool true))) (hr : Rn P a o (.bool (!(decide p))) := by exact ⟨fun _ => by kernel_rfl⟩) (hw : Region.wanted o (yielded ops a.tmps) = true := by first | exact want_no rfl | kernel_rfl) (hd : o.dst = some d := by exact rfl) : KL P ops W R (o :: rest) a := kH d _ (jU p hp hr) h hw hd
theorem pD (M : Mem c L w) (d : Tmp) (v : Value) {f : FuncId} {xs : Array Value} (hc : ∀ w, Mem c L w → Calls P f xs w fun e w' => e = .returned v ∧ Below w.heap.size w w') (h : ∀ w', Mem c L w' → PL P ops Q rest (a.put (some d) v) w') (hw : Region.wanted o (yielded ops a.tmps) = true := by first | exact want_no rfl | kernel_rfl) (hd : o.dst = some d := by exact rfl) (hr : Rc P a o f xs := by exact ⟨fun _ => by kernel_rfl⟩) : PL P ops Q (o :: rest) a w := pC M d f xs v hc h hw hd hr
theorem kD (M : Mem c L W) (d : Tmp) (v : Value) {f : FuncId} {xs : Array Value} (hc : ∀ w, Mem c L w → Calls P f xs w fun e w' => e = .returned v ∧ Below w.heap.size w w') (h : KL P ops W R rest (a.put (some d) v)) (hw : Region.wanted o (yielded ops a.tmps) = true := by first | exact want_no rfl | kernel_rfl) (hd : o.dst = some d := by exact rfl) (hr : Rc P a o f xs := by exact ⟨fun _ => by kernel_rfl⟩) : KL P ops W R (o :: rest) a := kC M d f xs v hc h hw hd hr
theorem ZY (M : Mem c L w) (d : Tmp) (i : Nat) (v : Value) (Z' : Obj) {f : FuncId} {xs : Array Value} {g : Nat} {Z : Obj} (hc : ∀ w, Mem c L w → Calls P f xs w fun e w' => e = .returned v ∧ Grw w w' [g] ∧ w'.heap[g]? = some Z') (h : ∀ w', Mem c (L.set i ⟨g, Z'⟩) w' → PL P ops Q rest (a.put (some d) v) w') (hi : L[i]? = some ⟨g, Z⟩ := by exact rfl) (hw : Region.wanted o (yielded ops a.tmps) = true := by first | exact want_no rfl | kernel_rfl) (hd : o.dst = some d := by exact rfl) (hr : Rc P a o f xs := by exact ⟨fun _ => by kernel_rfl⟩) : PL P ops Q (o :: rest) a w := pl_callp M hw (some d) hd f xs v i g Z Z' hi hr.out hc h
theorem zJ (d : Tmp) (v x : Value) (e : x = v) (h : PL P ops Q rest (a.put (some d) v) w) (hw : Region.wanted o (yielded ops a.tmps) = true := by first | exact want_no rfl | kernel_rfl) (hd : o.dst = some d := by exact rfl) (hr : Rn P a o x := by exact ⟨fun _ => by kernel_rfl⟩) : PL P ops Q (o :: rest) a w := pH d v (fun w => (hr.out w).trans (by rw [e])) h hw hd
theorem zW (d : Tmp) (x : Int) (h : PL P ops Q rest (a.put (some d) (.int .i64 x)) w) (e2 : -9223372036854775808 ≤ x := by omega) (e3 : x < 9223372036854775808 := by omega) (hr : Rn P a o (.int .i64 (IntKind.wrap .i64 x)) := by exact ⟨fun _ => by kernel_rfl⟩) (hw : Region.wanted o (yielded ops a.tmps) = true := by first | exact want_no rfl | kernel_rfl) (hd : o.dst = some d := by exact rfl) : PL P ops Q (o :: rest) a w := pH d _ (jV x rfl e2 e3 hr) h hw hd
theorem zT (d : Tmp) (x : ByteArray) (h : PL P ops Q rest (a.put (some d) (.bool true)) w) (hr : Rn P a o (.bool (x.toList == x.toList)) := by exact ⟨fun _ => by kernel_rfl⟩) (hw : Region.wanted o (yielded ops a.tmps) = true := by first | exact want_no rfl | kernel_rfl) (hd : o.dst = some d := by exact rfl) : PL P ops Q (o :: rest) a w := zJ d _ _ (by rw [beq_self_eq_true]) h hw hd hr
theorem zN (d : Tmp) (x : ByteArray) (h : PL P ops Q rest (a.put (some d) (.bool false)) w) (hr : Rn P a o (.bool (!(x.toList == x.toList))) := by exact ⟨fun _ => by kernel_rfl⟩) (hw : Region.wanted o (yielded ops a.tmps) = true := by first | exact want_no rfl | kernel_rfl) (hd : o.dst = some d := by exact rfl) : PL P ops Q (o :: rest) a w := zJ d _ _ (by rw [beq_self_eq_true]; rfl) h hw hd hr
theorem bX {fn : Func} {Φ : Ending → World → Prop} (v : Value) (hX : Φ (.returned v) w) (hr : Rs P fn a v := by exact ⟨fun _ => by kernel_rfl⟩) (hd : a.defers = [] := by kernel_rfl) : bodyPost P fn Φ .ret a w := bodyPost_ret (hr.out w) hd hX
structure Ep (a : Act) (p : Tmp) (v : Value) : Prop where
  out : a.tmps.getD p undef = v
theorem bc {fn : Func} {Φ : Ending → World → Prop} {p : Tmp} {ty : TypeId} (h : fn.results = #[.cell p ty]) (M : Mem c L w) (i n : Nat) (F : Nat → Value) (hX : Φ (.returned (.agg (av n F))) w) {g T : Nat} (hi : L[i]? = some ⟨g, .cells (av n F) T⟩ := by exact rfl) (hp : Ep a p (.pointer (some ⟨g, 0, none⟩)) := by exact ⟨by kernel_rfl⟩) (hu : (P.underlying ty).map TypeDesc.isRow = some true := by kernel_rfl) (hz : (P.info? ty).map (·.size) = some n := by kernel_rfl) (hd : a.defers = [] := by kernel_rfl) : bodyPost P fn Φ .ret a w := by
  obtain ⟨t, h1, h2⟩ := isRow_of hu
  exact bodyPost_ret (results_cell_row h _ _ g T (av n F) (0, 0) _ hp.out (M.get i hi) h1 (by revert h2; cases t <;> intro h2 <;> first | rfl | cases h2) (by rw [av_size]; exact hz)) hd hX
theorem bct {fn : Func} {Φ : Ending → World → Prop} {p s : Tmp} {ty : TypeId} (h : fn.results = #[.cell p ty, .tmp s]) (M : Mem c L w) (i n : Nat) (F : Nat → Value) (x : Value) (hX : Φ (.returned (.tuple #[.agg (av n F), x])) w) {g T : Nat} (hi : L[i]? = some ⟨g, .cells (av n F) T⟩ := by exact rfl) (hp : Ep a p (.pointer (some ⟨g, 0, none⟩)) := by exact ⟨by kernel_rfl⟩) (hs : Ep a s x := by exact ⟨by kernel_rfl⟩) (hu : (P.underlying ty).map TypeDesc.isRow = some true := by kernel_rfl) (hz : (P.info? ty).map (·.size) = some n := by kernel_rfl) (hd : a.defers = [] := by kernel_rfl) : bodyPost P fn Φ .ret a w := by
  obtain ⟨t, h1, h2⟩ := isRow_of hu
  exact bodyPost_ret (results_cell_tmp h _ _ g T (av n F) (0, 0) _ _ hp.out hs.out (M.get i hi) h1 (by revert h2; cases t <;> intro h2 <;> first | rfl | cases h2) (by rw [av_size]; exact hz)) hd hX
end
section
variable {P : Program} {ops : Array Oper} {o : Oper} {a : Act} {w : World} {Q : Exit → Act → World → Prop} {S : World → Prop} {n fuel : Nat} {listed : Array Bool}
theorem qH (M : S w) (i : Nat) (d : Tmp) (v : Value) (hrun : ∀ w, S w → (execOp a.eval o).run P w = .ok (.value v) w) (h : HL P ops Q S n fuel (listed.setIfInBounds i true) (a.put (some d) v) w) (hi : ops.toList[i]? = some o := by exact rfl) (hin : i < n := by decide) (hf : Region.free .any ops listed i = true := by kernel_rfl) (hr : (Region.ready .any ops listed).contains i = true := by kernel_rfl) (hw : Region.wanted o (yielded ops a.tmps) = true := by first | exact want_no rfl | kernel_rfl) (hd : o.dst = some d := by exact rfl) : HL P ops Q S n (fuel + 1) listed a w := hl_val M i hi hin hf hr hw (some d) hd v hrun h
theorem qC {c : Ctx} {Ls : List Blk} (M : Mem c Ls w) (i : Nat) (d : Tmp) (g off : Nat) (v : Value) (hc : ∀ w, Mem c Ls w → w.cell? ⟨g, off, none⟩ = some v) (h : HL P ops Q (Mem c Ls) n fuel (listed.setIfInBounds i true) (a.put (some d) v) w) {ty : TypeId} {x : Operand} (hi : ops.toList[i]? = some o := by exact rfl) (hin : i < n := by decide) (hf : Region.free .any ops listed i = true := by kernel_rfl) (hr : (Region.ready .any ops listed).contains i = true := by kernel_rfl) (hw : Region.wanted o (yielded ops a.tmps) = true := by first | exact want_no rfl | kernel_rfl) (hd : o.dst = some d := by exact rfl) (ho : o.op = .load ty x := by exact rfl) (hx : Ev a x (.pointer (some ⟨g, off, none⟩)) := by exact ⟨by kernel_rfl⟩) (ha : Na P ty := by exact ⟨fun _ => by kernel_rfl⟩) : HL P ops Q (Mem c Ls) n (fuel + 1) listed a w := hl_cell M i hi hin hf hr hw (some d) hd ty x ho g off hx.out v ha.out hc h
theorem qE {c : Ctx} {Ls : List Blk} (M : Mem c Ls w) (i : Nat) (d : Tmp) (k off : Nat) {g m T : Nat} {F : Nat → Value} (h : HL P ops Q (Mem c Ls) n fuel (listed.setIfInBounds i true) (a.put (some d) (F off)) w) {ty : TypeId} {x : Operand} (hi : ops.toList[i]? = some o := by exact rfl) (hin : i < n := by decide) (hf : Region.free .any ops listed i = true := by kernel_rfl) (hr : (Region.ready .any ops listed).contains i = true := by kernel_rfl) (hw : Region.wanted o (yielded ops a.tmps) = true := by first | exact want_no rfl | kernel_rfl) (hd : o.dst = some d := by exact rfl) (ho : o.op = .load ty x := by exact rfl) (hk : Ls[k]? = some ⟨g, .cells (av m F) T⟩ := by exact rfl) (ho2 : off < m := by first | omega | decide) (hx : Ev a x (.pointer (some ⟨g, off, none⟩)) := by exact ⟨by kernel_rfl⟩) (ha : Na P ty := by exact ⟨fun _ => by kernel_rfl⟩) : HL P ops Q (Mem c Ls) n (fuel + 1) listed a w := hl_cell M i hi hin hf hr hw (some d) hd ty x ho g off hx.out _ ha.out (fun _ M => M.cell k hk ho2 rfl) h
theorem qO (i : Nat) (h : PL P ops (Exit.then (fun a' w' => S w' ∧ HL P ops Q S n fuel (listed.setIfInBounds i true) a' w') Q) [o] a w) (hin : i < n := by decide) (hr : Region.ready .any ops listed = [i] := by kernel_rfl) (hi : ops.toList[i]? = some o := by exact rfl) : HL P ops Q S n (fuel + 1) listed a w := hl_one i hin hr hi h
theorem qZ (h : PL P ops (Exit.then (fun a' w' => Q .normal a' w') Q) [o] a w) (hr : Region.ready .any ops listed = [n] := by kernel_rfl) (hr2 : Region.ready .any ops (listed.setIfInBounds n true) = [] := by kernel_rfl) (hi : ops.toList[n]? = some o := by exact rfl) : HL P ops Q S n (fuel + 1) listed a w := hl_end hr hr2 hi h
theorem rgh {c : Ctx} {L : List Blk} {id : Nat} {l : List Oper} (M : Mem c L w) (Ls : List Blk) (n : Nat) (h : ∀ w', Mem c L w' → HL P l.toArray Q (Mem c Ls) n (n + 1) (Array.replicate (n + 1) false) a w') (hn : l.length = n + 1 := by exact rfl) (hm : P.follows .mixedOrders = true := by kernel_rfl) (hB : (Region.sinkB .any l.toArray n && Region.chainB .any l.toArray n && Region.noSelect l.toArray) = true := by kernel_rfl) (hQ : ∀ c a d v w, Q (.panic c) (Act.put a d v) w → Q (.panic c) a w := by exact fun _ _ d _ _ h => by cases d <;> exact h) : (Code.region id l.toArray true).wp P Q a w := rg_held M Ls n hn hm hB hQ h
end
end Go.Proofs.YtenafinbaanicaaDoor
