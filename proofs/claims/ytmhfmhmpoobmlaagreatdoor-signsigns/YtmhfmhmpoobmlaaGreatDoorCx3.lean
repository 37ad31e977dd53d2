/- Part 3 of the walks and facts. -/
import Derived.Test.YtmhfmhmpoobmlaaGreatDoorCxDef
import Derived.Test.YtmhfmhmpoobmlaaGreatDoorCx1
import Derived.Test.YtmhfmhmpoobmlaaGreatDoorCx2
import Derived.BigQuiet
import Derived.Laws.BitsAllLaws
import Derived.Laws.BytesString
import Derived.Laws.Rows
import Derived.Test.YtmhfmhmpoobmlaaGreatDoorRows
import Derived.WalkKit
import Derived.WalkLawsBesides
import Derived.WalkSpells
set_option maxHeartbeats 4000000
set_option maxRecDepth 100000
namespace Go.Proofs.YtmhfmhmpoobmlaaGreatDoor
open Go.RowKit
structure Blk where
 g : Nat
 Z : Obj
structure Mem (w0 : World) (L : List Blk) (W : World) : Prop where
 old : Below w0.heap.size w0 W
 at_ : ∀ b ∈ L, W.heap[b.g]? = some b.Z
 ge : ∀ b ∈ L, w0.heap.size ≤ b.g
 nodup : (L.map Blk.g).Nodup
theorem Mem.start (w : World) : Mem w [] w := ⟨Below.refl _ _, by simp, by simp, by simp⟩
theorem Mem.lt {w0 W : World} {L : List Blk} (M : Mem w0 L W) {b : Blk} (hb : b ∈ L) : b.g < W.heap.size := by
 have h := M.at_ b hb
 exact (Array.getElem?_eq_some_iff.1 h).1
theorem Mem.keep {w0 W W' : World} {L : List Blk} (M : Mem w0 L W) (h : Below W.heap.size W W') : Mem w0 L W' where
 old := M.old.trans (h.mono M.old.size)
 at_ := fun b hb => by rw [h.block _ (M.lt hb)]; exact M.at_ b hb
 ge := M.ge
 nodup := M.nodup
theorem Mem.news {w0 W W' : World} {L N : List Blk} (M : Mem w0 L W) (h : Below W.heap.size W W') (hat : ∀ b ∈ N, W'.heap[b.g]? = some b.Z) (hge : ∀ b ∈ N, W.heap.size ≤ b.g) (hnd : (N.map Blk.g).Nodup) : Mem w0 (L ++ N) W' where
 old := M.old.trans (h.mono M.old.size)
 at_ := fun b hb => by
  rcases List.mem_append.1 hb with hb | hb
  ·rw [h.block _ (M.lt hb)]; exact M.at_ b hb
  ·exact hat b hb
 ge := fun b hb => by
  rcases List.mem_append.1 hb with hb | hb
  ·exact M.ge b hb
  ·exact Nat.le_trans M.old.size (hge b hb)
 nodup := by
  rw [List.map_append, List.nodup_append]
  refine ⟨M.nodup, hnd, fun x hx y hy e => ?_⟩
  obtain ⟨b, hb, rfl⟩ := List.mem_map.1 hx
  obtain ⟨c, hc, rfl⟩ := List.mem_map.1 hy
  have h1 := M.lt hb
  have h2 := hge c hc
  omega
theorem Mem.new {w0 W W' : World} {L : List Blk} (M : Mem w0 L W) (g : Nat) (Z : Obj) (h : Below W.heap.size W W') (hat : W'.heap[g]? = some Z) (hge : W.heap.size ≤ g) : Mem w0 (L ++ [⟨g, Z⟩]) W' :=
 M.news h (by simpa using hat) (by simpa using hge) (by simp)
theorem nodup_ne {α : Type} {l : List α} (h : l.Nodup) {i j : Nat} (hij : i < j) (hj : j < l.length) : l[i]? ≠ l[j]? := by
 have h1 := List.pairwise_iff_getElem.1 h i j (by omega) hj hij
 rw [List.getElem?_eq_getElem (by omega), List.getElem?_eq_getElem hj]
 exact fun e => h1 (Option.some.inj e)
theorem nodup_of_map {α β : Type} {f : α → β} {l : List α} (h : (l.map f).Nodup) : l.Nodup := (List.pairwise_map.1 h).imp fun hab e => hab (by rw [e])
theorem fst_one {E : List (Nat × Nat)} (hnd : (E.map Prod.fst).Nodup) {x y : Nat × Nat} (hx : x ∈ E) (hy : y ∈ E) (e : x.1 = y.1) : x = y := by
 obtain ⟨i, hi⟩ := List.mem_iff_getElem?.1 hx
 obtain ⟨j, hj⟩ := List.mem_iff_getElem?.1 hy
 have li := (List.getElem?_eq_some_iff.1 hi).1
 have lj := (List.getElem?_eq_some_iff.1 hj).1
 rcases Nat.lt_trichotomy i j with hlt | heq | hlt
 ·exact absurd (by simp [hi, hj, e]) (nodup_ne hnd hlt (by simpa using lj))
 ·subst heq
  exact Option.some.inj (hi.symm.trans hj)
 ·exact absurd (by simp [hi, hj, e]) (nodup_ne hnd hlt (by simpa using li))
theorem nodup_at {L : List Blk} (h : (L.map Blk.g).Nodup) {i j : Nat} {b c : Blk} (hi : L[i]? = some b) (hj : L[j]? = some c) (hij : i ≠ j) : b.g ≠ c.g := by
 intro e
 have h1 := List.getElem?_eq_some_iff.1 hi
 have h2 := List.getElem?_eq_some_iff.1 hj
 obtain ⟨l1, e1⟩ := h1
 obtain ⟨l2, e2⟩ := h2
 rcases Nat.lt_or_gt_of_ne hij with hlt | hlt
 ·refine nodup_ne h hlt (by simpa using l2) ?_
  simp [hi, hj, e]
 ·refine nodup_ne h hlt (by simpa using l1) ?_
  simp [hi, hj, e]
theorem Mem.put {w0 W W' : World} {L : List Blk} (M : Mem w0 L W) (i : Nat) (b : Blk) (hi : L[i]? = some b) (Z : Obj) (hz : W'.heap[b.g]? = some Z) (ho : ∀ k, k ≠ b.g → W'.heap[k]? = W.heap[k]?) (hu : ∀ B u, B ≤ b.g → Below B u W → Below B u W') : Mem w0 (L.set i ⟨b.g, Z⟩) W' where
 old := hu _ _ (M.ge b (List.mem_of_getElem? hi)) M.old
 at_ := fun c hc => by
  obtain ⟨j, hj⟩ := List.mem_iff_getElem?.1 hc
  rw [List.getElem?_set] at hj
  by_cases hij : i = j
  ·subst hij
   rw [if_pos rfl] at hj
   split at hj
   ·cases hj
    exact hz
   ·cases hj
  ·rw [if_neg hij] at hj
   rw [ho _ (nodup_at M.nodup hj hi (Ne.symm hij))]
   exact M.at_ c (List.mem_of_getElem? hj)
 ge := fun c hc => by
  obtain ⟨j, hj⟩ := List.mem_iff_getElem?.1 hc
  rw [List.getElem?_set] at hj
  by_cases hij : i = j
  ·subst hij
   rw [if_pos rfl] at hj
   split at hj
   ·cases hj
    exact M.ge b (List.mem_of_getElem? hi)
   ·cases hj
  ·rw [if_neg hij] at hj
   exact M.ge c (List.mem_of_getElem? hj)
 nodup := by
  have e : (L.set i ⟨b.g, Z⟩).map Blk.g = L.map Blk.g := by
   apply List.ext_getElem?
   intro j
   simp only [List.getElem?_map, List.getElem?_set]
   by_cases hij : i = j
   ·subst hij
    rw [if_pos rfl, hi]
    have := (List.getElem?_eq_some_iff.1 hi).1
    simp [this]
   ·rw [if_neg hij]
  rw [e]
  exact M.nodup
theorem Mem.get {w0 W : World} {L : List Blk} (M : Mem w0 L W) (i : Nat) {g : Nat} {Z : Obj} (hi : L[i]? = some ⟨g, Z⟩) : W.heap[g]? = some Z := M.at_ _ (List.mem_of_getElem? hi)
theorem Mem.row {w0 W : World} {L : List Blk} (M : Mem w0 L W) (i : Nat) {g n T : Nat} {f : Nat → Int} (hi : L[i]? = some ⟨g, .cells (arr n f) T⟩) : Row W g T n f := M.get i hi
theorem arr_toList_get (n : Nat) (f : Nat → Int) (j : Nat) (v : Value) (h : (arr n f).toList[j]? = some v) : j < n ∧ v = .int .u64 (f j) := by
 have hj : j < n := by
  have := (List.getElem?_eq_some_iff.1 h).1
  simpa [arr_size] using this
 refine ⟨hj, ?_⟩
 have h2 := arr_get n f j hj
 rw [Array.getElem?_toList] at h
 rw [h2] at h
 exact (Option.some.inj h).symm
theorem Row.range {W : World} {g : Nat} {T : TypeId} {n : Nat} {f : Nat → Int} (h : Row W g T n f) (o k : Nat) (f' : Nat → Int) (hok : o + k ≤ n) (he : ∀ i, i < k → f (o + i) = f' i) : W.rangeAt g o (arr k f').toList := by
 intro j v hv
 obtain ⟨hj, rfl⟩ := arr_toList_get k f' j v hv
 rw [h.cell (by omega), he j hj]
def Part (f : Nat → Int) (o k : Nat) (f' : Nat → Int) : Prop := ∀ i, i < k → f (o + i) = f' i
theorem Part.all (f : Nat → Int) (k : Nat) : Part f 0 k f := fun i _ => by rw [Nat.zero_add]
def p4 (n : Nat) (x y z t : Nat → Int) : Nat → Int := fun i => if i < n then x i else if i < 2 * n then y (i - n) else if i < 3 * n then z (i - 2 * n) else t (i - 3 * n)
theorem p4_0 (n : Nat) (x y z t : Nat → Int) (o : Nat) (h : o = 0) : Part (p4 n x y z t) o n x := fun i hi => by
 subst h
 unfold p4
 rw [Nat.zero_add, if_pos hi]
theorem p4_1 (n : Nat) (x y z t : Nat → Int) (o : Nat) (h : o = n) : Part (p4 n x y z t) o n y := fun i hi => by
 subst h
 unfold p4
 rw [if_neg (by omega), if_pos (by omega), show o + i - o = i by omega]
theorem p4_2 (n : Nat) (x y z t : Nat → Int) (o : Nat) (h : o = 2 * n) : Part (p4 n x y z t) o n z := fun i hi => by
 subst h
 unfold p4
 rw [if_neg (by omega), if_neg (by omega), if_pos (by omega), show 2 * n + i - 2 * n = i by omega]
theorem p4_3 (n : Nat) (x y z t : Nat → Int) (o : Nat) (h : o = 3 * n) : Part (p4 n x y z t) o n t := fun i hi => by
 subst h
 unfold p4
 rw [if_neg (by omega), if_neg (by omega), if_neg (by omega), show 3 * n + i - 3 * n = i by omega]
structure PL (P : Program) (ops : Array Oper) (Q : Exit → Act → World → Prop) (l : List Oper) (a : Act) (w : World) : Prop where
 out : wpList P ops Q l a w
structure KL (P : Program) (ops : Array Oper) (W : World) (Q : Act → Prop) (l : List Oper) (a : Act) : Prop where
 out : wpK P ops W Q l a
section
variable {P : Program} {ops : Array Oper} {rest : List Oper} {o : Oper} {a : Act} {w w0 : World} {L : List Blk} {Q : Exit → Act → World → Prop} {K : Act → World → Prop}
theorem rg_lit {id : Nat} {l : List Oper} (h : PL P l.toArray Q l a w) : (Code.region id l.toArray false).wp P Q a w := wp_region_lit h.out
theorem pl_nil (h : Q .normal a w) : PL P ops Q [] a w := ⟨h⟩
theorem want_no (hg : o.guard = none) : Region.wanted o (yielded ops a.tmps) = true := by
 unfold Region.wanted
 rw [hg]
def boolOf : Value → Option Bool
 | .bool b => some b
 | _ => none
theorem yielded_at (j : Nat) (t : Tmp) (hd : (ops.toList[j]?).bind (·.dst) = some t) (v : Value) (hv : a.eval (.tmp t) = v) : yielded ops a.tmps j = boolOf v := by
 have hd' : (ops[j]?).bind (·.dst) = some t := by rw [← Array.getElem?_toList]; exact hd
 have e : a.tmps[t]?.getD undef = v := by rw [← hv]; simp [Act.eval]
 unfold yielded
 rw [hd']
 simp only [Option.bind_some]
 cases h : a.tmps[t]? with
 | none =>
  rw [h] at e
  rw [← e]
  rfl
 | some u =>
  rw [h] at e
  rw [← e]
  cases u <;> rfl
theorem want_on (j : Nat) (b : Bool) (hg : o.guard = some (j, b)) (t : Tmp) (hd : (ops.toList[j]?).bind (·.dst) = some t) (hv : a.eval (.tmp t) = .bool b) : Region.wanted o (yielded ops a.tmps) = true := by
 unfold Region.wanted
 rw [hg]
 simp only
 rw [yielded_at j t hd _ hv]
 simp [boolOf]
theorem want_off (j : Nat) (b : Bool) (hg : o.guard = some (j, b)) (t : Tmp) (hd : (ops.toList[j]?).bind (·.dst) = some t) (hv : a.eval (.tmp t) = .bool (!b)) : Region.wanted o (yielded ops a.tmps) = false := by
 unfold Region.wanted
 rw [hg]
 simp only
 rw [yielded_at j t hd _ hv]
 cases b <;> rfl
theorem au_then (h : K a w) : Exit.then K Q .normal a w := h
theorem au_then_ret (h : Q .ret a w) : Exit.then K Q .ret a w := h
theorem au_then_exit {i : Nat} (h : Q (.exit i) a w) : Exit.then K Q (.exit i) a w := h
theorem au_block {id : Nat} (h : Q .normal a w) : Exit.inBlock id Q .normal a w := h
theorem au_block_exit {id : Nat} (h : Q .normal a w) : Exit.inBlock id Q (.exit id) a w := by
 show (if id = id then Q .normal a w else Q (.exit id) a w)
 rw [if_pos rfl]
 exact h
theorem pl_to (hw : Region.wanted o (yielded ops a.tmps) = true) (d : Option Tmp) (hd : o.dst = d) (v : Value) (w' : World) (hrun : (execOp a.eval o).run P w = .ok (.value v) w')
  (h : PL P ops Q rest (a.put d v) w') : PL P ops Q (o :: rest) a w :=
 ⟨Go.BigFrame.wpList_want hw fun _ hK => by
  unfold Oper.wp
  rw [hrun]
  subst hd
  exact hK _ _ h.out⟩
theorem pl_val (hw : Region.wanted o (yielded ops a.tmps) = true) (d : Option Tmp) (hd : o.dst = d) (v : Value) (hrun : ∀ w, (execOp a.eval o).run P w = .ok (.value v) w)
  (h : PL P ops Q rest (a.put d v) w) : PL P ops Q (o :: rest) a w := pl_to hw d hd v w (hrun w) h
theorem pl_skip (hw : Region.wanted o (yielded ops a.tmps) = false) (d : Option Tmp) (hd : o.dst = d) (h : PL P ops Q rest (a.put d undef) w) : PL P ops Q (o :: rest) a w := by
 subst hd
 exact ⟨wpList_skip hw h.out⟩
theorem pl_new (M : Mem w0 L w) (hw : Region.wanted o (yielded ops a.tmps) = true) (d : Option Tmp) (hd : o.dst = d) (Z : Obj) (hrun : ∀ w, (execOp a.eval o).run P w = .ok (.value (.pointer (some ⟨w.heap.size, 0, none⟩))) (w.alloc Z))
  (h : ∀ g w', Mem w0 (L ++ [⟨g, Z⟩]) w' → PL P ops Q rest (a.put d (.pointer (some ⟨g, 0, none⟩))) w') : PL P ops Q (o :: rest) a w :=
 pl_to hw d hd _ _ (hrun w) (h w.heap.size (w.alloc Z) (M.new _ Z (new_below w Z) (heap_alloc_new w Z) (Nat.le_refl _)))
theorem pl_call (M : Mem w0 L w) (hw : Region.wanted o (yielded ops a.tmps) = true) (d : Option Tmp) (hd : o.dst = d) (f : FuncId) (args : Array Value) (v : Value) (hrun : ∀ w, (execOp a.eval o).run P w = .ok (.enter f args) w)
  (hc : ∀ w, Calls P f args w fun e w' => e = .returned v ∧ Below w.heap.size w w') (h : ∀ w', Mem w0 L w' → PL P ops Q rest (a.put d v) w') : PL P ops Q (o :: rest) a w :=
 ⟨Go.BigFrame.wpList_want hw fun _ hK => by
  unfold Oper.wp
  rw [hrun]
  subst hd
  exact (hc w).mono fun e w' ⟨he, hb⟩ => by subst he; exact hK _ _ (h w' (M.keep hb)).out⟩
theorem pl_load (M : Mem w0 L w) (hw : Region.wanted o (yielded ops a.tmps) = true) (d : Option Tmp) (hd : o.dst = d) (ty : TypeId) (x : Operand) (ho : o.op = .load ty x) (i g off : Nat) (hx : a.eval x = .pointer (some ⟨g, off, none⟩)) (n T : Nat) (f : Nat → Int) (hi : L[i]? = some ⟨g, .cells (arr n f) T⟩)
  (k : Nat) (f' : Nat → Int) (hp : Part f off k f') (hk : off + k ≤ n) (t : TypeDesc) (hu : P.underlying ty = some t) (ht : t.isRow = true) (hz : (P.info? ty).map (·.size) = some k)
  (h : PL P ops Q rest (a.put d (.agg (arr k f'))) w) : PL P ops Q (o :: rest) a w := by
 refine pl_to hw d hd (.agg (arr k f')) w ?_ h
 unfold execOp
 have hl := run_loadAt_mid (P := P) w g off ty (arr k f').toList t ((M.row i hi).range off k f' hk hp) hu ht (by rw [hz]; simp [arr_size])
 simp only [ho, hx, Sem.run_bind, hl, Result.andThen_ok, Sem.run_pure, Array.toArray_toList]
theorem pl_put (M : Mem w0 L w) (hw : Region.wanted o (yielded ops a.tmps) = true) (hd : o.dst = none) (ty : TypeId) (x y : Operand) (ho : o.op = .store ty x y) (i g : Nat) (hx : a.eval x = .pointer (some ⟨g, 0, none⟩)) (n T : Nat) (f f' : Nat → Int) (hi : L[i]? = some ⟨g, .cells (arr n f) T⟩)
  (hy : a.eval y = .agg (arr n f')) (hz : (P.info? ty).map (·.size) = some n)
  (h : ∀ w', Mem w0 (L.set i ⟨g, .cells (arr n f') T⟩) w' → PL P ops Q rest a w') : PL P ops Q (o :: rest) a w := by
 have R := M.row i hi
 refine ⟨Go.BigFrame.wpList_want hw fun K hK => wp_store_mid ty x y ho g 0 (arr n f') hx hy (by rw [arr_size]; exact R.there) (by rw [hz, arr_size]) (arr_one _ _) (hK _ _ ?_)⟩
 rw [hd]
 refine PL.out ?_
 exact h _ (M.put i ⟨g, _⟩ hi _ (R.setAll f') (fun k hk => heap_setCells_other g k hk _ _ _) (fun B u hB hu => below_setCells hB _ 0 hu))
end
section
variable {P : Program} {ops : Array Oper} {rest : List Oper} {o : Oper} {a : Act} {W w0 : World} {L : List Blk} {Q : Act → Prop}
theorem k_val (hw : Region.wanted o (yielded ops a.tmps) = true) (d : Option Tmp) (hd : o.dst = d) (v : Value) (hrun : ∀ w, (execOp a.eval o).run P w = .ok (.value v) w) (h : KL P ops W Q rest (a.put d v)) : KL P ops W Q (o :: rest) a := by
 subst hd
 refine ⟨?_⟩
 unfold wpK
 rw [if_pos hw]
 refine ⟨v, fun s => ?_, h.out⟩
 unfold keepAt
 rw [hrun]
 exact ⟨rfl, rfl⟩
theorem k_skip (hw : Region.wanted o (yielded ops a.tmps) = false) (d : Option Tmp) (hd : o.dst = d) (h : KL P ops W Q rest (a.put d undef)) : KL P ops W Q (o :: rest) a := by
 subst hd
 refine ⟨?_⟩
 unfold wpK
 rw [if_neg (by rw [hw]; exact Bool.false_ne_true)]
 exact h.out
theorem k_call (hw : Region.wanted o (yielded ops a.tmps) = true) (d : Option Tmp) (hd : o.dst = d) (f : FuncId) (args : Array Value) (v : Value) (hrun : ∀ w, (execOp a.eval o).run P w = .ok (.enter f args) w)
  (hc : ∀ w, Calls P f args w fun e w' => e = .returned v ∧ Below w.heap.size w w') (h : KL P ops W Q rest (a.put d v)) : KL P ops W Q (o :: rest) a := by
 subst hd
 refine ⟨?_⟩
 unfold wpK
 rw [if_pos hw]
 refine ⟨v, fun s => ?_, h.out⟩
 unfold keepAt
 rw [hrun]
 exact ⟨rfl, hc s.w⟩
theorem k_load (M : Mem w0 L W) (hw : Region.wanted o (yielded ops a.tmps) = true) (d : Option Tmp) (hd : o.dst = d) (ty : TypeId) (x : Operand) (ho : o.op = .load ty x) (i g off : Nat) (hx : a.eval x = .pointer (some ⟨g, off, none⟩)) (n T : Nat) (f : Nat → Int) (hi : L[i]? = some ⟨g, .cells (arr n f) T⟩)
  (k : Nat) (f' : Nat → Int) (hp : Part f off k f') (hk : off + k ≤ n) (t : TypeDesc) (hu : P.underlying ty = some t) (ht : t.isRow = true) (hz : (P.info? ty).map (·.size) = some k)
  (h : KL P ops W Q rest (a.put d (.agg (arr k f')))) : KL P ops W Q (o :: rest) a := by
 subst hd
 refine ⟨?_⟩
 unfold wpK
 rw [if_pos hw]
 refine ⟨.agg (arr k f'), fun s => ?_, h.out⟩
 unfold keepAt execOp
 have hl := run_loadAt_mid (P := P) s.w g off ty (arr k f').toList t (((M.row i hi).keep s.keep).range off k f' hk hp) hu ht (by rw [hz]; simp [arr_size])
 simp only [ho, hx, Sem.run_bind, hl, Result.andThen_ok, Sem.run_pure]
 exact ⟨rfl, by simp⟩
theorem k_any (hw : Region.wanted o (yielded ops a.tmps) = true) (d : Option Tmp) (hd : o.dst = d) (v : Value) (hrun : ∀ s : KW W, (execOp a.eval o).run P s.w = .ok (.value v) s.w) (h : KL P ops W Q rest (a.put d v)) : KL P ops W Q (o :: rest) a := by
 subst hd
 refine ⟨?_⟩
 unfold wpK
 rw [if_pos hw]
 refine ⟨v, fun s => ?_, h.out⟩
 unfold keepAt
 rw [hrun]
 exact ⟨rfl, rfl⟩
theorem kl_nil (h : Q a) : KL P ops W Q [] a := ⟨h⟩
theorem quiet_of_K : ∀ (l : List Oper) (a : Act), wpK P ops W Q l a → wpQuiet P ops (fun w' => ∃ s : KW W, w' = s.w) Q l a
 | [], _, h => h
 | o :: l, a, h => by
  unfold wpK at h
  unfold wpQuiet
  split
  ·rename_i hw
   rw [if_pos hw] at h
   obtain ⟨v, h1, h2⟩ := h
   refine ⟨v, fun w' => ?_, quiet_of_K l _ h2⟩
   rintro ⟨s, rfl⟩
   have h3 := h1 s
   unfold keepAt at h3
   unfold Oper.quietAt
   generalize (execOp a.eval o).run P s.w = r at *
   cases r with
   | ok x w' =>
    cases x <;> simp only [keepUpon] at h3 <;> simp only [Oper.quietUpon]
    case value => exact h3
    case skip => exact h3
    case enter f args => exact ⟨h3.1, keep_of h3.2⟩
   | halt x w' => simp only [keepUpon] at h3
  ·rename_i hw
   rw [if_neg hw] at h
   exact quiet_of_K l _ h
end
section
variable {P : Program} {W w0 : World} {L : List Blk} {Q : Exit → Act → World → Prop} {a : Act}
theorem rg_tail {id : Nat} {l : List Oper} (M : Mem w0 L W) (n : Nat) (hm : P.follows .mixedOrders = true) (hB : Region.lexTailB .any l.toArray n = true)
  (h0 : KL P l.toArray W (fun a' => ∀ w', Mem w0 L w' → PL P l.toArray Q (l.drop n) a' w') (l.take n) a) : (Code.region id l.toArray true).wp P Q a W := by
 have h := h0.out
 refine wp_region_keep_tail n hm hB (quiet_of_K _ _ ?_)
 have key : ∀ (l1 : List Oper) (a1 : Act), wpK P l.toArray W (fun a' => ∀ w', Mem w0 L w' → PL P l.toArray Q (l.drop n) a' w') l1 a1 → wpK P l.toArray W (fun a' => ∀ s : KW W, wpList P l.toArray Q (l.drop n) a' s.w) l1 a1 := by
  intro l1
  induction l1 with
  | nil => intro a1 h1 s; exact (h1 s.w (M.keep s.keep)).out
  | cons o l1 ih =>
   intro a1 h1
   unfold wpK at h1
   unfold wpK
   split
   ·rename_i hw
    rw [if_pos hw] at h1
    obtain ⟨v, h2, h3⟩ := h1
    exact ⟨v, h2, ih _ h3⟩
   ·rename_i hw
    rw [if_neg hw] at h1
    exact ih _ h1
 exact key _ _ h
def AllocsAt (P : Program) : List Oper → List (Tmp × TypeId × Nat) → Prop
 | _, [] => True
 | [], _ :: _ => False
 | o :: l, (d, T, k) :: zs => o.dst = some d ∧ o.guard = none ∧ (∀ a w, (execOp (Act.eval a) o).run P w = .ok (.value (.pointer (some ⟨w.heap.size, 0, none⟩))) (w.alloc (.cells (arr k fun _ => 0) T))) ∧ AllocsAt P l zs
def AllG : List (Tmp × TypeId × Nat) → (List Nat → Prop) → Prop
 | [], K => K []
 | _ :: zs, K => ∀ g, AllG zs fun gs => K (g :: gs)
theorem AllG.at_ : ∀ (zs : List (Tmp × TypeId × Nat)) (K : List Nat → Prop), AllG zs K → ∀ gs : List Nat, gs.length = zs.length → K gs
 | [], K, h, [], _ => h
 | _ :: zs, K, h, g :: gs, e => AllG.at_ zs _ (h g) gs (by simpa using e)
 | [], _, _, _ :: _, e => by simp at e
 | _ :: _, _, _, [], e => by simp at e
def blksOf : List (Tmp × TypeId × Nat) → List Nat → List Blk
 | (_, T, k) :: zs, g :: gs => ⟨g, .cells (arr k fun _ => 0) T⟩ :: blksOf zs gs
 | _, _ => []
def putsOf : List (Tmp × TypeId × Nat) → List Nat → Act → Act
 | (d, _, _) :: zs, g :: gs, a => putsOf zs gs (a.put (some d) (.pointer (some ⟨g, 0, none⟩)))
 | _, _, a => a
theorem allocsAt_get : ∀ (l : List Oper) (zs : List (Tmp × TypeId × Nat)), AllocsAt P l zs → ∀ (j : Nat) (z : Tmp × TypeId × Nat), zs[j]? = some z → ∃ o, l[j]? = some o ∧ o.dst = some z.1 ∧ o.guard = none ∧ ∀ a w, (execOp (Act.eval a) o).run P w = .ok (.value (.pointer (some ⟨w.heap.size, 0, none⟩))) (w.alloc (.cells (arr z.2.2 fun _ => 0) z.2.1))
 | _, [], _, j, z, h => by simp at h
 | [], _ :: _, h, _, _, _ => h.elim
 | o :: l, (d, T, k) :: zs, h, 0, z, e => by
  simp at e
  subst e
  exact ⟨o, rfl, h.1, h.2.1, h.2.2.1⟩
 | o :: l, (d, T, k) :: zs, h, j + 1, z, e => by
  obtain ⟨o', h1, h2⟩ := allocsAt_get l zs h.2.2.2 j z (by simpa using e)
  exact ⟨o', by simpa using h1, h2⟩
theorem putE_of (ds : Nat → Option Tmp) : ∀ (zs : List (Tmp × TypeId × Nat)) (gs : List Nat) (n : Nat) (a : Act), gs.length = zs.length → (∀ j z, zs[j]? = some z → ds (n + j) = some z.1) → putE ds (fun _ g => .pointer (some ⟨g, 0, none⟩)) ((List.range' n zs.length).zip gs) a = putsOf zs gs a
 | [], [], n, a, _, _ => rfl
 | (d, T, k) :: zs, g :: gs, n, a, e, h => by
  have h0 := h 0 (d, T, k) rfl
  rw [Nat.add_zero] at h0
  show putE ds (fun _ g => .pointer (some ⟨g, 0, none⟩)) ((List.range' (n + 1) zs.length).zip gs) (a.put (ds n) (.pointer (some ⟨g, 0, none⟩))) = _
  rw [h0]
  exact putE_of ds zs gs (n + 1) _ (by simpa using e) fun j z hz => by
   have := h (j + 1) z (by simpa using hz)
   rwa [show n + (j + 1) = n + 1 + j by omega] at this
 | [], _ :: _, _, _, e, _ => by simp at e
 | _ :: _, [], _, _, e, _ => by simp at e
theorem doneE_of : ∀ (gs : List Nat) (n : Nat) (d : Array Bool), doneE ((List.range' n gs.length).zip gs) d = (List.range' n gs.length).foldl (fun d i => d.setIfInBounds i true) d
 | [], _, _ => rfl
 | _ :: gs, n, d => doneE_of gs (n + 1) (d.setIfInBounds n true)
theorem blks_mem : ∀ (zs : List (Tmp × TypeId × Nat)) (gs : List Nat) (n : Nat) (Zs : Nat → Obj), (∀ j z, zs[j]? = some z → Zs (n + j) = .cells (arr z.2.2 fun _ => 0) z.2.1) → ∀ b ∈ blksOf zs gs, ∃ j, (j, b.g) ∈ (List.range' n zs.length).zip gs ∧ b.Z = Zs j
 | [], _, _, _, _, b, h => by simp [blksOf] at h
 | _ :: _, [], _, _, _, b, h => by simp [blksOf] at h
 | (d, T, k) :: zs, g :: gs, n, Zs, hZ, b, h => by
  simp only [blksOf, List.mem_cons] at h
  rcases h with rfl | h
  ·have h0 := hZ 0 (d, T, k) rfl
   exact ⟨n, by simp [List.range'], by simpa using h0.symm⟩
  ·obtain ⟨j, h1, h2⟩ := blks_mem zs gs (n + 1) Zs (fun j z hz => by
    have := hZ (j + 1) z (by simpa using hz)
    rwa [show n + (j + 1) = n + 1 + j by omega] at this) b h
   refine ⟨j, ?_, h2⟩
   simp only [List.length_cons, List.range'_succ, List.zip_cons_cons, List.mem_cons]
   exact .inr h1
theorem blks_g : ∀ (zs : List (Tmp × TypeId × Nat)) (gs : List Nat), gs.length = zs.length → (blksOf zs gs).map Blk.g = gs
 | [], [], _ => rfl
 | (d, T, k) :: zs, g :: gs, e => by simp [blksOf, blks_g zs gs (by simpa using e)]
 | [], _ :: _, e => by simp at e
 | _ :: _, [], e => by simp at e
theorem sorted_of {E : List (Nat × Nat)} {n k : Nat} (hnd : (E.map Prod.fst).Nodup) (hin : ∀ p ∈ E, n ≤ p.1 ∧ p.1 < n + k) (hlen : E.length = k) : ∃ gs : List Nat, gs.length = k ∧ E.Perm ((List.range' n k).zip gs) := by
 have hex : ∀ j ∈ List.range' n k, ∃ g, (j, g) ∈ E := by
  intro j hj
  refine Classical.byContradiction fun hno => ?_
  have hni : j ∉ E.map Prod.fst := fun h => by
   obtain ⟨p, hp, rfl⟩ := List.mem_map.1 h
   exact hno ⟨p.2, hp⟩
  have hnd2 : (j :: E.map Prod.fst).Nodup := List.nodup_cons.2 ⟨hni, hnd⟩
  have hsub : (j :: E.map Prod.fst) ⊆ List.range' n k := fun x hx => by
   rcases List.mem_cons.1 hx with rfl | hx
   ·exact hj
   ·obtain ⟨p, hp, rfl⟩ := List.mem_map.1 hx
    rw [List.mem_range'_1]
    exact hin p hp
  have := hnd2.length_le_of_subset hsub
  simp at this
  omega
 have hch : ∀ l : List Nat, (∀ j ∈ l, ∃ g, (j, g) ∈ E) → ∃ gs : List Nat, gs.length = l.length ∧ ∀ p ∈ l.zip gs, p ∈ E := by
  intro l
  induction l with
  | nil => intro _; exact ⟨[], rfl, by simp⟩
  | cons j l ih =>
   intro h
   obtain ⟨g, hg⟩ := h j (by simp)
   obtain ⟨gs, h1, h2⟩ := ih fun i hi => h i (by simp [hi])
   exact ⟨g :: gs, by simp [h1], fun p hp => by
    simp only [List.zip_cons_cons, List.mem_cons] at hp
    rcases hp with rfl | hp
    ·exact hg
    ·exact h2 p hp⟩
 obtain ⟨gs, h1, h2⟩ := hch _ hex
 have hl : gs.length = k := by simpa using h1
 refine ⟨gs, hl, ?_⟩
 have hz : ((List.range' n k).zip gs).map Prod.fst = List.range' n k := by
  rw [List.map_fst_zip]
  simp [hl]
 have hndz : ((List.range' n k).zip gs).Nodup := by
  have : (((List.range' n k).zip gs).map Prod.fst).Nodup := by
   rw [hz]
   exact List.nodup_range'
  exact nodup_of_map this
 have hndE : E.Nodup := nodup_of_map hnd
 refine (List.perm_ext_iff_of_nodup hndE hndz).2 fun p => ⟨fun hp => ?_, h2 p⟩
 have h3 : p.1 ∈ ((List.range' n k).zip gs).map Prod.fst := by
  rw [hz, List.mem_range'_1]
  exact hin p hp
 obtain ⟨q, hq, he⟩ := List.mem_map.1 h3
 rw [← fst_one hnd (h2 q hq) hp he]
 exact hq
theorem rg_allocs {id : Nat} {l : List Oper} (M : Mem w0 L W) (n : Nat) (zs : List (Tmp × TypeId × Nat)) (hm : P.follows .mixedOrders = true) (hB : lexAllocsB .any l.toArray n (n + zs.length) = true) (hA : AllocsAt P (l.drop n) zs) (hds : (zs.map (·.1)).Nodup)
  (h0 : KL P l.toArray W (fun a' => ∀ w', AllG zs fun gs => Mem w0 (L ++ blksOf zs gs) w' → PL P l.toArray Q (l.drop (n + zs.length)) (putsOf zs gs a') w') (l.take n) a) : (Code.region id l.toArray true).wp P Q a W := by
 have h := h0.out
 simp only [lexAllocsB, Bool.and_eq_true, decide_eq_true_eq] at hB
 obtain ⟨⟨⟨⟨⟨⟨hsel, hn⟩, hnm⟩, hs⟩, hc⟩, hfr⟩, hlex⟩ := hB
 have hn' : n + zs.length < l.length := by simpa using hn
 have htl : (l.take n).length = n := by simp; omega
 have hdl : (l.drop (n + zs.length)).length = l.toArray.size - (n + zs.length) := by simp
 have inv : HeadInv .any l.toArray (n + zs.length) (Array.replicate l.toArray.size false) :=
  ⟨by simp, fun j oj _ hl => (by rw [getD_replicate_false] at hl; cases hl), fun t _ ht => getD_in (by simpa using ht) (getD_replicate_false _ _)⟩
 have H := HeadM.lex (md := .any) (g := l.toArray.size - (n + zs.length)) hsel hs hc hn hnm (l.take n) 0 _ a (fun j hj => by rw [htl] at hj; simp [hj]) (by simpa using htl) inv (by rw [htl]; exact hlex) h
 refine wp_region_any hm ?_
 have hget := allocsAt_get _ _ hA
 have hdsj : ∀ j z, zs[j]? = some z → (fun i => (zs[i - n]?).map (·.1)) (n + j) = some z.1 := fun j z hz => by
  simp only
  rw [show n + j - n = j by omega, hz]
  rfl
 have hZsj : ∀ j z, zs[j]? = some z → (fun i => ((zs[i - n]?).map fun z => Obj.cells (arr z.2.2 fun _ => 0) z.2.1).getD (.cells #[] 0)) (n + j) = .cells (arr z.2.2 fun _ => 0) z.2.1 := fun j z hz => by
  simp only
  rw [show n + j - n = j by omega, hz]
  rfl
 have H2 := HeadM.any (Q := Q) (vs := (fun _ g => .pointer (some ⟨g, 0, none⟩))) (g := l.toArray.size - (n + zs.length)) (L := fun d a' => (Region.ready .any l.toArray d = List.range' n (n + zs.length - n) ∧ Region.seqB .any l.toArray (l.toArray.size - (n + zs.length)) (n + zs.length) (setR n (n + zs.length) d) = true) ∧ ∀ w', AllG zs fun gs => Mem w0 (L ++ blksOf zs gs) w' → PL P l.toArray Q (l.drop (n + zs.length)) (putsOf zs gs a') w') (ds := fun i => (zs[i - n]?).map (·.1)) (Zs := fun i => ((zs[i - n]?).map fun z => Obj.cells (arr z.2.2 fun _ => 0) z.2.1).getD (.cells #[] 0)) hsel hs hc hn hnm hfr
  (fun j h1 h2 => by
   have hz : zs[j - n]? = some (zs[j - n]'(by omega)) := List.getElem?_eq_getElem _
   obtain ⟨o, ho, hd, hg, hr⟩ := hget (j - n) _ hz
   refine ⟨o, ?_, ?_, hg, ?_⟩
   ·rw [List.getElem?_drop, show n + (j - n) = j by omega] at ho
    simpa using ho
   ·rw [hd]
    simp only [hz, Option.map_some]
   ·intro a w
    rw [hr a w]
    simp only [hz, Option.map_some, Option.getD_some])
  (fun d a' hL => by simpa using hL.1.1)
  (fun d a' hL E w1 hnd hin hlen hK => by
   obtain ⟨gs, hgl, hp⟩ := sorted_of (n := n) (k := zs.length) hnd (fun p hp => by have := hin p hp; omega) (by omega)
   have hseq := hL.1.2
   have e1 : doneE E d = setR n (n + zs.length) d := by
    unfold doneE setR
    rw [hp.foldl_eq' (fun x _ y _ z => by
     by_cases hxy : x.1 = y.1
     ·rw [hxy]
     ·exact Array.setIfInBounds_comm _ _ hxy)]
    have := doneE_of gs n d
    unfold doneE at this
    rw [hgl] at this
    rw [this]
    congr 2
    omega
   have e2 : putE (fun i => (zs[i - n]?).map (·.1)) (fun _ g => .pointer (some ⟨g, 0, none⟩)) E a' = putsOf zs gs a' := by
    rw [← putE_of (fun i => (zs[i - n]?).map (·.1)) zs gs n a' hgl hdsj]
    unfold putE
    refine hp.foldl_eq' (fun x hx y hy z => ?_) _
    by_cases hxy : x = y
    ·rw [hxy]
    ·refine (Act.put_comm z _ _ fun t ht => ?_)
     intro ht2
     have hx1 := hin x hx
     have hy1 := hin y hy
     have zx : zs[x.1 - n]? = some (zs[x.1 - n]'(by omega)) := List.getElem?_eq_getElem _
     have zy : zs[y.1 - n]? = some (zs[y.1 - n]'(by omega)) := List.getElem?_eq_getElem _
     simp only [zx, zy, Option.map_some, Option.some.injEq] at ht ht2
     have hne : x.1 ≠ y.1 := fun e => hxy (fst_one hnd hx hy e)
     rcases Nat.lt_or_gt_of_ne hne with hlt | hlt
     ·exact absurd (by simp [zx, zy, ht, ht2]) (nodup_ne hds (i := x.1 - n) (j := y.1 - n) (by omega) (by simp; omega))
     ·exact absurd (by simp [zx, zy, ht, ht2]) (nodup_ne hds (i := y.1 - n) (j := x.1 - n) (by omega) (by simp; omega))
   have hM : Mem w0 (L ++ blksOf zs gs) w1 := by
    refine M.news hK.keep (fun b hb => ?_) (fun b hb => ?_) ?_
    ·obtain ⟨j, h1, h2⟩ := blks_mem zs gs n (fun i => ((zs[i - n]?).map fun z => Obj.cells (arr z.2.2 fun _ => 0) z.2.1).getD (.cells #[] 0)) hZsj b hb
     rw [h2]
     exact hK.at_ _ (hp.mem_iff.2 h1)
    ·obtain ⟨j, h1, h2⟩ := blks_mem zs gs n (fun i => ((zs[i - n]?).map fun z => Obj.cells (arr z.2.2 fun _ => 0) z.2.1).getD (.cells #[] 0)) hZsj b hb
     exact hK.ge _ (hp.mem_iff.2 h1)
    ·rw [blks_g zs gs hgl]
     have h3 := hK.nodup
     rw [(hp.map Prod.snd).nodup_iff, List.map_snd_zip (by simp [hgl])] at h3
     exact h3
   have htail := (AllG.at_ zs _ (hL.2 w1) gs hgl hM).out
   have hgo := wpAny_of_seq (md := .any) (Q' := Q) (l.drop (n + zs.length)) (n + zs.length) _ _ w1 (fun j => by simp [List.getElem?_drop]) (by rw [hdl]; exact hseq) htail
   rw [hdl] at hgo
   rw [e1, e2]
   exact hgo)
  (n + zs.length) n [] (Array.replicate l.toArray.size false) a W.drew (by simp) (by simp) (by simp) (by simp) (by simp) inv (by simpa [htl] using H) ⟨(Below.refl _ _).drew, by simp, by simp, by simp, by simp⟩
 rw [show n + zs.length + (l.toArray.size - (n + zs.length)) = l.toArray.size by omega] at H2
 exact H2
end
section
variable {P : Program} {ops : Array Oper} {rest : List Oper} {o : Oper} {a : Act} {w : World} {Q : Exit → Act → World → Prop} {K : Act → World → Prop}
structure Rn (P : Program) (a : Act) (o : Oper) (v : Value) : Prop where
 out : ∀ w, (execOp a.eval o).run P w = .ok (.value v) w
theorem pv (d : Tmp) (v : Value) (h : PL P ops Q rest (a.put (some d) v) w) (hw : Region.wanted o (yielded ops a.tmps) = true := by exact want_no rfl) (hd : o.dst = some d := by exact rfl) (hrun : Rn P a o v := by exact ⟨fun _ => by kernel_rfl⟩) : PL P ops Q (o :: rest) a w := pl_val hw (some d) hd v hrun.out h
theorem kv {W : World} {Q : Act → Prop} (d : Tmp) (v : Value) (h : KL P ops W Q rest (a.put (some d) v)) (hw : Region.wanted o (yielded ops a.tmps) = true := by exact want_no rfl) (hd : o.dst = some d := by exact rfl) (hrun : Rn P a o v := by exact ⟨fun _ => by kernel_rfl⟩) : KL P ops W Q (o :: rest) a := k_val hw (some d) hd v hrun.out h
theorem nt (h : K a w) : PL P ops (Exit.then K Q) [] a w := pl_nil (au_then h)
theorem sr {id : Nat} {l : List Oper} {y : Code} (h : PL P l.toArray (Exit.then (y.wp P Q) Q) l a w) : (Code.seq (Code.region id l.toArray false) y).wp P Q a w := wp_seq (rg_lit h)
end
structure Rc (P : Program) (a : Act) (o : Oper) (f : FuncId) (xs : Array Value) : Prop where
 out : ∀ w, (execOp a.eval o).run P w = .ok (.enter f xs) w
structure Ra (P : Program) (a : Act) (o : Oper) (Z : Obj) : Prop where
 out : ∀ w, (execOp a.eval o).run P w = .ok (.value (.pointer (some ⟨w.heap.size, 0, none⟩))) (w.alloc Z)
structure Ev (a : Act) (x : Operand) (v : Value) : Prop where
 out : a.eval x = v
theorem isRow_of {P : Program} {ty : TypeId} (h : (P.underlying ty).map TypeDesc.isRow = some true) : ∃ t, P.underlying ty = some t ∧ t.isRow = true := by
 cases e : P.underlying ty with
 | none => rw [e] at h; cases h
 | some t => rw [e] at h; exact ⟨t, rfl, by simpa using h⟩
section
variable {P : Program} {ops : Array Oper} {rest : List Oper} {o : Oper} {a : Act} {w w0 W : World} {L : List Blk} {Q : Exit → Act → World → Prop} {R : Act → Prop}
theorem zN (M : Mem w0 L w) (d : Tmp) (Z : Obj) (h : ∀ g w', Mem w0 (L ++ [⟨g, Z⟩]) w' → PL P ops Q rest (a.put (some d) (.pointer (some ⟨g, 0, none⟩))) w') (hw : Region.wanted o (yielded ops a.tmps) = true := by exact want_no rfl) (hd : o.dst = some d := by exact rfl) (hr : Ra P a o Z := by exact ⟨fun _ => by kernel_rfl⟩) : PL P ops Q (o :: rest) a w := pl_new M hw (some d) hd Z hr.out h
theorem zC (M : Mem w0 L w) (d : Tmp) {f : FuncId} {xs : Array Value} {v : Value} (hc : ∀ w, Calls P f xs w fun e w' => e = .returned v ∧ Below w.heap.size w w') (h : ∀ w', Mem w0 L w' → PL P ops Q rest (a.put (some d) v) w') (hw : Region.wanted o (yielded ops a.tmps) = true := by exact want_no rfl) (hd : o.dst = some d := by exact rfl) (hr : Rc P a o f xs := by exact ⟨fun _ => by kernel_rfl⟩) : PL P ops Q (o :: rest) a w := pl_call M hw (some d) hd f xs v hr.out hc h
theorem wC (d : Tmp) {f : FuncId} {xs : Array Value} {v : Value} (hc : ∀ w, Calls P f xs w fun e w' => e = .returned v ∧ Below w.heap.size w w') (h : KL P ops W R rest (a.put (some d) v)) (hw : Region.wanted o (yielded ops a.tmps) = true := by exact want_no rfl) (hd : o.dst = some d := by exact rfl) (hr : Rc P a o f xs := by exact ⟨fun _ => by kernel_rfl⟩) : KL P ops W R (o :: rest) a := k_call hw (some d) hd f xs v hr.out hc h
theorem zL (M : Mem w0 L w) (d : Tmp) (i : Nat) {g n T : Nat} {f : Nat → Int} (hi : L[i]? = some ⟨g, .cells (arr n f) T⟩) (off k : Nat) {f' : Nat → Int} (hp : Part f off k f') (h : PL P ops Q rest (a.put (some d) (.agg (arr k f'))) w) {ty : TypeId} {x : Operand} (hw : Region.wanted o (yielded ops a.tmps) = true := by exact want_no rfl) (hd : o.dst = some d := by exact rfl) (ho : o.op = .load ty x := by exact rfl) (hx : Ev a x (.pointer (some ⟨g, off, none⟩)) := by exact ⟨by kernel_rfl⟩) (hk : off + k ≤ n := by decide) (hu : (P.underlying ty).map TypeDesc.isRow = some true := by kernel_rfl) (hz : (P.info? ty).map (·.size) = some k := by kernel_rfl) : PL P ops Q (o :: rest) a w := by
 obtain ⟨t, h1, h2⟩ := isRow_of hu
 exact pl_load M hw (some d) hd ty x ho i g off hx.out n T f hi k f' hp hk t h1 h2 hz h
theorem wL (M : Mem w0 L W) (d : Tmp) (i : Nat) {g n T : Nat} {f : Nat → Int} (hi : L[i]? = some ⟨g, .cells (arr n f) T⟩) (off k : Nat) {f' : Nat → Int} (hp : Part f off k f') (h : KL P ops W R rest (a.put (some d) (.agg (arr k f')))) {ty : TypeId} {x : Operand} (hw : Region.wanted o (yielded ops a.tmps) = true := by exact want_no rfl) (hd : o.dst = some d := by exact rfl) (ho : o.op = .load ty x := by exact rfl) (hx : Ev a x (.pointer (some ⟨g, off, none⟩)) := by exact ⟨by kernel_rfl⟩) (hk : off + k ≤ n := by decide) (hu : (P.underlying ty).map TypeDesc.isRow = some true := by kernel_rfl) (hz : (P.info? ty).map (·.size) = some k := by kernel_rfl) : KL P ops W R (o :: rest) a := by
 obtain ⟨t, h1, h2⟩ := isRow_of hu
 exact k_load M hw (some d) hd ty x ho i g off hx.out n T f hi k f' hp hk t h1 h2 hz h
theorem zA (M : Mem w0 L w) (d : Tmp) (i : Nat) {g n T : Nat} {f : Nat → Int} (hi : L[i]? = some ⟨g, .cells (arr n f) T⟩) (h : PL P ops Q rest (a.put (some d) (.agg (arr n f))) w) {ty : TypeId} {x : Operand} (hw : Region.wanted o (yielded ops a.tmps) = true := by exact want_no rfl) (hd : o.dst = some d := by exact rfl) (ho : o.op = .load ty x := by exact rfl) (hx : Ev a x (.pointer (some ⟨g, 0, none⟩)) := by exact ⟨by kernel_rfl⟩) (hu : (P.underlying ty).map TypeDesc.isRow = some true := by kernel_rfl) (hz : (P.info? ty).map (·.size) = some n := by kernel_rfl) : PL P ops Q (o :: rest) a w := by
 obtain ⟨t, h1, h2⟩ := isRow_of hu
 exact pl_load M hw (some d) hd ty x ho i g 0 hx.out n T f hi n f (Part.all _ _) (by omega) t h1 h2 hz h
theorem wA (M : Mem w0 L W) (d : Tmp) (i : Nat) {g n T : Nat} {f : Nat → Int} (hi : L[i]? = some ⟨g, .cells (arr n f) T⟩) (h : KL P ops W R rest (a.put (some d) (.agg (arr n f)))) {ty : TypeId} {x : Operand} (hw : Region.wanted o (yielded ops a.tmps) = true := by exact want_no rfl) (hd : o.dst = some d := by exact rfl) (ho : o.op = .load ty x := by exact rfl) (hx : Ev a x (.pointer (some ⟨g, 0, none⟩)) := by exact ⟨by kernel_rfl⟩) (hu : (P.underlying ty).map TypeDesc.isRow = some true := by kernel_rfl) (hz : (P.info? ty).map (·.size) = some n := by kernel_rfl) : KL P ops W R (o :: rest) a := by
 obtain ⟨t, h1, h2⟩ := isRow_of hu
 exact k_load M hw (some d) hd ty x ho i g 0 hx.out n T f hi n f (Part.all _ _) (by omega) t h1 h2 hz h
theorem zW (M : Mem w0 L w) (i : Nat) {g n T : Nat} {f : Nat → Int} (hi : L[i]? = some ⟨g, .cells (arr n f) T⟩) (f' : Nat → Int) (h : ∀ w', Mem w0 (L.set i ⟨g, .cells (arr n f') T⟩) w' → PL P ops Q rest a w') {ty : TypeId} {x y : Operand} (hw : Region.wanted o (yielded ops a.tmps) = true := by exact want_no rfl) (hd : o.dst = none := by exact rfl) (ho : o.op = .store ty x y := by exact rfl) (hx : Ev a x (.pointer (some ⟨g, 0, none⟩)) := by exact ⟨by kernel_rfl⟩) (hy : Ev a y (.agg (arr n f')) := by exact ⟨by kernel_rfl⟩) (hz : (P.info? ty).map (·.size) = some n := by kernel_rfl) : PL P ops Q (o :: rest) a w :=
 pl_put M hw hd ty x y ho i g hx.out n T f f' hi hy.out hz h
end
theorem inz58 : (Tryz.prog.info? 58).map (·.size) = some 5 := by kernel_rfl
theorem inz60 : (Tryz.prog.info? 60).map (·.size) = some 20 := by kernel_rfl
theorem inz36 : (Tryz.prog.info? 36).map (·.size) = some 16 := by kernel_rfl
theorem inz52 : (Tryz.prog.info? 52).map (·.size) = some 64 := by kernel_rfl
theorem inz85 : (Tryz.prog.info? 85).map (·.size) = some 320 := by kernel_rfl
theorem results_tmp1 {P : Program} {fn : Func} {p : Tmp} (h : fn.results = #[.tmp p]) (tmps : Array Value) (w : World) (v : Value) (hp : tmps.getD p undef = v) : (results fn tmps).run P w = .ok v w := by
 have hp' : tmps[p]?.getD undef = v := by simpa using hp
 simp [results, h, hp']
theorem results_tmp2 {P : Program} {fn : Func} {p q : Tmp} (h : fn.results = #[.tmp p, .tmp q]) (tmps : Array Value) (w : World) (v u : Value) (hp : tmps.getD p undef = v) (hq : tmps.getD q undef = u) : (results fn tmps).run P w = .ok (.tuple #[v, u]) w := by
 have hp' : tmps[p]?.getD undef = v := by simpa using hp
 have hq' : tmps[q]?.getD undef = u := by simpa using hq
 simp [results, h, hp', hq']
theorem carR {a b : Int} (ha : W64 a) (hb : W64 b) : IntKind.u64.wrap (bits BinOp.and IntKind.u64 b 2251799813685247 + a / 2251799813685248) = b % 2251799813685248 + a / 2251799813685248 := by
 rw [and51 hb]
 unfold W64 at *
 exact wrap64u ⟨by omega, by omega⟩
theorem carR0 {a b : Int} (ha : W64 a) (hb : W64 b) : IntKind.u64.wrap (bits BinOp.and IntKind.u64 b 2251799813685247 + IntKind.u64.wrap (a / 2251799813685248 * 19)) = b % 2251799813685248 + a / 2251799813685248 * 19 := by
 rw [and51 hb]
 unfold W64 at *
 rw [wrap64u (x := a / 2251799813685248 * 19) ⟨by omega, by omega⟩]
 exact wrap64u ⟨by omega, by omega⟩
theorem carried_any (a b c d e : Int) (w : World) (ha : W64 a) (hb : W64 b) (hc : W64 c) (hd : W64 d) (he : W64 e) :
  Calls Tryz.prog 118 #[.int .u64 a, .int .u64 b, .int .u64 c, .int .u64 d, .int .u64 e] w fun r w' => r = .returned (car a b c d e).v ∧ Below w.heap.size w w' := by
 go_enter Tryz.func118, Tryz.ntmps118
 go_wp2
 rw [carR0 he ha, carR ha hb, carR hb hc, carR hc hd, carR hd he]
 exact bodyPost_ret (v := (car a b c d e).v) (by simp [results, Tryz.results118, go_sem, car]) rfl ⟨rfl, (Below.refl _ _).alloc (Nat.le_refl _) _⟩
theorem bcell {W w1 : World} (hb : Below W.heap.size W w1) : (∀ b o, b < W.heap.size → w1.cell? ⟨b, o, none⟩ = W.cell? ⟨b, o, none⟩) ∧ (∀ b o, b < W.heap.size → w1.frozen? ⟨b, o, none⟩ = W.frozen? ⟨b, o, none⟩) :=
 ⟨fun b o h => hb.cell (p := ⟨b, o, none⟩) h, fun b o h => hb.frozen (p := ⟨b, o, none⟩) h⟩
theorem below3 {w w1 : World} {A B C : Obj} (hb : Below (((w.alloc A).alloc B).alloc C).heap.size (((w.alloc A).alloc B).alloc C) w1) : Below w.heap.size w w1 :=
 ((((Below.refl _ _).alloc (Nat.le_refl _) _).alloc (by simp) _).alloc (by simp; omega) _).trans (hb.mono (by simp; omega))
theorem below2 {w w1 : World} {A B : Obj} (hb : Below ((w.alloc A).alloc B).heap.size ((w.alloc A).alloc B) w1) : Below w.heap.size w w1 :=
 (((Below.refl _ _).alloc (Nat.le_refl _) _).alloc (by simp) _).trans (hb.mono (by simp; omega))
theorem below1 {w w1 : World} {A : Obj} (hb : Below (w.alloc A).heap.size (w.alloc A) w1) : Below w.heap.size w w1 :=
 ((Below.refl _ _).alloc (Nat.le_refl _) _).trans (hb.mono (by simp))
theorem set5 {B g : Nat} {w w1 : World} (h : Below B w w1) (hg : B ≤ g) {u0 u1 u2 u3 u4 : Value} :
  Below B w (((((w1.setCell ⟨g, 0, none⟩ u0).setCell ⟨g, 1, none⟩ u1).setCell ⟨g, 2, none⟩ u2).setCell ⟨g, 3, none⟩ u3).setCell ⟨g, 4, none⟩ u4) :=
 ((((h.setCell (p := ⟨g, 0, none⟩) hg u0).setCell (p := ⟨g, 1, none⟩) hg u1).setCell (p := ⟨g, 2, none⟩) hg u2).setCell (p := ⟨g, 3, none⟩) hg u3).setCell (p := ⟨g, 4, none⟩) hg u4
theorem set2 {B g : Nat} {w w1 : World} (h : Below B w w1) (hg : B ≤ g) {u0 u1 : Value} :
  Below B w ((w1.setCell ⟨g, 0, none⟩ u0).setCell ⟨g, 1, none⟩ u1) :=
 (h.setCell (p := ⟨g, 0, none⟩) hg u0).setCell (p := ⟨g, 1, none⟩) hg u1
theorem add_any (x y : E5) (w : World) (hx : x.Ok) (hy : y.Ok) :
  Calls Tryz.prog 112 #[x.v, y.v] w fun r w' => r = .returned (addF x y).v ∧ Below w.heap.size w w' := by
 obtain ⟨a0, a1, b0, b1, c0, c1, d0, d1, e0, e1⟩ := hx
 obtain ⟨f0, f1, g0, g1, h0, h1, i0, i1, j0, j1⟩ := hy
 go_enter Tryz.func112, Tryz.ntmps112
 go_wp2_with fail
 refine (carried_any _ _ _ _ _ _ ⟨by omega, by omega⟩ ⟨by omega, by omega⟩ ⟨by omega, by omega⟩ ⟨by omega, by omega⟩ ⟨by omega, by omega⟩).mono ?_
 rintro _ w1 ⟨rfl, hb⟩
 obtain ⟨z, hz⟩ : ∃ z, addF x y = z := ⟨_, rfl⟩
 have hz' := hz
 unfold addF at hz'
 rw [hz']
 have H := hide hz
 have H3 := hide (below3 hb)
 obtain ⟨hc, hf⟩ := bcell hb
 have hs : w.heap.size + 1 + 1 < w1.heap.size := by have := hb.size; simp at this; omega
 clear hz hz' hb a0 a1 b0 b1 c0 c1 d0 d1 e0 e1 f0 f1 g0 g1 h0 h1 i0 i1 j0 j1
 go_wp2
 refine bodyPost_ret (v := z.v) (by simp [results, Tryz.results112, go_sem, hc]) rfl ⟨by rw [H.out], ?_⟩
 exact set5 H3.out (by omega)
theorem sub_any (x y : E5) (w : World) (hx : x.Ok) (hy : y.Ok) :
  Calls Tryz.prog 111 #[x.v, y.v] w fun r w' => r = .returned (subF x y).v ∧ Below w.heap.size w w' := by
 obtain ⟨a0, a1, b0, b1, c0, c1, d0, d1, e0, e1⟩ := hx
 obtain ⟨f0, f1, g0, g1, h0, h1, i0, i1, j0, j1⟩ := hy
 go_enter Tryz.func111, Tryz.ntmps111
 go_wp2_with fail
 refine (carried_any _ _ _ _ _ _ ⟨by omega, by omega⟩ ⟨by omega, by omega⟩ ⟨by omega, by omega⟩ ⟨by omega, by omega⟩ ⟨by omega, by omega⟩).mono ?_
 rintro _ w1 ⟨rfl, hb⟩
 obtain ⟨z, hz⟩ : ∃ z, subF x y = z := ⟨_, rfl⟩
 have hz' := hz
 unfold subF at hz'
 rw [hz']
 have H := hide hz
 have H3 := hide (below3 hb)
 obtain ⟨hc, hf⟩ := bcell hb
 have hs : w.heap.size + 1 + 1 < w1.heap.size := by have := hb.size; simp at this; omega
 clear hz hz' hb a0 a1 b0 b1 c0 c1 d0 d1 e0 e1 f0 f1 g0 g1 h0 h1 i0 i1 j0 j1
 go_wp2
 refine bodyPost_ret (v := z.v) (by simp [results, Tryz.results111, go_sem, hc]) rfl ⟨by rw [H.out], ?_⟩
 exact set5 H3.out (by omega)
theorem neg_any (x : E5) (w : World) (hx : x.Ok) :
  Calls Tryz.prog 80 #[x.v] w fun r w' => r = .returned (negF x).v ∧ Below w.heap.size w w' := by
 go_enter Tryz.func80, Tryz.ntmps80
 go_wp2_with fail
 refine (sub_any zeroE x _ zeroE_ok hx).mono ?_
 rintro _ w1 ⟨rfl, hb⟩
 obtain ⟨z, hz⟩ : ∃ z, negF x = z := ⟨_, rfl⟩
 have hz' := hz
 unfold negF at hz'
 rw [hz']
 have H := hide hz
 have H3 := hide (below2 hb)
 obtain ⟨hc, hf⟩ := bcell hb
 have hs : w.heap.size + 1 < w1.heap.size := by have := hb.size; simp at this; omega
 clear hz hz' hb
 go_wp2
 refine bodyPost_ret (v := z.v) (by simp [results, Tryz.results80, go_sem, hc]) rfl ⟨by rw [H.out], ?_⟩
 exact set5 H3.out (by omega)
theorem small_any (n : Int) (w : World) (h0 : 0 ≤ n) (h1 : n < 4294967296) :
  Calls Tryz.prog 109 #[.int .u32 n] w fun r w' => r = .returned (smallF n).v ∧ Below w.heap.size w w' := by
 go_enter Tryz.func109, Tryz.ntmps109
 go_wp2_with fail
 refine (carried_any _ _ _ _ _ _ ⟨by omega, by omega⟩ ⟨by decide, by decide⟩ ⟨by decide, by decide⟩ ⟨by decide, by decide⟩ ⟨by decide, by decide⟩).mono ?_
 rintro _ w1 ⟨rfl, hb⟩
 obtain ⟨z, hz⟩ : ∃ z, smallF n = z := ⟨_, rfl⟩
 have hz' := hz
 unfold smallF at hz'
 rw [hz']
 have H := hide hz
 have H3 := hide (below1 hb)
 obtain ⟨hc, hf⟩ := bcell hb
 have hs : w.heap.size < w1.heap.size := by have := hb.size; simp at this; omega
 clear hz hz' hb
 go_wp2
 refine bodyPost_ret (v := z.v) (by simp [results, Tryz.results109, go_sem, hc]) rfl ⟨by rw [H.out], ?_⟩
 exact set5 H3.out (by omega)
def ov1 (x : E5) : Int := (x.a + 19) / 2251799813685248
def ov2 (x : E5) : Int := (x.b + ov1 x) / 2251799813685248
def ov3 (x : E5) : Int := (x.c + ov2 x) / 2251799813685248
def ov4 (x : E5) : Int := (x.d + ov3 x) / 2251799813685248
def ov5 (x : E5) : Int := (x.e + ov4 x) / 2251799813685248
def le0 (x : E5) : Int := ov5 x * 19
def le1 (x : E5) : Int := (x.a + le0 x) / 2251799813685248
def le2 (x : E5) : Int := (x.b + le1 x) / 2251799813685248
def le3 (x : E5) : Int := (x.c + le2 x) / 2251799813685248
def le4 (x : E5) : Int := (x.d + le3 x) / 2251799813685248
def le5 (x : E5) : Int := (x.e + le4 x) / 2251799813685248
def leastF (x : E5) : E5 := ⟨(x.a + le0 x) % 2251799813685248, (x.b + le1 x) % 2251799813685248, (x.c + le2 x) % 2251799813685248, (x.d + le3 x) % 2251799813685248, (x.e + le4 x) % 2251799813685248⟩
structure LB (x : E5) : Prop where
 o1 : 0 ≤ ov1 x ∧ ov1 x ≤ 1
 o2 : 0 ≤ ov2 x ∧ ov2 x ≤ 1
 o3 : 0 ≤ ov3 x ∧ ov3 x ≤ 1
 o4 : 0 ≤ ov4 x ∧ ov4 x ≤ 1
 o5 : 0 ≤ ov5 x ∧ ov5 x ≤ 1
 l0 : 0 ≤ le0 x ∧ le0 x ≤ 19
 l1 : 0 ≤ le1 x ∧ le1 x ≤ 1
 l2 : 0 ≤ le2 x ∧ le2 x ≤ 1
 l3 : 0 ≤ le3 x ∧ le3 x ≤ 1
 l4 : 0 ≤ le4 x ∧ le4 x ≤ 1
 l5 : 0 ≤ le5 x ∧ le5 x ≤ 1
theorem LB.of {x : E5} (hx : x.Ok) : LB x := by
 obtain ⟨a0, a1, b0, b1, c0, c1, d0, d1, e0, e1⟩ := hx
 have o1 : 0 ≤ ov1 x ∧ ov1 x ≤ 1 := by unfold ov1; omega
 have o2 : 0 ≤ ov2 x ∧ ov2 x ≤ 1 := by unfold ov2; omega
 have o3 : 0 ≤ ov3 x ∧ ov3 x ≤ 1 := by unfold ov3; omega
 have o4 : 0 ≤ ov4 x ∧ ov4 x ≤ 1 := by unfold ov4; omega
 have o5 : 0 ≤ ov5 x ∧ ov5 x ≤ 1 := by unfold ov5; omega
 have l0 : 0 ≤ le0 x ∧ le0 x ≤ 19 := by unfold le0; omega
 have l1 : 0 ≤ le1 x ∧ le1 x ≤ 1 := by unfold le1; omega
 have l2 : 0 ≤ le2 x ∧ le2 x ≤ 1 := by unfold le2; omega
 have l3 : 0 ≤ le3 x ∧ le3 x ≤ 1 := by unfold le3; omega
 have l4 : 0 ≤ le4 x ∧ le4 x ≤ 1 := by unfold le4; omega
 have l5 : 0 ≤ le5 x ∧ le5 x ≤ 1 := by unfold le5; omega
 exact ⟨o1, o2, o3, o4, o5, l0, l1, l2, l3, l4, l5⟩
structure E5.Low (x : E5) : Prop where
 a0 : 0 ≤ x.a
 a1 : x.a < 2251799813685248
 b0 : 0 ≤ x.b
 b1 : x.b < 2251799813685248
 c0 : 0 ≤ x.c
 c1 : x.c < 2251799813685248
 d0 : 0 ≤ x.d
 d1 : x.d < 2251799813685248
 e0 : 0 ≤ x.e
 e1 : x.e < 2251799813685248
theorem leastF_low (x : E5) : (leastF x).Low := by
 constructor <;> simp only [leastF] <;> omega
theorem leastF_n {x : E5} (hx : x.Ok) : (leastF x).n = x.n % Pm := by
 have L := LB.of hx
 obtain ⟨a0, a1, b0, b1, c0, c1, d0, d1, e0, e1⟩ := hx
 have hlow := leastF_low x
 obtain ⟨p0, p1, q0, q1, r0, r1, s0, s1, t0, t1⟩ := hlow
 have e : (leastF x).n = x.n + ov5 x * 19 - 57896044618658097711785492504343953926634992332820282019728792003956564819968 * le5 x := by
  simp only [leastF, E5.n, le5, le4, le3, le2, le1, le0]
  omega
 have hov : 57896044618658097711785492504343953926634992332820282019728792003956564819968 * ov5 x ≤ x.n + 19 ∧ x.n + 19 < 57896044618658097711785492504343953926634992332820282019728792003956564819968 * ov5 x + 57896044618658097711785492504343953926634992332820282019728792003956564819968 := by
  simp only [E5.n, ov5, ov4, ov3, ov2, ov1]
  omega
 have hn0 : 0 ≤ x.n := by simp only [E5.n]; omega
 have hr0 : 0 ≤ (leastF x).n := by rw [E5.n]; omega
 have hr1 : (leastF x).n < 57896044618658097711785492504343953926634992332820282019728792003956564819968 := by rw [E5.n]; omega
 have h5 := L.o5
 have h6 := L.l5
 have hle : le5 x = ov5 x := by omega
 rw [hle] at e
 have hk : x.n = (leastF x).n + ov5 x * Pm := by unfold Pm; omega
 have hn1 : x.n < 115792089237316195423570985008687907853269984665640564039457584007913129639898 := by simp only [E5.n]; omega
 have hlt : (leastF x).n < Pm := by unfold Pm; omega
 rw [hk, Int.add_mul_emod_self_right, Int.emod_eq_of_lt hr0 hlt]
theorem least_any (x : E5) (w : World) (hx : x.Ok) :
  Calls Tryz.prog 123 #[x.v] w fun r w' => r = .returned (leastF x).v ∧ Below w.heap.size w w' := by
 have L := LB.of hx
 obtain ⟨a0, a1, b0, b1, c0, c1, d0, d1, e0, e1⟩ := hx
 obtain ⟨⟨o10, o11⟩, ⟨o20, o21⟩, ⟨o30, o31⟩, ⟨o40, o41⟩, ⟨o50, o51⟩, ⟨l00, l01⟩, ⟨l10, l11⟩, ⟨l20, l21⟩, ⟨l30, l31⟩, ⟨l40, l41⟩, ⟨l50, l51⟩⟩ := L
 have i0 : ∀ w, (Instr.index 56 (.agg #[.int .u64 x.a, .int .u64 x.b, .int .u64 x.c, .int .u64 x.d, .int .u64 x.e]) (.int .i64 0)).run Tryz.prog w = .ok (.int .u64 x.a) w := fun _ => by kernel_rfl
 have i1 : ∀ w, (Instr.index 56 (.agg #[.int .u64 x.a, .int .u64 x.b, .int .u64 x.c, .int .u64 x.d, .int .u64 x.e]) (.int .i64 1)).run Tryz.prog w = .ok (.int .u64 x.b) w := fun _ => by kernel_rfl
 have i2 : ∀ w, (Instr.index 56 (.agg #[.int .u64 x.a, .int .u64 x.b, .int .u64 x.c, .int .u64 x.d, .int .u64 x.e]) (.int .i64 2)).run Tryz.prog w = .ok (.int .u64 x.c) w := fun _ => by kernel_rfl
 have i3 : ∀ w, (Instr.index 56 (.agg #[.int .u64 x.a, .int .u64 x.b, .int .u64 x.c, .int .u64 x.d, .int .u64 x.e]) (.int .i64 3)).run Tryz.prog w = .ok (.int .u64 x.d) w := fun _ => by kernel_rfl
 have i4 : ∀ w, (Instr.index 56 (.agg #[.int .u64 x.a, .int .u64 x.b, .int .u64 x.c, .int .u64 x.d, .int .u64 x.e]) (.int .i64 4)).run Tryz.prog w = .ok (.int .u64 x.e) w := fun _ => by kernel_rfl
 have g0 := and51 (x := x.a + le0 x) ⟨by omega, by omega⟩
 have g1 := and51 (x := x.b + le1 x) ⟨by omega, by omega⟩
 have g2 := and51 (x := x.c + le2 x) ⟨by omega, by omega⟩
 have g3 := and51 (x := x.d + le3 x) ⟨by omega, by omega⟩
 have g4 := and51 (x := x.e + le4 x) ⟨by omega, by omega⟩
 go_enter Tryz.func123, Tryz.ntmps123
 go_wp2
 refine wp_loop_rounds 6 ?_
 rw [rounds_succ]
 go_wp2
 rw [show (x.a + 19) / 2251799813685248 = ov1 x from rfl]
 rw [rounds_succ]
 go_wp2
 rw [show (x.b + ov1 x) / 2251799813685248 = ov2 x from rfl]
 rw [rounds_succ]
 go_wp2
 rw [show (x.c + ov2 x) / 2251799813685248 = ov3 x from rfl]
 rw [rounds_succ]
 go_wp2
 rw [show (x.d + ov3 x) / 2251799813685248 = ov4 x from rfl]
 rw [rounds_succ]
 go_wp2
 rw [show (x.e + ov4 x) / 2251799813685248 = ov5 x from rfl]
 rw [rounds_succ]
 go_wp2
 rw [show ov5 x * 19 = le0 x from rfl]
 refine wp_loop_rounds 6 ?_
 rw [rounds_succ]
 go_wp2
 rw [show (x.a + le0 x) / 2251799813685248 = le1 x from rfl]
 rw [rounds_succ]
 go_wp2
 rw [show (x.b + le1 x) / 2251799813685248 = le2 x from rfl]
 rw [rounds_succ]
 go_wp2
 rw [show (x.c + le2 x) / 2251799813685248 = le3 x from rfl]
 rw [rounds_succ]
 go_wp2
 rw [show (x.d + le3 x) / 2251799813685248 = le4 x from rfl]
 rw [rounds_succ]
 go_wp2
 rw [show (x.e + le4 x) / 2251799813685248 = le5 x from rfl]
 rw [rounds_succ]
 go_wp2
 exact bodyPost_ret (v := (leastF x).v) (by simp [results, Tryz.results123, go_sem, leastF]) rfl ⟨rfl, (((Below.refl _ _).alloc (Nat.le_refl _) _).alloc (by simp) _).alloc (by simp; omega) _⟩
def bt (s : ByteArray) (i : Nat) : Int := ((s.data[i]?.getD 0).toNat : Int)
theorem bt_bd (s : ByteArray) (i : Nat) : 0 ≤ bt s i ∧ bt s i < 256 := by
 unfold bt
 have := (s.data[i]?.getD 0).toNat_lt
 omega
theorem bt_at (s : ByteArray) (i : Nat) (h : i < s.size) : ((s[i]'h).toNat : Int) = bt s i := by
 unfold bt
 have h' : i < s.data.size := h
 rw [Array.getElem?_eq_getElem h']
 rfl
def sw (s : ByteArray) (j : Nat) : Nat → Int
 | 0 => 0
 | r + 1 => sw s j r + bt s (8 * j + r) * 256 ^ r
theorem sw_bd (s : ByteArray) (j r : Nat) : 0 ≤ sw s j r ∧ sw s j r < 256 ^ r := by
 induction r with
 | zero => simp [sw]
 | succ r ih =>
  have hb := bt_bd s (8 * j + r)
  have hp : (0 : Int) < 256 ^ r := Int.pow_pos (by decide)
  have h1 : bt s (8 * j + r) * 256 ^ r ≤ 255 * 256 ^ r := Int.mul_le_mul_of_nonneg_right (by omega) (by omega)
  have h2 : 0 ≤ bt s (8 * j + r) * 256 ^ r := Int.mul_nonneg hb.1 (by omega)
  have h3 : (256 : Int) ^ (r + 1) = 256 * 256 ^ r := by rw [Int.pow_succ, Int.mul_comm]
  simp only [sw]
  omega
theorem swor0 (s : ByteArray) (j i : Nat) (hi : i = 8 * j + 0) : bits BinOp.or IntKind.u64 0 (bt s i) = sw s j 1 := by
 have hb := bt_bd s i
 rw [or_join 8 256 (by decide) ⟨by decide, by decide⟩ ⟨hb.1, by omega⟩ (by decide) (by omega)]
 simp [sw, hi]
theorem swor1 (s : ByteArray) (j i : Nat) (hi : i = 8 * j + 1) : bits BinOp.or IntKind.u64 (sw s j 1) (bt s i * 256) = sw s j 2 := by
 have hb := bt_bd s i
 have hs := sw_bd s j 1
 have e : (256 : Int) ^ 1 = 256 := by decide
 rw [e] at hs
 rw [or_join' 8 256 (by decide) ⟨hs.1, by omega⟩ ⟨by omega, by omega⟩ (by omega) (by omega)]
 show _ = sw s j 1 + bt s (8 * j + 1) * 256 ^ 1
 rw [e, hi]
theorem swor2 (s : ByteArray) (j i : Nat) (hi : i = 8 * j + 2) : bits BinOp.or IntKind.u64 (sw s j 2) (bt s i * 65536) = sw s j 3 := by
 have hb := bt_bd s i
 have hs := sw_bd s j 2
 have e : (256 : Int) ^ 2 = 65536 := by decide
 rw [e] at hs
 rw [or_join' 16 65536 (by decide) ⟨hs.1, by omega⟩ ⟨by omega, by omega⟩ (by omega) (by omega)]
 show _ = sw s j 2 + bt s (8 * j + 2) * 256 ^ 2
 rw [e, hi]
theorem swor3 (s : ByteArray) (j i : Nat) (hi : i = 8 * j + 3) : bits BinOp.or IntKind.u64 (sw s j 3) (bt s i * 16777216) = sw s j 4 := by
 have hb := bt_bd s i
 have hs := sw_bd s j 3
 have e : (256 : Int) ^ 3 = 16777216 := by decide
 rw [e] at hs
 rw [or_join' 24 16777216 (by decide) ⟨hs.1, by omega⟩ ⟨by omega, by omega⟩ (by omega) (by omega)]
 show _ = sw s j 3 + bt s (8 * j + 3) * 256 ^ 3
 rw [e, hi]
theorem swor4 (s : ByteArray) (j i : Nat) (hi : i = 8 * j + 4) : bits BinOp.or IntKind.u64 (sw s j 4) (bt s i * 4294967296) = sw s j 5 := by
 have hb := bt_bd s i
 have hs := sw_bd s j 4
 have e : (256 : Int) ^ 4 = 4294967296 := by decide
 rw [e] at hs
 rw [or_join' 32 4294967296 (by decide) ⟨hs.1, by omega⟩ ⟨by omega, by omega⟩ (by omega) (by omega)]
 show _ = sw s j 4 + bt s (8 * j + 4) * 256 ^ 4
 rw [e, hi]
theorem swor5 (s : ByteArray) (j i : Nat) (hi : i = 8 * j + 5) : bits BinOp.or IntKind.u64 (sw s j 5) (bt s i * 1099511627776) = sw s j 6 := by
 have hb := bt_bd s i
 have hs := sw_bd s j 5
 have e : (256 : Int) ^ 5 = 1099511627776 := by decide
 rw [e] at hs
 rw [or_join' 40 1099511627776 (by decide) ⟨hs.1, by omega⟩ ⟨by omega, by omega⟩ (by omega) (by omega)]
 show _ = sw s j 5 + bt s (8 * j + 5) * 256 ^ 5
 rw [e, hi]
theorem swor6 (s : ByteArray) (j i : Nat) (hi : i = 8 * j + 6) : bits BinOp.or IntKind.u64 (sw s j 6) (bt s i * 281474976710656) = sw s j 7 := by
 have hb := bt_bd s i
 have hs := sw_bd s j 6
 have e : (256 : Int) ^ 6 = 281474976710656 := by decide
 rw [e] at hs
 rw [or_join' 48 281474976710656 (by decide) ⟨hs.1, by omega⟩ ⟨by omega, by omega⟩ (by omega) (by omega)]
 show _ = sw s j 6 + bt s (8 * j + 6) * 256 ^ 6
 rw [e, hi]
theorem swor7 (s : ByteArray) (j i : Nat) (hi : i = 8 * j + 7) : bits BinOp.or IntKind.u64 (sw s j 7) (bt s i * 72057594037927936) = sw s j 8 := by
 have hb := bt_bd s i
 have hs := sw_bd s j 7
 have e : (256 : Int) ^ 7 = 72057594037927936 := by decide
 rw [e] at hs
 rw [or_join' 56 72057594037927936 (by decide) ⟨hs.1, by omega⟩ ⟨by omega, by omega⟩ (by omega) (by omega)]
 show _ = sw s j 7 + bt s (8 * j + 7) * 256 ^ 7
 rw [e, hi]
structure WW (w W : World) (a b c d : Int) : Prop where
 old : Below w.heap.size w W
 size : w.heap.size + 1 < W.heap.size
 free : ∀ o, W.frozen? ⟨w.heap.size + 1, o, none⟩ = false
 free0 : ∀ o, W.frozen? ⟨w.heap.size, o, none⟩ = false
 c0 : W.cell? ⟨w.heap.size + 1, 0, none⟩ = some (.int .u64 a)
 c1 : W.cell? ⟨w.heap.size + 1, 1, none⟩ = some (.int .u64 b)
 c2 : W.cell? ⟨w.heap.size + 1, 2, none⟩ = some (.int .u64 c)
 c3 : W.cell? ⟨w.heap.size + 1, 3, none⟩ = some (.int .u64 d)
 r0 : W.cell? ⟨w.heap.size, 0, none⟩ = some (.int .u64 0)
 r1 : W.cell? ⟨w.heap.size, 1, none⟩ = some (.int .u64 0)
 r2 : W.cell? ⟨w.heap.size, 2, none⟩ = some (.int .u64 0)
 r3 : W.cell? ⟨w.heap.size, 3, none⟩ = some (.int .u64 0)
theorem WW.start (w : World) : WW w ((w.alloc (.cells #[.int .u64 0, .int .u64 0, .int .u64 0, .int .u64 0] 147)).alloc (.cells #[.int .u64 0, .int .u64 0, .int .u64 0, .int .u64 0] 147)) 0 0 0 0 := by
 refine ⟨((Below.refl _ _).alloc (Nat.le_refl _) _).alloc (by simp) _, by simp, ?_, ?_, ?_, ?_, ?_, ?_, ?_, ?_, ?_, ?_⟩ <;> simp [go_sem]
theorem WW.set0 {w W : World} {a b c d : Int} (h : WW w W a b c d) (v : Int) : WW w (W.setCell ⟨w.heap.size + 1, 0, none⟩ (.int .u64 v)).drew v b c d := by
 obtain ⟨h1, h2, h3, h4, h5, h6, h7, h8, h9, h10, h11, h12⟩ := h
 refine ⟨(h1.setCell (p := ⟨w.heap.size + 1, 0, none⟩) (by simp) _).drew, ?_, ?_, ?_, ?_, ?_, ?_, ?_, ?_, ?_, ?_, ?_⟩ <;> simp [go_sem, h2, h3, h4, h5, h6, h7, h8, h9, h10, h11, h12]
theorem WW.set1 {w W : World} {a b c d : Int} (h : WW w W a b c d) (v : Int) : WW w (W.setCell ⟨w.heap.size + 1, 1, none⟩ (.int .u64 v)).drew a v c d := by
 obtain ⟨h1, h2, h3, h4, h5, h6, h7, h8, h9, h10, h11, h12⟩ := h
 refine ⟨(h1.setCell (p := ⟨w.heap.size + 1, 1, none⟩) (by simp) _).drew, ?_, ?_, ?_, ?_, ?_, ?_, ?_, ?_, ?_, ?_, ?_⟩ <;> simp [go_sem, h2, h3, h4, h5, h6, h7, h8, h9, h10, h11, h12]
theorem WW.set2 {w W : World} {a b c d : Int} (h : WW w W a b c d) (v : Int) : WW w (W.setCell ⟨w.heap.size + 1, 2, none⟩ (.int .u64 v)).drew a b v d := by
 obtain ⟨h1, h2, h3, h4, h5, h6, h7, h8, h9, h10, h11, h12⟩ := h
 refine ⟨(h1.setCell (p := ⟨w.heap.size + 1, 2, none⟩) (by simp) _).drew, ?_, ?_, ?_, ?_, ?_, ?_, ?_, ?_, ?_, ?_, ?_⟩ <;> simp [go_sem, h2, h3, h4, h5, h6, h7, h8, h9, h10, h11, h12]
theorem WW.set3 {w W : World} {a b c d : Int} (h : WW w W a b c d) (v : Int) : WW w (W.setCell ⟨w.heap.size + 1, 3, none⟩ (.int .u64 v)).drew a b c v := by
 obtain ⟨h1, h2, h3, h4, h5, h6, h7, h8, h9, h10, h11, h12⟩ := h
 refine ⟨(h1.setCell (p := ⟨w.heap.size + 1, 3, none⟩) (by simp) _).drew, ?_, ?_, ?_, ?_, ?_, ?_, ?_, ?_, ?_, ?_, ?_⟩ <;> simp [go_sem, h2, h3, h4, h5, h6, h7, h8, h9, h10, h11, h12]
def swk (s : ByteArray) (k j : Nat) : Int := sw s j (min (k - 8 * j) 8)
theorem wordsOf_any (s : ByteArray) (w : World) (hs : s.size = 32) :
  Cs 130 #[.string s] w (.agg #[.int .u64 (sw s 0 8), .int .u64 (sw s 1 8), .int .u64 (sw s 2 8), .int .u64 (sw s 3 8)]) := by
 go_enter Tryz.func130, Tryz.ntmps130
 go_wp2
 have H0 := WW.start w
 generalize (w.alloc (.cells #[.int .u64 0, .int .u64 0, .int .u64 0, .int .u64 0] 147)).alloc (.cells #[.int .u64 0, .int .u64 0, .int .u64 0, .int .u64 0] 147) = W at H0 ⊢
 go_loopw [5] (fun c wr => ∃ k : Nat, k ≤ 32 ∧ c = .int .i64 k ∧ WW w wr (swk s k 0) (swk s k 1) (swk s k 2) (swk s k 3)) (fun c _ => 32 - (intOf c).toNat)
 case atStart => exact ⟨0, by omega, rfl, H0⟩
 case round =>
  clear H0
  obtain ⟨k, hk, rfl, H⟩ := hrel
  by_cases hlt : k < 32
  ·have hc : k = 0 ∨ k = 1 ∨ k = 2 ∨ k = 3 ∨ k = 4 ∨ k = 5 ∨ k = 6 ∨ k = 7 ∨ k = 8 ∨ k = 9 ∨ k = 10 ∨ k = 11 ∨ k = 12 ∨ k = 13 ∨ k = 14 ∨ k = 15 ∨ k = 16 ∨ k = 17 ∨ k = 18 ∨ k = 19 ∨ k = 20 ∨ k = 21 ∨ k = 22 ∨ k = 23 ∨ k = 24 ∨ k = 25 ∨ k = 26 ∨ k = 27 ∨ k = 28 ∨ k = 29 ∨ k = 30 ∨ k = 31 := by omega
   clear hlt hk
   rcases hc with rfl | rfl | rfl | rfl | rfl | rfl | rfl | rfl | rfl | rfl | rfl | rfl | rfl | rfl | rfl | rfl | rfl | rfl | rfl | rfl | rfl | rfl | rfl | rfl | rfl | rfl | rfl | rfl | rfl | rfl | rfl | rfl
   ·replace H : WW w wr (sw s 0 0) (sw s 1 0) (sw s 2 0) (sw s 3 0) := H
    have hb := bt_at s 0 (by omega)
    obtain ⟨p, q⟩ := bt_bd s 0
    have e := swor0 s 0 0 (by decide)
    have c := H.c0
    have f := H.free
    rw [show sw s 0 0 = 0 from rfl] at c
    replace H := hide (H.set0 (sw s 0 1))
    go_wp2
    go_region
    go_wp2
    go_roundw
    case rel => exact ⟨1, by omega, rfl, H.out⟩
    case measure => simp [intOf]
   ·replace H : WW w wr (sw s 0 1) (sw s 1 0) (sw s 2 0) (sw s 3 0) := H
    have hb := bt_at s 1 (by omega)
    obtain ⟨p, q⟩ := bt_bd s 1
    have e := swor1 s 0 1 (by decide)
    have c := H.c0
    have f := H.free
    skip
    replace H := hide (H.set0 (sw s 0 2))
    go_wp2
    go_region
    go_wp2
    go_roundw
    case rel => exact ⟨2, by omega, rfl, H.out⟩
    case measure => simp [intOf]
   ·replace H : WW w wr (sw s 0 2) (sw s 1 0) (sw s 2 0) (sw s 3 0) := H
    have hb := bt_at s 2 (by omega)
    obtain ⟨p, q⟩ := bt_bd s 2
    have e := swor2 s 0 2 (by decide)
    have c := H.c0
    have f := H.free
    skip
    replace H := hide (H.set0 (sw s 0 3))
    go_wp2
    go_region
    go_wp2
    go_roundw
    case rel => exact ⟨3, by omega, rfl, H.out⟩
    case measure => simp [intOf]
   ·replace H : WW w wr (sw s 0 3) (sw s 1 0) (sw s 2 0) (sw s 3 0) := H
    have hb := bt_at s 3 (by omega)
    obtain ⟨p, q⟩ := bt_bd s 3
    have e := swor3 s 0 3 (by decide)
    have c := H.c0
    have f := H.free
    skip
    replace H := hide (H.set0 (sw s 0 4))
    go_wp2
    go_region
    go_wp2
    go_roundw
    case rel => exact ⟨4, by omega, rfl, H.out⟩
    case measure => simp [intOf]
   ·replace H : WW w wr (sw s 0 4) (sw s 1 0) (sw s 2 0) (sw s 3 0) := H
    have hb := bt_at s 4 (by omega)
    obtain ⟨p, q⟩ := bt_bd s 4
    have e := swor4 s 0 4 (by decide)
    have c := H.c0
    have f := H.free
    skip
    replace H := hide (H.set0 (sw s 0 5))
    go_wp2
    go_region
    go_wp2
    go_roundw
    case rel => exact ⟨5, by omega, rfl, H.out⟩
    case measure => simp [intOf]
   ·replace H : WW w wr (sw s 0 5) (sw s 1 0) (sw s 2 0) (sw s 3 0) := H
    have hb := bt_at s 5 (by omega)
    obtain ⟨p, q⟩ := bt_bd s 5
    have e := swor5 s 0 5 (by decide)
    have c := H.c0
    have f := H.free
    skip
    replace H := hide (H.set0 (sw s 0 6))
    go_wp2
    go_region
    go_wp2
    go_roundw
    case rel => exact ⟨6, by omega, rfl, H.out⟩
    case measure => simp [intOf]
   ·replace H : WW w wr (sw s 0 6) (sw s 1 0) (sw s 2 0) (sw s 3 0) := H
    have hb := bt_at s 6 (by omega)
    obtain ⟨p, q⟩ := bt_bd s 6
    have e := swor6 s 0 6 (by decide)
    have c := H.c0
    have f := H.free
    skip
    replace H := hide (H.set0 (sw s 0 7))
    go_wp2
    go_region
    go_wp2
    go_roundw
    case rel => exact ⟨7, by omega, rfl, H.out⟩
    case measure => simp [intOf]
   ·replace H : WW w wr (sw s 0 7) (sw s 1 0) (sw s 2 0) (sw s 3 0) := H
    have hb := bt_at s 7 (by omega)
    obtain ⟨p, q⟩ := bt_bd s 7
    have e := swor7 s 0 7 (by decide)
    have c := H.c0
    have f := H.free
    skip
    replace H := hide (H.set0 (sw s 0 8))
    go_wp2
    go_region
    go_wp2
    go_roundw
    case rel => exact ⟨8, by omega, rfl, H.out⟩
    case measure => simp [intOf]
   ·replace H : WW w wr (sw s 0 8) (sw s 1 0) (sw s 2 0) (sw s 3 0) := H
    have hb := bt_at s 8 (by omega)
    obtain ⟨p, q⟩ := bt_bd s 8
    have e := swor0 s 1 8 (by decide)
    have c := H.c1
    have f := H.free
    rw [show sw s 1 0 = 0 from rfl] at c
    replace H := hide (H.set1 (sw s 1 1))
    go_wp2
    go_region
    go_wp2
    go_roundw
    case rel => exact ⟨9, by omega, rfl, H.out⟩
    case measure => simp [intOf]
   ·replace H : WW w wr (sw s 0 8) (sw s 1 1) (sw s 2 0) (sw s 3 0) := H
    have hb := bt_at s 9 (by omega)
    obtain ⟨p, q⟩ := bt_bd s 9
    have e := swor1 s 1 9 (by decide)
    have c := H.c1
    have f := H.free
    skip
    replace H := hide (H.set1 (sw s 1 2))
    go_wp2
    go_region
    go_wp2
    go_roundw
    case rel => exact ⟨10, by omega, rfl, H.out⟩
    case measure => simp [intOf]
   ·replace H : WW w wr (sw s 0 8) (sw s 1 2) (sw s 2 0) (sw s 3 0) := H
    have hb := bt_at s 10 (by omega)
    obtain ⟨p, q⟩ := bt_bd s 10
    have e := swor2 s 1 10 (by decide)
    have c := H.c1
    have f := H.free
    skip
    replace H := hide (H.set1 (sw s 1 3))
    go_wp2
    go_region
    go_wp2
    go_roundw
    case rel => exact ⟨11, by omega, rfl, H.out⟩
    case measure => simp [intOf]
   ·replace H : WW w wr (sw s 0 8) (sw s 1 3) (sw s 2 0) (sw s 3 0) := H
    have hb := bt_at s 11 (by omega)
    obtain ⟨p, q⟩ := bt_bd s 11
    have e := swor3 s 1 11 (by decide)
    have c := H.c1
    have f := H.free
    skip
    replace H := hide (H.set1 (sw s 1 4))
    go_wp2
    go_region
    go_wp2
    go_roundw
    case rel => exact ⟨12, by omega, rfl, H.out⟩
    case measure => simp [intOf]
   ·replace H : WW w wr (sw s 0 8) (sw s 1 4) (sw s 2 0) (sw s 3 0) := H
    have hb := bt_at s 12 (by omega)
    obtain ⟨p, q⟩ := bt_bd s 12
    have e := swor4 s 1 12 (by decide)
    have c := H.c1
    have f := H.free
    skip
    replace H := hide (H.set1 (sw s 1 5))
    go_wp2
    go_region
    go_wp2
    go_roundw
    case rel => exact ⟨13, by omega, rfl, H.out⟩
    case measure => simp [intOf]
   ·replace H : WW w wr (sw s 0 8) (sw s 1 5) (sw s 2 0) (sw s 3 0) := H
    have hb := bt_at s 13 (by omega)
    obtain ⟨p, q⟩ := bt_bd s 13
    have e := swor5 s 1 13 (by decide)
    have c := H.c1
    have f := H.free
    skip
    replace H := hide (H.set1 (sw s 1 6))
    go_wp2
    go_region
    go_wp2
    go_roundw
    case rel => exact ⟨14, by omega, rfl, H.out⟩
    case measure => simp [intOf]
   ·replace H : WW w wr (sw s 0 8) (sw s 1 6) (sw s 2 0) (sw s 3 0) := H
    have hb := bt_at s 14 (by omega)
    obtain ⟨p, q⟩ := bt_bd s 14
    have e := swor6 s 1 14 (by decide)
    have c := H.c1
    have f := H.free
    skip
    replace H := hide (H.set1 (sw s 1 7))
    go_wp2
    go_region
    go_wp2
    go_roundw
    case rel => exact ⟨15, by omega, rfl, H.out⟩
    case measure => simp [intOf]
   ·replace H : WW w wr (sw s 0 8) (sw s 1 7) (sw s 2 0) (sw s 3 0) := H
    have hb := bt_at s 15 (by omega)
    obtain ⟨p, q⟩ := bt_bd s 15
    have e := swor7 s 1 15 (by decide)
    have c := H.c1
    have f := H.free
    skip
    replace H := hide (H.set1 (sw s 1 8))
    go_wp2
    go_region
    go_wp2
    go_roundw
    case rel => exact ⟨16, by omega, rfl, H.out⟩
    case measure => simp [intOf]
   ·replace H : WW w wr (sw s 0 8) (sw s 1 8) (sw s 2 0) (sw s 3 0) := H
    have hb := bt_at s 16 (by omega)
    obtain ⟨p, q⟩ := bt_bd s 16
    have e := swor0 s 2 16 (by decide)
    have c := H.c2
    have f := H.free
    rw [show sw s 2 0 = 0 from rfl] at c
    replace H := hide (H.set2 (sw s 2 1))
    go_wp2
    go_region
    go_wp2
    go_roundw
    case rel => exact ⟨17, by omega, rfl, H.out⟩
    case measure => simp [intOf]
   ·replace H : WW w wr (sw s 0 8) (sw s 1 8) (sw s 2 1) (sw s 3 0) := H
    have hb := bt_at s 17 (by omega)
    obtain ⟨p, q⟩ := bt_bd s 17
    have e := swor1 s 2 17 (by decide)
    have c := H.c2
    have f := H.free
    skip
    replace H := hide (H.set2 (sw s 2 2))
    go_wp2
    go_region
    go_wp2
    go_roundw
    case rel => exact ⟨18, by omega, rfl, H.out⟩
    case measure => simp [intOf]
   ·replace H : WW w wr (sw s 0 8) (sw s 1 8) (sw s 2 2) (sw s 3 0) := H
    have hb := bt_at s 18 (by omega)
    obtain ⟨p, q⟩ := bt_bd s 18
    have e := swor2 s 2 18 (by decide)
    have c := H.c2
    have f := H.free
    skip
    replace H := hide (H.set2 (sw s 2 3))
    go_wp2
    go_region
    go_wp2
    go_roundw
    case rel => exact ⟨19, by omega, rfl, H.out⟩
    case measure => simp [intOf]
   ·replace H : WW w wr (sw s 0 8) (sw s 1 8) (sw s 2 3) (sw s 3 0) := H
    have hb := bt_at s 19 (by omega)
    obtain ⟨p, q⟩ := bt_bd s 19
    have e := swor3 s 2 19 (by decide)
    have c := H.c2
    have f := H.free
    skip
    replace H := hide (H.set2 (sw s 2 4))
    go_wp2
    go_region
    go_wp2
    go_roundw
    case rel => exact ⟨20, by omega, rfl, H.out⟩
    case measure => simp [intOf]
   ·replace H : WW w wr (sw s 0 8) (sw s 1 8) (sw s 2 4) (sw s 3 0) := H
    have hb := bt_at s 20 (by omega)
    obtain ⟨p, q⟩ := bt_bd s 20
    have e := swor4 s 2 20 (by decide)
    have c := H.c2
    have f := H.free
    skip
    replace H := hide (H.set2 (sw s 2 5))
    go_wp2
    go_region
    go_wp2
    go_roundw
    case rel => exact ⟨21, by omega, rfl, H.out⟩
    case measure => simp [intOf]
   ·replace H : WW w wr (sw s 0 8) (sw s 1 8) (sw s 2 5) (sw s 3 0) := H
    have hb := bt_at s 21 (by omega)
    obtain ⟨p, q⟩ := bt_bd s 21
    have e := swor5 s 2 21 (by decide)
    have c := H.c2
    have f := H.free
    skip
    replace H := hide (H.set2 (sw s 2 6))
    go_wp2
    go_region
    go_wp2
    go_roundw
    case rel => exact ⟨22, by omega, rfl, H.out⟩
    case measure => simp [intOf]
   ·replace H : WW w wr (sw s 0 8) (sw s 1 8) (sw s 2 6) (sw s 3 0) := H
    have hb := bt_at s 22 (by omega)
    obtain ⟨p, q⟩ := bt_bd s 22
    have e := swor6 s 2 22 (by decide)
    have c := H.c2
    have f := H.free
    skip
    replace H := hide (H.set2 (sw s 2 7))
    go_wp2
    go_region
    go_wp2
    go_roundw
    case rel => exact ⟨23, by omega, rfl, H.out⟩
    case measure => simp [intOf]
   ·replace H : WW w wr (sw s 0 8) (sw s 1 8) (sw s 2 7) (sw s 3 0) := H
    have hb := bt_at s 23 (by omega)
    obtain ⟨p, q⟩ := bt_bd s 23
    have e := swor7 s 2 23 (by decide)
    have c := H.c2
    have f := H.free
    skip
    replace H := hide (H.set2 (sw s 2 8))
    go_wp2
    go_region
    go_wp2
    go_roundw
    case rel => exact ⟨24, by omega, rfl, H.out⟩
    case measure => simp [intOf]
   ·replace H : WW w wr (sw s 0 8) (sw s 1 8) (sw s 2 8) (sw s 3 0) := H
    have hb := bt_at s 24 (by omega)
    obtain ⟨p, q⟩ := bt_bd s 24
    have e := swor0 s 3 24 (by decide)
    have c := H.c3
    have f := H.free
    rw [show sw s 3 0 = 0 from rfl] at c
    replace H := hide (H.set3 (sw s 3 1))
    go_wp2
    go_region
    go_wp2
    go_roundw
    case rel => exact ⟨25, by omega, rfl, H.out⟩
    case measure => simp [intOf]
   ·replace H : WW w wr (sw s 0 8) (sw s 1 8) (sw s 2 8) (sw s 3 1) := H
    have hb := bt_at s 25 (by omega)
    obtain ⟨p, q⟩ := bt_bd s 25
    have e := swor1 s 3 25 (by decide)
    have c := H.c3
    have f := H.free
    skip
    replace H := hide (H.set3 (sw s 3 2))
    go_wp2
    go_region
    go_wp2
    go_roundw
    case rel => exact ⟨26, by omega, rfl, H.out⟩
    case measure => simp [intOf]
   ·replace H : WW w wr (sw s 0 8) (sw s 1 8) (sw s 2 8) (sw s 3 2) := H
    have hb := bt_at s 26 (by omega)
    obtain ⟨p, q⟩ := bt_bd s 26
    have e := swor2 s 3 26 (by decide)
    have c := H.c3
    have f := H.free
    skip
    replace H := hide (H.set3 (sw s 3 3))
    go_wp2
    go_region
    go_wp2
    go_roundw
    case rel => exact ⟨27, by omega, rfl, H.out⟩
    case measure => simp [intOf]
   ·replace H : WW w wr (sw s 0 8) (sw s 1 8) (sw s 2 8) (sw s 3 3) := H
    have hb := bt_at s 27 (by omega)
    obtain ⟨p, q⟩ := bt_bd s 27
    have e := swor3 s 3 27 (by decide)
    have c := H.c3
    have f := H.free
    skip
    replace H := hide (H.set3 (sw s 3 4))
    go_wp2
    go_region
    go_wp2
    go_roundw
    case rel => exact ⟨28, by omega, rfl, H.out⟩
    case measure => simp [intOf]
   ·replace H : WW w wr (sw s 0 8) (sw s 1 8) (sw s 2 8) (sw s 3 4) := H
    have hb := bt_at s 28 (by omega)
    obtain ⟨p, q⟩ := bt_bd s 28
    have e := swor4 s 3 28 (by decide)
    have c := H.c3
    have f := H.free
    skip
    replace H := hide (H.set3 (sw s 3 5))
    go_wp2
    go_region
    go_wp2
    go_roundw
    case rel => exact ⟨29, by omega, rfl, H.out⟩
    case measure => simp [intOf]
   ·replace H : WW w wr (sw s 0 8) (sw s 1 8) (sw s 2 8) (sw s 3 5) := H
    have hb := bt_at s 29 (by omega)
    obtain ⟨p, q⟩ := bt_bd s 29
    have e := swor5 s 3 29 (by decide)
    have c := H.c3
    have f := H.free
    skip
    replace H := hide (H.set3 (sw s 3 6))
    go_wp2
    go_region
    go_wp2
    go_roundw
    case rel => exact ⟨30, by omega, rfl, H.out⟩
    case measure => simp [intOf]
   ·replace H : WW w wr (sw s 0 8) (sw s 1 8) (sw s 2 8) (sw s 3 6) := H
    have hb := bt_at s 30 (by omega)
    obtain ⟨p, q⟩ := bt_bd s 30
    have e := swor6 s 3 30 (by decide)
    have c := H.c3
    have f := H.free
    skip
    replace H := hide (H.set3 (sw s 3 7))
    go_wp2
    go_region
    go_wp2
    go_roundw
    case rel => exact ⟨31, by omega, rfl, H.out⟩
    case measure => simp [intOf]
   ·replace H : WW w wr (sw s 0 8) (sw s 1 8) (sw s 2 8) (sw s 3 7) := H
    have hb := bt_at s 31 (by omega)
    obtain ⟨p, q⟩ := bt_bd s 31
    have e := swor7 s 3 31 (by decide)
    have c := H.c3
    have f := H.free
    skip
    replace H := hide (H.set3 (sw s 3 8))
    go_wp2
    go_region
    go_wp2
    go_roundw
    case rel => exact ⟨32, by omega, rfl, H.out⟩
    case measure => simp [intOf]
  ·have e : k = 32 := by omega
   subst e
   replace H : WW w wr (sw s 0 8) (sw s 1 8) (sw s 2 8) (sw s 3 8) := H
   obtain ⟨h1, h2, h3, h4, h5, h6, h7, h8, h9, h10, h11, h12⟩ := H
   have H1 := hide h1
   clear h1
   go_wp2
   refine bodyPost_ret (v := .agg #[.int .u64 (sw s 0 8), .int .u64 (sw s 1 8), .int .u64 (sw s 2 8), .int .u64 (sw s 3 8)]) (by simp [results, Tryz.results130, go_sem, h9, h10, h11, h12]) rfl ⟨rfl, ?_⟩
   exact (((H1.out.setCell (p := ⟨w.heap.size, 0, none⟩) (Nat.le_refl _) _).setCell (p := ⟨w.heap.size, 1, none⟩) (Nat.le_refl _) _).setCell (p := ⟨w.heap.size, 2, none⟩) (Nat.le_refl _) _).setCell (p := ⟨w.heap.size, 3, none⟩) (Nat.le_refl _) _
def numberF (a b c d : Int) : E5 := car (a % 2251799813685248) ((a / 2251799813685248 + b * 8192) % 2251799813685248) ((b / 274877906944 + c * 67108864) % 2251799813685248) ((c / 33554432 + d * 549755813888) % 2251799813685248) (d / 4096)
theorem part1 {a b : Int} (ha : W64 a) (_hb : W64 b) : bits BinOp.and IntKind.u64 (bits BinOp.or IntKind.u64 (a / 2251799813685248) (IntKind.u64.wrap (b * 8192))) 2251799813685247 = (a / 2251799813685248 + b * 8192) % 2251799813685248 := by
 unfold W64 at *
 rw [IntKind.wrap_u64, or_join' 13 8192 (by decide) ⟨by omega, by omega⟩ ⟨by omega, by omega⟩ (by omega) (by omega), and51 ⟨by omega, by omega⟩]
 omega
theorem part2 {a b : Int} (ha : W64 a) (_hb : W64 b) : bits BinOp.and IntKind.u64 (bits BinOp.or IntKind.u64 (a / 274877906944) (IntKind.u64.wrap (b * 67108864))) 2251799813685247 = (a / 274877906944 + b * 67108864) % 2251799813685248 := by
 unfold W64 at *
 rw [IntKind.wrap_u64, or_join' 26 67108864 (by decide) ⟨by omega, by omega⟩ ⟨by omega, by omega⟩ (by omega) (by omega), and51 ⟨by omega, by omega⟩]
 omega
theorem part3 {a b : Int} (ha : W64 a) (_hb : W64 b) : bits BinOp.and IntKind.u64 (bits BinOp.or IntKind.u64 (a / 33554432) (IntKind.u64.wrap (b * 549755813888))) 2251799813685247 = (a / 33554432 + b * 549755813888) % 2251799813685248 := by
 unfold W64 at *
 rw [IntKind.wrap_u64, or_join' 39 549755813888 (by decide) ⟨by omega, by omega⟩ ⟨by omega, by omega⟩ (by omega) (by omega), and51 ⟨by omega, by omega⟩]
 omega
theorem numberF_ok {a b c d : Int} (_ha : W64 a) (_hb : W64 b) (_hc : W64 c) (hd : W64 d) : (numberF a b c d).Ok := by
 unfold W64 at *
 exact car_ok ⟨by omega, by omega⟩ ⟨by omega, by omega⟩ ⟨by omega, by omega⟩ ⟨by omega, by omega⟩ ⟨by omega, by omega⟩
theorem numberF_n {a b c d : Int} (ha : W64 a) (hb : W64 b) (hc : W64 c) (_hd : W64 d) : Cg (numberF a b c d).n (a + 18446744073709551616 * b + 340282366920938463463374607431768211456 * c + 6277101735386680763835789423207666416102355444464034512896 * d) := by
 refine (car_n _ _ _ _ _).trans (Cg.of_eq ?_)
 unfold W64 at *
 simp only [E5.n]
 omega
theorem number_any (a b c d : Int) (w : World) (ha : W64 a) (hb : W64 b) (hc : W64 c) (hd : W64 d) :
  Calls Tryz.prog 131 #[.agg #[.int .u64 a, .int .u64 b, .int .u64 c, .int .u64 d]] w fun r w' => r = .returned (numberF a b c d).v ∧ Below w.heap.size w w' := by
 have e0 := and51 ha
 have e1 := part1 ha hb
 have e2 := part2 hb hc
 have e3 := part3 hc hd
 have HE := hide (show numberF a b c d = car (a % 2251799813685248) ((a / 2251799813685248 + b * 8192) % 2251799813685248) ((b / 274877906944 + c * 67108864) % 2251799813685248) ((c / 33554432 + d * 549755813888) % 2251799813685248) (d / 4096) from rfl)
 have q0 : W64 (a % 2251799813685248) := ⟨by omega, by omega⟩
 have q1 : W64 ((a / 2251799813685248 + b * 8192) % 2251799813685248) := ⟨by omega, by omega⟩
 have q2 : W64 ((b / 274877906944 + c * 67108864) % 2251799813685248) := ⟨by omega, by omega⟩
 have q3 : W64 ((c / 33554432 + d * 549755813888) % 2251799813685248) := ⟨by omega, by omega⟩
 have q4 : W64 (d / 4096) := by unfold W64 at *; exact ⟨by omega, by omega⟩
 go_enter Tryz.func131, Tryz.ntmps131
 go_wp2_with fail
 have R := Out.start1 w (.cells #[.int .u64 a, .int .u64 b, .int .u64 c, .int .u64 d] 147)
 refine (carried_any _ _ _ _ _ _ q0 q1 q2 q3 q4).mono ?_
 rintro _ w1 ⟨rfl, hb⟩
 replace R := R.keep hb
 rw [← HE.out]
 clear HE
 generalize hz : numberF a b c d = z
 have HE := hide hz
 clear hz
 clear hb q0 q1 q2 q3 q4 e0 e1 e2 e3
 obtain ⟨old, ge, rs, rf, r0, r1, r2, r3, r4⟩ := R
 have O := hide old
 clear old
 go_wp2
 refine bodyPost_ret (v := z.v) (by simp [results, Tryz.results131, go_sem, r0, r1, r2, r3, r4]) rfl ⟨by rw [HE.out], ?_⟩
 exact five O.out ge
def val (s : ByteArray) : Int := sw s 0 8 + 18446744073709551616 * sw s 1 8 + 340282366920938463463374607431768211456 * sw s 2 8 + 6277101735386680763835789423207666416102355444464034512896 * sw s 3 8
def ofF (s : ByteArray) : E5 := numberF (sw s 0 8) (sw s 1 8) (sw s 2 8) (sw s 3 8)
theorem sw64 (s : ByteArray) (j : Nat) : W64 (sw s j 8) := by
 have h := sw_bd s j 8
 have e : (256 : Int) ^ 8 = 18446744073709551616 := by decide
 rw [e] at h
 exact h
theorem ofF_ok (s : ByteArray) : (ofF s).Ok := numberF_ok (sw64 s 0) (sw64 s 1) (sw64 s 2) (sw64 s 3)
theorem ofF_n (s : ByteArray) : Cg (ofF s).n (val s) := numberF_n (sw64 s 0) (sw64 s 1) (sw64 s 2) (sw64 s 3)
theorem of_yes (s : ByteArray) (w : World) (hs : s.size = 32) :
  Cs 78 #[.string s] w (.tuple #[(ofF s).v, .int .i64 0]) := by
 have n0 : ((s.size : Int) != 32) = false := by simp [hs]
 go_enter Tryz.func78, Tryz.ntmps78
 go_wp2_with fail
 have R := Out.start0 w
 refine (wordsOf_any s _ hs).mono ?_
 rintro _ w1 ⟨rfl, hb⟩
 replace R := R.keep hb
 clear hb
 go_wp2_with fail
 refine (number_any _ _ _ _ _ (sw64 s 0) (sw64 s 1) (sw64 s 2) (sw64 s 3)).mono ?_
 rintro _ w2 ⟨rfl, hb⟩
 replace R := R.keep hb
 clear hb
 rw [show numberF (sw s 0 8) (sw s 1 8) (sw s 2 8) (sw s 3 8) = ofF s from rfl]
 generalize hz : ofF s = z
 have HZ := hide hz
 clear hz
 obtain ⟨old, ge, rs, rf, r0, r1, r2, r3, r4⟩ := R
 have O := hide old
 clear old
 go_wp2
 refine bodyPost_ret (v := .tuple #[z.v, .int .i64 0]) (by simp [results, Tryz.results78, go_sem, r0, r1, r2, r3, r4]) rfl ⟨by rw [HZ.out], ?_⟩
 exact five O.out ge
theorem of_no (s : ByteArray) (w : World) (hs : s.size ≠ 32) :
  Cs 78 #[.string s] w (.tuple #[zeroE.v, .int .i64 2]) := by
 have n0 : ((s.size : Int) != 32) = true := by simp; omega
 go_enter Tryz.func78, Tryz.ntmps78
 go_wp2
 exact bodyPost_ret (v := .tuple #[zeroE.v, .int .i64 2]) (by simp [results, Tryz.results78, go_sem, zeroE]) rfl ⟨rfl, (Below.refl _ _).alloc (Nat.le_refl _) _⟩
def S (f : Nat → Int) : Nat → Int
 | 0 => 0
 | n + 1 => S f n + f n * 65536 ^ n
theorem p16 (n : Nat) : (0 : Int) < 65536 ^ n := Int.pow_pos (by decide)
theorem p16s (n : Nat) : (65536 : Int) ^ (n + 1) = 65536 * 65536 ^ n := by rw [Int.pow_succ, Int.mul_comm]
def Dig (f : Nat → Int) (n : Nat) : Prop := ∀ i, i < n → 0 ≤ f i ∧ f i < 65536
theorem Dig.le {f : Nat → Int} {n m : Nat} (h : Dig f n) (hm : m ≤ n) : Dig f m := fun i hi => h i (by omega)
theorem S_bd {f : Nat → Int} : ∀ {n : Nat}, Dig f n → 0 ≤ S f n ∧ S f n < 65536 ^ n
 | 0, _ => by simp [S]
 | n + 1, h => by
  have ih := S_bd (n := n) (h.le (by omega))
  have hd := h n (by omega)
  have hp := p16 n
  have h1 : f n * 65536 ^ n ≤ 65535 * 65536 ^ n := Int.mul_le_mul_of_nonneg_right (by omega) (by omega)
  have h2 : 0 ≤ f n * 65536 ^ n := Int.mul_nonneg hd.1 (by omega)
  rw [p16s]
  simp only [S]
  omega
theorem S_congr {f g : Nat → Int} : ∀ {n : Nat}, (∀ i, i < n → f i = g i) → S f n = S g n
 | 0, _ => rfl
 | n + 1, h => by
  simp only [S]
  rw [S_congr (n := n) fun i hi => h i (by omega), h n (by omega)]
theorem S_above {f g : Nat → Int} {p : Nat} : ∀ {n : Nat}, p ≤ n → (∀ j, p ≤ j → j < n → f j = g j) → S f n - S g n = S f p - S g p := by
 intro n
 induction n with
 | zero => intro h _; have : p = 0 := by omega
           subst this; rfl
 | succ n ih =>
  intro h he
  by_cases hp : p = n + 1
  ·subst hp; rfl
  ·have h1 := ih (by omega) fun j a b => he j a (by omega)
   simp only [S]
   rw [he n (by omega) (by omega)]
   omega
theorem S_lt {f g : Nat → Int} {p : Nat} (hf : Dig f 16) (hg : Dig g 16) (hp : p < 16) (he : ∀ j, p + 1 ≤ j → j < 16 → f j = g j) (hne : f p ≠ g p) : decide (f p < g p) = decide (S f 16 < S g 16) := by
 have h1 := S_above (n := 16) (by omega) he
 have h2 := S_bd (hf.le (m := p) (by omega))
 have h3 := S_bd (hg.le (m := p) (by omega))
 have hx := p16 p
 simp only [S] at h1
 generalize S f p = sf at *
 generalize S g p = sg at *
 generalize (65536 : Int) ^ p = X at *
 have hS : (S f 16 < S g 16) ↔ f p < g p := by
  constructor
  ·intro h
   apply Int.lt_of_not_ge
   intro hge
   have : f p ≥ g p + 1 := by omega
   have : (f p - g p) * X ≥ 1 * X := Int.mul_le_mul_of_nonneg_right (by omega) (by omega)
   rw [Int.sub_mul] at this
   have e16 : S f 16 - S g 16 < 0 := by omega
   simp only [S] at e16
   omega
  ·intro h
   have : (g p - f p) * X ≥ 1 * X := Int.mul_le_mul_of_nonneg_right (by omega) (by omega)
   rw [Int.sub_mul] at this
   have e16 : ∀ d, S f 16 - S g 16 = d → d < 0 → S f 16 < S g 16 := fun d a b => by omega
   simp only [S] at e16 ⊢
   omega
 exact decide_eq_decide.2 hS.symm
def wid (f : Nat → Int) (k : Nat) : Nat → Int := fun i => if i < k then f i else 0
theorem wide_any (f : Nat → Int) (w : World) : Cs 135 #[.agg (arr 16 f)] w (.agg (arr 32 (wid f 16))) := by
 go_enter Tryz.func135, Tryz.ntmps135
 go_wp2
 rw [show #[Value.int .u64 0, Value.int .u64 0, Value.int .u64 0, Value.int .u64 0, Value.int .u64 0, Value.int .u64 0, Value.int .u64 0, Value.int .u64 0, Value.int .u64 0, Value.int .u64 0, Value.int .u64 0, Value.int .u64 0, Value.int .u64 0, Value.int .u64 0, Value.int .u64 0, Value.int .u64 0, Value.int .u64 0, Value.int .u64 0, Value.int .u64 0, Value.int .u64 0, Value.int .u64 0, Value.int .u64 0, Value.int .u64 0, Value.int .u64 0, Value.int .u64 0, Value.int .u64 0, Value.int .u64 0, Value.int .u64 0, Value.int .u64 0, Value.int .u64 0, Value.int .u64 0, Value.int .u64 0] = arr 32 (fun _ => 0) from rfl]
 have R1 : Row (((w.alloc (.cells (arr 16 f) 36)).alloc (.cells (arr 32 fun _ => 0) 101)).alloc (.cells (arr 32 fun _ => 0) 101)) w.heap.size 36 16 f := ((Row.new w 36 16 f).alloc _).alloc _
 have R2 : Row (((w.alloc (.cells (arr 16 f) 36)).alloc (.cells (arr 32 fun _ => 0) 101)).alloc (.cells (arr 32 fun _ => 0) 101)) (w.heap.size + 1) 101 32 fun _ => 0 := (Row.new' _ 101 32 _ (by simp)).alloc _
 have R3 : Row (((w.alloc (.cells (arr 16 f) 36)).alloc (.cells (arr 32 fun _ => 0) 101)).alloc (.cells (arr 32 fun _ => 0) 101)) (w.heap.size + 1 + 1) 101 32 fun _ => 0 := Row.new' _ 101 32 _ (by simp)
 have O : Below w.heap.size w (((w.alloc (.cells (arr 16 f) 36)).alloc (.cells (arr 32 fun _ => 0) 101)).alloc (.cells (arr 32 fun _ => 0) 101)) := (((Below.refl _ _).alloc (Nat.le_refl _) _).alloc (by simp) _).alloc (by simp; omega) _
 generalize ((w.alloc (.cells (arr 16 f) 36)).alloc (.cells (arr 32 fun _ => 0) 101)).alloc (.cells (arr 32 fun _ => 0) 101) = W at R1 R2 R3 O ⊢
 go_loopw [4] (fun i wr => ∃ k : Nat, k ≤ 16 ∧ i = .int .i64 k ∧ Row wr w.heap.size 36 16 f ∧ Row wr (w.heap.size + 1) 101 32 (fun _ => 0) ∧ Row wr (w.heap.size + 1 + 1) 101 32 (wid f k) ∧ Below w.heap.size w wr) (fun i _ => 16 - (intOf i).toNat)
 case atStart => exact ⟨0, by omega, rfl, R1, R2, R3, O⟩
 case round =>
  clear R1 R2 R3 O
  obtain ⟨k, hk, rfl, R1, R2, R3, O⟩ := hrel
  by_cases hlt : k < 16
  ·have c := R1.cell hlt
   have d := R3.cell (i := k) (by omega)
   have e := R3.free k
   have RR := hide ((R3.set k (f k)))
   have R1' := hide (R1.other (a := ⟨w.heap.size + 1 + 1, k, none⟩) (by simp; omega) (.int .u64 (f k)))
   have R2' := hide (R2.other (a := ⟨w.heap.size + 1 + 1, k, none⟩) (by simp) (.int .u64 (f k)))
   have O' := hide (O.setCell (p := ⟨w.heap.size + 1 + 1, k, none⟩) (by simp; omega) (.int .u64 (f k)))
   clear R1 R2 R3 O
   go_wp2
   go_roundw
   case rel => exact ⟨k + 1, by omega, by go_num, R1'.out, R2'.out, RR.out.congr (fun i _ => by unfold upd wid; by_cases h : i = k <;> simp [h] <;> omega), O'.out⟩
   case measure => simp [intOf]; omega
  ·have hk' : k = 16 := by omega
   subst hk'
   have RR := hide (R2.setAll (wid f 16))
   have OO := hide (below_setCells (g := w.heap.size + 1) (by omega) (arr 32 (wid f 16)).toList 0 O)
   go_wp2_with (first | (refine wpList_load_row rfl 101 _ rfl (w.heap.size + 1 + 1) rfl 101 (arr 32 (wid f 16)) (0, 0) _ R3 Tryz.underlying101 rfl (info101 _) ?_) | (refine wpList_store_mid rfl 101 _ _ rfl (w.heap.size + 1) 0 (arr 32 (wid f 16)) rfl rfl (by rw [arr_size]; exact R2.there) (info101 _) (arr_one _ _) ?_))
   exact bodyPost_ret (v := .agg (arr 32 (wid f 16))) (results_cell_row Tryz.results135 _ _ (w.heap.size + 1) 101 (arr 32 (wid f 16)) (0, 0) _ rfl RR.out Tryz.underlying101 rfl (info101 _)) rfl ⟨rfl, OO.out⟩
theorem rowN {w : World} {g : Nat} {T : TypeId} {n : Nat} {f : Nat → Int} (h : Row w g T n f) (k : Nat) : Row (w.drewN k) g T n f := h
theorem belN {B : Nat} {a w : World} {n : Nat} (h : Below B a w) : Below B a (w.drewN n) := ⟨h.os, h.tape, h.output, h.size, h.block⟩
theorem less_any (f g : Nat → Int) (w : World) (hf : Dig f 16) (hg : Dig g 16) : Cs 50 #[.agg (arr 16 f), .agg (arr 16 g)] w (.bool (decide (S f 16 < S g 16))) := by
 go_enter Tryz.func50, Tryz.ntmps50
 go_wp2
 have R1 : Row ((w.alloc (.cells (arr 16 f) 36)).alloc (.cells (arr 16 g) 36)) w.heap.size 36 16 f := (Row.new w 36 16 f).alloc _
 have R2 : Row ((w.alloc (.cells (arr 16 f) 36)).alloc (.cells (arr 16 g) 36)) (w.heap.size + 1) 36 16 g := Row.new' _ 36 16 _ (by simp)
 have O : Below w.heap.size w ((w.alloc (.cells (arr 16 f) 36)).alloc (.cells (arr 16 g) 36)) := ((Below.refl _ _).alloc (Nat.le_refl _) _).alloc (by simp) _
 generalize (w.alloc (.cells (arr 16 f) 36)).alloc (.cells (arr 16 g) 36) = W at R1 R2 O ⊢
 go_loopw [5] (fun i wr => ∃ m : Nat, m ≤ 16 ∧ (∃ v : Int, v = (m : Int) - 1 ∧ i = .int .i64 v) ∧ (∀ j, m ≤ j → j < 16 → f j = g j) ∧ Row wr w.heap.size 36 16 f ∧ Row wr (w.heap.size + 1) 36 16 g ∧ Below w.heap.size w wr) (fun i _ => (intOf i + 1).toNat)
 case atStart => exact ⟨16, by omega, ⟨15, by omega, rfl⟩, fun j a b => by omega, R1, R2, O⟩
 case round =>
  clear R1 R2 O
  obtain ⟨m, hm, ⟨v, hv, hi⟩, hall, R1, R2, O⟩ := hrel
  rcases m with _ | p
  ·have e : v = -1 := by omega
   rw [e] at hi
   clear hv e
   subst hi
   have HS := hide (S_congr (n := 16) fun i hi => hall i (by omega) hi)
   clear hall
   go_wp2
   go_ret
   refine ⟨?_, O⟩
   rw [HS.out]
   simp
  ·have e : v = (p : Int) := by omega
   rw [e] at hi
   clear hv e
   subst hi
   have c := R1.cell (i := p) (by omega)
   have d := R2.cell (i := p) (by omega)
   have i1 : (0 : Int) ≤ (p : Int) := by omega
   have i2 : (p : Int) < 16 := by omega
   have HA := hide hall
   clear hall
   by_cases hfg : f p = g p
   ·have hb : (f p != g p) = false := by simp [hfg]
    have HF := hide hfg
    clear hfg
    go_wp2_with fail
    go_quiet (fail)
    go_wp2
    go_roundw
    case rel => exact ⟨p, by omega, ⟨_, by omega, rfl⟩, fun j a b => by
     by_cases hj : j = p
     ·rw [hj]; exact HF.out
     ·exact HA.out j (by omega) b, rowN R1 _, rowN R2 _, belN O⟩
    case measure => simp [intOf]
   ·have hb : (f p != g p) = true := by simp [hfg]
    have HL := hide (S_lt hf hg (p := p) (by omega) HA.out hfg)
    clear hfg
    go_wp2_with fail
    go_quiet (fail)
    go_wp2_with fail
    go_quiet (fail)
    go_wp2
    go_ret
    exact ⟨by rw [← HL.out]; rfl, belN (belN O)⟩
def pk (k : Nat) : Nat → Int := fun i => if i = 0 then 65517 else if i < k then 65535 else 0
def pF : Nat → Int := upd (pk 15) 15 32767
theorem prime_any (w : World) : Cs 134 #[] w (.agg (arr 16 pF)) := by
 go_enter Tryz.func134, Tryz.ntmps134
 go_wp2
 rw [show #[Value.int .u64 0, Value.int .u64 0, Value.int .u64 0, Value.int .u64 0, Value.int .u64 0, Value.int .u64 0, Value.int .u64 0, Value.int .u64 0, Value.int .u64 0, Value.int .u64 0, Value.int .u64 0, Value.int .u64 0, Value.int .u64 0, Value.int .u64 0, Value.int .u64 0, Value.int .u64 0] = arr 16 (fun _ => 0) from rfl]
 rw [show #[Value.int .u64 65517, Value.int .u64 0, Value.int .u64 0, Value.int .u64 0, Value.int .u64 0, Value.int .u64 0, Value.int .u64 0, Value.int .u64 0, Value.int .u64 0, Value.int .u64 0, Value.int .u64 0, Value.int .u64 0, Value.int .u64 0, Value.int .u64 0, Value.int .u64 0, Value.int .u64 0] = arr 16 (pk 1) from rfl]
 have R1 : Row ((w.alloc (.cells (arr 16 fun _ => 0) 36)).alloc (.cells (arr 16 (pk 1)) 36)) w.heap.size 36 16 (fun _ => 0) := (Row.new w 36 16 _).alloc _
 have R2 : Row ((w.alloc (.cells (arr 16 fun _ => 0) 36)).alloc (.cells (arr 16 (pk 1)) 36)) (w.heap.size + 1) 36 16 (pk 1) := Row.new' _ 36 16 _ (by simp)
 have O : Below w.heap.size w ((w.alloc (.cells (arr 16 fun _ => 0) 36)).alloc (.cells (arr 16 (pk 1)) 36)) := ((Below.refl _ _).alloc (Nat.le_refl _) _).alloc (by simp) _
 generalize (w.alloc (.cells (arr 16 fun _ => 0) 36)).alloc (.cells (arr 16 (pk 1)) 36) = W at R1 R2 O ⊢
 go_loopw [2] (fun i wr => ∃ k : Nat, 1 ≤ k ∧ k ≤ 15 ∧ i = .int .i64 k ∧ Row wr w.heap.size 36 16 (fun _ => 0) ∧ Row wr (w.heap.size + 1) 36 16 (pk k) ∧ Below w.heap.size w wr) (fun i _ => 15 - (intOf i).toNat)
 case atStart => exact ⟨1, by omega, by omega, rfl, R1, R2, O⟩
 case round =>
  clear R1 R2 O
  obtain ⟨k, hk0, hk, rfl, R1, R2, O⟩ := hrel
  by_cases hlt : k < 15
  ·have d := R2.cell (i := k) (by omega)
   have e := R2.free k
   have RR := hide ((R2.set k 65535))
   have R1' := hide (R1.other (a := ⟨w.heap.size + 1, k, none⟩) (by simp) (.int .u64 65535))
   have O' := hide (O.setCell (p := ⟨w.heap.size + 1, k, none⟩) (by simp) (.int .u64 65535))
   clear R1 R2 O
   go_wp2
   go_roundw
   case rel => exact ⟨k + 1, by omega, by omega, by go_num, R1'.out, RR.out.congr (fun i _ => by unfold upd pk; by_cases h : i = k <;> by_cases h0 : i = 0 <;> simp [h, h0] <;> omega), O'.out⟩
   case measure => simp [intOf]; omega
  ·have hk' : k = 15 := by omega
   subst hk'
   have d := R2.cell (i := 15) (by omega)
   have e := R2.free 15
   have R3 := R2.set 15 32767
   have R1' := R1.other (a := ⟨w.heap.size + 1, 15, none⟩) (by simp) (.int .u64 32767)
   have O' := O.setCell (p := ⟨w.heap.size + 1, 15, none⟩) (by simp) (.int .u64 32767)
   rw [show upd (pk 15) 15 32767 = pF from rfl] at R3
   have RR := hide (R1'.setAll pF)
   have OO := hide (below_setCells (g := w.heap.size) (Nat.le_refl _) (arr 16 pF).toList 0 O')
   clear R1 R2 O O' hlt hk hk0
   go_wp2_with (first | (refine wpList_load_row rfl 36 _ rfl (w.heap.size + 1) rfl 36 (arr 16 pF) (0, 0) _ R3 Tryz.underlying36 rfl (info36 _) ?_) | (refine wpList_store_mid rfl 36 _ _ rfl w.heap.size 0 (arr 16 pF) rfl rfl (by rw [arr_size]; exact R1'.there) (info36 _) (arr_one _ _) ?_))
   exact bodyPost_ret (v := .agg (arr 16 pF)) (results_cell_row Tryz.results134 _ _ w.heap.size 36 (arr 16 pF) (0, 0) _ rfl RR.out Tryz.underlying36 rfl (info36 _)) rfl ⟨rfl, OO.out⟩
theorem pF_dig : Dig pF 16 := fun i _ => by
 unfold pF upd pk
 by_cases h : i = 15
 ·simp [h]
 ·by_cases h0 : i = 0
  ·simp [h0]
  ·by_cases h1 : i < 15 <;> simp [h, h0, h1]
theorem pF_S : S pF 16 = Pm := by decide +kernel
def bor (a b : Nat → Int) : Nat → Int
 | 0 => 0
 | k + 1 => 1 - (65536 + a k - b k - bor a b k) / 65536
def minusF (a b : Nat → Int) : Nat → Int := fun i => (65536 + a i - b i - bor a b i) % 65536
def mk (a b : Nat → Int) (k : Nat) : Nat → Int := fun i => if i < k then minusF a b i else 0
theorem bor_bd {a b : Nat → Int} (ha : Dig a 16) (hb : Dig b 16) : ∀ k, k ≤ 16 → 0 ≤ bor a b k ∧ bor a b k ≤ 1
 | 0, _ => by simp [bor]
 | k + 1, h => by
  have ih := bor_bd ha hb k (by omega)
  have h1 := ha k (by omega)
  have h2 := hb k (by omega)
  simp only [bor]
  omega
theorem minusF_dig (a b : Nat → Int) (n : Nat) : Dig (minusF a b) n := fun i _ => by unfold minusF; omega
theorem minus_S (a b : Nat → Int) : ∀ k, S (minusF a b) k = S a k - S b k + bor a b k * 65536 ^ k
 | 0 => by simp [S, bor]
 | k + 1 => by
  have ih := minus_S a b k
  have e : bor a b (k + 1) * 65536 ^ (k + 1) = 65536 * bor a b (k + 1) * 65536 ^ k := by rw [p16s, ← Int.mul_assoc, Int.mul_comm (bor a b (k + 1)) 65536]
  have e2 : minusF a b k = a k - b k - bor a b k + 65536 * bor a b (k + 1) := by
   simp only [minusF, bor]
   omega
  simp only [S]
  rw [ih, e, e2, Int.add_mul, Int.sub_mul, Int.sub_mul]
  omega
theorem minus_le {a b : Nat → Int} (ha : Dig a 16) (hb : Dig b 16) (h : S b 16 ≤ S a 16) : S (minusF a b) 16 = S a 16 - S b 16 := by
 have e := minus_S a b 16
 have h0 := bor_bd ha hb 16 (by omega)
 have h1 := S_bd (minusF_dig a b 16)
 have h2 := S_bd ha
 have h3 := S_bd hb
 have : bor a b 16 = 0 ∨ bor a b 16 = 1 := by omega
 rcases this with h4 | h4
 ·rw [h4] at e; omega
 ·rw [h4] at e; omega
theorem and16 {x : Int} (h0 : 0 ≤ x) (h1 : x < 18446744073709551616) : bits .and .u64 x 65535 = x % 65536 := by
 rw [u64_and x _ h0 h1 (by decide) (by decide)]
 have e : (65535 : Int).toNat = 65535 := by decide
 rw [e, nat_mask16]
 omega
theorem minus_any (a b : Nat → Int) (w : World) (ha : Dig a 16) (hb : Dig b 16) : Cs 136 #[.agg (arr 16 a), .agg (arr 16 b)] w (.agg (arr 16 (minusF a b))) := by
 go_enter Tryz.func136, Tryz.ntmps136
 go_wp2
 rw [show #[Value.int .u64 0, Value.int .u64 0, Value.int .u64 0, Value.int .u64 0, Value.int .u64 0, Value.int .u64 0, Value.int .u64 0, Value.int .u64 0, Value.int .u64 0, Value.int .u64 0, Value.int .u64 0, Value.int .u64 0, Value.int .u64 0, Value.int .u64 0, Value.int .u64 0, Value.int .u64 0] = arr 16 (fun _ => 0) from rfl]
 have R1 : Row ((((w.alloc (.cells (arr 16 a) 36)).alloc (.cells (arr 16 b) 36)).alloc (.cells (arr 16 fun _ => 0) 36)).alloc (.cells (arr 16 fun _ => 0) 36)) w.heap.size 36 16 a := (((Row.new w 36 16 a).alloc _).alloc _).alloc _
 have R2 : Row ((((w.alloc (.cells (arr 16 a) 36)).alloc (.cells (arr 16 b) 36)).alloc (.cells (arr 16 fun _ => 0) 36)).alloc (.cells (arr 16 fun _ => 0) 36)) (w.heap.size + 1) 36 16 b := ((Row.new' _ 36 16 _ (by simp)).alloc _).alloc _
 have R3 : Row ((((w.alloc (.cells (arr 16 a) 36)).alloc (.cells (arr 16 b) 36)).alloc (.cells (arr 16 fun _ => 0) 36)).alloc (.cells (arr 16 fun _ => 0) 36)) (w.heap.size + 1 + 1) 36 16 (fun _ => 0) := (Row.new' _ 36 16 _ (by simp)).alloc _
 have R4 : Row ((((w.alloc (.cells (arr 16 a) 36)).alloc (.cells (arr 16 b) 36)).alloc (.cells (arr 16 fun _ => 0) 36)).alloc (.cells (arr 16 fun _ => 0) 36)) (w.heap.size + 1 + 1 + 1) 36 16 (fun _ => 0) := Row.new' _ 36 16 _ (by simp)
 have O : Below w.heap.size w ((((w.alloc (.cells (arr 16 a) 36)).alloc (.cells (arr 16 b) 36)).alloc (.cells (arr 16 fun _ => 0) 36)).alloc (.cells (arr 16 fun _ => 0) 36)) := ((((Below.refl _ _).alloc (Nat.le_refl _) _).alloc (by simp) _).alloc (by simp; omega) _).alloc (by simp; omega) _
 generalize (((w.alloc (.cells (arr 16 a) 36)).alloc (.cells (arr 16 b) 36)).alloc (.cells (arr 16 fun _ => 0) 36)).alloc (.cells (arr 16 fun _ => 0) 36) = W at R1 R2 R3 R4 O ⊢
 go_loopw [6, 7] (fun bo i wr => ∃ k : Nat, k ≤ 16 ∧ bo = .int .u64 (bor a b k) ∧ i = .int .i64 k ∧ Row wr w.heap.size 36 16 a ∧ Row wr (w.heap.size + 1) 36 16 b ∧ Row wr (w.heap.size + 1 + 1) 36 16 (fun _ => 0) ∧ Row wr (w.heap.size + 1 + 1 + 1) 36 16 (mk a b k) ∧ Below w.heap.size w wr) (fun _ i _ => 16 - (intOf i).toNat)
 case atStart => exact ⟨0, by omega, rfl, rfl, R1, R2, R3, R4, O⟩
 case round =>
  clear R1 R2 R3 R4 O
  obtain ⟨k, hk, rfl, rfl, R1, R2, R3, R4, O⟩ := hrel
  by_cases hlt : k < 16
  ·have c := R1.cell hlt
   have d := R2.cell hlt
   have x := R4.cell (i := k) hlt
   have e := R4.free k
   obtain ⟨a0, a1⟩ := ha k hlt
   obtain ⟨b0, b1⟩ := hb k hlt
   obtain ⟨q0, q1⟩ := bor_bd ha hb k (by omega)
   have i1 : (0 : Int) ≤ (k : Int) := by omega
   have i2 : (k : Int) < 16 := by omega
   have ea := and16 (x := 65536 + a k - b k - bor a b k) (by omega) (by omega)
   have HB := hide (show bor a b (k + 1) = 1 - (65536 + a k - b k - bor a b k) / 65536 from rfl)
   have RR := hide (fun n => (rowN R4 n).set k ((65536 + a k - b k - bor a b k) % 65536))
   have R1' := hide (fun n => (rowN R1 n).other (a := ⟨w.heap.size + 1 + 1 + 1, k, none⟩) (by simp; omega) (.int .u64 ((65536 + a k - b k - bor a b k) % 65536)))
   have R2' := hide (fun n => (rowN R2 n).other (a := ⟨w.heap.size + 1 + 1 + 1, k, none⟩) (by simp) (.int .u64 ((65536 + a k - b k - bor a b k) % 65536)))
   have R3' := hide (fun n => (rowN R3 n).other (a := ⟨w.heap.size + 1 + 1 + 1, k, none⟩) (by simp) (.int .u64 ((65536 + a k - b k - bor a b k) % 65536)))
   have O' := hide (fun n => (belN (n := n) O).setCell (p := ⟨w.heap.size + 1 + 1 + 1, k, none⟩) (by simp; omega) (.int .u64 ((65536 + a k - b k - bor a b k) % 65536)))
   clear R1 R2 R3 R4 O
   generalize hbo : bor a b k = bo at *
   have HO := hide hbo
   clear hbo
   go_wp2_with fail
   go_quiet (fail)
   go_wp2
   exact ⟨⟨k + 1, by omega, by rw [HB.out], by go_num, R1'.out _, R2'.out _, R3'.out _, (RR.out _).congr (fun i _ => by
    unfold upd mk
    by_cases h : i = k
    ·subst h
     simp [minusF, HO.out]
    ·simp [h]
     omega), O'.out _⟩, by simp [intOf]; omega⟩
  ·have hk' : k = 16 := by omega
   subst hk'
   have e : arr 16 (mk a b 16) = arr 16 (minusF a b) := arr_congr fun i hi => by unfold mk; rw [if_pos hi]
   unfold Row at R4
   rw [e] at R4
   have RR := hide (R3.setAll (minusF a b))
   have OO := hide (below_setCells (g := w.heap.size + 1 + 1) (by omega) (arr 16 (minusF a b)).toList 0 O)
   go_wp2_with (first | (refine wpList_load_row rfl 36 _ rfl (w.heap.size + 1 + 1 + 1) rfl 36 (arr 16 (minusF a b)) (0, 0) _ R4 Tryz.underlying36 rfl (info36 _) ?_) | (refine wpList_store_mid rfl 36 _ _ rfl (w.heap.size + 1 + 1) 0 (arr 16 (minusF a b)) rfl rfl (by rw [arr_size]; exact R3.there) (info36 _) (arr_one _ _) ?_))
   exact bodyPost_ret (v := .agg (arr 16 (minusF a b))) (results_cell_row Tryz.results136 _ _ (w.heap.size + 1 + 1) 36 (arr 16 (minusF a b)) (0, 0) _ rfl RR.out Tryz.underlying36 rfl (info36 _)) rfl ⟨rfl, OO.out⟩
def cf (t : Nat → Int) : Nat → Int
 | 0 => 0
 | k + 1 => (t k + cf t k) / 65536
def lo (t : Nat → Int) : Nat → Int := fun i => (t i + cf t i) % 65536
theorem lo_dig (t : Nat → Int) (n : Nat) : Dig (lo t) n := fun i _ => by unfold lo; omega
theorem pass_S (t : Nat → Int) : ∀ k, S (lo t) k + cf t k * 65536 ^ k = S t k
 | 0 => by simp [S, cf]
 | k + 1 => by
  have ih := pass_S t k
  have e : cf t (k + 1) * 65536 ^ (k + 1) = 65536 * cf t (k + 1) * 65536 ^ k := by rw [p16s, ← Int.mul_assoc, Int.mul_comm (cf t (k + 1)) 65536]
  have e2 : lo t k = t k + cf t k - 65536 * cf t (k + 1) := by
   simp only [lo, cf]
   omega
  simp only [S]
  rw [e, e2, Int.sub_mul, Int.add_mul]
  omega
theorem S_shift (f : Nat → Int) (n : Nat) : ∀ m, S f (n + m) = S f n + 65536 ^ n * S (fun i => f (n + i)) m
 | 0 => by simp [S]
 | m + 1 => by
  have ih := S_shift f n m
  rw [← Nat.add_assoc]
  simp only [S]
  rw [ih, Int.mul_add, Int.pow_add, Int.mul_left_comm, Int.add_assoc]
theorem S_zero (n : Nat) : S (fun _ => 0) n = 0 := by
 induction n with
 | zero => rfl
 | succ n ih => simp only [S, ih]; simp
def foldF (u : Nat → Int) : Nat → Int := fun i => if i < 16 then u i + 38 * u (16 + i) else 0
theorem fold_S (u : Nat → Int) : ∀ n, n ≤ 16 → S (foldF u) n = S u n + 38 * S (fun i => u (16 + i)) n
 | 0, _ => by simp [S]
 | n + 1, h => by
  have ih := fold_S u n (by omega)
  simp only [S]
  rw [ih, foldF, if_pos (by omega), Int.add_mul, Int.mul_add, Int.mul_assoc]
  omega
theorem S_upper_zero (f : Nat → Int) (h : ∀ i, 16 ≤ i → i < 32 → f i = 0) : S f 32 = S f 16 := by
 have e := S_shift f 16 16
 rw [show 16 + 16 = 32 from rfl] at e
 rw [e, S_congr (f := fun i => f (16 + i)) (g := fun _ => 0) fun i hi => h (16 + i) (by omega) (by omega), S_zero]
 simp
def T1 (t : Nat → Int) : Nat → Int := upd (foldF (lo t)) 0 (foldF (lo t) 0 + 1444 * cf t 32)
theorem S_upd0 (f : Nat → Int) (v : Int) : ∀ n, S (upd f 0 v) (n + 1) = S f (n + 1) - f 0 + v
 | 0 => by simp [S, upd]
 | n + 1 => by
  have ih := S_upd0 f v n
  show S (upd f 0 v) (n + 1) + upd f 0 v (n + 1) * 65536 ^ (n + 1) = S f (n + 1) + f (n + 1) * 65536 ^ (n + 1) - f 0 + v
  rw [ih]
  simp only [upd]
  rw [if_neg (by omega)]
  omega
theorem T1_up (t : Nat → Int) (i : Nat) (h : 16 ≤ i) : T1 t i = 0 := by
 unfold T1 upd foldF
 rw [if_neg (by omega), if_neg (by omega)]
theorem T1_S (t : Nat → Int) : Cg (S (T1 t) 32) (S t 32) := by
 rw [S_upper_zero (T1 t) fun i h _ => T1_up t i h]
 have e1 : S (T1 t) 16 = S (foldF (lo t)) 16 + 1444 * cf t 32 := by
  have h := S_upd0 (foldF (lo t)) (foldF (lo t) 0 + 1444 * cf t 32) 15
  rw [show 15 + 1 = 16 from rfl] at h
  unfold T1
  rw [h]
  omega
 have e2 := fold_S (lo t) 16 (by omega)
 have e3 := pass_S t 32
 have e4 := S_shift (lo t) 16 16
 rw [show 16 + 16 = 32 from rfl] at e4
 have p1 : (65536 : Int) ^ 16 = 2 * Pm + 38 := by decide
 have p2 : (65536 : Int) ^ 32 = (2 * Pm + 76) * (2 * Pm) + 1444 := by decide
 rw [e4, p2, p1] at e3
 rw [e1, e2]
 generalize S (fun i => lo t (16 + i)) 16 = h at *
 generalize S (lo t) 16 = l at *
 generalize cf t 32 = c at *
 refine ⟨- (2 * h) - c * ((2 * Pm + 76) * 2), ?_⟩
 rw [← e3]
 simp only [Int.mul_add, Int.add_mul, Int.sub_mul, Int.neg_mul, Int.mul_assoc, Int.mul_comm Pm]
 omega
structure B48 (t : Nat → Int) : Prop where
 b : ∀ i, i < 32 → 0 ≤ t i ∧ t i < 281474976710656
theorem cf_bd {t : Nat → Int} (h : B48 t) : ∀ k, k ≤ 32 → 0 ≤ cf t k ∧ cf t k ≤ 8589934592
 | 0, _ => by simp [cf]
 | k + 1, hk => by
  have ih := cf_bd h k (by omega)
  have := h.b k (by omega)
  simp only [cf]
  omega
def Jl : Nat → (Nat → Int) → Prop
 | 0, t => B48 t
 | 1, t => (∀ i, 16 ≤ i → i < 32 → t i = 0) ∧ (0 ≤ t 0 ∧ t 0 ≤ 17592186044416) ∧ ∀ i, 1 ≤ i → i < 16 → 0 ≤ t i ∧ t i ≤ 2555865
 | 2, t => (∀ i, 16 ≤ i → i < 32 → t i = 0) ∧ (0 ≤ t 0 ∧ t 0 ≤ 67100) ∧ ∀ i, 1 ≤ i → i < 16 → 0 ≤ t i ∧ t i ≤ 65535
 | _, t => (∀ i, 16 ≤ i → i < 32 → t i = 0) ∧ Dig t 16
theorem Jl.b48 {k : Nat} {t : Nat → Int} (hk : k ≤ 3) (h : Jl k t) : B48 t := by
 have hc : k = 0 ∨ k = 1 ∨ k = 2 ∨ k = 3 := by omega
 rcases hc with rfl | rfl | rfl | rfl
 ·exact h
 all_goals
  refine ⟨fun i hi => ?_⟩
  by_cases h16 : 16 ≤ i
  ·rw [h.1 i h16 hi]; omega
  ·first
   | (have := h.2 i (by omega); omega)
   | (by_cases h0 : i = 0
      ·have := h.2.1; rw [h0]; omega
      ·have := h.2.2 i (by omega) (by omega); omega)
theorem T1_low {t : Nat → Int} (hz : ∀ i, 16 ≤ i → i < 32 → t i = 0) (hc : 0 ≤ cf t 16 ∧ cf t 16 ≤ 65535) : T1 t 0 = lo t 0 + 38 * cf t 16 ∧ ∀ i, 1 ≤ i → i < 16 → T1 t i = lo t i := by
 have h17 : ∀ j, cf t (17 + j) = 0 ∨ 15 ≤ j := by
  intro j
  induction j with
  | zero => left; show (t 16 + cf t 16) / 65536 = 0; rw [hz 16 (by omega) (by omega)]; omega
  | succ j ih =>
   by_cases hj : 15 ≤ j + 1
   ·exact .inr hj
   ·left
    rcases ih with ih | ih
    ·show (t (17 + j) + cf t (17 + j)) / 65536 = 0
     rw [ih, hz (17 + j) (by omega) (by omega)]
     decide
    ·omega
 have h32 : cf t 32 = 0 := by
  have a : cf t 31 = 0 := by rcases h17 14 with h | h; · exact h
                             ·omega
  show (t 31 + cf t 31) / 65536 = 0
  rw [a, hz 31 (by omega) (by omega)]
  decide
 have hl : ∀ i, 1 ≤ i → i < 16 → lo t (16 + i) = 0 := by
  intro i h1 h2
  have a : cf t (16 + i) = 0 := by
   have := h17 (i - 1)
   rw [show 17 + (i - 1) = 16 + i by omega] at this
   rcases this with h | h
   ·exact h
   ·have : i = 16 := by omega
    omega
  unfold lo
  rw [a, hz (16 + i) (by omega) (by omega)]
  decide
 have h16 : lo t 16 = cf t 16 := by
  unfold lo
  rw [hz 16 (by omega) (by omega)]
  omega
 refine ⟨?_, fun i h1 h2 => ?_⟩
 ·unfold T1 upd
  rw [if_pos rfl, h32]
  unfold foldF
  rw [if_pos (by omega), Nat.add_zero, h16]
  omega
 ·unfold T1 upd
  rw [if_neg (by omega)]
  unfold foldF
  rw [if_pos h2, hl i h1 h2]
  omega
theorem Jl.next {k : Nat} {t : Nat → Int} (hk : k < 3) (h : Jl k t) : Jl (k + 1) (T1 t) := by
 have hB := h.b48 (by omega)
 have hc : k = 0 ∨ k = 1 ∨ k = 2 := by omega
 rcases hc with rfl | rfl | rfl
 ·have hcf := cf_bd hB 32 (by omega)
  have hlo := lo_dig t 32
  refine ⟨fun i a _ => T1_up t i a, ?_, fun i h1 h2 => ?_⟩
  ·unfold T1 upd foldF
   have := hlo 0 (by omega)
   have := hlo 16 (by omega)
   simp
   omega
  ·unfold T1 upd foldF
   have := hlo i (by omega)
   have := hlo (16 + i) (by omega)
   rw [if_neg (by omega), if_pos h2]
   omega
 ·obtain ⟨hz, h0, hi⟩ := h
  have c0 : cf t 0 = 0 := rfl
  have c1 : 0 ≤ cf t 1 ∧ cf t 1 ≤ 268435456 := by show 0 ≤ (t 0 + cf t 0) / 65536 ∧ (t 0 + cf t 0) / 65536 ≤ 268435456; rw [c0]; omega
  have c2 : 0 ≤ cf t 2 ∧ cf t 2 ≤ 5000 := by
   have := hi 1 (by omega) (by omega)
   show 0 ≤ (t 1 + cf t 1) / 65536 ∧ (t 1 + cf t 1) / 65536 ≤ 5000
   omega
  have c3 : ∀ j, 3 + j ≤ 16 → 0 ≤ cf t (3 + j) ∧ cf t (3 + j) ≤ 39 := by
   intro j
   induction j with
   | zero =>
    intro _
    have := hi 2 (by omega) (by omega)
    show 0 ≤ (t 2 + cf t 2) / 65536 ∧ (t 2 + cf t 2) / 65536 ≤ 39
    omega
   | succ j ih =>
    intro hj
    have ih := ih (by omega)
    have := hi (3 + j) (by omega) (by omega)
    show 0 ≤ (t (3 + j) + cf t (3 + j)) / 65536 ∧ (t (3 + j) + cf t (3 + j)) / 65536 ≤ 39
    omega
  have h16 := c3 13 (by omega)
  rw [show 3 + 13 = 16 from rfl] at h16
  have hT := T1_low hz (by omega)
  have hlo := lo_dig t 32
  refine ⟨fun i a _ => T1_up t i a, ?_, fun i h1 h2 => ?_⟩
  ·rw [hT.1]
   have := hlo 0 (by omega)
   omega
  ·rw [hT.2 i h1 h2]
   have := hlo i (by omega)
   omega
 ·obtain ⟨hz, h0, hi⟩ := h
  have c0 : cf t 0 = 0 := rfl
  have c1 : 0 ≤ cf t 1 ∧ cf t 1 ≤ 1 := by show 0 ≤ (t 0 + cf t 0) / 65536 ∧ (t 0 + cf t 0) / 65536 ≤ 1; rw [c0]; omega
  have c3 : ∀ j, 1 + j ≤ 16 → 0 ≤ cf t (1 + j) ∧ cf t (1 + j) ≤ cf t 1 := by
   intro j
   induction j with
   | zero => intro _; show 0 ≤ cf t 1 ∧ cf t 1 ≤ cf t 1; omega
   | succ j ih =>
    intro hj
    have ih := ih (by omega)
    have := hi (1 + j) (by omega) (by omega)
    show 0 ≤ (t (1 + j) + cf t (1 + j)) / 65536 ∧ (t (1 + j) + cf t (1 + j)) / 65536 ≤ cf t 1
    omega
  have h16 := c3 15 (by omega)
  rw [show 1 + 15 = 16 from rfl] at h16
  have hT := T1_low hz (by omega)
  have hlo := lo_dig t 32
  have e1 : cf t 1 = (t 0 + cf t 0) / 65536 := rfl
  have el : lo t 0 = (t 0 + cf t 0) % 65536 := rfl
  rw [c0] at e1 el
  refine ⟨fun i a _ => T1_up t i a, fun i h2 => ?_⟩
  by_cases hi0 : i = 0
  ·rw [hi0, hT.1]
   omega
  ·rw [hT.2 i (by omega) h2]
   exact hlo i (by omega)
def d16 (N : Int) : Nat → Int := fun i => N / 65536 ^ i % 65536
theorem S_inj {f g : Nat → Int} : ∀ {n : Nat}, Dig f n → Dig g n → S f n = S g n → ∀ i, i < n → f i = g i
 | 0, _, _, _, i, hi => by omega
 | n + 1, hf, hg, h, i, hi => by
  have bf := S_bd (hf.le (m := n) (by omega))
  have bg := S_bd (hg.le (m := n) (by omega))
  have hp := p16 n
  simp only [S] at h
  have hn : f n = g n := by
   apply Classical.byContradiction
   intro hne
   have : f n < g n ∨ g n < f n := by omega
   rcases this with hl | hl
   ·have : (g n - f n) * 65536 ^ n ≥ 1 * 65536 ^ n := Int.mul_le_mul_of_nonneg_right (by omega) (by omega)
    rw [Int.sub_mul] at this
    omega
   ·have : (f n - g n) * 65536 ^ n ≥ 1 * 65536 ^ n := Int.mul_le_mul_of_nonneg_right (by omega) (by omega)
    rw [Int.sub_mul] at this
    omega
  by_cases hin : i = n
  ·rw [hin]; exact hn
  ·refine S_inj (n := n) (hf.le (by omega)) (hg.le (by omega)) ?_ i (by omega)
   rw [hn] at h
   omega
theorem d16_dig (N : Int) (n : Nat) : Dig (d16 N) n := fun i _ => by unfold d16; omega
theorem d16_S (N : Int) (h0 : 0 ≤ N) : ∀ n, S (d16 N) n = N % 65536 ^ n
 | 0 => by simp [S]
 | n + 1 => by
  simp only [S]
  rw [d16_S N h0 n, d16, Int.pow_succ]
  have hp := p16 n
  generalize (65536 : Int) ^ n = X at *
  have a := Int.mul_ediv_add_emod N X
  have b := Int.mul_ediv_add_emod (N / X) 65536
  have r0 := Int.emod_nonneg N (by omega : X ≠ 0)
  have r1 := Int.emod_lt_of_pos N hp
  have hN : N = (N % X + N / X % 65536 * X) + X * 65536 * (N / X / 65536) := by
   have e : X * (N / X) = X * (65536 * (N / X / 65536) + N / X % 65536) := by rw [b]
   rw [Int.mul_add] at e
   rw [Int.mul_comm (N / X % 65536) X, Int.mul_assoc]
   omega
  have q : N / X % 65536 * X ≤ 65535 * X := Int.mul_le_mul_of_nonneg_right (by omega) (by omega)
  have q0 : 0 ≤ N / X % 65536 * X := Int.mul_nonneg (by omega) (by omega)
  have hM : N % (X * 65536) = (N % X + N / X % 65536 * X + X * 65536 * (N / X / 65536)) % (X * 65536) := by rw [← hN]
  rw [hM, Int.add_mul_emod_self_left]
  exact (Int.emod_eq_of_lt (by omega) (by omega)).symm
def bs (ns : List Int) : ByteArray := ⟨(ns.map fun n => UInt8.ofNat n.toNat).toArray⟩
theorem bs_fold (ns : List Int) : ∀ s : ByteArray, ns.foldl (fun r n => r.push (UInt8.ofNat n.toNat)) s = ⟨s.data ++ (ns.map fun n => UInt8.ofNat n.toNat).toArray⟩ := by
 induction ns with
 | nil => intro s; simp
 | cons n ns ih =>
  intro s
  rw [List.foldl_cons, ih]
  simp [ByteArray.push]
theorem conv_bytes (W : World) (g : Nat) (T : TypeId) (ns : List Int) (l cap : Nat) (fr : Nat × Nat) (hg : W.heap[g]? = some (.cells (ns.map (Value.int .u8)).toArray T fr)) (hl : ns.length = l) :
  (convert 32 9 (.slice (some ⟨g, 0, none⟩) l cap)).run Tryz.prog W = .ok (.string (bs ns)) W := by
 subst hl
 rw [run_convert_bytes_string W 32 9 5 (some ⟨g, 0, none⟩) ns.length cap Tryz.underlying32 Tryz.underlying5 Tryz.underlying9]
 have h := run_loadCells_list (P := Tryz.prog) W ⟨g, 0, none⟩ (ns.map (Value.int .u8)) (fun j v hv => by
  have hadd : (⟨g, 0, none⟩ : Addr).add j = ⟨g, j, none⟩ := by unfold Addr.add; split <;> simp_all
  rw [hadd, cell_of_row W g j _ T fr hg]
  simpa using hv)
 rw [List.length_map] at h
 have he : ByteArray.empty.data = #[] := rfl
 rw [run_bytesToString W _ ns.length cap ns h, bs_fold, he]
 simp [bs]
def digs (a : Int) : List Int := [a % 256, a / 256 % 256, a / 65536 % 256, a / 16777216 % 256, a / 4294967296 % 256, a / 1099511627776 % 256, a / 281474976710656 % 256, a / 72057594037927936 % 256]
def lebytes (n : Int) : ByteArray := bs (digs (n % 18446744073709551616) ++ digs (n / 18446744073709551616 % 18446744073709551616) ++ digs (n / 340282366920938463463374607431768211456 % 18446744073709551616) ++ digs (n / 6277101735386680763835789423207666416102355444464034512896 % 18446744073709551616))
theorem text_any (a b c d : Int) (w : World) :
  Cs 122 #[.agg #[.int .u64 a, .int .u64 b, .int .u64 c, .int .u64 d]] w (.string (bs (digs a ++ digs b ++ digs c ++ digs d))) := by
 go_enter Tryz.func122, Tryz.ntmps122
 go_wp2
 refine wp_loop_rounds 33 ?_
 iterate 33 (rw [rounds_succ]; go_wp2)
 have hcv : (convert 32 9 (.slice (some ⟨w.heap.size + 1, 0, none⟩) 32 32)).run Tryz.prog ((w.alloc (.cells #[.int .u64 a, .int .u64 b, .int .u64 c, .int .u64 d] 147)).alloc (.cells #[.int .u8 (a % 256), .int .u8 (a / 256 % 256), .int .u8 (a / 65536 % 256), .int .u8 (a / 16777216 % 256), .int .u8 (a / 4294967296 % 256), .int .u8 (a / 1099511627776 % 256), .int .u8 (a / 281474976710656 % 256), .int .u8 (a / 72057594037927936 % 256), .int .u8 (b % 256), .int .u8 (b / 256 % 256), .int .u8 (b / 65536 % 256), .int .u8 (b / 16777216 % 256), .int .u8 (b / 4294967296 % 256), .int .u8 (b / 1099511627776 % 256), .int .u8 (b / 281474976710656 % 256), .int .u8 (b / 72057594037927936 % 256), .int .u8 (c % 256), .int .u8 (c / 256 % 256), .int .u8 (c / 65536 % 256), .int .u8 (c / 16777216 % 256), .int .u8 (c / 4294967296 % 256), .int .u8 (c / 1099511627776 % 256), .int .u8 (c / 281474976710656 % 256), .int .u8 (c / 72057594037927936 % 256), .int .u8 (d % 256), .int .u8 (d / 256 % 256), .int .u8 (d / 65536 % 256), .int .u8 (d / 16777216 % 256), .int .u8 (d / 4294967296 % 256), .int .u8 (d / 1099511627776 % 256), .int .u8 (d / 281474976710656 % 256), .int .u8 (d / 72057594037927936 % 256)] 89)) = .ok (.string (bs (digs a ++ digs b ++ digs c ++ digs d))) _ := conv_bytes _ (w.heap.size + 1) 89 (digs a ++ digs b ++ digs c ++ digs d) 32 32 (0, 0) (heap_alloc2_new w _ _) rfl
 rw [hcv]
 clear hcv
 generalize hB : bs (digs a ++ digs b ++ digs c ++ digs d) = B
 have HB := hide hB
 clear hB
 go_wp2
 go_ret
 exact ⟨by rw [HB.out]; rfl, ((Below.refl _ _).alloc (Nat.le_refl _) _).alloc (by simp) _⟩
theorem wordsR0 {y : E5} (h : y.Low) : bits BinOp.or IntKind.u64 y.a (IntKind.u64.wrap (y.b * 2251799813685248)) = y.n % 18446744073709551616 := by
 obtain ⟨a0, a1, b0, b1, c0, c1, d0, d1, e0, e1⟩ := h
 rw [IntKind.wrap_u64, or_join' 51 2251799813685248 (by decide) ⟨by omega, by omega⟩ ⟨by omega, by omega⟩ (by omega) (by omega)]
 simp only [E5.n]
 omega
theorem wordsR1 {y : E5} (h : y.Low) : bits BinOp.or IntKind.u64 (y.b / 8192) (IntKind.u64.wrap (y.c * 274877906944)) = y.n / 18446744073709551616 % 18446744073709551616 := by
 obtain ⟨a0, a1, b0, b1, c0, c1, d0, d1, e0, e1⟩ := h
 rw [IntKind.wrap_u64, or_join' 38 274877906944 (by decide) ⟨by omega, by omega⟩ ⟨by omega, by omega⟩ (by omega) (by omega)]
 simp only [E5.n]
 omega
theorem wordsR2 {y : E5} (h : y.Low) : bits BinOp.or IntKind.u64 (y.c / 67108864) (IntKind.u64.wrap (y.d * 33554432)) = y.n / 340282366920938463463374607431768211456 % 18446744073709551616 := by
 obtain ⟨a0, a1, b0, b1, c0, c1, d0, d1, e0, e1⟩ := h
 rw [IntKind.wrap_u64, or_join' 25 33554432 (by decide) ⟨by omega, by omega⟩ ⟨by omega, by omega⟩ (by omega) (by omega)]
 simp only [E5.n]
 omega
theorem wordsR3 {y : E5} (h : y.Low) : bits BinOp.or IntKind.u64 (y.d / 549755813888) (IntKind.u64.wrap (y.e * 4096)) = y.n / 6277101735386680763835789423207666416102355444464034512896 % 18446744073709551616 := by
 obtain ⟨a0, a1, b0, b1, c0, c1, d0, d1, e0, e1⟩ := h
 rw [IntKind.wrap_u64, or_join' 12 4096 (by decide) ⟨by omega, by omega⟩ ⟨by omega, by omega⟩ (by omega) (by omega)]
 simp only [E5.n]
 omega
theorem set4 {B g : Nat} {w w1 : World} (h : Below B w w1) (hg : B ≤ g) {u0 u1 u2 u3 : Value} :
  Below B w ((((w1.setCell ⟨g, 0, none⟩ u0).setCell ⟨g, 1, none⟩ u1).setCell ⟨g, 2, none⟩ u2).setCell ⟨g, 3, none⟩ u3) :=
 (((h.setCell (p := ⟨g, 0, none⟩) hg u0).setCell (p := ⟨g, 1, none⟩) hg u1).setCell (p := ⟨g, 2, none⟩) hg u2).setCell (p := ⟨g, 3, none⟩) hg u3
abbrev w4 (n : Int) : Value := .agg #[.int .u64 (n % 18446744073709551616), .int .u64 (n / 18446744073709551616 % 18446744073709551616), .int .u64 (n / 340282366920938463463374607431768211456 % 18446744073709551616), .int .u64 (n / 6277101735386680763835789423207666416102355444464034512896 % 18446744073709551616)]
theorem words_any (x : E5) (w : World) (hx : x.Ok) :
  Cs 121 #[x.v] w (w4 (x.n % Pm)) := by
 go_enter Tryz.func121, Tryz.ntmps121
 go_wp2_with fail
 refine (least_any x _ hx).mono ?_
 rintro _ w1 ⟨rfl, hb⟩
 have HN := hide (leastF_n hx)
 have hl := leastF_low x
 have e0 := wordsR0 hl
 have e1 := wordsR1 hl
 have e2 := wordsR2 hl
 have e3 := wordsR3 hl
 rw [leastF_n hx] at e0 e1 e2 e3
 generalize leastF x = y at *
 have H3 := hide (below2 hb)
 obtain ⟨hc, hf⟩ := bcell hb
 have hs : w.heap.size + 1 < w1.heap.size := by have := hb.size; simp at this; omega
 clear hb hl
 go_wp2
 refine bodyPost_ret (v := w4 (x.n % Pm)) (by simp [results, Tryz.results121, go_sem, hc, hs]) rfl ⟨rfl, ?_⟩
 exact (set4 (B := w.heap.size) (g := w.heap.size + 1) H3.out (by omega)).alloc (by simp; omega) _
theorem bytes_any (x : E5) (w : World) (hx : x.Ok) :
  Cs 65 #[x.v] w (.string (lebytes (x.n % Pm))) := by
 go_enter Tryz.func65, Tryz.ntmps65
 go_wp2_with fail
 refine (words_any x _ hx).mono ?_
 rintro _ w1 ⟨rfl, hb⟩
 have H3 := below1 hb
 clear hb
 go_wp2_with fail
 refine (text_any _ _ _ _ _).mono ?_
 rintro _ w2 ⟨rfl, hb⟩
 have H4 := H3.trans (hb.mono H3.size)
 clear hb H3
 rw [show bs (digs (x.n % Pm % 18446744073709551616) ++ digs (x.n % Pm / 18446744073709551616 % 18446744073709551616) ++ digs (x.n % Pm / 340282366920938463463374607431768211456 % 18446744073709551616) ++ digs (x.n % Pm / 6277101735386680763835789423207666416102355444464034512896 % 18446744073709551616)) = lebytes (x.n % Pm) from rfl]
 go_wp2
 go_ret
 exact ⟨rfl, H4⟩
def by16 (f : Nat → Int) (i : Nat) : Int := f (i / 2) / 256 ^ (i % 2) % 256
def rb (f : Nat → Int) (k : Nat) : List Int := (List.range 32).map fun i => if i < k then by16 f i else 0
def Byt (W : World) (g : Nat) (l : List Int) : Prop := W.heap[g]? = some (.cells (l.map (Value.int .u8)).toArray 5 (0, 0))
theorem Byt.cell {W : World} {g : Nat} {l : List Int} (h : Byt W g l) {i : Nat} (hi : i < l.length) : ∃ v, W.cell? ⟨g, i, none⟩ = some v := by
 rw [cell_of_row W g i _ 5 (0, 0) h]
 simp [hi]
theorem Byt.free {W : World} {g : Nat} {l : List Int} (h : Byt W g l) (i : Nat) : W.frozen? ⟨g, i, none⟩ = false := frozen_of_row W g i _ 5 h
theorem Byt.set {W : World} {g : Nat} {l : List Int} (h : Byt W g l) (k : Nat) (v : Int) : Byt (W.setCell ⟨g, k, none⟩ (.int .u8 v)) g (l.set k v) := by
 unfold Byt
 rw [heap_setCell_same W g k _ 5 _ h]
 simp [List.map_set]
theorem rb_len (f : Nat → Int) (k : Nat) : (rb f k).length = 32 := by simp [rb]
theorem rb_set (f : Nat → Int) (k : Nat) : (rb f k).set k (by16 f k) = rb f (k + 1) := by
 apply List.ext_getElem?
 intro i
 by_cases hi : i < 32
 ·by_cases h : k = i
  ·subst h
   rw [List.getElem?_set_self (by rw [rb_len]; exact hi)]
   simp [rb, hi]
  ·rw [List.getElem?_set_ne h]
   simp only [rb, List.getElem?_map, List.getElem?_range hi, Option.map_some]
   congr 1
   by_cases h2 : i < k
   ·rw [if_pos h2, if_pos (by omega)]
   ·rw [if_neg h2, if_neg (by omega)]
 ·rw [List.getElem?_eq_none (by simp [rb]; omega), List.getElem?_eq_none (by simp [rb]; omega)]
theorem rbytes_any (f : Nat → Int) (w : World) (hf : Dig f 16) :
  Cs 16 #[.agg (arr 16 f)] w (.string (bs (rb f 32))) := by
 have hmk : ∀ w, (Instr.makeSlice 32 (.int .i64 32) (.int .i64 32)).run Tryz.prog w = .ok (.slice (some ⟨w.heap.size, 0, none⟩) 32 32) (w.alloc (.cells #[Value.int .u8 0, Value.int .u8 0, Value.int .u8 0, Value.int .u8 0, Value.int .u8 0, Value.int .u8 0, Value.int .u8 0, Value.int .u8 0, Value.int .u8 0, Value.int .u8 0, Value.int .u8 0, Value.int .u8 0, Value.int .u8 0, Value.int .u8 0, Value.int .u8 0, Value.int .u8 0, Value.int .u8 0, Value.int .u8 0, Value.int .u8 0, Value.int .u8 0, Value.int .u8 0, Value.int .u8 0, Value.int .u8 0, Value.int .u8 0, Value.int .u8 0, Value.int .u8 0, Value.int .u8 0, Value.int .u8 0, Value.int .u8 0, Value.int .u8 0, Value.int .u8 0, Value.int .u8 0] 5)) := fun _ => by kernel_rfl
 go_enter Tryz.func16, Tryz.ntmps16
 go_wp2
 clear hmk
 have R1 : Row ((w.alloc (.cells (arr 16 f) 36)).alloc (.cells #[Value.int .u8 0, Value.int .u8 0, Value.int .u8 0, Value.int .u8 0, Value.int .u8 0, Value.int .u8 0, Value.int .u8 0, Value.int .u8 0, Value.int .u8 0, Value.int .u8 0, Value.int .u8 0, Value.int .u8 0, Value.int .u8 0, Value.int .u8 0, Value.int .u8 0, Value.int .u8 0, Value.int .u8 0, Value.int .u8 0, Value.int .u8 0, Value.int .u8 0, Value.int .u8 0, Value.int .u8 0, Value.int .u8 0, Value.int .u8 0, Value.int .u8 0, Value.int .u8 0, Value.int .u8 0, Value.int .u8 0, Value.int .u8 0, Value.int .u8 0, Value.int .u8 0, Value.int .u8 0] 5)) w.heap.size 36 16 f := (Row.new w 36 16 f).alloc _
 have R2 : Byt ((w.alloc (.cells (arr 16 f) 36)).alloc (.cells #[Value.int .u8 0, Value.int .u8 0, Value.int .u8 0, Value.int .u8 0, Value.int .u8 0, Value.int .u8 0, Value.int .u8 0, Value.int .u8 0, Value.int .u8 0, Value.int .u8 0, Value.int .u8 0, Value.int .u8 0, Value.int .u8 0, Value.int .u8 0, Value.int .u8 0, Value.int .u8 0, Value.int .u8 0, Value.int .u8 0, Value.int .u8 0, Value.int .u8 0, Value.int .u8 0, Value.int .u8 0, Value.int .u8 0, Value.int .u8 0, Value.int .u8 0, Value.int .u8 0, Value.int .u8 0, Value.int .u8 0, Value.int .u8 0, Value.int .u8 0, Value.int .u8 0, Value.int .u8 0] 5)) (w.heap.size + 1) (rb f 0) := heap_alloc2_new w _ _
 have O : Below w.heap.size w ((w.alloc (.cells (arr 16 f) 36)).alloc (.cells #[Value.int .u8 0, Value.int .u8 0, Value.int .u8 0, Value.int .u8 0, Value.int .u8 0, Value.int .u8 0, Value.int .u8 0, Value.int .u8 0, Value.int .u8 0, Value.int .u8 0, Value.int .u8 0, Value.int .u8 0, Value.int .u8 0, Value.int .u8 0, Value.int .u8 0, Value.int .u8 0, Value.int .u8 0, Value.int .u8 0, Value.int .u8 0, Value.int .u8 0, Value.int .u8 0, Value.int .u8 0, Value.int .u8 0, Value.int .u8 0, Value.int .u8 0, Value.int .u8 0, Value.int .u8 0, Value.int .u8 0, Value.int .u8 0, Value.int .u8 0, Value.int .u8 0, Value.int .u8 0] 5)) := ((Below.refl _ _).alloc (Nat.le_refl _) _).alloc (by simp) _
 generalize (w.alloc (.cells (arr 16 f) 36)).alloc (.cells #[Value.int .u8 0, Value.int .u8 0, Value.int .u8 0, Value.int .u8 0, Value.int .u8 0, Value.int .u8 0, Value.int .u8 0, Value.int .u8 0, Value.int .u8 0, Value.int .u8 0, Value.int .u8 0, Value.int .u8 0, Value.int .u8 0, Value.int .u8 0, Value.int .u8 0, Value.int .u8 0, Value.int .u8 0, Value.int .u8 0, Value.int .u8 0, Value.int .u8 0, Value.int .u8 0, Value.int .u8 0, Value.int .u8 0, Value.int .u8 0, Value.int .u8 0, Value.int .u8 0, Value.int .u8 0, Value.int .u8 0, Value.int .u8 0, Value.int .u8 0, Value.int .u8 0, Value.int .u8 0] 5) = W at R1 R2 O ⊢
 go_loopw [4] (fun i wr => ∃ k : Nat, k ≤ 32 ∧ i = .int .i64 k ∧ Row wr w.heap.size 36 16 f ∧ Byt wr (w.heap.size + 1) (rb f k) ∧ Below w.heap.size w wr) (fun i _ => 32 - (intOf i).toNat)
 case atStart => exact ⟨0, by omega, rfl, R1, R2, O⟩
 case round =>
  clear R1 R2 O
  obtain ⟨k, hk, rfl, R1, R2, O⟩ := hrel
  by_cases hlt : k < 32
  ·have hc : k = 0 ∨ k = 1 ∨ k = 2 ∨ k = 3 ∨ k = 4 ∨ k = 5 ∨ k = 6 ∨ k = 7 ∨ k = 8 ∨ k = 9 ∨ k = 10 ∨ k = 11 ∨ k = 12 ∨ k = 13 ∨ k = 14 ∨ k = 15 ∨ k = 16 ∨ k = 17 ∨ k = 18 ∨ k = 19 ∨ k = 20 ∨ k = 21 ∨ k = 22 ∨ k = 23 ∨ k = 24 ∨ k = 25 ∨ k = 26 ∨ k = 27 ∨ k = 28 ∨ k = 29 ∨ k = 30 ∨ k = 31 := by omega
   clear hlt hk
   rcases hc with rfl | rfl | rfl | rfl | rfl | rfl | rfl | rfl | rfl | rfl | rfl | rfl | rfl | rfl | rfl | rfl | rfl | rfl | rfl | rfl | rfl | rfl | rfl | rfl | rfl | rfl | rfl | rfl | rfl | rfl | rfl | rfl
   ·have c := R1.cell (i := 0) (by omega)
    obtain ⟨a0, a1⟩ := hf 0 (by omega)
    obtain ⟨v, d⟩ := R2.cell (i := 0) (by rw [rb_len]; omega)
    have e := R2.free 0
    have HV := hide (show by16 f 0 = f 0 % 256 by simp [by16])
    have RR := hide (R2.set 0 (by16 f 0))
    have R1' := hide (R1.other (a := ⟨w.heap.size + 1, 0, none⟩) (by simp) (.int .u8 (by16 f 0)))
    have O' := hide (O.setCell (p := ⟨w.heap.size + 1, 0, none⟩) (by simp) (.int .u8 (by16 f 0)))
    clear R1 R2 O
    go_wp2
    rw [← HV.out]
    first | exact ⟨⟨1, by omega, rfl, R1'.out, by rw [← rb_set]; exact RR.out, O'.out⟩, by simp [intOf]⟩ | (go_roundw; (case rel => exact ⟨1, by omega, rfl, R1'.out, by rw [← rb_set]; exact RR.out, O'.out⟩); (case measure => simp [intOf]))
   ·have c := R1.cell (i := 0) (by omega)
    obtain ⟨a0, a1⟩ := hf 0 (by omega)
    obtain ⟨v, d⟩ := R2.cell (i := 1) (by rw [rb_len]; omega)
    have e := R2.free 1
    have HV := hide (show by16 f 1 = f 0 / 256 by rw [show by16 f 1 = f 0 / 256 % 256 by simp [by16]]; omega)
    have RR := hide (R2.set 1 (by16 f 1))
    have R1' := hide (R1.other (a := ⟨w.heap.size + 1, 1, none⟩) (by simp) (.int .u8 (by16 f 1)))
    have O' := hide (O.setCell (p := ⟨w.heap.size + 1, 1, none⟩) (by simp) (.int .u8 (by16 f 1)))
    clear R1 R2 O
    go_wp2
    rw [← HV.out]
    first | exact ⟨⟨2, by omega, rfl, R1'.out, by rw [← rb_set]; exact RR.out, O'.out⟩, by simp [intOf]⟩ | (go_roundw; (case rel => exact ⟨2, by omega, rfl, R1'.out, by rw [← rb_set]; exact RR.out, O'.out⟩); (case measure => simp [intOf]))
   ·have c := R1.cell (i := 1) (by omega)
    obtain ⟨a0, a1⟩ := hf 1 (by omega)
    obtain ⟨v, d⟩ := R2.cell (i := 2) (by rw [rb_len]; omega)
    have e := R2.free 2
    have HV := hide (show by16 f 2 = f 1 % 256 by simp [by16])
    have RR := hide (R2.set 2 (by16 f 2))
    have R1' := hide (R1.other (a := ⟨w.heap.size + 1, 2, none⟩) (by simp) (.int .u8 (by16 f 2)))
    have O' := hide (O.setCell (p := ⟨w.heap.size + 1, 2, none⟩) (by simp) (.int .u8 (by16 f 2)))
    clear R1 R2 O
    go_wp2
    rw [← HV.out]
    first | exact ⟨⟨3, by omega, rfl, R1'.out, by rw [← rb_set]; exact RR.out, O'.out⟩, by simp [intOf]⟩ | (go_roundw; (case rel => exact ⟨3, by omega, rfl, R1'.out, by rw [← rb_set]; exact RR.out, O'.out⟩); (case measure => simp [intOf]))
   ·have c := R1.cell (i := 1) (by omega)
    obtain ⟨a0, a1⟩ := hf 1 (by omega)
    obtain ⟨v, d⟩ := R2.cell (i := 3) (by rw [rb_len]; omega)
    have e := R2.free 3
    have HV := hide (show by16 f 3 = f 1 / 256 by rw [show by16 f 3 = f 1 / 256 % 256 by simp [by16]]; omega)
    have RR := hide (R2.set 3 (by16 f 3))
    have R1' := hide (R1.other (a := ⟨w.heap.size + 1, 3, none⟩) (by simp) (.int .u8 (by16 f 3)))
    have O' := hide (O.setCell (p := ⟨w.heap.size + 1, 3, none⟩) (by simp) (.int .u8 (by16 f 3)))
    clear R1 R2 O
    go_wp2
    rw [← HV.out]
    first | exact ⟨⟨4, by omega, rfl, R1'.out, by rw [← rb_set]; exact RR.out, O'.out⟩, by simp [intOf]⟩ | (go_roundw; (case rel => exact ⟨4, by omega, rfl, R1'.out, by rw [← rb_set]; exact RR.out, O'.out⟩); (case measure => simp [intOf]))
   ·have c := R1.cell (i := 2) (by omega)
    obtain ⟨a0, a1⟩ := hf 2 (by omega)
    obtain ⟨v, d⟩ := R2.cell (i := 4) (by rw [rb_len]; omega)
    have e := R2.free 4
    have HV := hide (show by16 f 4 = f 2 % 256 by simp [by16])
    have RR := hide (R2.set 4 (by16 f 4))
    have R1' := hide (R1.other (a := ⟨w.heap.size + 1, 4, none⟩) (by simp) (.int .u8 (by16 f 4)))
    have O' := hide (O.setCell (p := ⟨w.heap.size + 1, 4, none⟩) (by simp) (.int .u8 (by16 f 4)))
    clear R1 R2 O
    go_wp2
    rw [← HV.out]
    first | exact ⟨⟨5, by omega, rfl, R1'.out, by rw [← rb_set]; exact RR.out, O'.out⟩, by simp [intOf]⟩ | (go_roundw; (case rel => exact ⟨5, by omega, rfl, R1'.out, by rw [← rb_set]; exact RR.out, O'.out⟩); (case measure => simp [intOf]))
   ·have c := R1.cell (i := 2) (by omega)
    obtain ⟨a0, a1⟩ := hf 2 (by omega)
    obtain ⟨v, d⟩ := R2.cell (i := 5) (by rw [rb_len]; omega)
    have e := R2.free 5
    have HV := hide (show by16 f 5 = f 2 / 256 by rw [show by16 f 5 = f 2 / 256 % 256 by simp [by16]]; omega)
    have RR := hide (R2.set 5 (by16 f 5))
    have R1' := hide (R1.other (a := ⟨w.heap.size + 1, 5, none⟩) (by simp) (.int .u8 (by16 f 5)))
    have O' := hide (O.setCell (p := ⟨w.heap.size + 1, 5, none⟩) (by simp) (.int .u8 (by16 f 5)))
    clear R1 R2 O
    go_wp2
    rw [← HV.out]
    first | exact ⟨⟨6, by omega, rfl, R1'.out, by rw [← rb_set]; exact RR.out, O'.out⟩, by simp [intOf]⟩ | (go_roundw; (case rel => exact ⟨6, by omega, rfl, R1'.out, by rw [← rb_set]; exact RR.out, O'.out⟩); (case measure => simp [intOf]))
   ·have c := R1.cell (i := 3) (by omega)
    obtain ⟨a0, a1⟩ := hf 3 (by omega)
    obtain ⟨v, d⟩ := R2.cell (i := 6) (by rw [rb_len]; omega)
    have e := R2.free 6
    have HV := hide (show by16 f 6 = f 3 % 256 by simp [by16])
    have RR := hide (R2.set 6 (by16 f 6))
    have R1' := hide (R1.other (a := ⟨w.heap.size + 1, 6, none⟩) (by simp) (.int .u8 (by16 f 6)))
    have O' := hide (O.setCell (p := ⟨w.heap.size + 1, 6, none⟩) (by simp) (.int .u8 (by16 f 6)))
    clear R1 R2 O
    go_wp2
    rw [← HV.out]
    first | exact ⟨⟨7, by omega, rfl, R1'.out, by rw [← rb_set]; exact RR.out, O'.out⟩, by simp [intOf]⟩ | (go_roundw; (case rel => exact ⟨7, by omega, rfl, R1'.out, by rw [← rb_set]; exact RR.out, O'.out⟩); (case measure => simp [intOf]))
   ·have c := R1.cell (i := 3) (by omega)
    obtain ⟨a0, a1⟩ := hf 3 (by omega)
    obtain ⟨v, d⟩ := R2.cell (i := 7) (by rw [rb_len]; omega)
    have e := R2.free 7
    have HV := hide (show by16 f 7 = f 3 / 256 by rw [show by16 f 7 = f 3 / 256 % 256 by simp [by16]]; omega)
    have RR := hide (R2.set 7 (by16 f 7))
    have R1' := hide (R1.other (a := ⟨w.heap.size + 1, 7, none⟩) (by simp) (.int .u8 (by16 f 7)))
    have O' := hide (O.setCell (p := ⟨w.heap.size + 1, 7, none⟩) (by simp) (.int .u8 (by16 f 7)))
    clear R1 R2 O
    go_wp2
    rw [← HV.out]
    first | exact ⟨⟨8, by omega, rfl, R1'.out, by rw [← rb_set]; exact RR.out, O'.out⟩, by simp [intOf]⟩ | (go_roundw; (case rel => exact ⟨8, by omega, rfl, R1'.out, by rw [← rb_set]; exact RR.out, O'.out⟩); (case measure => simp [intOf]))
   ·have c := R1.cell (i := 4) (by omega)
    obtain ⟨a0, a1⟩ := hf 4 (by omega)
    obtain ⟨v, d⟩ := R2.cell (i := 8) (by rw [rb_len]; omega)
    have e := R2.free 8
    have HV := hide (show by16 f 8 = f 4 % 256 by simp [by16])
    have RR := hide (R2.set 8 (by16 f 8))
    have R1' := hide (R1.other (a := ⟨w.heap.size + 1, 8, none⟩) (by simp) (.int .u8 (by16 f 8)))
    have O' := hide (O.setCell (p := ⟨w.heap.size + 1, 8, none⟩) (by simp) (.int .u8 (by16 f 8)))
    clear R1 R2 O
    go_wp2
    rw [← HV.out]
    first | exact ⟨⟨9, by omega, rfl, R1'.out, by rw [← rb_set]; exact RR.out, O'.out⟩, by simp [intOf]⟩ | (go_roundw; (case rel => exact ⟨9, by omega, rfl, R1'.out, by rw [← rb_set]; exact RR.out, O'.out⟩); (case measure => simp [intOf]))
   ·have c := R1.cell (i := 4) (by omega)
    obtain ⟨a0, a1⟩ := hf 4 (by omega)
    obtain ⟨v, d⟩ := R2.cell (i := 9) (by rw [rb_len]; omega)
    have e := R2.free 9
    have HV := hide (show by16 f 9 = f 4 / 256 by rw [show by16 f 9 = f 4 / 256 % 256 by simp [by16]]; omega)
    have RR := hide (R2.set 9 (by16 f 9))
    have R1' := hide (R1.other (a := ⟨w.heap.size + 1, 9, none⟩) (by simp) (.int .u8 (by16 f 9)))
    have O' := hide (O.setCell (p := ⟨w.heap.size + 1, 9, none⟩) (by simp) (.int .u8 (by16 f 9)))
    clear R1 R2 O
    go_wp2
    rw [← HV.out]
    first | exact ⟨⟨10, by omega, rfl, R1'.out, by rw [← rb_set]; exact RR.out, O'.out⟩, by simp [intOf]⟩ | (go_roundw; (case rel => exact ⟨10, by omega, rfl, R1'.out, by rw [← rb_set]; exact RR.out, O'.out⟩); (case measure => simp [intOf]))
   ·have c := R1.cell (i := 5) (by omega)
    obtain ⟨a0, a1⟩ := hf 5 (by omega)
    obtain ⟨v, d⟩ := R2.cell (i := 10) (by rw [rb_len]; omega)
    have e := R2.free 10
    have HV := hide (show by16 f 10 = f 5 % 256 by simp [by16])
    have RR := hide (R2.set 10 (by16 f 10))
    have R1' := hide (R1.other (a := ⟨w.heap.size + 1, 10, none⟩) (by simp) (.int .u8 (by16 f 10)))
    have O' := hide (O.setCell (p := ⟨w.heap.size + 1, 10, none⟩) (by simp) (.int .u8 (by16 f 10)))
    clear R1 R2 O
    go_wp2
    rw [← HV.out]
    first | exact ⟨⟨11, by omega, rfl, R1'.out, by rw [← rb_set]; exact RR.out, O'.out⟩, by simp [intOf]⟩ | (go_roundw; (case rel => exact ⟨11, by omega, rfl, R1'.out, by rw [← rb_set]; exact RR.out, O'.out⟩); (case measure => simp [intOf]))
   ·have c := R1.cell (i := 5) (by omega)
    obtain ⟨a0, a1⟩ := hf 5 (by omega)
    obtain ⟨v, d⟩ := R2.cell (i := 11) (by rw [rb_len]; omega)
    have e := R2.free 11
    have HV := hide (show by16 f 11 = f 5 / 256 by rw [show by16 f 11 = f 5 / 256 % 256 by simp [by16]]; omega)
    have RR := hide (R2.set 11 (by16 f 11))
    have R1' := hide (R1.other (a := ⟨w.heap.size + 1, 11, none⟩) (by simp) (.int .u8 (by16 f 11)))
    have O' := hide (O.setCell (p := ⟨w.heap.size + 1, 11, none⟩) (by simp) (.int .u8 (by16 f 11)))
    clear R1 R2 O
    go_wp2
    rw [← HV.out]
    first | exact ⟨⟨12, by omega, rfl, R1'.out, by rw [← rb_set]; exact RR.out, O'.out⟩, by simp [intOf]⟩ | (go_roundw; (case rel => exact ⟨12, by omega, rfl, R1'.out, by rw [← rb_set]; exact RR.out, O'.out⟩); (case measure => simp [intOf]))
   ·have c := R1.cell (i := 6) (by omega)
    obtain ⟨a0, a1⟩ := hf 6 (by omega)
    obtain ⟨v, d⟩ := R2.cell (i := 12) (by rw [rb_len]; omega)
    have e := R2.free 12
    have HV := hide (show by16 f 12 = f 6 % 256 by simp [by16])
    have RR := hide (R2.set 12 (by16 f 12))
    have R1' := hide (R1.other (a := ⟨w.heap.size + 1, 12, none⟩) (by simp) (.int .u8 (by16 f 12)))
    have O' := hide (O.setCell (p := ⟨w.heap.size + 1, 12, none⟩) (by simp) (.int .u8 (by16 f 12)))
    clear R1 R2 O
    go_wp2
    rw [← HV.out]
    first | exact ⟨⟨13, by omega, rfl, R1'.out, by rw [← rb_set]; exact RR.out, O'.out⟩, by simp [intOf]⟩ | (go_roundw; (case rel => exact ⟨13, by omega, rfl, R1'.out, by rw [← rb_set]; exact RR.out, O'.out⟩); (case measure => simp [intOf]))
   ·have c := R1.cell (i := 6) (by omega)
    obtain ⟨a0, a1⟩ := hf 6 (by omega)
    obtain ⟨v, d⟩ := R2.cell (i := 13) (by rw [rb_len]; omega)
    have e := R2.free 13
    have HV := hide (show by16 f 13 = f 6 / 256 by rw [show by16 f 13 = f 6 / 256 % 256 by simp [by16]]; omega)
    have RR := hide (R2.set 13 (by16 f 13))
    have R1' := hide (R1.other (a := ⟨w.heap.size + 1, 13, none⟩) (by simp) (.int .u8 (by16 f 13)))
    have O' := hide (O.setCell (p := ⟨w.heap.size + 1, 13, none⟩) (by simp) (.int .u8 (by16 f 13)))
    clear R1 R2 O
    go_wp2
    rw [← HV.out]
    first | exact ⟨⟨14, by omega, rfl, R1'.out, by rw [← rb_set]; exact RR.out, O'.out⟩, by simp [intOf]⟩ | (go_roundw; (case rel => exact ⟨14, by omega, rfl, R1'.out, by rw [← rb_set]; exact RR.out, O'.out⟩); (case measure => simp [intOf]))
   ·have c := R1.cell (i := 7) (by omega)
    obtain ⟨a0, a1⟩ := hf 7 (by omega)
    obtain ⟨v, d⟩ := R2.cell (i := 14) (by rw [rb_len]; omega)
    have e := R2.free 14
    have HV := hide (show by16 f 14 = f 7 % 256 by simp [by16])
    have RR := hide (R2.set 14 (by16 f 14))
    have R1' := hide (R1.other (a := ⟨w.heap.size + 1, 14, none⟩) (by simp) (.int .u8 (by16 f 14)))
    have O' := hide (O.setCell (p := ⟨w.heap.size + 1, 14, none⟩) (by simp) (.int .u8 (by16 f 14)))
    clear R1 R2 O
    go_wp2
    rw [← HV.out]
    first | exact ⟨⟨15, by omega, rfl, R1'.out, by rw [← rb_set]; exact RR.out, O'.out⟩, by simp [intOf]⟩ | (go_roundw; (case rel => exact ⟨15, by omega, rfl, R1'.out, by rw [← rb_set]; exact RR.out, O'.out⟩); (case measure => simp [intOf]))
   ·have c := R1.cell (i := 7) (by omega)
    obtain ⟨a0, a1⟩ := hf 7 (by omega)
    obtain ⟨v, d⟩ := R2.cell (i := 15) (by rw [rb_len]; omega)
    have e := R2.free 15
    have HV := hide (show by16 f 15 = f 7 / 256 by rw [show by16 f 15 = f 7 / 256 % 256 by simp [by16]]; omega)
    have RR := hide (R2.set 15 (by16 f 15))
    have R1' := hide (R1.other (a := ⟨w.heap.size + 1, 15, none⟩) (by simp) (.int .u8 (by16 f 15)))
    have O' := hide (O.setCell (p := ⟨w.heap.size + 1, 15, none⟩) (by simp) (.int .u8 (by16 f 15)))
    clear R1 R2 O
    go_wp2
    rw [← HV.out]
    first | exact ⟨⟨16, by omega, rfl, R1'.out, by rw [← rb_set]; exact RR.out, O'.out⟩, by simp [intOf]⟩ | (go_roundw; (case rel => exact ⟨16, by omega, rfl, R1'.out, by rw [← rb_set]; exact RR.out, O'.out⟩); (case measure => simp [intOf]))
   ·have c := R1.cell (i := 8) (by omega)
    obtain ⟨a0, a1⟩ := hf 8 (by omega)
    obtain ⟨v, d⟩ := R2.cell (i := 16) (by rw [rb_len]; omega)
    have e := R2.free 16
    have HV := hide (show by16 f 16 = f 8 % 256 by simp [by16])
    have RR := hide (R2.set 16 (by16 f 16))
    have R1' := hide (R1.other (a := ⟨w.heap.size + 1, 16, none⟩) (by simp) (.int .u8 (by16 f 16)))
    have O' := hide (O.setCell (p := ⟨w.heap.size + 1, 16, none⟩) (by simp) (.int .u8 (by16 f 16)))
    clear R1 R2 O
    go_wp2
    rw [← HV.out]
    first | exact ⟨⟨17, by omega, rfl, R1'.out, by rw [← rb_set]; exact RR.out, O'.out⟩, by simp [intOf]⟩ | (go_roundw; (case rel => exact ⟨17, by omega, rfl, R1'.out, by rw [← rb_set]; exact RR.out, O'.out⟩); (case measure => simp [intOf]))
   ·have c := R1.cell (i := 8) (by omega)
    obtain ⟨a0, a1⟩ := hf 8 (by omega)
    obtain ⟨v, d⟩ := R2.cell (i := 17) (by rw [rb_len]; omega)
    have e := R2.free 17
    have HV := hide (show by16 f 17 = f 8 / 256 by rw [show by16 f 17 = f 8 / 256 % 256 by simp [by16]]; omega)
    have RR := hide (R2.set 17 (by16 f 17))
    have R1' := hide (R1.other (a := ⟨w.heap.size + 1, 17, none⟩) (by simp) (.int .u8 (by16 f 17)))
    have O' := hide (O.setCell (p := ⟨w.heap.size + 1, 17, none⟩) (by simp) (.int .u8 (by16 f 17)))
    clear R1 R2 O
    go_wp2
    rw [← HV.out]
    first | exact ⟨⟨18, by omega, rfl, R1'.out, by rw [← rb_set]; exact RR.out, O'.out⟩, by simp [intOf]⟩ | (go_roundw; (case rel => exact ⟨18, by omega, rfl, R1'.out, by rw [← rb_set]; exact RR.out, O'.out⟩); (case measure => simp [intOf]))
   ·have c := R1.cell (i := 9) (by omega)
    obtain ⟨a0, a1⟩ := hf 9 (by omega)
    obtain ⟨v, d⟩ := R2.cell (i := 18) (by rw [rb_len]; omega)
    have e := R2.free 18
    have HV := hide (show by16 f 18 = f 9 % 256 by simp [by16])
    have RR := hide (R2.set 18 (by16 f 18))
    have R1' := hide (R1.other (a := ⟨w.heap.size + 1, 18, none⟩) (by simp) (.int .u8 (by16 f 18)))
    have O' := hide (O.setCell (p := ⟨w.heap.size + 1, 18, none⟩) (by simp) (.int .u8 (by16 f 18)))
    clear R1 R2 O
    go_wp2
    rw [← HV.out]
    first | exact ⟨⟨19, by omega, rfl, R1'.out, by rw [← rb_set]; exact RR.out, O'.out⟩, by simp [intOf]⟩ | (go_roundw; (case rel => exact ⟨19, by omega, rfl, R1'.out, by rw [← rb_set]; exact RR.out, O'.out⟩); (case measure => simp [intOf]))
   ·have c := R1.cell (i := 9) (by omega)
    obtain ⟨a0, a1⟩ := hf 9 (by omega)
    obtain ⟨v, d⟩ := R2.cell (i := 19) (by rw [rb_len]; omega)
    have e := R2.free 19
    have HV := hide (show by16 f 19 = f 9 / 256 by rw [show by16 f 19 = f 9 / 256 % 256 by simp [by16]]; omega)
    have RR := hide (R2.set 19 (by16 f 19))
    have R1' := hide (R1.other (a := ⟨w.heap.size + 1, 19, none⟩) (by simp) (.int .u8 (by16 f 19)))
    have O' := hide (O.setCell (p := ⟨w.heap.size + 1, 19, none⟩) (by simp) (.int .u8 (by16 f 19)))
    clear R1 R2 O
    go_wp2
    rw [← HV.out]
    first | exact ⟨⟨20, by omega, rfl, R1'.out, by rw [← rb_set]; exact RR.out, O'.out⟩, by simp [intOf]⟩ | (go_roundw; (case rel => exact ⟨20, by omega, rfl, R1'.out, by rw [← rb_set]; exact RR.out, O'.out⟩); (case measure => simp [intOf]))
   ·have c := R1.cell (i := 10) (by omega)
    obtain ⟨a0, a1⟩ := hf 10 (by omega)
    obtain ⟨v, d⟩ := R2.cell (i := 20) (by rw [rb_len]; omega)
    have e := R2.free 20
    have HV := hide (show by16 f 20 = f 10 % 256 by simp [by16])
    have RR := hide (R2.set 20 (by16 f 20))
    have R1' := hide (R1.other (a := ⟨w.heap.size + 1, 20, none⟩) (by simp) (.int .u8 (by16 f 20)))
    have O' := hide (O.setCell (p := ⟨w.heap.size + 1, 20, none⟩) (by simp) (.int .u8 (by16 f 20)))
    clear R1 R2 O
    go_wp2
    rw [← HV.out]
    first | exact ⟨⟨21, by omega, rfl, R1'.out, by rw [← rb_set]; exact RR.out, O'.out⟩, by simp [intOf]⟩ | (go_roundw; (case rel => exact ⟨21, by omega, rfl, R1'.out, by rw [← rb_set]; exact RR.out, O'.out⟩); (case measure => simp [intOf]))
   ·have c := R1.cell (i := 10) (by omega)
    obtain ⟨a0, a1⟩ := hf 10 (by omega)
    obtain ⟨v, d⟩ := R2.cell (i := 21) (by rw [rb_len]; omega)
    have e := R2.free 21
    have HV := hide (show by16 f 21 = f 10 / 256 by rw [show by16 f 21 = f 10 / 256 % 256 by simp [by16]]; omega)
    have RR := hide (R2.set 21 (by16 f 21))
    have R1' := hide (R1.other (a := ⟨w.heap.size + 1, 21, none⟩) (by simp) (.int .u8 (by16 f 21)))
    have O' := hide (O.setCell (p := ⟨w.heap.size + 1, 21, none⟩) (by simp) (.int .u8 (by16 f 21)))
    clear R1 R2 O
    go_wp2
    rw [← HV.out]
    first | exact ⟨⟨22, by omega, rfl, R1'.out, by rw [← rb_set]; exact RR.out, O'.out⟩, by simp [intOf]⟩ | (go_roundw; (case rel => exact ⟨22, by omega, rfl, R1'.out, by rw [← rb_set]; exact RR.out, O'.out⟩); (case measure => simp [intOf]))
   ·have c := R1.cell (i := 11) (by omega)
    obtain ⟨a0, a1⟩ := hf 11 (by omega)
    obtain ⟨v, d⟩ := R2.cell (i := 22) (by rw [rb_len]; omega)
    have e := R2.free 22
    have HV := hide (show by16 f 22 = f 11 % 256 by simp [by16])
    have RR := hide (R2.set 22 (by16 f 22))
    have R1' := hide (R1.other (a := ⟨w.heap.size + 1, 22, none⟩) (by simp) (.int .u8 (by16 f 22)))
    have O' := hide (O.setCell (p := ⟨w.heap.size + 1, 22, none⟩) (by simp) (.int .u8 (by16 f 22)))
    clear R1 R2 O
    go_wp2
    rw [← HV.out]
    first | exact ⟨⟨23, by omega, rfl, R1'.out, by rw [← rb_set]; exact RR.out, O'.out⟩, by simp [intOf]⟩ | (go_roundw; (case rel => exact ⟨23, by omega, rfl, R1'.out, by rw [← rb_set]; exact RR.out, O'.out⟩); (case measure => simp [intOf]))
   ·have c := R1.cell (i := 11) (by omega)
    obtain ⟨a0, a1⟩ := hf 11 (by omega)
    obtain ⟨v, d⟩ := R2.cell (i := 23) (by rw [rb_len]; omega)
    have e := R2.free 23
    have HV := hide (show by16 f 23 = f 11 / 256 by rw [show by16 f 23 = f 11 / 256 % 256 by simp [by16]]; omega)
    have RR := hide (R2.set 23 (by16 f 23))
    have R1' := hide (R1.other (a := ⟨w.heap.size + 1, 23, none⟩) (by simp) (.int .u8 (by16 f 23)))
    have O' := hide (O.setCell (p := ⟨w.heap.size + 1, 23, none⟩) (by simp) (.int .u8 (by16 f 23)))
    clear R1 R2 O
    go_wp2
    rw [← HV.out]
    first | exact ⟨⟨24, by omega, rfl, R1'.out, by rw [← rb_set]; exact RR.out, O'.out⟩, by simp [intOf]⟩ | (go_roundw; (case rel => exact ⟨24, by omega, rfl, R1'.out, by rw [← rb_set]; exact RR.out, O'.out⟩); (case measure => simp [intOf]))
   ·have c := R1.cell (i := 12) (by omega)
    obtain ⟨a0, a1⟩ := hf 12 (by omega)
    obtain ⟨v, d⟩ := R2.cell (i := 24) (by rw [rb_len]; omega)
    have e := R2.free 24
    have HV := hide (show by16 f 24 = f 12 % 256 by simp [by16])
    have RR := hide (R2.set 24 (by16 f 24))
    have R1' := hide (R1.other (a := ⟨w.heap.size + 1, 24, none⟩) (by simp) (.int .u8 (by16 f 24)))
    have O' := hide (O.setCell (p := ⟨w.heap.size + 1, 24, none⟩) (by simp) (.int .u8 (by16 f 24)))
    clear R1 R2 O
    go_wp2
    rw [← HV.out]
    first | exact ⟨⟨25, by omega, rfl, R1'.out, by rw [← rb_set]; exact RR.out, O'.out⟩, by simp [intOf]⟩ | (go_roundw; (case rel => exact ⟨25, by omega, rfl, R1'.out, by rw [← rb_set]; exact RR.out, O'.out⟩); (case measure => simp [intOf]))
   ·have c := R1.cell (i := 12) (by omega)
    obtain ⟨a0, a1⟩ := hf 12 (by omega)
    obtain ⟨v, d⟩ := R2.cell (i := 25) (by rw [rb_len]; omega)
    have e := R2.free 25
    have HV := hide (show by16 f 25 = f 12 / 256 by rw [show by16 f 25 = f 12 / 256 % 256 by simp [by16]]; omega)
    have RR := hide (R2.set 25 (by16 f 25))
    have R1' := hide (R1.other (a := ⟨w.heap.size + 1, 25, none⟩) (by simp) (.int .u8 (by16 f 25)))
    have O' := hide (O.setCell (p := ⟨w.heap.size + 1, 25, none⟩) (by simp) (.int .u8 (by16 f 25)))
    clear R1 R2 O
    go_wp2
    rw [← HV.out]
    first | exact ⟨⟨26, by omega, rfl, R1'.out, by rw [← rb_set]; exact RR.out, O'.out⟩, by simp [intOf]⟩ | (go_roundw; (case rel => exact ⟨26, by omega, rfl, R1'.out, by rw [← rb_set]; exact RR.out, O'.out⟩); (case measure => simp [intOf]))
   ·have c := R1.cell (i := 13) (by omega)
    obtain ⟨a0, a1⟩ := hf 13 (by omega)
    obtain ⟨v, d⟩ := R2.cell (i := 26) (by rw [rb_len]; omega)
    have e := R2.free 26
    have HV := hide (show by16 f 26 = f 13 % 256 by simp [by16])
    have RR := hide (R2.set 26 (by16 f 26))
    have R1' := hide (R1.other (a := ⟨w.heap.size + 1, 26, none⟩) (by simp) (.int .u8 (by16 f 26)))
    have O' := hide (O.setCell (p := ⟨w.heap.size + 1, 26, none⟩) (by simp) (.int .u8 (by16 f 26)))
    clear R1 R2 O
    go_wp2
    rw [← HV.out]
    first | exact ⟨⟨27, by omega, rfl, R1'.out, by rw [← rb_set]; exact RR.out, O'.out⟩, by simp [intOf]⟩ | (go_roundw; (case rel => exact ⟨27, by omega, rfl, R1'.out, by rw [← rb_set]; exact RR.out, O'.out⟩); (case measure => simp [intOf]))
   ·have c := R1.cell (i := 13) (by omega)
    obtain ⟨a0, a1⟩ := hf 13 (by omega)
    obtain ⟨v, d⟩ := R2.cell (i := 27) (by rw [rb_len]; omega)
    have e := R2.free 27
    have HV := hide (show by16 f 27 = f 13 / 256 by rw [show by16 f 27 = f 13 / 256 % 256 by simp [by16]]; omega)
    have RR := hide (R2.set 27 (by16 f 27))
    have R1' := hide (R1.other (a := ⟨w.heap.size + 1, 27, none⟩) (by simp) (.int .u8 (by16 f 27)))
    have O' := hide (O.setCell (p := ⟨w.heap.size + 1, 27, none⟩) (by simp) (.int .u8 (by16 f 27)))
    clear R1 R2 O
    go_wp2
    rw [← HV.out]
    first | exact ⟨⟨28, by omega, rfl, R1'.out, by rw [← rb_set]; exact RR.out, O'.out⟩, by simp [intOf]⟩ | (go_roundw; (case rel => exact ⟨28, by omega, rfl, R1'.out, by rw [← rb_set]; exact RR.out, O'.out⟩); (case measure => simp [intOf]))
   ·have c := R1.cell (i := 14) (by omega)
    obtain ⟨a0, a1⟩ := hf 14 (by omega)
    obtain ⟨v, d⟩ := R2.cell (i := 28) (by rw [rb_len]; omega)
    have e := R2.free 28
    have HV := hide (show by16 f 28 = f 14 % 256 by simp [by16])
    have RR := hide (R2.set 28 (by16 f 28))
    have R1' := hide (R1.other (a := ⟨w.heap.size + 1, 28, none⟩) (by simp) (.int .u8 (by16 f 28)))
    have O' := hide (O.setCell (p := ⟨w.heap.size + 1, 28, none⟩) (by simp) (.int .u8 (by16 f 28)))
    clear R1 R2 O
    go_wp2
    rw [← HV.out]
    first | exact ⟨⟨29, by omega, rfl, R1'.out, by rw [← rb_set]; exact RR.out, O'.out⟩, by simp [intOf]⟩ | (go_roundw; (case rel => exact ⟨29, by omega, rfl, R1'.out, by rw [← rb_set]; exact RR.out, O'.out⟩); (case measure => simp [intOf]))
   ·have c := R1.cell (i := 14) (by omega)
    obtain ⟨a0, a1⟩ := hf 14 (by omega)
    obtain ⟨v, d⟩ := R2.cell (i := 29) (by rw [rb_len]; omega)
    have e := R2.free 29
    have HV := hide (show by16 f 29 = f 14 / 256 by rw [show by16 f 29 = f 14 / 256 % 256 by simp [by16]]; omega)
    have RR := hide (R2.set 29 (by16 f 29))
    have R1' := hide (R1.other (a := ⟨w.heap.size + 1, 29, none⟩) (by simp) (.int .u8 (by16 f 29)))
    have O' := hide (O.setCell (p := ⟨w.heap.size + 1, 29, none⟩) (by simp) (.int .u8 (by16 f 29)))
    clear R1 R2 O
    go_wp2
    rw [← HV.out]
    first | exact ⟨⟨30, by omega, rfl, R1'.out, by rw [← rb_set]; exact RR.out, O'.out⟩, by simp [intOf]⟩ | (go_roundw; (case rel => exact ⟨30, by omega, rfl, R1'.out, by rw [← rb_set]; exact RR.out, O'.out⟩); (case measure => simp [intOf]))
   ·have c := R1.cell (i := 15) (by omega)
    obtain ⟨a0, a1⟩ := hf 15 (by omega)
    obtain ⟨v, d⟩ := R2.cell (i := 30) (by rw [rb_len]; omega)
    have e := R2.free 30
    have HV := hide (show by16 f 30 = f 15 % 256 by simp [by16])
    have RR := hide (R2.set 30 (by16 f 30))
    have R1' := hide (R1.other (a := ⟨w.heap.size + 1, 30, none⟩) (by simp) (.int .u8 (by16 f 30)))
    have O' := hide (O.setCell (p := ⟨w.heap.size + 1, 30, none⟩) (by simp) (.int .u8 (by16 f 30)))
    clear R1 R2 O
    go_wp2
    rw [← HV.out]
    first | exact ⟨⟨31, by omega, rfl, R1'.out, by rw [← rb_set]; exact RR.out, O'.out⟩, by simp [intOf]⟩ | (go_roundw; (case rel => exact ⟨31, by omega, rfl, R1'.out, by rw [← rb_set]; exact RR.out, O'.out⟩); (case measure => simp [intOf]))
   ·have c := R1.cell (i := 15) (by omega)
    obtain ⟨a0, a1⟩ := hf 15 (by omega)
    obtain ⟨v, d⟩ := R2.cell (i := 31) (by rw [rb_len]; omega)
    have e := R2.free 31
    have HV := hide (show by16 f 31 = f 15 / 256 by rw [show by16 f 31 = f 15 / 256 % 256 by simp [by16]]; omega)
    have RR := hide (R2.set 31 (by16 f 31))
    have R1' := hide (R1.other (a := ⟨w.heap.size + 1, 31, none⟩) (by simp) (.int .u8 (by16 f 31)))
    have O' := hide (O.setCell (p := ⟨w.heap.size + 1, 31, none⟩) (by simp) (.int .u8 (by16 f 31)))
    clear R1 R2 O
    go_wp2
    rw [← HV.out]
    first | exact ⟨⟨32, by omega, rfl, R1'.out, by rw [← rb_set]; exact RR.out, O'.out⟩, by simp [intOf]⟩ | (go_roundw; (case rel => exact ⟨32, by omega, rfl, R1'.out, by rw [← rb_set]; exact RR.out, O'.out⟩); (case measure => simp [intOf]))
  ·have e : k = 32 := by omega
   subst e
   have hcv := conv_bytes wr (w.heap.size + 1) 5 (rb f 32) 32 32 (0, 0) R2 (rb_len f 32)
   generalize hB : bs (rb f 32) = B at hcv
   have HB := hide hB
   clear hB R1 R2
   go_wp2
   go_ret
   exact ⟨by rw [HB.out]; rfl, O⟩
def ps (t : Nat → Int) (k : Nat) : Nat → Int := fun i => if i < k then lo t i else t i
def fs (u : Nat → Int) (k : Nat) : Nat → Int := fun i => if i < k then u i + 38 * u (16 + i) else if 16 ≤ i ∧ i < 16 + k then 0 else u i
theorem fs_step (u : Nat → Int) (m i : Nat) (hm : m < 16) (hi : i < 32) : upd (upd (fs u m) m (u m + 38 * u (16 + m))) (16 + m) 0 i = fs u (m + 1) i := by
 unfold upd fs
 repeat' split
 all_goals first | omega | (have e : i = m := by omega
                            subst e
                            omega)
theorem fs_last (t : Nat → Int) (i : Nat) (hi : i < 32) : upd (fs (lo t) 16) 0 (lo t 0 + 38 * lo t 16 + 1444 * cf t 32) i = T1 t i := by
 unfold T1 upd fs foldF
 by_cases h1 : i = 0
 ·simp [h1]
 ·rw [if_neg h1, if_neg h1]
  by_cases h2 : i < 16
  ·rw [if_pos h2, if_pos h2]
  ·rw [if_neg h2, if_neg h2, if_pos (by omega)]
theorem rowD {w : World} {g : Nat} {T : TypeId} {n : Nat} {f : Nat → Int} (h : Row w g T n f) : Row w.drew g T n f := h
theorem fin_eq {u : Nat → Int} {N : Int} (hU : Dig u 16) (hC : Cg (S u 16) N) (hlt : S u 16 < Pm) : arr 16 (d16 (N % Pm)) = arr 16 u := by
 have e := hC.emod
 have h0 := (S_bd hU).1
 rw [Int.emod_eq_of_lt h0 hlt] at e
 rw [← e]
 refine arr_congr (S_inj (d16_dig _ 16) hU ?_)
 rw [d16_S _ h0, Int.emod_eq_of_lt h0 (S_bd hU).2]
def meas (W : World) (g : Nat) : Nat :=
 match W.heap[g]? with
 | some (.cells cs _ _) => (S (fun i => intOf (cs.getD i undef)) 16).toNat
 | _ => 0
theorem meas_row {W : World} {g : Nat} {T : TypeId} {f : Nat → Int} (h : Row W g T 16 f) : meas W g = (S f 16).toNat := by
 unfold meas
 rw [h]
 show (S (fun i => intOf ((arr 16 f).getD i undef)) 16).toNat = _
 rw [S_congr (g := f) fun i hi => by
  rw [Array.getD_eq_getD_getElem?, arr_get 16 f i hi]
  rfl]
theorem reduce_any (t0 : Nat → Int) (w : World) (h0 : B48 t0) : Cs 99 #[.agg (arr 32 t0)] w (.agg (arr 16 (d16 (S t0 32 % Pm)))) := by
 go_enter Tryz.func99, Tryz.ntmps99
 go_wp2
 rw [show #[Value.int .u64 0, Value.int .u64 0, Value.int .u64 0, Value.int .u64 0, Value.int .u64 0, Value.int .u64 0, Value.int .u64 0, Value.int .u64 0, Value.int .u64 0, Value.int .u64 0, Value.int .u64 0, Value.int .u64 0, Value.int .u64 0, Value.int .u64 0, Value.int .u64 0, Value.int .u64 0] = arr 16 (fun _ => 0) from rfl]
 have R1 : Row ((w.alloc (.cells (arr 32 t0) 101)).alloc (.cells (arr 16 fun _ => 0) 36)) w.heap.size 101 32 t0 := (Row.new w 101 32 t0).alloc _
 have R2 : Row ((w.alloc (.cells (arr 32 t0) 101)).alloc (.cells (arr 16 fun _ => 0) 36)) (w.heap.size + 1) 36 16 (fun _ => 0) := Row.new' _ 36 16 _ (by simp)
 have O : Below w.heap.size w ((w.alloc (.cells (arr 32 t0) 101)).alloc (.cells (arr 16 fun _ => 0) 36)) := ((Below.refl _ _).alloc (Nat.le_refl _) _).alloc (by simp) _
 generalize (w.alloc (.cells (arr 32 t0) 101)).alloc (.cells (arr 16 fun _ => 0) 36) = W at R1 R2 O ⊢
 go_loopw [3] (fun r wr => ∃ k : Nat, k ≤ 3 ∧ r = .int .i64 k ∧ (∃ t, Jl k t ∧ Cg (S t 32) (S t0 32) ∧ Row wr w.heap.size 101 32 t) ∧ Row wr (w.heap.size + 1) 36 16 (fun _ => 0) ∧ Below w.heap.size w wr) (fun r _ => 3 - (intOf r).toNat)
 case atStart => exact ⟨0, by omega, rfl, ⟨t0, h0, Cg.refl _, R1⟩, R2, O⟩
 case round =>
  clear R1 R2 O
  obtain ⟨k, hk, rfl, ⟨t, hJ, hC, R1⟩, R2, O⟩ := hrel
  by_cases hlt : k < 3
  ·have hB := hJ.b48 hk
   have HJ := hide (hJ.next hlt)
   have HC := hide ((T1_S t).trans hC)
   clear hJ hC
   go_wp2
   go_loopw [4, 5] (fun c i wq => ∃ j : Nat, j ≤ 32 ∧ c = .int .u64 (cf t j) ∧ i = .int .i64 j ∧ Row wq w.heap.size 101 32 (ps t j) ∧ Row wq (w.heap.size + 1) 36 16 (fun _ => 0) ∧ Below w.heap.size w wq) (fun _ i _ => 32 - (intOf i).toNat)
   case atStart => exact ⟨0, by omega, rfl, rfl, R1.congr (fun i _ => by unfold ps; rw [if_neg (by omega)]), R2, O⟩
   case round =>
    clear R1 R2 O
    obtain ⟨j, hj, rfl, rfl, R1, R2, O⟩ := hrel
    by_cases hjl : j < 32
    ·have c := R1.cell hjl
     rw [show ps t j j = t j by unfold ps; rw [if_neg (by omega)]] at c
     have e := R1.free j
     obtain ⟨a0, a1⟩ := hB.b j hjl
     obtain ⟨b0, b1⟩ := cf_bd hB j (by omega)
     have ea := and16 (x := t j + cf t j) (by omega) (by omega)
     have HN := hide (show cf t (j + 1) = (t j + cf t j) / 65536 from rfl)
     have HL := hide (show lo t j = (t j + cf t j) % 65536 from rfl)
     have RR := hide (R1.set j ((t j + cf t j) % 65536))
     have R2' := hide (R2.other (a := ⟨w.heap.size, j, none⟩) (by simp) (.int .u64 ((t j + cf t j) % 65536)))
     have O' := hide (O.setCell (p := ⟨w.heap.size, j, none⟩) (by simp) (.int .u64 ((t j + cf t j) % 65536)))
     clear R1 R2 O
     go_wp2
     go_roundw
     case rel => exact ⟨j + 1, by omega, by rw [HN.out], by go_num, RR.out.congr (fun i _ => by
      unfold upd ps
      by_cases h : i = j
      ·subst h
       simp [HL.out]
      ·by_cases h2 : i < j
       ·simp [h, h2, show i < j + 1 by omega]
       ·simp [h, h2, show ¬ i < j + 1 by omega]), R2'.out, O'.out⟩
     case measure => simp [intOf]; omega
    ·have hj' : j = 32 := by omega
     subst hj'
     have R1' : Row wr w.heap.size 101 32 (fs (lo t) 0) := R1.congr (fun i hi => by
      unfold ps fs
      rw [if_pos hi, if_neg (by omega), if_neg (by omega)])
     have hlo := lo_dig t 32
     have hcf := cf_bd hB 32 (by omega)
     clear R1
     go_wp2
     go_loopw [7] (fun i wq => ∃ m : Nat, m ≤ 16 ∧ i = .int .i64 m ∧ Row wq w.heap.size 101 32 (fs (lo t) m) ∧ Row wq (w.heap.size + 1) 36 16 (fun _ => 0) ∧ Below w.heap.size w wq) (fun i _ => 16 - (intOf i).toNat)
     case atStart => exact ⟨0, by omega, rfl, R1', R2, O⟩
     case round =>
      clear R1' R2 O
      obtain ⟨m, hm, rfl, R1, R2, O⟩ := hrel
      by_cases hml : m < 16
      ·have c := R1.cell (i := m) (by omega)
       have d := R1.cell (i := 16 + m) (by omega)
       rw [show fs (lo t) m m = lo t m by unfold fs; rw [if_neg (by omega), if_neg (by omega)]] at c
       rw [show fs (lo t) m (16 + m) = lo t (16 + m) by unfold fs; rw [if_neg (by omega), if_neg (by omega)]] at d
       have e := R1.free
       obtain ⟨a0, a1⟩ := hlo m (by omega)
       obtain ⟨b0, b1⟩ := hlo (16 + m) (by omega)
       have i1 : (0 : Int) ≤ (m : Int) := by omega
       have i2 : (m : Int) < 16 := by omega
       clear hlo hcf hB
       go_wp2_with fail
       go_region
       go_wp2
       exact ⟨⟨m + 1, by omega, by go_num, rowD (((R1.set m (lo t m + 38 * lo t (16 + m))).set (16 + m) 0).congr (fun i hi => fs_step (lo t) m i hml hi)), rowD ((R2.other (a := ⟨w.heap.size, m, none⟩) (by simp) _).other (a := ⟨w.heap.size, 16 + m, none⟩) (by simp) _), ((O.setCell (p := ⟨w.heap.size, m, none⟩) (Nat.le_refl _) _).setCell (p := ⟨w.heap.size, 16 + m, none⟩) (Nat.le_refl _) _).drew⟩, by simp [intOf]; omega⟩
      ·have hm' : m = 16 := by omega
       subst hm'
       have c := R1.cell (i := 0) (by omega)
       have e := R1.free 0
       rw [show fs (lo t) 16 0 = lo t 0 + 38 * lo t 16 by unfold fs; rw [if_pos (by omega)]] at c
       obtain ⟨a0, a1⟩ := hlo 0 (by omega)
       obtain ⟨b0, b1⟩ := hlo 16 (by omega)
       obtain ⟨f0, f1⟩ := hcf
       have RR := hide ((R1.set 0 (lo t 0 + 38 * lo t 16 + 1444 * cf t 32)).congr (f' := T1 t) (fun i hi => fs_last t i hi))
       have R2' := hide (R2.other (a := ⟨w.heap.size, 0, none⟩) (by simp) (.int .u64 (lo t 0 + 38 * lo t 16 + 1444 * cf t 32)))
       have O' := hide (O.setCell (p := ⟨w.heap.size, 0, none⟩) (Nat.le_refl _) (.int .u64 (lo t 0 + 38 * lo t 16 + 1444 * cf t 32)))
       clear R1 R2 O hlo hB
       go_wp2
       exact ⟨⟨k + 1, by omega, by go_num, ⟨T1 t, HJ.out, HC.out, RR.out⟩, R2'.out, O'.out⟩, by simp [intOf]; omega⟩
  ·have hk' : k = 3 := by omega
   subst hk'
   obtain ⟨hz, hD⟩ := hJ
   have HV := hide (show Cg (S t 16) (S t0 32) by rw [← S_upper_zero t hz]; exact hC)
   clear hC hlt hk
   go_wp2
   go_loopw [8] (fun r wq => ∃ k : Nat, k ≤ 3 ∧ r = .int .i64 k ∧ Row wq w.heap.size 101 32 t ∧ Row wq (w.heap.size + 1) 36 16 (fun _ => 0) ∧ Below w.heap.size w wq) (fun r _ => 3 - (intOf r).toNat)
   case atStart => exact ⟨0, by omega, rfl, R1, R2, O⟩
   case round =>
    clear R1 R2 O
    obtain ⟨k, hk, rfl, R1, R2, O⟩ := hrel
    by_cases hlt : k < 3
    ·go_wp2
     go_loopw [9, 10] (fun c i wq => ∃ j : Nat, j ≤ 16 ∧ c = .int .u64 0 ∧ i = .int .i64 j ∧ Row wq w.heap.size 101 32 t ∧ Row wq (w.heap.size + 1) 36 16 (fun _ => 0) ∧ Below w.heap.size w wq) (fun _ i _ => 16 - (intOf i).toNat)
     case atStart => exact ⟨0, by omega, rfl, rfl, R1, R2, O⟩
     case round =>
      clear R1 R2 O
      obtain ⟨j, hj, rfl, rfl, R1, R2, O⟩ := hrel
      by_cases hjl : j < 16
      ·have c := R1.cell (i := j) (by omega)
       have e := R1.free j
       obtain ⟨a0, a1⟩ := hD j hjl
       have ea : bits BinOp.and IntKind.u64 (t j) 65535 = t j := by rw [and16 a0 (by omega)]; omega
       have ed : t j / 65536 = 0 := by omega
       have RR := hide ((R1.set j (t j)).congr (f' := t) (fun i _ => by unfold upd; by_cases h : i = j <;> simp [h]))
       have R2' := hide (R2.other (a := ⟨w.heap.size, j, none⟩) (by simp) (.int .u64 (t j)))
       have O' := hide (O.setCell (p := ⟨w.heap.size, j, none⟩) (Nat.le_refl _) (.int .u64 (t j)))
       clear R1 R2 O
       go_wp2
       go_roundw
       case rel => exact ⟨j + 1, by omega, rfl, by go_num, RR.out, R2'.out, O'.out⟩
       case measure => simp [intOf]; omega
      ·have hj' : j = 16 := by omega
       subst hj'
       have c := R1.cell (i := 0) (by omega)
       have e := R1.free 0
       obtain ⟨a0, a1⟩ := hD 0 (by omega)
       have RR := hide ((R1.set 0 (t 0)).congr (f' := t) (fun i _ => by unfold upd; by_cases h : i = 0 <;> simp [h]))
       have R2' := hide (R2.other (a := ⟨w.heap.size, 0, none⟩) (by simp) (.int .u64 (t 0)))
       have O' := hide (O.setCell (p := ⟨w.heap.size, 0, none⟩) (Nat.le_refl _) (.int .u64 (t 0)))
       clear R1 R2 O
       go_wp2
       exact ⟨⟨k + 1, by omega, by go_num, RR.out, R2'.out, O'.out⟩, by simp [intOf]; omega⟩
    ·have hk' : k = 3 := by omega
     subst hk'
     go_wp2
     rw [show #[Value.int .u64 0, Value.int .u64 0, Value.int .u64 0, Value.int .u64 0, Value.int .u64 0, Value.int .u64 0, Value.int .u64 0, Value.int .u64 0, Value.int .u64 0, Value.int .u64 0, Value.int .u64 0, Value.int .u64 0, Value.int .u64 0, Value.int .u64 0, Value.int .u64 0, Value.int .u64 0] = arr 16 (fun _ => 0) from rfl]
     have hg := R2.lt
     have R3 : Row (wr.alloc (.cells (arr 16 fun _ => 0) 36)) wr.heap.size 36 16 (fun _ => 0) := Row.new _ 36 16 _
     replace R1 := R1.alloc (.cells (arr 16 fun _ => 0) 36)
     replace R2 := R2.alloc (.cells (arr 16 fun _ => 0) 36)
     replace O := O.alloc (by omega) (.cells (arr 16 fun _ => 0) 36)
     generalize wr.heap.size = gN at *
     generalize wr.alloc (.cells (arr 16 fun _ => 0) 36) = W6 at *
     go_loopw [13] (fun i wq => ∃ m : Nat, m ≤ 16 ∧ i = .int .i64 m ∧ Row wq w.heap.size 101 32 t ∧ Row wq (w.heap.size + 1) 36 16 (fun _ => 0) ∧ Row wq gN 36 16 (wid t m) ∧ Below w.heap.size w wq) (fun i _ => 16 - (intOf i).toNat)
     case atStart => exact ⟨0, by omega, rfl, R1, R2, R3, O⟩
     case round =>
      clear R1 R2 R3 O
      obtain ⟨m, hm, rfl, R1, R2, R3, O⟩ := hrel
      by_cases hml : m < 16
      ·have c := R1.cell (i := m) (by omega)
       have d := R3.cell (i := m) (by omega)
       have e := R3.free m
       have RR := hide ((R3.set m (t m)).congr (f' := wid t (m + 1)) (fun i _ => by unfold upd wid; by_cases h : i = m <;> simp [h] <;> omega))
       have R1' := hide (R1.other (a := ⟨gN, m, none⟩) (by simp; omega) (.int .u64 (t m)))
       have R2' := hide (R2.other (a := ⟨gN, m, none⟩) (by simp; omega) (.int .u64 (t m)))
       have O' := hide (O.setCell (p := ⟨gN, m, none⟩) (by simp; omega) (.int .u64 (t m)))
       clear R1 R2 R3 O
       go_wp2
       go_roundw
       case rel => exact ⟨m + 1, by omega, by go_num, R1'.out, R2'.out, RR.out, O'.out⟩
       case measure => simp [intOf]; omega
      ·have hm' : m = 16 := by omega
       subst hm'
       replace R3 := R3.congr (f' := t) (fun i hi => by unfold wid; rw [if_pos hi])
       clear R1 hz hml hm
       go_wp2_with fail
       go_loopw [91] (fun _ wq => ∃ u : Nat → Int, Dig u 16 ∧ Cg (S u 16) (S t0 32) ∧ Row wq (w.heap.size + 1) 36 16 (fun _ => 0) ∧ Row wq gN 36 16 u ∧ Below w.heap.size w wq) (fun _ wq => meas wq gN)
       case atStart => exact ⟨t, hD, HV.out, R2, R3, O⟩
       case round =>
        clear R2 R3 O HV hD
        obtain ⟨u, hU, hC, R2, R3, O⟩ := hrel
        have HC := hide hC
        clear hC
        have hne := KW.some wr
        have hg3 : ∀ w', (∃ s : KW wr, w' = s.w) → w'.heap[gN]? = some (.cells (arr 16 u) 36 (0, 0)) := by
         rintro _ ⟨s, rfl⟩
         exact R3.keep s.keep
        have HG := hide hg3
        clear hg3
        go_wp2_with fail
        refine wp_region_keep (by kernel_rfl) (by kernel_rfl) ?_
        go_big_quiet_want
        refine quiet_load_row 36 _ rfl gN rfl 36 (arr 16 u) (0, 0) _ HG.out Tryz.underlying36 rfl (info36 _) ?_
        go_simp
        go_big_quiet_on
        go_big_quiet_step ((exact keep_of (prime_any _)))
        go_big_quiet_step ((exact keep_of (less_any u pF _ hU pF_dig)))
        rw [pF_S]
        by_cases hlt : S u 16 < Pm
        ·rw [decide_eq_true hlt]
         go_big_quiet_step (fail)
         refine wpQuiet_nil ?_
         intro s
         replace R2 := R2.keep s.keep
         replace R3 := R3.keep s.keep
         replace O := O.trans (s.keep.mono O.size)
         generalize s.w = W7 at R2 R3 O ⊢
         have RR := hide (R2.setAll u)
         have OO := hide (below_setCells (g := w.heap.size + 1) (by omega) (arr 16 u).toList 0 O)
         have HE := hide (fin_eq hU HC.out hlt)
         clear HG hne hlt
         go_wp2_with (first | (refine wpList_load_row rfl 36 _ rfl gN rfl 36 (arr 16 u) (0, 0) _ R3 Tryz.underlying36 rfl (info36 _) ?_) | (refine wpList_store_mid rfl 36 _ _ rfl (w.heap.size + 1) 0 (arr 16 u) rfl rfl (by rw [arr_size]; exact R2.there) (info36 _) (arr_one _ _) ?_))
         exact bodyPost_ret (v := .agg (arr 16 u)) (results_cell_row Tryz.results99 _ _ (w.heap.size + 1) 36 (arr 16 u) (0, 0) _ rfl RR.out Tryz.underlying36 rfl (info36 _)) rfl ⟨by rw [HE.out], OO.out⟩
        ·rw [decide_eq_false hlt]
         go_big_quiet_step (fail)
         refine wpQuiet_nil ?_
         intro s
         have HM := hide (meas_row R3)
         replace R2 := R2.keep s.keep
         replace R3 := R3.keep s.keep
         replace O := O.trans (s.keep.mono O.size)
         generalize s.w = W7 at R2 R3 O ⊢
         have hle : S pF 16 ≤ S u 16 := by rw [pF_S]; omega
         have HS := hide (minus_le hU pF_dig hle)
         have HL := hide hle
         clear HG hne hlt hle
         have hne := KW.some W7
         have hg3 : ∀ w', (∃ s : KW W7, w' = s.w) → w'.heap[gN]? = some (.cells (arr 16 u) 36 (0, 0)) := by
          rintro _ ⟨s, rfl⟩
          exact R3.keep s.keep
         have HG := hide hg3
         clear hg3
         go_wp2_with fail
         refine wp_region_keep_tail 3 (by kernel_rfl) (by kernel_rfl) ?_
         simp only [List.take_succ_cons, List.take_zero, List.drop_succ_cons, List.drop_zero]
         go_big_quiet_want
         refine quiet_load_row 36 _ rfl gN rfl 36 (arr 16 u) (0, 0) _ HG.out Tryz.underlying36 rfl (info36 _) ?_
         go_simp
         go_big_quiet_on
         go_big_quiet_step ((exact keep_of (prime_any _)))
         go_big_quiet_step ((exact keep_of (minus_any u pF _ hU pF_dig)))
         refine wpQuiet_nil ?_
         intro s
         replace R2 := R2.keep s.keep
         replace R3 := R3.keep s.keep
         replace O := O.trans (s.keep.mono O.size)
         generalize s.w = W8 at R2 R3 O ⊢
         have RR := hide (R3.setAll (minusF u pF))
         have R2' := hide (R2.setOther (k := gN) (by omega) 0 (arr 16 (minusF u pF)).toList)
         have OO := hide (below_setCells (g := gN) (by omega) (arr 16 (minusF u pF)).toList 0 O)
         clear HG hne
         go_wp2_with (refine wpList_store_mid rfl 36 _ _ rfl gN 0 (arr 16 (minusF u pF)) rfl rfl (by rw [arr_size]; exact R3.there) (info36 _) (arr_one _ _) ?_)
         refine ⟨⟨_, _, _, _, _, _, _, ⟨minusF u pF, minusF_dig u pF 16, ?_, R2'.out, RR.out, OO.out⟩, rfl⟩, ?_⟩
         ·rw [HS.out, pF_S]
          have := Cg.sub_P (S u 16) 1
          rw [Int.one_mul] at this
          exact this.trans HC.out
         ·rw [meas_row RR.out, HM.out, HS.out, pF_S]
          have := HL.out
          rw [pF_S] at this
          unfold Pm at *
          omega
end Go.Proofs.YtmhfmhmpoobmlaaGreatDoor
