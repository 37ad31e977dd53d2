/- Slices that grow: a cell is put behind the others; bytes of a string, and a string of bytes. -/
import Derived.Test.YtenafinbaanicaaDoorOps
import Derived.Laws.MakeOwn
namespace Go.Proofs.YtenafinbaanicaaDoor
open Go.RowKit

/-- The object holds these cells, there is room for cap of them, and they may be written. -/
structure SB (Z : Obj) (cap : Nat) (l : List Value) : Prop where
  ex : ∃ cs T fr, Z = .cells cs T fr ∧ l.length ≤ cap ∧ cap ≤ cs.size ∧ (∀ i, i < l.length → cs[i]? = l[i]?) ∧ ∀ i, i < cap → (decide (fr.1 ≤ i) && decide (i < fr.2)) = false

theorem SB.le {Z : Obj} {cap : Nat} {l : List Value} (h : SB Z cap l) : l.length ≤ cap := by
  obtain ⟨_, _, _, _, h1, _⟩ := h.ex
  exact h1
theorem SB.cell {Z : Obj} {cap : Nat} {l : List Value} (h : SB Z cap l) {W : World} {g : Nat} (hz : W.heap[g]? = some Z) {i : Nat} {v : Value} (hi : l[i]? = some v) : W.cell? ⟨g, i, none⟩ = some v := by
  obtain ⟨cs, T, fr, rfl, _, _, h3, _⟩ := h.ex
  have hlt := (List.getElem?_eq_some_iff.1 hi).1
  unfold World.cell?
  rw [hz]
  simp only [Option.isSome_none, Bool.false_eq_true, if_false]
  rw [h3 i hlt, hi]
theorem SB.set {Z : Obj} {cap : Nat} {l : List Value} (h : SB Z cap l) (hr : l.length < cap) (v : Value) {W : World} {g : Nat} (hz : W.heap[g]? = some Z) : ∃ Z', (W.setCell ⟨g, l.length, none⟩ v).heap[g]? = some Z' ∧ SB Z' cap (l ++ [v]) := by
  obtain ⟨cs, T, fr, rfl, h1, h2, h3, h4⟩ := h.ex
  refine ⟨.cells (cs.setIfInBounds l.length v) T fr, ?_, ⟨_, T, fr, rfl, by simp; omega, by simpa using h2, fun i hi => ?_, h4⟩⟩
  · simp [World.setCell, Array.getElem?_modify, hz]
  · rw [Array.getElem?_setIfInBounds]
    by_cases e : l.length = i
    · subst e
      rw [if_pos rfl, if_pos (by omega)]
      simp
    · simp at hi
      rw [if_neg e, h3 i (by omega), List.getElem?_append_left (by omega)]

/-- Bytes as numbers. -/
def bs (ns : List Int) : ByteArray := ⟨(ns.map fun n => UInt8.ofNat n.toNat).toArray⟩
def sb (s : ByteArray) : List Int := s.data.toList.map fun b => (b.toNat : Int)
def vs8 (l : List Int) : List Value := l.map fun x => .int .u8 x
theorem bs_size (l : List Int) : (bs l).size = l.length := by simp [bs, ByteArray.size]
theorem sb_length (s : ByteArray) : (sb s).length = s.size := by simp [sb]
theorem vs8_length (l : List Int) : (vs8 l).length = l.length := by simp [vs8]
theorem sb_get (s : ByteArray) (i : Nat) (h : i < s.size) : (sb s)[i]? = some (bt s i) := by
  have h' : i < s.data.size := h
  unfold sb bt
  rw [List.getElem?_map, Array.getElem?_toList, Array.getElem?_eq_getElem h']
  rfl
theorem sb_bs (l : List Int) (h : ∀ x ∈ l, 0 ≤ x ∧ x < 256) : sb (bs l) = l := by
  unfold sb bs
  rw [List.map_map]
  conv => rhs; rw [← List.map_id l]
  refine List.map_congr_left fun x hx => ?_
  have := h x hx
  simp
  omega
theorem bs_sb (s : ByteArray) : bs (sb s) = s := by
  unfold sb bs
  rw [List.map_map]
  apply ByteArray.ext
  simp only
  conv => rhs; rw [← Array.toArray_toList (xs := s.data)]
  congr 1
  conv => rhs; rw [← List.map_id s.data.toList]
  refine List.map_congr_left fun x _ => ?_
  simp
theorem bt_of_sb (s : ByteArray) (i : Nat) : bt s i = (sb s).getD i 0 := by
  by_cases h : i < s.size
  · rw [List.getD_eq_getElem?_getD, sb_get s i h]
    rfl
  · have h' : s.data.size ≤ i := by have : s.data.size = s.size := rfl; omega
    rw [List.getD_eq_getElem?_getD, List.getElem?_eq_none (by rw [sb_length]; omega)]
    unfold bt
    rw [Array.getElem?_eq_none h']
    rfl
theorem sb_nn (s : ByteArray) : ∀ x ∈ sb s, 0 ≤ x ∧ x < 256 := by
  intro x hx
  obtain ⟨b, _, rfl⟩ := List.mem_map.1 hx
  have := b.toNat_lt
  omega
theorem sb_append (s t : ByteArray) : sb (s ++ t) = sb s ++ sb t := by
  unfold sb
  rw [← List.map_append]
  congr 1

section
variable {P : Program} {ops : Array Oper} {rest : List Oper} {o : Oper} {a : Act} {w : World} {c : Ctx} {L : List Blk} {Q : Exit → Act → World → Prop}

theorem rounds_go {c : Code} {n : Nat} (h : c.wp P (Exit.then (Code.rounds P c Q n) Q) a w) : Code.rounds P c Q (n + 1) a w := h

theorem run_appR (t ty e : TypeId) (ht : P.underlying t = some (.slice e)) (hz : (P.info? e).map (·.size) = some 1) (g cap : Nat) (Z : Obj) (l : List Value) (hg : w.heap[g]? = some Z) (hs : SB Z cap l) (hroom : l.length < cap) (gx : Nat) (v : Value) (hx : w.cell? ⟨gx, 0, none⟩ = some v) (h1 : v.oneCell' = true) :
    (Builtin.append_ #[t, t] ty #[.slice (some ⟨g, 0, none⟩) l.length cap, .slice (some ⟨gx, 0, none⟩) 1 1]).run P w = .ok (.slice (some ⟨g, 0, none⟩) (l.length + 1) cap) (w.setCell ⟨g, l.length, none⟩ v) := by
  have hf := run_firstCells_some (P := P) w 1 1 ⟨gx, 0, none⟩ 1 1 [v] (by simp) (fun j u hu => by
    cases j with
    | zero => simp at hu; subst hu; rw [add_at]; exact hx
    | succ j => simp at hu)
  obtain ⟨cs, T, fr, rfl, h2, h3, h4, h5⟩ := hs.ex
  have hst := run_storeCells_cells (P := P) g l.length [v] 0 w (fun j hj => by
      simp at hj
      subst hj
      unfold World.cell?
      rw [hg]
      simp
      omega) (fun j hj => by
      simp at hj
      subst hj
      unfold World.frozen?
      rw [hg]
      exact h5 _ hroom) (by simpa using h1)
  simp only [Nat.add_zero, World.setCells] at hst
  cases hq : P.info? e with
  | none => simp [hq] at hz
  | some i =>
    have hsz : i.size = 1 := by simpa [hq] using hz
    have hr2 : l.length + 1 ≤ cap := hroom
    simp [Builtin.append_, run_underlying ht, sizeOf, typeInfo, hq, hsz, Builtin.lenOf, hr2, hf, add_at, hst]

/-- There is room. -/
theorem pl_appR (M : Mem c L w) (hw : Region.wanted o (yielded ops a.tmps) = true) (d : Option Tmp) (hd : o.dst = d) (t ty e : TypeId) (ht : P.underlying t = some (.slice e)) (hz : (P.info? e).map (·.size) = some 1) (i g n cap : Nat) (Z : Obj) (l : List Value) (hi : L[i]? = some ⟨g, Z⟩) (hs : SB Z cap l) (hn : l.length = n) (hroom : n < cap) (j gx Tx : Nat) (v : Value) (hj : L[j]? = some ⟨gx, .cells (av 1 (fun _ => v)) Tx⟩) (h1 : v.oneCell' = true)
    (hrun : ∀ w, (execOp a.eval o).run P w = (do pure (Next.value (← Builtin.append_ #[t, t] ty #[.slice (some ⟨g, 0, none⟩) n cap, .slice (some ⟨gx, 0, none⟩) 1 1]))).run P w)
    (h : ∀ Z' w', SB Z' cap (l ++ [v]) → Mem c (L.set i ⟨g, Z'⟩) w' → PL P ops Q rest (a.put d (.slice (some ⟨g, 0, none⟩) (n + 1) cap)) w') : PL P ops Q (o :: rest) a w := by
  subst hn
  obtain ⟨Z', h2, h3⟩ := hs.set hroom v (M.get i hi)
  refine pl_to hw d hd _ _ ?_ (h Z' _ h3 (M.put i ⟨g, Z⟩ hi Z' (grown_setCell _ _ _ _) h2))
  rw [hrun]
  simp only [Sem.run_bind, run_appR t ty e ht hz g cap Z l (M.get i hi) hs hroom gx v (cell_av (M.get j hj) (by decide)) h1, Result.andThen_ok, Sem.run_pure]

theorem setCells_block (g : Nat) (T : TypeId) (fr : Nat × Nat) : ∀ (vs : List Value) (W : World) (cs : Array Value) (o : Nat), W.heap[g]? = some (.cells cs T fr) → ∃ ds, (W.setCells g o vs).heap[g]? = some (.cells ds T fr) ∧ ds.size = cs.size ∧ ∀ i, ds[i]? = if o ≤ i ∧ i < o + vs.length ∧ i < cs.size then vs[i - o]? else cs[i]?
  | [], W, cs, o, h => ⟨cs, h, rfl, fun i => by rw [if_neg (by simp; omega)]⟩
  | v :: vs, W, cs, o, h => by
    have h1 : (W.setCell ⟨g, o, none⟩ v).heap[g]? = some (.cells (cs.setIfInBounds o v) T fr) := by simp [World.setCell, Array.getElem?_modify, h]
    obtain ⟨ds, h2, h3, h4⟩ := setCells_block g T fr vs _ _ (o + 1) h1
    refine ⟨ds, h2, by simpa using h3, fun i => ?_⟩
    rw [h4 i]
    simp only [Array.size_setIfInBounds, List.length_cons]
    by_cases hi : o + 1 ≤ i ∧ i < o + 1 + vs.length ∧ i < cs.size
    · rw [if_pos hi, if_pos (by omega), show i - o = (i - (o + 1)) + 1 by omega, List.getElem?_cons_succ]
    · rw [if_neg hi, Array.getElem?_setIfInBounds]
      by_cases e : o = i
      · subst e
        by_cases hs : o < cs.size
        · rw [if_pos rfl, if_pos hs, if_pos (by omega), Nat.sub_self]
          rfl
        · rw [if_pos rfl, if_neg hs, if_neg (by omega)]
          exact (Array.getElem?_eq_none (by omega)).symm
      · rw [if_neg e, if_neg (by omega)]
theorem SB.sets {Z : Obj} {cap : Nat} {l : List Value} (h : SB Z cap l) (vs : List Value) (hr : l.length + vs.length ≤ cap) {W : World} {g : Nat} (hz : W.heap[g]? = some Z) : ∃ Z', (W.setCells g l.length vs).heap[g]? = some Z' ∧ SB Z' cap (l ++ vs) := by
  obtain ⟨cs, T, fr, rfl, h1, h2, h3, h4⟩ := h.ex
  obtain ⟨ds, e1, e2, e3⟩ := setCells_block g T fr vs W cs l.length hz
  refine ⟨_, e1, ⟨ds, T, fr, rfl, by simpa using hr, by omega, fun i hi => ?_, h4⟩⟩
  rw [List.length_append] at hi
  rw [e3 i]
  by_cases hl : l.length ≤ i
  · rw [if_pos (by omega), List.getElem?_append_right hl]
  · rw [if_neg (by omega), h3 i (by omega), List.getElem?_append_left (by omega)]
theorem SB.take {Z : Obj} {cap : Nat} {l : List Value} (h : SB Z cap l) : SB Z cap [] := by
  obtain ⟨cs, T, fr, e, h1, h2, h3, h4⟩ := h.ex
  exact ⟨cs, T, fr, e, by simp, h2, fun i hi => by simp at hi, h4⟩

/-- There is room: several cells, of a slice or a string. -/
theorem pl_appX (M : Mem c L w) (hw : Region.wanted o (yielded ops a.tmps) = true) (d : Option Tmp) (hd : o.dst = d) (t tx ty e : TypeId) (info : TypeInfo) (ht : P.underlying t = some (.slice e)) (hin : P.info? e = some info) (hsz : info.size = 1) (i g n cap : Nat) (Z : Obj) (l : List Value) (hi : L[i]? = some ⟨g, Z⟩) (hs : SB Z cap l) (hn : l.length = n) (x : Value) (m : Nat) (news : List Value) (hsrc : ∀ w, Mem c L w → Src P 1 tx x m news w) (hm : news.length = m) (hroom : n + m ≤ cap)
    (hrun : ∀ w, (execOp a.eval o).run P w = (do pure (Next.value (← Builtin.append_ #[t, tx] ty #[.slice (some ⟨g, 0, none⟩) n cap, x]))).run P w)
    (h : ∀ Z' w', SB Z' cap (l ++ news) → Mem c (L.set i ⟨g, Z'⟩) w' → PL P ops Q rest (a.put d (.slice (some ⟨g, 0, none⟩) (n + m) cap)) w') : PL P ops Q (o :: rest) a w := by
  subst hn hm
  obtain ⟨Z', h2, h3⟩ := hs.sets news hroom (M.get i hi)
  obtain ⟨cs, T, fr, hZ, h4, h5, h6, h7⟩ := hs.ex
  have hg := M.get i hi
  rw [hZ] at hg
  have hr := run_append_room_src (P := P) w t tx ty e info ht hin g 0 l.length cap x news.length news (by rw [hsz]; exact hsrc w M) hroom (fun j hj => by
      rw [hsz, Nat.mul_one, Nat.zero_add]
      unfold World.cell?
      rw [hg]
      simp
      omega) (fun j hj => by
      rw [hsz, Nat.mul_one, Nat.zero_add]
      unfold World.frozen?
      rw [hg]
      exact h7 _ (by show l.length + j < cap; omega))
  rw [hsz, Nat.mul_one, Nat.zero_add] at hr
  refine pl_to hw d hd _ _ ?_ (h Z' _ h3 (M.put i ⟨g, Z⟩ hi Z' (grown_setCells _ _ _ _) h2))
  rw [hrun]
  simp only [Sem.run_bind, hr, Result.andThen_ok, Sem.run_pure]

/-- Cells 0, so many. -/
theorem pl_makeZ (M : Mem c L w) (hw : Region.wanted o (yielded ops a.tmps) = true) (d : Option Tmp) (hd : o.dst = d) (t e : TypeId) (info : TypeInfo) (ht : P.underlying t = some (.slice e)) (hin : P.info? e = some info) (hzv : info.zero = some (.int .u8 0)) (hsz : info.size = 1) (hby : info.bytes ≤ 16) (x y : Operand) (ho : o.op = .makeSlice t x y) (kx ky : IntKind) (cap : Nat) (hx : a.eval x = .int kx (cap : Int)) (hy : a.eval y = .int ky (cap : Int)) (hc : cap < 1000000)
    (h : ∀ g Z w', SB Z cap (vs8 (List.replicate cap 0)) → Mem c (L ++ [⟨g, Z⟩]) w' → PL P ops Q rest (a.put d (.slice (some ⟨g, 0, none⟩) cap cap)) w') : PL P ops Q (o :: rest) a w := by
  have hr := run_make (P := P) w t e info (.int .u8 0) ht hin hzv kx ky (cap : Int) (cap : Int) (by omega) (by omega) (by
    have := Int.mul_le_mul (show (info.bytes : Int) ≤ 16 by omega) (show (cap : Int) ≤ 1000000 by omega) (by omega) (by omega)
    omega) (by omega)
  simp only [Int.toNat_natCast, hsz, Nat.mul_one] at hr
  refine pl_to hw d hd (.slice (some ⟨w.heap.size, 0, none⟩) cap cap) _ ?_ (h w.heap.size (.cells (madeCells #[.int .u8 0] cap) e) (w.alloc (.cells (madeCells #[.int .u8 0] cap) e)) ⟨_, e, (0, 0), rfl, by simp [vs8], by rw [size_madeCells]; exact Nat.le_refl _, fun i hi => ?_, fun i _ => by simp⟩ (M.new _ _ (new_below w _) (heap_alloc_new w _) (Nat.le_refl _)))
  · unfold execOp
    simp only [ho, hx, hy, Sem.run_bind, Sem.run_pure]
    rw [hr]
    rfl
  · simp [vs8] at hi
    simp [vs8, madeCells, hi, Nat.mod_one]

theorem set_perm {α : Type} : ∀ (L : List α) (i : Nat) (b : α), i < L.length → (L.set i b).Perm (L.eraseIdx i ++ [b])
  | [], _, _, h => absurd h (by simp)
  | x :: L, 0, b, _ => by
    simp only [List.set_cons_zero, List.eraseIdx_cons_zero]
    exact (List.perm_append_comm (l₁ := [b]) (l₂ := L))
  | x :: L, i + 1, b, h => by
    simp only [List.set_cons_succ, List.eraseIdx_cons_succ, List.cons_append]
    exact (set_perm L i b (by simpa using h)).cons x

/-- There may be room or not: the cells are then in a block g', the last one. -/
theorem pl_app (M : Mem c L w) (hw : Region.wanted o (yielded ops a.tmps) = true) (d : Option Tmp) (hd : o.dst = d) (t ty e : TypeId) (info : TypeInfo) (zv : Value) (ht : P.underlying t = some (.slice e)) (hin : P.info? e = some info) (hzv : info.zero = some zv) (hsz : info.size = 1) (hby : info.bytes ≤ 16) (hzc : zv.cells.size = 1) (i g n cap : Nat) (Z : Obj) (l : List Value) (hi : L[i]? = some ⟨g, Z⟩) (hs : SB Z cap l) (hn : l.length = n) (hle : n < 1000000) (j gx Tx : Nat) (v : Value) (hj : L[j]? = some ⟨gx, .cells (av 1 (fun _ => v)) Tx⟩) (h1 : v.oneCell' = true)
    (hrun : ∀ w, (execOp a.eval o).run P w = (do pure (Next.value (← Builtin.append_ #[t, t] ty #[.slice (some ⟨g, 0, none⟩) n cap, .slice (some ⟨gx, 0, none⟩) 1 1]))).run P w)
    (h : ∀ g' cap' Z' w', SB Z' cap' (l ++ [v]) → Mem c (L.eraseIdx i ++ [⟨g', Z'⟩]) w' → PL P ops Q rest (a.put d (.slice (some ⟨g', 0, none⟩) (n + 1) cap')) w') : PL P ops Q (o :: rest) a w := by
  have hz : (P.info? e).map (·.size) = some 1 := by rw [hin]; simpa using hsz
  have hil := (List.getElem?_eq_some_iff.1 hi).1
  by_cases hroom : n < cap
  · refine pl_appR M hw d hd t ty e ht hz i g n cap Z l hi hs hn hroom j gx Tx v hj h1 hrun fun Z' w' h3 M' => ?_
    exact h g cap Z' w' h3 (M'.perm (set_perm L i _ hil))
  · subst hn
    have hcell := cell_av (M.get j hj) (i := 0) (by decide)
    have hcap : cap = l.length := by have := hs.le; omega
    have hr := run_append_grow (P := P) w t ty e info zv ht hin hzv ⟨g, 0, none⟩ l.length cap l (by rw [hsz]; omega) (fun k u hu => by rw [add_at, Nat.zero_add]; exact hs.cell (M.get i hi) hu) ⟨gx, 0, none⟩ 1 1 [v] (by rw [hsz]; rfl) (fun k u hu => by
      cases k with
      | zero => simp at hu; subst hu; rw [add_at]; exact hcell
      | succ k => simp at hu) (by omega) (by omega) (growslice_fits (by omega) (by
        have := Nat.mul_le_mul (show l.length + 1 ≤ 1000000 by omega) hby
        omega))
    have hge := grownCap_ge w (l.length + 1) cap e
    generalize grownCap w (l.length + 1) cap e = nc at hr hge
    have hr2 : (execOp a.eval o).run P w = .ok (.value (.slice (some ⟨w.heap.size, 0, none⟩) (l.length + 1) nc)) (w.drew.alloc (.cells (l.toArray ++ [v].toArray ++ Builtin.zeroCells zv.cells (nc - (l.length + 1))) e)) := by
      rw [hrun]
      simp only [Sem.run_bind, hr, Result.andThen_ok, Sem.run_pure]
    refine pl_to hw d hd _ _ hr2 (h w.heap.size nc (.cells (l.toArray ++ [v].toArray ++ Builtin.zeroCells zv.cells (nc - (l.length + 1))) e) _ ⟨_, e, (0, 0), rfl, by simp; omega, ?_, fun k hk => ?_, fun k _ => by simp⟩ ?_)
    · simp only [Array.size_append, List.size_toArray, List.length_cons, List.length_nil, size_zeroCells, hzc]
      omega
    · rw [Array.getElem?_append_left (by simpa using hk)]
      simp
    · refine (M.drew.new w.heap.size _ (new_below _ _) (heap_alloc_new w.drew _) (Nat.le_refl _)).drop ?_
      exact (List.eraseIdx_sublist L i).append (List.Sublist.refl _)

/-- The first cell of a slice that was nil. -/
theorem pl_app0 (M : Mem c L w) (hw : Region.wanted o (yielded ops a.tmps) = true) (d : Option Tmp) (hd : o.dst = d) (t ty e : TypeId) (info : TypeInfo) (zv : Value) (ht : P.underlying t = some (.slice e)) (hin : P.info? e = some info) (hzv : info.zero = some zv) (hsz : info.size = 1) (hby : info.bytes ≤ 16) (hzc : zv.cells.size = 1) (j gx Tx : Nat) (v : Value) (hj : L[j]? = some ⟨gx, .cells (av 1 (fun _ => v)) Tx⟩)
    (hrun : ∀ w, (execOp a.eval o).run P w = (do pure (Next.value (← Builtin.append_ #[t, t] ty #[.slice none 0 0, .slice (some ⟨gx, 0, none⟩) 1 1]))).run P w)
    (h : ∀ g' cap' Z' w', SB Z' cap' [v] → Mem c (L ++ [⟨g', Z'⟩]) w' → PL P ops Q rest (a.put d (.slice (some ⟨g', 0, none⟩) 1 cap')) w') : PL P ops Q (o :: rest) a w := by
  have hcell := cell_av (M.get j hj) (i := 0) (by decide)
  have hr := run_append_nil (P := P) w t ty e info zv ht hin hzv ⟨gx, 0, none⟩ 1 1 [v] (by rw [hsz]; rfl) (fun k u hu => by
      cases k with
      | zero => simp at hu; subst hu; rw [add_at]; exact hcell
      | succ k => simp at hu) (by omega) (by omega) (by omega)
  have hge := grownCap_ge w 1 0 e
  generalize grownCap w 1 0 e = nc at hr hge
  have hr2 : (execOp a.eval o).run P w = .ok (.value (.slice (some ⟨w.heap.size, 0, none⟩) 1 nc)) (w.drew.alloc (.cells ([v].toArray ++ Builtin.zeroCells zv.cells (nc - 1)) e)) := by
    rw [hrun]
    simp only [Sem.run_bind, hr, Result.andThen_ok, Sem.run_pure]
  refine pl_to hw d hd _ _ hr2 (h w.heap.size nc (.cells ([v].toArray ++ Builtin.zeroCells zv.cells (nc - 1)) e) _ ⟨_, e, (0, 0), rfl, by simp; omega, ?_, fun k hk => ?_, fun k _ => by simp⟩ ?_)
  · simp only [Array.size_append, List.size_toArray, List.length_cons, List.length_nil, size_zeroCells, hzc]
    omega
  · rw [Array.getElem?_append_left (by simpa using hk)]
    simp
  · exact M.drew.new w.heap.size _ (new_below _ _) (heap_alloc_new w.drew _) (Nat.le_refl _)

/-- A slice with no cell yet, and room for some. -/
theorem pl_make (M : Mem c L w) (hw : Region.wanted o (yielded ops a.tmps) = true) (d : Option Tmp) (hd : o.dst = d) (t e : TypeId) (info : TypeInfo) (zv : Value) (ht : P.underlying t = some (.slice e)) (hin : P.info? e = some info) (hzv : info.zero = some zv) (hsz : info.size = 1) (hby : info.bytes ≤ 16) (x y : Operand) (ho : o.op = .makeSlice t x y) (kx ky : IntKind) (hx : a.eval x = .int kx 0) (cap : Nat) (hy : a.eval y = .int ky (cap : Int)) (hc : cap < 1000000)
    (h : ∀ g Z w', SB Z cap [] → Mem c (L ++ [⟨g, Z⟩]) w' → PL P ops Q rest (a.put d (.slice (some ⟨g, 0, none⟩) 0 cap)) w') : PL P ops Q (o :: rest) a w := by
  have hr := run_make (P := P) w t e info zv ht hin hzv kx ky 0 (cap : Int) (Int.le_refl _) (by omega) (by
    have := Int.mul_le_mul (show (info.bytes : Int) ≤ 16 by omega) (show (cap : Int) ≤ 1000000 by omega) (by omega) (by omega)
    omega) (by omega)
  simp only [Int.toNat_zero, Int.toNat_natCast, hsz, Nat.mul_one] at hr
  refine pl_to hw d hd (.slice (some ⟨w.heap.size, 0, none⟩) 0 cap) _ ?_ (h w.heap.size (.cells (madeCells zv.cells cap) e) (w.alloc (.cells (madeCells zv.cells cap) e)) ⟨_, e, (0, 0), rfl, by simp, by rw [size_madeCells]; exact Nat.le_refl _, fun i hi => by simp at hi, fun i _ => by simp⟩ (M.new _ _ (new_below w _) (heap_alloc_new w _) (Nat.le_refl _)))
  unfold execOp
  simp only [ho, hx, hy, Sem.run_bind, hr, Result.andThen_ok, Sem.run_pure]
end

section
variable {ops : Array Oper} {rest : List Oper} {o : Oper} {a : Act} {w : World} {c : Ctx} {L : List Blk} {Q : Exit → Act → World → Prop}

theorem pl_conv (M : Mem c L w) (hw : Region.wanted o (yielded ops a.tmps) = true) (d : Option Tmp) (hd : o.dst = d) (x : Operand) (ho : o.op = .convert 9 26 x) (s : ByteArray) (hx : a.eval x = .string s)
    (h : ∀ g cap Z w', SB Z cap (vs8 (sb s)) → Mem c (L ++ [⟨g, Z⟩]) w' → PL Tryd.prog ops Q rest (a.put d (.slice (some ⟨g, 0, none⟩) s.size cap)) w') : PL Tryd.prog ops Q (o :: rest) a w := by
  have hr := run_bytes_of_string (P := Tryd.prog) w 9 26 5 s Tryd.underlying9 Tryd.underlying26 Tryd.underlying5
  have hge : s.size ≤ grownCap w s.size 0 5 := grownCap_ge w s.size 0 5
  generalize grownCap w s.size 0 5 = cap at hr hge
  refine pl_to hw d hd _ _ (by unfold execOp; simp only [ho, hx, Sem.run_bind, hr, Result.andThen_ok, Sem.run_pure]) (h w.heap.size cap (.cells (bytesRow s cap) 5 ((bytesRow s cap).size, (bytesRow s cap).size + 1)) _ ⟨_, _, _, rfl, by rw [vs8_length, sb_length]; exact hge, ?_, fun i hi => ?_, fun i hi => ?_⟩ (M.drew.new _ _ (new_below _ _) (heap_alloc_new w.drew _) (Nat.le_refl _)))
  · have hs : s.size = s.data.size := rfl
    simp [bytesRow]
    omega
  · rw [vs8_length, sb_length] at hi
    have hi' : i < s.data.size := hi
    unfold bytesRow vs8
    rw [Array.getElem?_append_left (by simpa using hi'), Array.getElem?_map, Array.getElem?_eq_getElem hi', List.getElem?_map, sb_get s i hi]
    unfold bt
    rw [Array.getElem?_eq_getElem hi']
    rfl
  · have hs : s.size = s.data.size := rfl
    have hsz : cap ≤ (bytesRow s cap).size := by
      simp [bytesRow]
      omega
    simp
    omega

set_option maxRecDepth 100000 in
theorem pl_back (M : Mem c L w) (hw : Region.wanted o (yielded ops a.tmps) = true) (d : Option Tmp) (hd : o.dst = d) (x : Operand) (ho : o.op = .convert 26 9 x) (i g n cap : Nat) (hx : a.eval x = .slice (some ⟨g, 0, none⟩) n cap) (Z : Obj) (hi : L[i]? = some ⟨g, Z⟩) (l : List Int) (cp : Nat) (hs : SB Z cp (vs8 l)) (hn : l.length = n) (hf : ∀ x ∈ l, 0 ≤ x ∧ x < 256)
    (h : PL Tryd.prog ops Q rest (a.put d (.string (bs l))) w) : PL Tryd.prog ops Q (o :: rest) a w := by
  subst hn
  refine pl_to hw d hd _ w ?_ h
  have hl : (l.map fun n => UInt8.ofNat n.toNat).length = l.length := by simp
  have h2 := run_convert_bytes_back (P := Tryd.prog) w 26 9 5 ⟨g, 0, none⟩ cap (l.map fun n => UInt8.ofNat n.toNat) Tryd.underlying26 Tryd.underlying5 Tryd.underlying9 (fun j hj => by
    rw [hl] at hj
    have hv : (vs8 l)[j]? = some (.int .u8 (l[j]'hj)) := by
      unfold vs8
      rw [List.getElem?_map, List.getElem?_eq_getElem hj]
      rfl
    rw [add_at, Nat.zero_add, hs.cell (M.get i hi) hv]
    have := hf _ (List.getElem_mem hj)
    simp
    omega)
  rw [hl] at h2
  unfold execOp
  simp only [ho, hx, Sem.run_bind, h2, Result.andThen_ok, Sem.run_pure]
  rfl
end

end Go.Proofs.YtenafinbaanicaaDoor
