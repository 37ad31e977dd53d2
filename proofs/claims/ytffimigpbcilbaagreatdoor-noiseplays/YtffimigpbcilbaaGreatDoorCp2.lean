/- Part 2 of the walks and facts. -/
import Derived.Test.YtffimigpbcilbaaGreatDoorCpDef
import Derived.Test.YtffimigpbcilbaaGreatDoorCp1
import Derived.Laws.MakeOwn
set_option maxHeartbeats 16000000
set_option maxRecDepth 100000
namespace Go.Proofs.YtffimigpbcilbaaGreatDoor
open Go.RowKit
structure SB (Z : Obj) (cap : Nat) (l : List Value) : Prop where
 ex : ∃ cs T fr, Z = .cells cs T fr ∧ l.length ≤ cap ∧ cap ≤ cs.size ∧ (∀ i, i < l.length → cs[i]? = l[i]?) ∧ ∀ i, i < cap → (decide (fr.1 ≤ i) && decide (i < fr.2)) = false
theorem SB.le {Z : Obj} {cap : Nat} {l : List Value} (h : SB Z cap l) : l.length ≤ cap := by
 obtain ⟨_, _, _, _, h1, _⟩ := h.ex
 exact h1
theorem SB.cell {Z : Obj} {cap : Nat} {l : List Value} (h : SB Z cap l) {W : World} {g : Nat} (hz : W.heap[g]? = some Z) {i : Nat} {v : Value} (hi : l[i]? = some v) : W.cell? ⟨g, i, none⟩ = some v := by
 obtain ⟨cs, T, fr, rfl, _, _, h3, _⟩ := h.ex
 have hlt := (List.getElem?_eq_some_iff.1 hi).1
 unfold World.cell?
 rw [hz]
 simp only [Option.isSome_none, Bool.false_eq_true, if_false]
 rw [h3 i hlt, hi]
theorem SB.set {Z : Obj} {cap : Nat} {l : List Value} (h : SB Z cap l) (hr : l.length < cap) (v : Value) {W : World} {g : Nat} (hz : W.heap[g]? = some Z) : ∃ Z', (W.setCell ⟨g, l.length, none⟩ v).heap[g]? = some Z' ∧ SB Z' cap (l ++ [v]) := by
 obtain ⟨cs, T, fr, rfl, h1, h2, h3, h4⟩ := h.ex
 refine ⟨.cells (cs.setIfInBounds l.length v) T fr, ?_, ⟨_, T, fr, rfl, by simp; omega, by simpa using h2, fun i hi => ?_, h4⟩⟩
 ·simp [World.setCell, Array.getElem?_modify, hz]
 ·rw [Array.getElem?_setIfInBounds]
  by_cases e : l.length = i
  ·subst e
   rw [if_pos rfl, if_pos (by omega)]
   simp
  ·simp at hi
   rw [if_neg e, h3 i (by omega), List.getElem?_append_left (by omega)]
def bs (ns : List Int) : ByteArray := ⟨(ns.map fun n => UInt8.ofNat n.toNat).toArray⟩
def sb (s : Yb) : List Int := s.data.toList.map fun b => (b.toNat : Int)
def vs8 (l : List Int) : List Value := l.map fun x => .int .u8 x
theorem bs_size (l : List Int) : (bs l).size = l.length := by simp [bs, ByteArray.size]
theorem sb_length (s : Yb) : (sb s).length = s.size := by simp [sb]
theorem vs8_length (l : List Int) : (vs8 l).length = l.length := by simp [vs8]
theorem sb_get (s : Yb) (i : Nat) (h : i < s.size) : (sb s)[i]? = some (bt s i) := by
 have h' : i < s.data.size := h
 unfold sb bt
 rw [List.getElem?_map, Array.getElem?_toList, Array.getElem?_eq_getElem h']
 rfl
theorem sb_bs (l : List Int) (h : ∀ x ∈ l, 0 ≤ x ∧ x < 256) : sb (bs l) = l := by
 unfold sb bs
 rw [List.map_map]
 conv => rhs; rw [← List.map_id l]
 refine List.map_congr_left fun x hx => ?_
 have := h x hx
 simp
 omega
theorem bs_sb (s : Yb) : bs (sb s) = s := by
 unfold sb bs
 rw [List.map_map]
 apply ByteArray.ext
 simp only
 conv => rhs; rw [← Array.toArray_toList (xs := s.data)]
 congr 1
 conv => rhs; rw [← List.map_id s.data.toList]
 refine List.map_congr_left fun x _ => ?_
 simp
theorem bt_of_sb (s : Yb) (i : Nat) : bt s i = (sb s).getD i 0 := by
 by_cases h : i < s.size
 ·rw [List.getD_eq_getElem?_getD, sb_get s i h]
  rfl
 ·have h' : s.data.size ≤ i := by have : s.data.size = s.size := rfl; omega
  rw [List.getD_eq_getElem?_getD, List.getElem?_eq_none (by rw [sb_length]; omega)]
  unfold bt
  rw [Array.getElem?_eq_none h']
  rfl
theorem sb_nn (s : Yb) : ∀ x ∈ sb s, 0 ≤ x ∧ x < 256 := by
 intro x hx
 obtain ⟨b, _, rfl⟩ := List.mem_map.1 hx
 have := b.toNat_lt
 omega
theorem sb_append (s t : Yb) : sb (s ++ t) = sb s ++ sb t := by
 unfold sb
 rw [← List.map_append]
 congr 1
section
variable {P : Program} {ops : Array Oper} {rest : List Oper} {o : Oper} {a : Act} {w : World} {c : Ctx} {L : List Blk} {Q : Exit → Act → World → Prop}
theorem rounds_go {c : Code} {n : Nat} (h : c.wp P (Exit.then (Code.rounds P c Q n) Q) a w) : Code.rounds P c Q (n + 1) a w := h
theorem run_appR (t ty e : TypeId) (ht : P.underlying t = some (.slice e)) (hz : (P.info? e).map (·.size) = some 1) (g cap : Nat) (Z : Obj) (l : List Value) (hg : w.heap[g]? = some Z) (hs : SB Z cap l) (hroom : l.length < cap) (gx : Nat) (v : Value) (hx : w.cell? ⟨gx, 0, none⟩ = some v) (h1 : v.oneCell' = true) :
  (Builtin.append_ #[t, t] ty #[.slice (some ⟨g, 0, none⟩) l.length cap, .slice (some ⟨gx, 0, none⟩) 1 1]).run P w = .ok (.slice (some ⟨g, 0, none⟩) (l.length + 1) cap) (w.setCell ⟨g, l.length, none⟩ v) := by
 have hf := run_firstCells_some (P := P) w 1 1 ⟨gx, 0, none⟩ 1 1 [v] (by simp) (fun j u hu => by
  cases j with
  | zero => simp at hu; subst hu; rw [add_at]; exact hx
  | succ j => simp at hu)
 obtain ⟨cs, T, fr, rfl, h2, h3, h4, h5⟩ := hs.ex
 have hst := run_storeCells_cells (P := P) g l.length [v] 0 w (fun j hj => by
   simp at hj
   subst hj
   unfold World.cell?
   rw [hg]
   simp
   omega) (fun j hj => by
   simp at hj
   subst hj
   unfold World.frozen?
   rw [hg]
   exact h5 _ hroom) (by simpa using h1)
 simp only [Nat.add_zero, World.setCells] at hst
 cases hq : P.info? e with
 | none => simp [hq] at hz
 | some i =>
  have hsz : i.size = 1 := by simpa [hq] using hz
  have hr2 : l.length + 1 ≤ cap := hroom
  simp [Builtin.append_, run_underlying ht, sizeOf, typeInfo, hq, hsz, Builtin.lenOf, hr2, hf, add_at, hst]
theorem pl_appR (M : Mem c L w) (hw : Region.wanted o (yielded ops a.tmps) = true) (d : Option Tmp) (hd : o.dst = d) (t ty e : TypeId) (ht : P.underlying t = some (.slice e)) (hz : (P.info? e).map (·.size) = some 1) (i g n cap : Nat) (Z : Obj) (l : List Value) (hi : L[i]? = some ⟨g, Z⟩) (hs : SB Z cap l) (hn : l.length = n) (hroom : n < cap) (j gx Tx : Nat) (v : Value) (hj : L[j]? = some ⟨gx, .cells (av 1 (fun _ => v)) Tx⟩) (h1 : v.oneCell' = true)
  (hrun : ∀ w, (execOp a.eval o).run P w = (do pure (Next.value (← Builtin.append_ #[t, t] ty #[.slice (some ⟨g, 0, none⟩) n cap, .slice (some ⟨gx, 0, none⟩) 1 1]))).run P w)
  (h : ∀ Z' w', SB Z' cap (l ++ [v]) → Mem c (L.set i ⟨g, Z'⟩) w' → PL P ops Q rest (a.put d (.slice (some ⟨g, 0, none⟩) (n + 1) cap)) w') : PL P ops Q (o :: rest) a w := by
 subst hn
 obtain ⟨Z', h2, h3⟩ := hs.set hroom v (M.get i hi)
 refine pl_to hw d hd _ _ ?_ (h Z' _ h3 (M.put i ⟨g, Z⟩ hi Z' (grown_setCell _ _ _ _) h2))
 rw [hrun]
 simp only [Sem.run_bind, run_appR t ty e ht hz g cap Z l (M.get i hi) hs hroom gx v (cell_av (M.get j hj) (by decide)) h1, Result.andThen_ok, Sem.run_pure]
theorem setCells_block (g : Nat) (T : TypeId) (fr : Nat × Nat) : ∀ (vs : List Value) (W : World) (cs : Array Value) (o : Nat), W.heap[g]? = some (.cells cs T fr) → ∃ ds, (W.setCells g o vs).heap[g]? = some (.cells ds T fr) ∧ ds.size = cs.size ∧ ∀ i, ds[i]? = if o ≤ i ∧ i < o + vs.length ∧ i < cs.size then vs[i - o]? else cs[i]?
 | [], W, cs, o, h => ⟨cs, h, rfl, fun i => by rw [if_neg (by simp; omega)]⟩
 | v :: vs, W, cs, o, h => by
  have h1 : (W.setCell ⟨g, o, none⟩ v).heap[g]? = some (.cells (cs.setIfInBounds o v) T fr) := by simp [World.setCell, Array.getElem?_modify, h]
  obtain ⟨ds, h2, h3, h4⟩ := setCells_block g T fr vs _ _ (o + 1) h1
  refine ⟨ds, h2, by simpa using h3, fun i => ?_⟩
  rw [h4 i]
  simp only [Array.size_setIfInBounds, List.length_cons]
  by_cases hi : o + 1 ≤ i ∧ i < o + 1 + vs.length ∧ i < cs.size
  ·rw [if_pos hi, if_pos (by omega), show i - o = (i - (o + 1)) + 1 by omega, List.getElem?_cons_succ]
  ·rw [if_neg hi, Array.getElem?_setIfInBounds]
   by_cases e : o = i
   ·subst e
    by_cases hs : o < cs.size
    ·rw [if_pos rfl, if_pos hs, if_pos (by omega), Nat.sub_self]
     rfl
    ·rw [if_pos rfl, if_neg hs, if_neg (by omega)]
     exact (Array.getElem?_eq_none (by omega)).symm
   ·rw [if_neg e, if_neg (by omega)]
theorem SB.sets {Z : Obj} {cap : Nat} {l : List Value} (h : SB Z cap l) (vs : List Value) (hr : l.length + vs.length ≤ cap) {W : World} {g : Nat} (hz : W.heap[g]? = some Z) : ∃ Z', (W.setCells g l.length vs).heap[g]? = some Z' ∧ SB Z' cap (l ++ vs) := by
 obtain ⟨cs, T, fr, rfl, h1, h2, h3, h4⟩ := h.ex
 obtain ⟨ds, e1, e2, e3⟩ := setCells_block g T fr vs W cs l.length hz
 refine ⟨_, e1, ⟨ds, T, fr, rfl, by simpa using hr, by omega, fun i hi => ?_, h4⟩⟩
 rw [List.length_append] at hi
 rw [e3 i]
 by_cases hl : l.length ≤ i
 ·rw [if_pos (by omega), List.getElem?_append_right hl]
 ·rw [if_neg (by omega), h3 i (by omega), List.getElem?_append_left (by omega)]
theorem SB.take {Z : Obj} {cap : Nat} {l : List Value} (h : SB Z cap l) : SB Z cap [] := by
 obtain ⟨cs, T, fr, e, h1, h2, h3, h4⟩ := h.ex
 exact ⟨cs, T, fr, e, by simp, h2, fun i hi => by simp at hi, h4⟩
theorem pl_appX (M : Mem c L w) (hw : Region.wanted o (yielded ops a.tmps) = true) (d : Option Tmp) (hd : o.dst = d) (t tx ty e : TypeId) (info : TypeInfo) (ht : P.underlying t = some (.slice e)) (hin : P.info? e = some info) (hsz : info.size = 1) (i g n cap : Nat) (Z : Obj) (l : List Value) (hi : L[i]? = some ⟨g, Z⟩) (hs : SB Z cap l) (hn : l.length = n) (x : Value) (m : Nat) (news : List Value) (hsrc : ∀ w, Mem c L w → Src P 1 tx x m news w) (hm : news.length = m) (hroom : n + m ≤ cap)
  (hrun : ∀ w, (execOp a.eval o).run P w = (do pure (Next.value (← Builtin.append_ #[t, tx] ty #[.slice (some ⟨g, 0, none⟩) n cap, x]))).run P w)
  (h : ∀ Z' w', SB Z' cap (l ++ news) → Mem c (L.set i ⟨g, Z'⟩) w' → PL P ops Q rest (a.put d (.slice (some ⟨g, 0, none⟩) (n + m) cap)) w') : PL P ops Q (o :: rest) a w := by
 subst hn hm
 obtain ⟨Z', h2, h3⟩ := hs.sets news hroom (M.get i hi)
 obtain ⟨cs, T, fr, hZ, h4, h5, h6, h7⟩ := hs.ex
 have hg := M.get i hi
 rw [hZ] at hg
 have hr := run_append_room_src (P := P) w t tx ty e info ht hin g 0 l.length cap x news.length news (by rw [hsz]; exact hsrc w M) hroom (fun j hj => by
   rw [hsz, Nat.mul_one, Nat.zero_add]
   unfold World.cell?
   rw [hg]
   simp
   omega) (fun j hj => by
   rw [hsz, Nat.mul_one, Nat.zero_add]
   unfold World.frozen?
   rw [hg]
   exact h7 _ (by show l.length + j < cap; omega))
 rw [hsz, Nat.mul_one, Nat.zero_add] at hr
 refine pl_to hw d hd _ _ ?_ (h Z' _ h3 (M.put i ⟨g, Z⟩ hi Z' (grown_setCells _ _ _ _) h2))
 rw [hrun]
 simp only [Sem.run_bind, hr, Result.andThen_ok, Sem.run_pure]
theorem pl_makeZ (M : Mem c L w) (hw : Region.wanted o (yielded ops a.tmps) = true) (d : Option Tmp) (hd : o.dst = d) (t e : TypeId) (info : TypeInfo) (ht : P.underlying t = some (.slice e)) (hin : P.info? e = some info) (hzv : info.zero = some (.int .u8 0)) (hsz : info.size = 1) (hby : info.bytes ≤ 16) (x y : Operand) (ho : o.op = .makeSlice t x y) (kx ky : IntKind) (cap : Nat) (hx : a.eval x = .int kx (cap : Int)) (hy : a.eval y = .int ky (cap : Int)) (hc : cap < 1000000)
  (h : ∀ g Z w', SB Z cap (vs8 (List.replicate cap 0)) → Mem c (L ++ [⟨g, Z⟩]) w' → PL P ops Q rest (a.put d (.slice (some ⟨g, 0, none⟩) cap cap)) w') : PL P ops Q (o :: rest) a w := by
 have hr := run_make (P := P) w t e info (.int .u8 0) ht hin hzv kx ky (cap : Int) (cap : Int) (by omega) (by omega) (by
  have := Int.mul_le_mul (show (info.bytes : Int) ≤ 16 by omega) (show (cap : Int) ≤ 1000000 by omega) (by omega) (by omega)
  omega) (by omega)
 simp only [Int.toNat_natCast, hsz, Nat.mul_one] at hr
 refine pl_to hw d hd (.slice (some ⟨w.heap.size, 0, none⟩) cap cap) _ ?_ (h w.heap.size (.cells (madeCells #[.int .u8 0] cap) e) (w.alloc (.cells (madeCells #[.int .u8 0] cap) e)) ⟨_, e, (0, 0), rfl, by simp [vs8], by rw [size_madeCells]; exact Nat.le_refl _, fun i hi => ?_, fun i _ => by simp⟩ (M.new _ _ (new_below w _) (heap_alloc_new w _) (Nat.le_refl _)))
 ·unfold execOp
  simp only [ho, hx, hy, Sem.run_bind, Sem.run_pure]
  rw [hr]
  rfl
 ·simp [vs8] at hi
  simp [vs8, madeCells, hi, Nat.mod_one]
theorem set_perm {α : Type} : ∀ (L : List α) (i : Nat) (b : α), i < L.length → (L.set i b).Perm (L.eraseIdx i ++ [b])
 | [], _, _, h => absurd h (by simp)
 | x :: L, 0, b, _ => by
  simp only [List.set_cons_zero, List.eraseIdx_cons_zero]
  exact (List.perm_append_comm (l₁ := [b]) (l₂ := L))
 | x :: L, i + 1, b, h => by
  simp only [List.set_cons_succ, List.eraseIdx_cons_succ, List.cons_append]
  exact (set_perm L i b (by simpa using h)).cons x
theorem pl_app (M : Mem c L w) (hw : Region.wanted o (yielded ops a.tmps) = true) (d : Option Tmp) (hd : o.dst = d) (t ty e : TypeId) (info : TypeInfo) (zv : Value) (ht : P.underlying t = some (.slice e)) (hin : P.info? e = some info) (hzv : info.zero = some zv) (hsz : info.size = 1) (hby : info.bytes ≤ 16) (hzc : zv.cells.size = 1) (i g n cap : Nat) (Z : Obj) (l : List Value) (hi : L[i]? = some ⟨g, Z⟩) (hs : SB Z cap l) (hn : l.length = n) (hle : n < 1000000) (j gx Tx : Nat) (v : Value) (hj : L[j]? = some ⟨gx, .cells (av 1 (fun _ => v)) Tx⟩) (h1 : v.oneCell' = true)
  (hrun : ∀ w, (execOp a.eval o).run P w = (do pure (Next.value (← Builtin.append_ #[t, t] ty #[.slice (some ⟨g, 0, none⟩) n cap, .slice (some ⟨gx, 0, none⟩) 1 1]))).run P w)
  (h : ∀ g' cap' Z' w', SB Z' cap' (l ++ [v]) → Mem c (L.eraseIdx i ++ [⟨g', Z'⟩]) w' → PL P ops Q rest (a.put d (.slice (some ⟨g', 0, none⟩) (n + 1) cap')) w') : PL P ops Q (o :: rest) a w := by
 have hz : (P.info? e).map (·.size) = some 1 := by rw [hin]; simpa using hsz
 have hil := (List.getElem?_eq_some_iff.1 hi).1
 by_cases hroom : n < cap
 ·refine pl_appR M hw d hd t ty e ht hz i g n cap Z l hi hs hn hroom j gx Tx v hj h1 hrun fun Z' w' h3 M' => ?_
  exact h g cap Z' w' h3 (M'.perm (set_perm L i _ hil))
 ·subst hn
  have hcell := cell_av (M.get j hj) (i := 0) (by decide)
  have hcap : cap = l.length := by have := hs.le; omega
  have hr := run_append_grow (P := P) w t ty e info zv ht hin hzv ⟨g, 0, none⟩ l.length cap l (by rw [hsz]; omega) (fun k u hu => by rw [add_at, Nat.zero_add]; exact hs.cell (M.get i hi) hu) ⟨gx, 0, none⟩ 1 1 [v] (by rw [hsz]; rfl) (fun k u hu => by
   cases k with
   | zero => simp at hu; subst hu; rw [add_at]; exact hcell
   | succ k => simp at hu) (by omega) (by omega) (growslice_fits (by omega) (by
    have := Nat.mul_le_mul (show l.length + 1 ≤ 1000000 by omega) hby
    omega))
  have hge := grownCap_ge w (l.length + 1) cap e
  generalize grownCap w (l.length + 1) cap e = nc at hr hge
  have hr2 : (execOp a.eval o).run P w = .ok (.value (.slice (some ⟨w.heap.size, 0, none⟩) (l.length + 1) nc)) (w.drew.alloc (.cells (l.toArray ++ [v].toArray ++ Builtin.zeroCells zv.cells (nc - (l.length + 1))) e)) := by
   rw [hrun]
   simp only [Sem.run_bind, hr, Result.andThen_ok, Sem.run_pure]
  refine pl_to hw d hd _ _ hr2 (h w.heap.size nc (.cells (l.toArray ++ [v].toArray ++ Builtin.zeroCells zv.cells (nc - (l.length + 1))) e) _ ⟨_, e, (0, 0), rfl, by simp; omega, ?_, fun k hk => ?_, fun k _ => by simp⟩ ?_)
  ·simp only [Array.size_append, List.size_toArray, List.length_cons, List.length_nil, size_zeroCells, hzc]
   omega
  ·rw [Array.getElem?_append_left (by simpa using hk)]
   simp
  ·refine (M.drew.new w.heap.size _ (new_below _ _) (heap_alloc_new w.drew _) (Nat.le_refl _)).drop ?_
   exact (List.eraseIdx_sublist L i).append (List.Sublist.refl _)
theorem pl_app0 (M : Mem c L w) (hw : Region.wanted o (yielded ops a.tmps) = true) (d : Option Tmp) (hd : o.dst = d) (t ty e : TypeId) (info : TypeInfo) (zv : Value) (ht : P.underlying t = some (.slice e)) (hin : P.info? e = some info) (hzv : info.zero = some zv) (hsz : info.size = 1) (hby : info.bytes ≤ 16) (hzc : zv.cells.size = 1) (j gx Tx : Nat) (v : Value) (hj : L[j]? = some ⟨gx, .cells (av 1 (fun _ => v)) Tx⟩)
  (hrun : ∀ w, (execOp a.eval o).run P w = (do pure (Next.value (← Builtin.append_ #[t, t] ty #[.slice none 0 0, .slice (some ⟨gx, 0, none⟩) 1 1]))).run P w)
  (h : ∀ g' cap' Z' w', SB Z' cap' [v] → Mem c (L ++ [⟨g', Z'⟩]) w' → PL P ops Q rest (a.put d (.slice (some ⟨g', 0, none⟩) 1 cap')) w') : PL P ops Q (o :: rest) a w := by
 have hcell := cell_av (M.get j hj) (i := 0) (by decide)
 have hr := run_append_nil (P := P) w t ty e info zv ht hin hzv ⟨gx, 0, none⟩ 1 1 [v] (by rw [hsz]; rfl) (fun k u hu => by
   cases k with
   | zero => simp at hu; subst hu; rw [add_at]; exact hcell
   | succ k => simp at hu) (by omega) (by omega) (by omega)
 have hge := grownCap_ge w 1 0 e
 generalize grownCap w 1 0 e = nc at hr hge
 have hr2 : (execOp a.eval o).run P w = .ok (.value (.slice (some ⟨w.heap.size, 0, none⟩) 1 nc)) (w.drew.alloc (.cells ([v].toArray ++ Builtin.zeroCells zv.cells (nc - 1)) e)) := by
  rw [hrun]
  simp only [Sem.run_bind, hr, Result.andThen_ok, Sem.run_pure]
 refine pl_to hw d hd _ _ hr2 (h w.heap.size nc (.cells ([v].toArray ++ Builtin.zeroCells zv.cells (nc - 1)) e) _ ⟨_, e, (0, 0), rfl, by simp; omega, ?_, fun k hk => ?_, fun k _ => by simp⟩ ?_)
 ·simp only [Array.size_append, List.size_toArray, List.length_cons, List.length_nil, size_zeroCells, hzc]
  omega
 ·rw [Array.getElem?_append_left (by simpa using hk)]
  simp
 ·exact M.drew.new w.heap.size _ (new_below _ _) (heap_alloc_new w.drew _) (Nat.le_refl _)
theorem pl_make (M : Mem c L w) (hw : Region.wanted o (yielded ops a.tmps) = true) (d : Option Tmp) (hd : o.dst = d) (t e : TypeId) (info : TypeInfo) (zv : Value) (ht : P.underlying t = some (.slice e)) (hin : P.info? e = some info) (hzv : info.zero = some zv) (hsz : info.size = 1) (hby : info.bytes ≤ 16) (x y : Operand) (ho : o.op = .makeSlice t x y) (kx ky : IntKind) (hx : a.eval x = .int kx 0) (cap : Nat) (hy : a.eval y = .int ky (cap : Int)) (hc : cap < 1000000)
  (h : ∀ g Z w', SB Z cap [] → Mem c (L ++ [⟨g, Z⟩]) w' → PL P ops Q rest (a.put d (.slice (some ⟨g, 0, none⟩) 0 cap)) w') : PL P ops Q (o :: rest) a w := by
 have hr := run_make (P := P) w t e info zv ht hin hzv kx ky 0 (cap : Int) (Int.le_refl _) (by omega) (by
  have := Int.mul_le_mul (show (info.bytes : Int) ≤ 16 by omega) (show (cap : Int) ≤ 1000000 by omega) (by omega) (by omega)
  omega) (by omega)
 simp only [Int.toNat_zero, Int.toNat_natCast, hsz, Nat.mul_one] at hr
 refine pl_to hw d hd (.slice (some ⟨w.heap.size, 0, none⟩) 0 cap) _ ?_ (h w.heap.size (.cells (madeCells zv.cells cap) e) (w.alloc (.cells (madeCells zv.cells cap) e)) ⟨_, e, (0, 0), rfl, by simp, by rw [size_madeCells]; exact Nat.le_refl _, fun i hi => by simp at hi, fun i _ => by simp⟩ (M.new _ _ (new_below w _) (heap_alloc_new w _) (Nat.le_refl _)))
 unfold execOp
 simp only [ho, hx, hy, Sem.run_bind, hr, Result.andThen_ok, Sem.run_pure]
end
section
variable {ops : Array Oper} {rest : List Oper} {o : Oper} {a : Act} {w : World} {c : Ctx} {L : List Blk} {Q : Exit → Act → World → Prop}
theorem pl_conv (M : Mem c L w) (hw : Region.wanted o (yielded ops a.tmps) = true) (d : Option Tmp) (hd : o.dst = d) (x : Operand) (ho : o.op = .convert 9 61 x) (s : Yb) (hx : a.eval x = .string s)
  (h : ∀ g cap Z w', SB Z cap (vs8 (sb s)) → Mem c (L ++ [⟨g, Z⟩]) w' → PL Tryz.prog ops Q rest (a.put d (.slice (some ⟨g, 0, none⟩) s.size cap)) w') : PL Tryz.prog ops Q (o :: rest) a w := by
 have hr := run_bytes_of_string (P := Tryz.prog) w 9 61 5 s Tryz.underlying9 Tryz.underlying61 Tryz.underlying5
 have hge : s.size ≤ grownCap w s.size 0 5 := grownCap_ge w s.size 0 5
 generalize grownCap w s.size 0 5 = cap at hr hge
 refine pl_to hw d hd _ _ (by unfold execOp; simp only [ho, hx, Sem.run_bind, hr, Result.andThen_ok, Sem.run_pure]) (h w.heap.size cap (.cells (bytesRow s cap) 5 ((bytesRow s cap).size, (bytesRow s cap).size + 1)) _ ⟨_, _, _, rfl, by rw [vs8_length, sb_length]; exact hge, ?_, fun i hi => ?_, fun i hi => ?_⟩ (M.drew.new _ _ (new_below _ _) (heap_alloc_new w.drew _) (Nat.le_refl _)))
 ·have hs : s.size = s.data.size := rfl
  simp [bytesRow]
  omega
 ·rw [vs8_length, sb_length] at hi
  have hi' : i < s.data.size := hi
  unfold bytesRow vs8
  rw [Array.getElem?_append_left (by simpa using hi'), Array.getElem?_map, Array.getElem?_eq_getElem hi', List.getElem?_map, sb_get s i hi]
  unfold bt
  rw [Array.getElem?_eq_getElem hi']
  rfl
 ·have hs : s.size = s.data.size := rfl
  have hsz : cap ≤ (bytesRow s cap).size := by
   simp [bytesRow]
   omega
  simp
  omega
theorem pl_back (M : Mem c L w) (hw : Region.wanted o (yielded ops a.tmps) = true) (d : Option Tmp) (hd : o.dst = d) (x : Operand) (ho : o.op = .convert 61 9 x) (i g n cap : Nat) (hx : a.eval x = .slice (some ⟨g, 0, none⟩) n cap) (Z : Obj) (hi : L[i]? = some ⟨g, Z⟩) (l : List Int) (cp : Nat) (hs : SB Z cp (vs8 l)) (hn : l.length = n) (hf : ∀ x ∈ l, 0 ≤ x ∧ x < 256)
  (h : PL Tryz.prog ops Q rest (a.put d (.string (bs l))) w) : PL Tryz.prog ops Q (o :: rest) a w := by
 subst hn
 refine pl_to hw d hd _ w ?_ h
 have hl : (l.map fun n => UInt8.ofNat n.toNat).length = l.length := by simp
 have h2 := run_convert_bytes_back (P := Tryz.prog) w 61 9 5 ⟨g, 0, none⟩ cap (l.map fun n => UInt8.ofNat n.toNat) Tryz.underlying61 Tryz.underlying5 Tryz.underlying9 (fun j hj => by
  rw [hl] at hj
  have hv : (vs8 l)[j]? = some (.int .u8 (l[j]'hj)) := by
   unfold vs8
   rw [List.getElem?_map, List.getElem?_eq_getElem hj]
   rfl
  rw [add_at, Nat.zero_add, hs.cell (M.get i hi) hv]
  have := hf _ (List.getElem_mem hj)
  simp
  omega)
 rw [hl] at h2
 unfold execOp
 simp only [ho, hx, Sem.run_bind, h2, Result.andThen_ok, Sem.run_pure]
 rfl
end
open Go.RowKit
def stepA (P : Program) (ops : Array Oper) : Nat → List Oper → Act → World → Option (Act × World)
 | 0, _, a, w => some (a, w)
 | _ + 1, [], _, _ => none
 | n + 1, o :: rest, a, w =>
  match Region.wanted o (yielded ops a.tmps) with
  | true => match (execOp a.eval o).run P w with
   | .ok (.value v) w' => stepA P ops n rest (a.put o.dst v) w'
   | _ => none
  | false => stepA P ops n rest (a.put o.dst undef) w
def actA (P : Program) (ops : Array Oper) (n : Nat) (l : List Oper) (a : Act) (w : World) : Act := match stepA P ops n l a w with
 | some p => p.1
 | none => a
def stepL (P : Program) (ops : Array Oper) : Nat → List Oper → Act → World → Option (List (Value × World) × Act)
 | 0, _, a, _ => some ([], a)
 | _ + 1, [], _, _ => none
 | n + 1, o :: rest, a, w =>
  match Region.wanted o (yielded ops a.tmps) with
  | true => match (execOp a.eval o).run P w with
   | .ok (.value v) w' => match stepL P ops n rest (a.put o.dst v) w' with
    | some (L, A) => some ((v, w') :: L, A)
    | none => none
   | _ => none
  | false => stepL P ops n rest (a.put o.dst undef) w
def valL (P : Program) (ops : Array Oper) (n : Nat) (l : List Oper) (a : Act) (w : World) : List Value := match stepL P ops n l a w with
 | some p => p.1.map Prod.fst
 | none => []
def actL (P : Program) (ops : Array Oper) (n : Nat) (l : List Oper) (a : Act) (w : World) : Act := match stepL P ops n l a w with
 | some p => p.2
 | none => a
def slt (a : Act) : Nat → Value := fun k => a.tmps[k]?.getD undef
def vr (v : NV) (i n : Nat) : List Value := (List.range' i n).map v
def und (n : Nat) : List Value := List.replicate n undef
abbrev fm (l : List Value) : Act := ⟨l.toArray, []⟩
theorem Mem.nf {c : Ctx} {L L' : List Blk} {W : World} (M : Mem c L W) (h : L = L' := by first | (simp only [List.set_cons_zero, List.set_cons_succ, List.cons_append, List.nil_append]; exact rfl) | exact rfl) : Mem c L' W := h ▸ M
theorem exS {a : Act} {F : (Nat → Value) → Act} {R : (Nat → Value) → Prop} (hR : R (slt a)) (h : a = F (slt a) := by kernel_rfl) : ∃ v, a = F v ∧ R v := ⟨slt a, h, hR⟩
section
variable {P : Program} {ops : Array Oper} {l : List Oper} {a : Act} {w W : World} {Q : Exit → Act → World → Prop} {R : Act → Prop}
theorem pl_steps : ∀ (n : Nat) (l : List Oper) (a A : Act) (w w' : World), stepA P ops n l a w = some (A, w') → PL P ops Q (l.drop n) A w' → PL P ops Q l a w
 | 0, _, a, A, w, w', h, k => by
  obtain ⟨rfl, rfl⟩ : a = A ∧ w = w' := by simpa [stepA] using h
  exact k
 | n + 1, [], _, _, _, _, h, _ => by simp [stepA] at h
 | n + 1, o :: rest, a, A, w, w', h, k => by
  unfold stepA at h
  cases e : Region.wanted o (yielded ops a.tmps) with
  | true =>
   rw [e] at h
   simp only at h
   split at h
   ·rename_i v u hr
    exact pl_to e _ rfl v u hr (pl_steps n rest _ A _ w' h k)
   ·cases h
  | false =>
   rw [e] at h
   simp only at h
   exact pl_skip e _ rfl (pl_steps n rest _ A _ w' h k)
theorem rV (n : Nat) (h : PL P ops Q (l.drop n) (actA P ops n l a w) w) (hr : stepA P ops n l a w = some (actA P ops n l a w, w) := by kernel_rfl) : PL P ops Q l a w := pl_steps n l a _ w w hr h
theorem sq {id : Nat} {y : Code} (h : y.wp P Q (actA P l.toArray l.length l a w) w) (hr : stepA P l.toArray l.length l a w = some (actA P l.toArray l.length l a w, w) := by kernel_rfl) : (Code.seq (Code.region id l.toArray false) y).wp P Q a w :=
 wp_seq (rg_lit (pl_steps l.length l a _ w w hr (by rw [List.drop_length]; exact pl_nil (au_then h))))
theorem sR {id : Nat} {l : List Oper} {y : Code} (h : PL P l.toArray (Exit.then (y.wp P Q) Q) l a w) : (Code.seq (Code.region id l.toArray false) y).wp P Q a w := wp_seq (rg_lit h)
theorem nT {K : Act → World → Prop} (h : K a w) : PL P ops (Exit.then K Q) [] a w := pl_nil (au_then h)
structure RnL (P : Program) (ops : Array Oper) (n : Nat) (l : List Oper) (a : Act) (V : List Value) (A : Act) : Prop where
 out : ∀ w, stepL P ops n l a w = some (V.map (fun v => (v, w)), A)
theorem k_steps : ∀ (n : Nat) (l : List Oper) (a : Act) (V : List Value) (A : Act), RnL P ops n l a V A → KL P ops W R (l.drop n) A → KL P ops W R l a
 | 0, _, a, V, A, h, k => by
  have := h.out W
  obtain ⟨-, rfl⟩ : _ ∧ a = A := by simpa [stepL] using this
  exact k
 | n + 1, [], _, _, _, h, _ => by simpa [stepL] using h.out W
 | n + 1, o :: rest, a, V, A, ⟨h⟩, k => by
  unfold stepL at h
  cases e : Region.wanted o (yielded ops a.tmps) with
  | true =>
   simp only [e] at h
   have key : ∀ w, ∃ v V', V = v :: V' ∧ (execOp a.eval o).run P w = .ok (.value v) w ∧ stepL P ops n rest (a.put o.dst v) w = some (V'.map (fun v => (v, w)), A) := fun w => by
    have hw := h w
    split at hw
    ·rename_i v u hr
     split at hw
     ·rename_i L B hs
      cases V with
      | nil => simp at hw
      | cons x V' =>
       simp only [List.map_cons, Option.some.injEq, Prod.mk.injEq, List.cons.injEq] at hw
       obtain ⟨⟨⟨rfl, rfl⟩, rfl⟩, rfl⟩ := hw
       exact ⟨v, V', rfl, hr, hs⟩
     ·cases hw
    ·cases hw
   obtain ⟨v, V', rfl, -, -⟩ := key W
   have key2 : ∀ w, (execOp a.eval o).run P w = .ok (.value v) w ∧ stepL P ops n rest (a.put o.dst v) w = some (V'.map (fun v => (v, w)), A) := fun w => by
    obtain ⟨v2, V2, e2, h1, h2⟩ := key w
    obtain ⟨rfl, rfl⟩ := List.cons.inj e2
    exact ⟨h1, h2⟩
   exact k_val e _ rfl v (fun w => (key2 w).1) (k_steps n rest _ V' A ⟨fun w => (key2 w).2⟩ k)
  | false =>
   simp only [e] at h
   exact k_skip e _ rfl (k_steps n rest _ V A ⟨h⟩ k)
theorem kR (n : Nat) (h : KL P ops W R (l.drop n) (actL P ops n l a W)) (hr : RnL P ops n l a (valL P ops n l a W) (actL P ops n l a W) := by exact ⟨fun _ => by kernel_rfl⟩) : KL P ops W R l a := k_steps n l a _ _ hr h
end
structure Rn (P : Program) (a : Act) (o : Oper) (v : Value) : Prop where
 out : ∀ w, (execOp a.eval o).run P w = .ok (.value v) w
structure Rc (P : Program) (a : Act) (o : Oper) (f : FuncId) (xs : Array Value) : Prop where
 out : ∀ w, (execOp a.eval o).run P w = .ok (.enter f xs) w
structure Ra (P : Program) (a : Act) (o : Oper) (Z : Obj) : Prop where
 out : ∀ w, (execOp a.eval o).run P w = .ok (.value (.pointer (some ⟨w.heap.size, 0, none⟩))) (w.alloc Z)
structure Ev (a : Act) (x : Operand) (v : Value) : Prop where
 out : a.eval x = v
structure Na (P : Program) (ty : TypeId) : Prop where
 out : ∀ w, (isAgg ty).run P w = .ok false w
theorem isRow_of {P : Program} {ty : TypeId} (h : (P.underlying ty).map TypeDesc.isRow = some true) : ∃ t, P.underlying ty = some t ∧ t.isRow = true := by
 cases e : P.underlying ty with
 | none => rw [e] at h; cases h
 | some t => rw [e] at h; exact ⟨t, rfl, by simpa using h⟩
section
variable {P : Program} {ops : Array Oper} {rest : List Oper} {o : Oper} {a : Act} {w W : World} {c : Ctx} {L : List Blk} {Q : Exit → Act → World → Prop} {K : Act → World → Prop} {R : Act → Prop}
theorem pN (M : Mem c L w) (d : Tmp) (Z : Obj) (h : ∀ g w', Mem c (L ++ [⟨g, Z⟩]) w' → PL P ops Q rest (a.put (some d) (.pointer (some ⟨g, 0, none⟩))) w') (hw : Wn ops o a = true := by first | exact want_no rfl | kernel_rfl) (hd : o.dst = some d := by exact rfl) (hr : Ra P a o Z := by exact ⟨fun _ => by kernel_rfl⟩) : PL P ops Q (o :: rest) a w := pl_new M hw (some d) hd Z hr.out h
theorem pC (M : Mem c L w) (d : Tmp) (f : FuncId) (xs : Array Value) (v : Value) (hc : ∀ w, Mem c L w → Calls P f xs w fun e w' => e = .returned v ∧ Below w.heap.size w w') (h : ∀ w', Mem c L w' → PL P ops Q rest (a.put (some d) v) w') (hw : Wn ops o a = true := by first | exact want_no rfl | kernel_rfl) (hd : o.dst = some d := by exact rfl) (hr : Rc P a o f xs := by exact ⟨fun _ => by kernel_rfl⟩) : PL P ops Q (o :: rest) a w := pl_call M hw (some d) hd f xs v hr.out hc h
theorem kC (M : Mem c L W) (d : Tmp) (f : FuncId) (xs : Array Value) (v : Value) (hc : ∀ w, Mem c L w → Calls P f xs w fun e w' => e = .returned v ∧ Below w.heap.size w w') (h : KL P ops W R rest (a.put (some d) v)) (hw : Wn ops o a = true := by first | exact want_no rfl | kernel_rfl) (hd : o.dst = some d := by exact rfl) (hr : Rc P a o f xs := by exact ⟨fun _ => by kernel_rfl⟩) : KL P ops W R (o :: rest) a := k_call M hw (some d) hd f xs v hr.out hc h
theorem pE (M : Mem c L w) (d : Tmp) (g off : Nat) (v : Value) (hc : ∀ w, Mem c L w → w.cell? ⟨g, off, none⟩ = some v) (h : PL P ops Q rest (a.put (some d) v) w) {ty : TypeId} {x : Operand} (hw : Wn ops o a = true := by first | exact want_no rfl | kernel_rfl) (hd : o.dst = some d := by exact rfl) (ho : o.op = .load ty x := by exact rfl) (hx : Ev a x (.pointer (some ⟨g, off, none⟩)) := by exact ⟨by kernel_rfl⟩) (ha : Na P ty := by exact ⟨fun _ => by kernel_rfl⟩) : PL P ops Q (o :: rest) a w := pl_cell M hw (some d) hd ty x ho g off hx.out v ha.out hc h
theorem kE (M : Mem c L W) (d : Tmp) (g off : Nat) (v : Value) (hc : ∀ w, Mem c L w → w.cell? ⟨g, off, none⟩ = some v) (h : KL P ops W R rest (a.put (some d) v)) {ty : TypeId} {x : Operand} (hw : Wn ops o a = true := by first | exact want_no rfl | kernel_rfl) (hd : o.dst = some d := by exact rfl) (ho : o.op = .load ty x := by exact rfl) (hx : Ev a x (.pointer (some ⟨g, off, none⟩)) := by exact ⟨by kernel_rfl⟩) (ha : Na P ty := by exact ⟨fun _ => by kernel_rfl⟩) : KL P ops W R (o :: rest) a := k_cell M hw (some d) hd ty x ho g off hx.out v ha.out hc h
theorem pL (M : Mem c L w) (d : Tmp) (i : Nat) {g n T : Nat} {F : NV} (hi : L[i]? = some ⟨g, .cells (av n F) T⟩) (off k : Nat) (F' : NV) (hp : ∀ j, j < k → F (off + j) = F' j) (h : PL P ops Q rest (a.put (some d) (.agg (av k F'))) w) {ty : TypeId} {x : Operand} (hw : Wn ops o a = true := by first | exact want_no rfl | kernel_rfl) (hd : o.dst = some d := by exact rfl) (ho : o.op = .load ty x := by exact rfl) (hx : Ev a x (.pointer (some ⟨g, off, none⟩)) := by exact ⟨by kernel_rfl⟩) (hk : off + k ≤ n := by decide) (hu : (P.underlying ty).map TypeDesc.isRow = some true := by kernel_rfl) (hz : (P.info? ty).map (·.size) = some k := by kernel_rfl) : PL P ops Q (o :: rest) a w := by
 obtain ⟨t, h1, h2⟩ := isRow_of hu
 exact pl_load M hw (some d) hd ty x ho i g off hx.out n T F hi k F' hp hk t h1 h2 hz h
theorem kL (M : Mem c L W) (d : Tmp) (i : Nat) {g n T : Nat} {F : NV} (hi : L[i]? = some ⟨g, .cells (av n F) T⟩) (off k : Nat) (F' : NV) (hp : ∀ j, j < k → F (off + j) = F' j) (h : KL P ops W R rest (a.put (some d) (.agg (av k F')))) {ty : TypeId} {x : Operand} (hw : Wn ops o a = true := by first | exact want_no rfl | kernel_rfl) (hd : o.dst = some d := by exact rfl) (ho : o.op = .load ty x := by exact rfl) (hx : Ev a x (.pointer (some ⟨g, off, none⟩)) := by exact ⟨by kernel_rfl⟩) (hk : off + k ≤ n := by decide) (hu : (P.underlying ty).map TypeDesc.isRow = some true := by kernel_rfl) (hz : (P.info? ty).map (·.size) = some k := by kernel_rfl) : KL P ops W R (o :: rest) a := by
 obtain ⟨t, h1, h2⟩ := isRow_of hu
 exact k_load M hw (some d) hd ty x ho i g off hx.out n T F hi k F' hp hk t h1 h2 hz h
theorem pA (M : Mem c L w) (d : Tmp) (i n : Nat) (F : NV) (h : PL P ops Q rest (a.put (some d) (.agg (av n F))) w) {g T : Nat} {ty : TypeId} {x : Operand} (hw : Wn ops o a = true := by first | exact want_no rfl | kernel_rfl) (hd : o.dst = some d := by exact rfl) (ho : o.op = .load ty x := by exact rfl) (hi : L[i]? = some ⟨g, .cells (av n F) T⟩ := by exact rfl) (hx : Ev a x (.pointer (some ⟨g, 0, none⟩)) := by exact ⟨by kernel_rfl⟩) (hu : (P.underlying ty).map TypeDesc.isRow = some true := by kernel_rfl) (hz : (P.info? ty).map (·.size) = some n := by kernel_rfl) : PL P ops Q (o :: rest) a w := by
 obtain ⟨t, h1, h2⟩ := isRow_of hu
 exact pl_load M hw (some d) hd ty x ho i g 0 hx.out n T F hi n F (fun j _ => by rw [Nat.zero_add]) (by omega) t h1 h2 hz h
theorem kA (M : Mem c L W) (d : Tmp) (i n : Nat) (F : NV) (h : KL P ops W R rest (a.put (some d) (.agg (av n F)))) {g T : Nat} {ty : TypeId} {x : Operand} (hw : Wn ops o a = true := by first | exact want_no rfl | kernel_rfl) (hd : o.dst = some d := by exact rfl) (ho : o.op = .load ty x := by exact rfl) (hi : L[i]? = some ⟨g, .cells (av n F) T⟩ := by exact rfl) (hx : Ev a x (.pointer (some ⟨g, 0, none⟩)) := by exact ⟨by kernel_rfl⟩) (hu : (P.underlying ty).map TypeDesc.isRow = some true := by kernel_rfl) (hz : (P.info? ty).map (·.size) = some n := by kernel_rfl) : KL P ops W R (o :: rest) a := by
 obtain ⟨t, h1, h2⟩ := isRow_of hu
 exact k_load M hw (some d) hd ty x ho i g 0 hx.out n T F hi n F (fun j _ => by rw [Nat.zero_add]) (by omega) t h1 h2 hz h
theorem pP (M : Mem c L w) (i : Nat) {g n T : Nat} {F : NV} (hi : L[i]? = some ⟨g, .cells (av n F) T⟩) (off : Nat) (v : Value) (Fn : NV) (hk : off < n) (hfn : ∀ j, j < n → (if j = off then v else F j) = Fn j) (h : ∀ w', Mem c (L.set i ⟨g, .cells (av n Fn) T⟩) w' → PL P ops Q rest a w') {ty : TypeId} {x y : Operand} (hw : Wn ops o a = true := by first | exact want_no rfl | kernel_rfl) (hd : o.dst = none := by exact rfl) (ho : o.op = .store ty x y := by exact rfl) (hx : Ev a x (.pointer (some ⟨g, off, none⟩)) := by exact ⟨by kernel_rfl⟩) (hy : Ev a y v := by exact ⟨by kernel_rfl⟩) (hz : (P.info? ty).map (·.size) = some 1 := by kernel_rfl) (h1 : v.oneCell' = true := by exact rfl) (hc : v.cells = #[v] := by exact rfl) : PL P ops Q (o :: rest) a w :=
 pl_put1 M hw hd ty x y ho i g off hx.out n T F hi v Fn hy.out hz hk h1 hc hfn h
theorem pH (d : Tmp) (v : Value) (hr : ∀ w, (execOp a.eval o).run P w = .ok (.value v) w) (h : PL P ops Q rest (a.put (some d) v) w) (hw : Wn ops o a = true := by first | exact want_no rfl | kernel_rfl) (hd : o.dst = some d := by exact rfl) : PL P ops Q (o :: rest) a w := pl_val hw (some d) hd v hr h
theorem kH (d : Tmp) (v : Value) (hr : ∀ w, (execOp a.eval o).run P w = .ok (.value v) w) (h : KL P ops W R rest (a.put (some d) v)) (hw : Wn ops o a = true := by first | exact want_no rfl | kernel_rfl) (hd : o.dst = some d := by exact rfl) : KL P ops W R (o :: rest) a := k_val hw (some d) hd v hr h
theorem jT (p : Prop) [Decidable p] (hp : p) (hr : Rn P a o (.bool (decide p)) := by exact ⟨fun _ => by kernel_rfl⟩) (w : World) : (execOp a.eval o).run P w = .ok (.value (.bool true)) w := (hr.out w).trans (by rw [decide_eq_true hp])
theorem jF (p : Prop) [Decidable p] (hp : ¬ p) (hr : Rn P a o (.bool (decide p)) := by exact ⟨fun _ => by kernel_rfl⟩) (w : World) : (execOp a.eval o).run P w = .ok (.value (.bool false)) w := (hr.out w).trans (by rw [decide_eq_false hp])
theorem jD (p : Prop) [Decidable p] (hp : p) (hr : Rn P a o (.bool (!(decide p))) := by exact ⟨fun _ => by kernel_rfl⟩) (w : World) : (execOp a.eval o).run P w = .ok (.value (.bool false)) w := (hr.out w).trans (by rw [decide_eq_true hp]; rfl)
theorem jU (p : Prop) [Decidable p] (hp : ¬ p) (hr : Rn P a o (.bool (!(decide p))) := by exact ⟨fun _ => by kernel_rfl⟩) (w : World) : (execOp a.eval o).run P w = .ok (.value (.bool true)) w := (hr.out w).trans (by rw [decide_eq_false hp]; rfl)
theorem jV (x : Int) {v : Int} (h : x = v) (h0 : -9223372036854775808 ≤ x) (h1 : x < 9223372036854775808) (hr : Rn P a o (.int .i64 (IntKind.wrap .i64 x)) := by exact ⟨fun _ => by kernel_rfl⟩) (w : World) : (execOp a.eval o).run P w = .ok (.value (.int .i64 v)) w := (hr.out w).trans (by
 rw [show IntKind.wrap .i64 x = x by simp [IntKind.wrap, IntKind.signed, IntKind.bits, go_sem]; omega, h])
end
section
variable {P : Program} {ops : Array Oper} {o : Oper} {a : Act} {w : World} {Q : Exit → Act → World → Prop} {S : World → Prop} {n fuel : Nat} {listed : Array Bool}
theorem qV (M : S w) (i : Nat) (d : Tmp) (v : Value) (h : HL P ops Q S n fuel (listed.setIfInBounds i true) (a.put (some d) v) w) (hi : ops.toList[i]? = some o := by exact rfl) (hin : i < n := by decide) (hf : Region.free .any ops listed i = true := by kernel_rfl) (hr : (Region.ready .any ops listed).contains i = true := by kernel_rfl) (hw : Wn ops o a = true := by first | exact want_no rfl | kernel_rfl) (hd : o.dst = some d := by exact rfl) (hrun : Rn P a o v := by exact ⟨fun _ => by kernel_rfl⟩) : HL P ops Q S n (fuel + 1) listed a w := hl_val M i hi hin hf hr hw (some d) hd v (fun w _ => hrun.out w) h
end
section
variable {P : Program} {ops : Array Oper} {rest : List Oper} {o : Oper} {a : Act} {w W : World} {c : Ctx} {L : List Blk} {Q : Exit → Act → World → Prop} {R : Act → Prop}
theorem ZT (d : Tmp) (p : Prop) [Decidable p] (h : PL P ops Q rest (a.put (some d) (.bool true)) w) (hp : p := by first | omega | decide) (hr : Rn P a o (.bool (decide p)) := by exact ⟨fun _ => by kernel_rfl⟩) (hw : Wn ops o a = true := by first | exact want_no rfl | kernel_rfl) (hd : o.dst = some d := by exact rfl) : PL P ops Q (o :: rest) a w := pH d _ (jT p hp hr) h hw hd
theorem ZF (d : Tmp) (p : Prop) [Decidable p] (h : PL P ops Q rest (a.put (some d) (.bool false)) w) (hp : ¬ p := by first | omega | decide) (hr : Rn P a o (.bool (decide p)) := by exact ⟨fun _ => by kernel_rfl⟩) (hw : Wn ops o a = true := by first | exact want_no rfl | kernel_rfl) (hd : o.dst = some d := by exact rfl) : PL P ops Q (o :: rest) a w := pH d _ (jF p hp hr) h hw hd
theorem ZD (d : Tmp) (p : Prop) [Decidable p] (h : PL P ops Q rest (a.put (some d) (.bool false)) w) (hp : p := by first | omega | decide) (hr : Rn P a o (.bool (!(decide p))) := by exact ⟨fun _ => by kernel_rfl⟩) (hw : Wn ops o a = true := by first | exact want_no rfl | kernel_rfl) (hd : o.dst = some d := by exact rfl) : PL P ops Q (o :: rest) a w := pH d _ (jD p hp hr) h hw hd
theorem ZS (d : Tmp) (p : Prop) [Decidable p] (h : PL P ops Q rest (a.put (some d) (.bool true)) w) (hp : ¬ p := by first | omega | decide) (hr : Rn P a o (.bool (!(decide p))) := by exact ⟨fun _ => by kernel_rfl⟩) (hw : Wn ops o a = true := by first | exact want_no rfl | kernel_rfl) (hd : o.dst = some d := by exact rfl) : PL P ops Q (o :: rest) a w := pH d _ (jU p hp hr) h hw hd
theorem ZI (d : Tmp) (x v : Int) (h : PL P ops Q rest (a.put (some d) (.int .i64 v)) w) (e1 : x = v := by omega) (e2 : -9223372036854775808 ≤ x := by omega) (e3 : x < 9223372036854775808 := by omega) (hr : Rn P a o (.int .i64 (IntKind.wrap .i64 x)) := by exact ⟨fun _ => by kernel_rfl⟩) (hw : Wn ops o a = true := by first | exact want_no rfl | kernel_rfl) (hd : o.dst = some d := by exact rfl) : PL P ops Q (o :: rest) a w := pH d _ (jV x e1 e2 e3 hr) h hw hd
theorem eI (d : Tmp) (x v : Int) (h : KL P ops W R rest (a.put (some d) (.int .i64 v))) (e1 : x = v := by omega) (e2 : -9223372036854775808 ≤ x := by omega) (e3 : x < 9223372036854775808 := by omega) (hr : Rn P a o (.int .i64 (IntKind.wrap .i64 x)) := by exact ⟨fun _ => by kernel_rfl⟩) (hw : Wn ops o a = true := by first | exact want_no rfl | kernel_rfl) (hd : o.dst = some d := by exact rfl) : KL P ops W R (o :: rest) a := kH d _ (jV x e1 e2 e3 hr) h hw hd
theorem ZQ (d : Tmp) (k : IntKind) (x : Int) {v : Int} (e1 : x = v) (h : PL P ops Q rest (a.put (some d) (.int k v)) w) (hr : Rn P a o (.int k x) := by exact ⟨fun _ => by kernel_rfl⟩) (hw : Wn ops o a = true := by first | exact want_no rfl | kernel_rfl) (hd : o.dst = some d := by exact rfl) : PL P ops Q (o :: rest) a w := pH d _ (fun w => (hr.out w).trans (by rw [e1])) h hw hd
theorem eQ (d : Tmp) (k : IntKind) (x : Int) {v : Int} (e1 : x = v) (h : KL P ops W R rest (a.put (some d) (.int k v))) (hr : Rn P a o (.int k x) := by exact ⟨fun _ => by kernel_rfl⟩) (hw : Wn ops o a = true := by first | exact want_no rfl | kernel_rfl) (hd : o.dst = some d := by exact rfl) : KL P ops W R (o :: rest) a := kH d _ (fun w => (hr.out w).trans (by rw [e1])) h hw hd
def ixN (P : Program) (t : TypeId) : Option (Nat × Option Nat) := match P.underlying t with
 | some (.array n e) => some (n, (P.info? e).map (·.size))
 | _ => none
theorem run_zx (k : IntKind) (g i n : Nat) {t : TypeId} {x ix : Operand} (ho : o.op = .indexAddr t x ix) (hx : Ev a x (.pointer (some ⟨g, 0, none⟩))) (hi : Ev a ix (.int k (i : Int))) (hu : ixN P t = some (n, some 1)) (hlt : i < n) (w : World) : (execOp a.eval o).run P w = .ok (.value (.pointer (some ⟨g, i, none⟩))) w := by
 unfold ixN at hu
 split at hu
 ·rename_i m e h
  obtain ⟨rfl, h2⟩ : m = n ∧ (P.info? e).map (·.size) = some 1 := by simpa using hu
  exact run_ix1 t m e h h2 x ix ho g hx.out k i hi.out hlt w
 ·cases hu
theorem ZX (d : Tmp) (k : IntKind) (g i n : Nat) (h : PL P ops Q rest (a.put (some d) (.pointer (some ⟨g, i, none⟩))) w) {t : TypeId} {x ix : Operand} (ho : o.op = .indexAddr t x ix := by exact rfl) (hx : Ev a x (.pointer (some ⟨g, 0, none⟩)) := by exact ⟨by kernel_rfl⟩) (hi : Ev a ix (.int k (i : Int)) := by exact ⟨by kernel_rfl⟩) (hu : ixN P t = some (n, some 1) := by kernel_rfl) (hlt : i < n := by first | omega | decide) (hw : Wn ops o a = true := by first | exact want_no rfl | kernel_rfl) (hd : o.dst = some d := by exact rfl) : PL P ops Q (o :: rest) a w := pH d _ (run_zx k g i n ho hx hi hu hlt) h hw hd
theorem eX (d : Tmp) (k : IntKind) (g i n : Nat) (h : KL P ops W R rest (a.put (some d) (.pointer (some ⟨g, i, none⟩)))) {t : TypeId} {x ix : Operand} (ho : o.op = .indexAddr t x ix := by exact rfl) (hx : Ev a x (.pointer (some ⟨g, 0, none⟩)) := by exact ⟨by kernel_rfl⟩) (hi : Ev a ix (.int k (i : Int)) := by exact ⟨by kernel_rfl⟩) (hu : ixN P t = some (n, some 1) := by kernel_rfl) (hlt : i < n := by first | omega | decide) (hw : Wn ops o a = true := by first | exact want_no rfl | kernel_rfl) (hd : o.dst = some d := by exact rfl) : KL P ops W R (o :: rest) a := kH d _ (run_zx k g i n ho hx hi hu hlt) h hw hd
theorem ZE (M : Mem c L w) (d : Tmp) (i off : Nat) {g n T : Nat} {F : NV} (h : PL P ops Q rest (a.put (some d) (F off)) w) {ty : TypeId} {x : Operand} (hw : Wn ops o a = true := by first | exact want_no rfl | kernel_rfl) (hd : o.dst = some d := by exact rfl) (ho : o.op = .load ty x := by exact rfl) (hi : L[i]? = some ⟨g, .cells (av n F) T⟩ := by exact rfl) (hk : off < n := by first | omega | decide) (hx : Ev a x (.pointer (some ⟨g, off, none⟩)) := by exact ⟨by kernel_rfl⟩) (ha : Na P ty := by exact ⟨fun _ => by kernel_rfl⟩) : PL P ops Q (o :: rest) a w := pE M d g off (F off) (fun _ M => M.cell i hi hk rfl) h hw hd ho hx ha
theorem eE (M : Mem c L W) (d : Tmp) (i off : Nat) {g n T : Nat} {F : NV} (h : KL P ops W R rest (a.put (some d) (F off))) {ty : TypeId} {x : Operand} (hw : Wn ops o a = true := by first | exact want_no rfl | kernel_rfl) (hd : o.dst = some d := by exact rfl) (ho : o.op = .load ty x := by exact rfl) (hi : L[i]? = some ⟨g, .cells (av n F) T⟩ := by exact rfl) (hk : off < n := by first | omega | decide) (hx : Ev a x (.pointer (some ⟨g, off, none⟩)) := by exact ⟨by kernel_rfl⟩) (ha : Na P ty := by exact ⟨fun _ => by kernel_rfl⟩) : KL P ops W R (o :: rest) a := kE M d g off (F off) (fun _ M => M.cell i hi hk rfl) h hw hd ho hx ha
theorem ZP8 (M : Mem c L w) (i off : Nat) (y : Int) {g n T : Nat} {f : NI} (h : ∀ w2, Mem c (L.set i ⟨g, .cells (av n (w8 (upd f off y))) T⟩) w2 → PL P ops Q rest a w2) {ty : TypeId} {x z : Operand} (hw : Wn ops o a = true := by first | exact want_no rfl | kernel_rfl) (hd : o.dst = none := by exact rfl) (ho : o.op = .store ty x z := by exact rfl) (hi : L[i]? = some ⟨g, .cells (av n (w8 f)) T⟩ := by exact rfl) (hk : off < n := by first | omega | decide) (hx : Ev a x (.pointer (some ⟨g, off, none⟩)) := by exact ⟨by kernel_rfl⟩) (hy : Ev a z (.int .u8 y) := by exact ⟨by kernel_rfl⟩) (hz : (P.info? ty).map (·.size) = some 1 := by kernel_rfl) : PL P ops Q (o :: rest) a w := pP M i hi off (.int .u8 y) (w8 (upd f off y)) hk (fun j _ => put_w8 _ _ _ j) h hw hd ho hx hy hz
theorem ZP32 (M : Mem c L w) (i off : Nat) (y : Int) {g n T : Nat} {f : NI} (h : ∀ w2, Mem c (L.set i ⟨g, .cells (av n (w32 (upd f off y))) T⟩) w2 → PL P ops Q rest a w2) {ty : TypeId} {x z : Operand} (hw : Wn ops o a = true := by first | exact want_no rfl | kernel_rfl) (hd : o.dst = none := by exact rfl) (ho : o.op = .store ty x z := by exact rfl) (hi : L[i]? = some ⟨g, .cells (av n (w32 f)) T⟩ := by exact rfl) (hk : off < n := by first | omega | decide) (hx : Ev a x (.pointer (some ⟨g, off, none⟩)) := by exact ⟨by kernel_rfl⟩) (hy : Ev a z (.int .u32 y) := by exact ⟨by kernel_rfl⟩) (hz : (P.info? ty).map (·.size) = some 1 := by kernel_rfl) : PL P ops Q (o :: rest) a w := pP M i hi off (.int .u32 y) (w32 (upd f off y)) hk (fun j _ => put_w32 _ _ _ j) h hw hd ho hx hy hz
theorem ZP64 (M : Mem c L w) (i off : Nat) (y : Int) {g n T : Nat} {f : NI} (h : ∀ w2, Mem c (L.set i ⟨g, .cells (av n (w64 (upd f off y))) T⟩) w2 → PL P ops Q rest a w2) {ty : TypeId} {x z : Operand} (hw : Wn ops o a = true := by first | exact want_no rfl | kernel_rfl) (hd : o.dst = none := by exact rfl) (ho : o.op = .store ty x z := by exact rfl) (hi : L[i]? = some ⟨g, .cells (av n (w64 f)) T⟩ := by exact rfl) (hk : off < n := by first | omega | decide) (hx : Ev a x (.pointer (some ⟨g, off, none⟩)) := by exact ⟨by kernel_rfl⟩) (hy : Ev a z (.int .u64 y) := by exact ⟨by kernel_rfl⟩) (hz : (P.info? ty).map (·.size) = some 1 := by kernel_rfl) : PL P ops Q (o :: rest) a w := pP M i hi off (.int .u64 y) (w64 (upd f off y)) hk (fun j _ => put_w64 _ _ _ j) h hw hd ho hx hy hz
theorem ZG (M : Mem c L w) (i n : Nat) (F' : NV) {g T : Nat} {F : NV} (h : ∀ w2, Mem c (L.set i ⟨g, .cells (av n F') T⟩) w2 → PL P ops Q rest a w2) {ty : TypeId} {x y : Operand} (hw : Wn ops o a = true := by first | exact want_no rfl | kernel_rfl) (hd : o.dst = none := by exact rfl) (ho : o.op = .store ty x y := by exact rfl) (hi : L[i]? = some ⟨g, .cells (av n F) T⟩ := by exact rfl) (h1 : ∀ j, j < n → (F' j).oneCell' = true := by exact fun _ _ => rfl) (hx : Ev a x (.pointer (some ⟨g, 0, none⟩)) := by exact ⟨by kernel_rfl⟩) (hy : Ev a y (.agg (av n F')) := by exact ⟨by kernel_rfl⟩) (hz : (P.info? ty).map (·.size) = some n := by kernel_rfl) : PL P ops Q (o :: rest) a w := pl_put M hw hd ty x y ho i g 0 hx.out n T F hi n F' F' hy.out hz (by omega) h1 (fun j hj => by rw [if_pos (by omega), Nat.sub_zero]) h
theorem ZC (M : Mem c L w) (d : Tmp) {f : FuncId} {xs : Array Value} {v : Value} (hc : ∀ w, Mem c L w → Calls P f xs w fun e w' => e = .returned v ∧ Below w.heap.size w w') (h : ∀ w', Mem c L w' → PL P ops Q rest (a.put (some d) v) w') (hw : Wn ops o a = true := by first | exact want_no rfl | kernel_rfl) (hd : o.dst = some d := by exact rfl) (hr : Rc P a o f xs := by exact ⟨fun _ => by kernel_rfl⟩) : PL P ops Q (o :: rest) a w := pC M d f xs v hc h hw hd hr
theorem eC (M : Mem c L W) (d : Tmp) {f : FuncId} {xs : Array Value} {v : Value} (hc : ∀ w, Mem c L w → Calls P f xs w fun e w' => e = .returned v ∧ Below w.heap.size w w') (h : KL P ops W R rest (a.put (some d) v)) (hw : Wn ops o a = true := by first | exact want_no rfl | kernel_rfl) (hd : o.dst = some d := by exact rfl) (hr : Rc P a o f xs := by exact ⟨fun _ => by kernel_rfl⟩) : KL P ops W R (o :: rest) a := kC M d f xs v hc h hw hd hr
structure Rm (P : Program) (a : Act) (o : Oper) (v : NV) (Z : Obj) : Prop where
 out : ∀ w, (execOp a.eval o).run P w = .ok (.value (v w.heap.size)) (w.alloc Z)
theorem ZM (M : Mem c L w) (d : Tmp) (v : NV) (Z : Obj) (h : ∀ g w2, Mem c (L ++ [⟨g, Z⟩]) w2 → PL P ops Q rest (a.put (some d) (v g)) w2) (hw : Wn ops o a = true := by first | exact want_no rfl | kernel_rfl) (hd : o.dst = some d := by exact rfl) (hr : Rm P a o v Z := by exact ⟨fun _ => by kernel_rfl⟩) : PL P ops Q (o :: rest) a w := pl_mk M hw (some d) hd v Z hr.out h
structure Rs (P : Program) (fn : Func) (a : Act) (v : Value) : Prop where
 out : ∀ w, (results fn a.tmps).run P w = .ok v w
theorem b1 {fn : Func} {w0 : World} {v : Value} (M : Mem ⟨w0, []⟩ L w) (hr : Rs P fn a v := by exact ⟨fun _ => by kernel_rfl⟩) (hd : a.defers = [] := by kernel_rfl) : bodyPost P fn (fun r w2 => r = .returned v ∧ Below w0.heap.size w0 w2) .ret a w := bodyPost_ret (hr.out w) hd ⟨rfl, below_grown M.old⟩
end
theorem exS2 {A : Type} {a : Act} {F : (Nat → Value) → A → Act} {R : (Nat → Value) → A → Prop} (y : A) (hR : R (slt a) y) (h : a = F (slt a) y := by kernel_rfl) : ∃ v y, a = F v y ∧ R v y := ⟨slt a, y, h, hR⟩
theorem exS3 {A : Type} {a : Act} {K : A → Prop} {F : (Nat → Value) → A → Act} {R : (Nat → Value) → A → Prop} (y : A) (hR : R (slt a) y) (hy : K y := by omega) (h : a = F (slt a) y := by kernel_rfl) : ∃ v y, K y ∧ a = F v y ∧ R v y := ⟨slt a, y, hy, h, hR⟩
section
variable {P : Program} {ops : Array Oper} {rest : List Oper} {o : Oper} {a : Act} {w W : World} {c : Ctx} {L : List Blk} {Q : Exit → Act → World → Prop} {R : Act → Prop}
theorem wT (d : Tmp) {p : Prop} [Decidable p] (hp : p) (h : PL P ops Q rest (a.put (some d) (.bool true)) w) (hr : Rn P a o (.bool (decide p)) := by exact ⟨fun _ => by kernel_rfl⟩) (hw : Wn ops o a = true := by first | exact want_no rfl | kernel_rfl) (hd : o.dst = some d := by exact rfl) : PL P ops Q (o :: rest) a w := pH d _ (jT p hp hr) h hw hd
theorem wF (d : Tmp) {p : Prop} [Decidable p] (hp : ¬ p) (h : PL P ops Q rest (a.put (some d) (.bool false)) w) (hr : Rn P a o (.bool (decide p)) := by exact ⟨fun _ => by kernel_rfl⟩) (hw : Wn ops o a = true := by first | exact want_no rfl | kernel_rfl) (hd : o.dst = some d := by exact rfl) : PL P ops Q (o :: rest) a w := pH d _ (jF p hp hr) h hw hd
theorem wD (d : Tmp) {p : Prop} [Decidable p] (hp : p) (h : PL P ops Q rest (a.put (some d) (.bool false)) w) (hr : Rn P a o (.bool (!(decide p))) := by exact ⟨fun _ => by kernel_rfl⟩) (hw : Wn ops o a = true := by first | exact want_no rfl | kernel_rfl) (hd : o.dst = some d := by exact rfl) : PL P ops Q (o :: rest) a w := pH d _ (jD p hp hr) h hw hd
theorem wU (d : Tmp) {p : Prop} [Decidable p] (hp : ¬ p) (h : PL P ops Q rest (a.put (some d) (.bool true)) w) (hr : Rn P a o (.bool (!(decide p))) := by exact ⟨fun _ => by kernel_rfl⟩) (hw : Wn ops o a = true := by first | exact want_no rfl | kernel_rfl) (hd : o.dst = some d := by exact rfl) : PL P ops Q (o :: rest) a w := pH d _ (jU p hp hr) h hw hd
theorem pD (M : Mem c L w) (d : Tmp) (v : Value) {f : FuncId} {xs : Array Value} (hc : ∀ w, Mem c L w → Calls P f xs w fun e w' => e = .returned v ∧ Below w.heap.size w w') (h : ∀ w', Mem c L w' → PL P ops Q rest (a.put (some d) v) w') (hw : Wn ops o a = true := by first | exact want_no rfl | kernel_rfl) (hd : o.dst = some d := by exact rfl) (hr : Rc P a o f xs := by exact ⟨fun _ => by kernel_rfl⟩) : PL P ops Q (o :: rest) a w := pC M d f xs v hc h hw hd hr
theorem kD (M : Mem c L W) (d : Tmp) (v : Value) {f : FuncId} {xs : Array Value} (hc : ∀ w, Mem c L w → Calls P f xs w fun e w' => e = .returned v ∧ Below w.heap.size w w') (h : KL P ops W R rest (a.put (some d) v)) (hw : Wn ops o a = true := by first | exact want_no rfl | kernel_rfl) (hd : o.dst = some d := by exact rfl) (hr : Rc P a o f xs := by exact ⟨fun _ => by kernel_rfl⟩) : KL P ops W R (o :: rest) a := kC M d f xs v hc h hw hd hr
theorem ZY (M : Mem c L w) (d : Tmp) (i : Nat) (v : Value) (Z' : Obj) {f : FuncId} {xs : Array Value} {g : Nat} {Z : Obj} (hc : ∀ w, Mem c L w → Calls P f xs w fun e w' => e = .returned v ∧ Grw w w' [g] ∧ w'.heap[g]? = some Z') (h : ∀ w', Mem c (L.set i ⟨g, Z'⟩) w' → PL P ops Q rest (a.put (some d) v) w') (hi : L[i]? = some ⟨g, Z⟩ := by exact rfl) (hw : Wn ops o a = true := by first | exact want_no rfl | kernel_rfl) (hd : o.dst = some d := by exact rfl) (hr : Rc P a o f xs := by exact ⟨fun _ => by kernel_rfl⟩) : PL P ops Q (o :: rest) a w := pl_callp M hw (some d) hd f xs v i g Z Z' hi hr.out hc h
theorem zJ (d : Tmp) (v x : Value) (e : x = v) (h : PL P ops Q rest (a.put (some d) v) w) (hw : Wn ops o a = true := by first | exact want_no rfl | kernel_rfl) (hd : o.dst = some d := by exact rfl) (hr : Rn P a o x := by exact ⟨fun _ => by kernel_rfl⟩) : PL P ops Q (o :: rest) a w := pH d v (fun w => (hr.out w).trans (by rw [e])) h hw hd
theorem zW (d : Tmp) (x : Int) (h : PL P ops Q rest (a.put (some d) (.int .i64 x)) w) (e2 : -9223372036854775808 ≤ x := by omega) (e3 : x < 9223372036854775808 := by omega) (hr : Rn P a o (.int .i64 (IntKind.wrap .i64 x)) := by exact ⟨fun _ => by kernel_rfl⟩) (hw : Wn ops o a = true := by first | exact want_no rfl | kernel_rfl) (hd : o.dst = some d := by exact rfl) : PL P ops Q (o :: rest) a w := pH d _ (jV x rfl e2 e3 hr) h hw hd
theorem zT (d : Tmp) (x : Yb) (h : PL P ops Q rest (a.put (some d) (.bool true)) w) (hr : Rn P a o (.bool (x.toList == x.toList)) := by exact ⟨fun _ => by kernel_rfl⟩) (hw : Wn ops o a = true := by first | exact want_no rfl | kernel_rfl) (hd : o.dst = some d := by exact rfl) : PL P ops Q (o :: rest) a w := zJ d _ _ (by rw [beq_self_eq_true]) h hw hd hr
theorem zN (d : Tmp) (x : Yb) (h : PL P ops Q rest (a.put (some d) (.bool false)) w) (hr : Rn P a o (.bool (!(x.toList == x.toList))) := by exact ⟨fun _ => by kernel_rfl⟩) (hw : Wn ops o a = true := by first | exact want_no rfl | kernel_rfl) (hd : o.dst = some d := by exact rfl) : PL P ops Q (o :: rest) a w := zJ d _ _ (by rw [beq_self_eq_true]; rfl) h hw hd hr
theorem bX {fn : Func} {Φ : Ending → World → Prop} (v : Value) (hX : Φ (.returned v) w) (hr : Rs P fn a v := by exact ⟨fun _ => by kernel_rfl⟩) (hd : a.defers = [] := by kernel_rfl) : bodyPost P fn Φ .ret a w := bodyPost_ret (hr.out w) hd hX
structure Ep (a : Act) (p : Tmp) (v : Value) : Prop where
 out : a.tmps.getD p undef = v
theorem bc {fn : Func} {Φ : Ending → World → Prop} {p : Tmp} {ty : TypeId} (h : fn.results = #[.cell p ty]) (M : Mem c L w) (i n : Nat) (F : NV) (hX : Φ (.returned (.agg (av n F))) w) {g T : Nat} (hi : L[i]? = some ⟨g, .cells (av n F) T⟩ := by exact rfl) (hp : Ep a p (.pointer (some ⟨g, 0, none⟩)) := by exact ⟨by kernel_rfl⟩) (hu : (P.underlying ty).map TypeDesc.isRow = some true := by kernel_rfl) (hz : (P.info? ty).map (·.size) = some n := by kernel_rfl) (hd : a.defers = [] := by kernel_rfl) : bodyPost P fn Φ .ret a w := by
 obtain ⟨t, h1, h2⟩ := isRow_of hu
 exact bodyPost_ret (results_cell_row h _ _ g T (av n F) (0, 0) _ hp.out (M.get i hi) h1 (by revert h2; cases t <;> intro h2 <;> first | rfl | cases h2) (by rw [av_size]; exact hz)) hd hX
theorem bct {fn : Func} {Φ : Ending → World → Prop} {p s : Tmp} {ty : TypeId} (h : fn.results = #[.cell p ty, .tmp s]) (M : Mem c L w) (i n : Nat) (F : NV) (x : Value) (hX : Φ (.returned (.tuple #[.agg (av n F), x])) w) {g T : Nat} (hi : L[i]? = some ⟨g, .cells (av n F) T⟩ := by exact rfl) (hp : Ep a p (.pointer (some ⟨g, 0, none⟩)) := by exact ⟨by kernel_rfl⟩) (hs : Ep a s x := by exact ⟨by kernel_rfl⟩) (hu : (P.underlying ty).map TypeDesc.isRow = some true := by kernel_rfl) (hz : (P.info? ty).map (·.size) = some n := by kernel_rfl) (hd : a.defers = [] := by kernel_rfl) : bodyPost P fn Φ .ret a w := by
 obtain ⟨t, h1, h2⟩ := isRow_of hu
 exact bodyPost_ret (results_cell_tmp h _ _ g T (av n F) (0, 0) _ _ hp.out hs.out (M.get i hi) h1 (by revert h2; cases t <;> intro h2 <;> first | rfl | cases h2) (by rw [av_size]; exact hz)) hd hX
end
section
variable {P : Program} {ops : Array Oper} {o : Oper} {a : Act} {w : World} {Q : Exit → Act → World → Prop} {S : World → Prop} {n fuel : Nat} {listed : Array Bool}
theorem qH (M : S w) (i : Nat) (d : Tmp) (v : Value) (hrun : ∀ w, S w → (execOp a.eval o).run P w = .ok (.value v) w) (h : HL P ops Q S n fuel (listed.setIfInBounds i true) (a.put (some d) v) w) (hi : ops.toList[i]? = some o := by exact rfl) (hin : i < n := by decide) (hf : Region.free .any ops listed i = true := by kernel_rfl) (hr : (Region.ready .any ops listed).contains i = true := by kernel_rfl) (hw : Wn ops o a = true := by first | exact want_no rfl | kernel_rfl) (hd : o.dst = some d := by exact rfl) : HL P ops Q S n (fuel + 1) listed a w := hl_val M i hi hin hf hr hw (some d) hd v hrun h
theorem qC {c : Ctx} {Ls : List Blk} (M : Mem c Ls w) (i : Nat) (d : Tmp) (g off : Nat) (v : Value) (hc : ∀ w, Mem c Ls w → w.cell? ⟨g, off, none⟩ = some v) (h : HL P ops Q (Mem c Ls) n fuel (listed.setIfInBounds i true) (a.put (some d) v) w) {ty : TypeId} {x : Operand} (hi : ops.toList[i]? = some o := by exact rfl) (hin : i < n := by decide) (hf : Region.free .any ops listed i = true := by kernel_rfl) (hr : (Region.ready .any ops listed).contains i = true := by kernel_rfl) (hw : Wn ops o a = true := by first | exact want_no rfl | kernel_rfl) (hd : o.dst = some d := by exact rfl) (ho : o.op = .load ty x := by exact rfl) (hx : Ev a x (.pointer (some ⟨g, off, none⟩)) := by exact ⟨by kernel_rfl⟩) (ha : Na P ty := by exact ⟨fun _ => by kernel_rfl⟩) : HL P ops Q (Mem c Ls) n (fuel + 1) listed a w := hl_cell M i hi hin hf hr hw (some d) hd ty x ho g off hx.out v ha.out hc h
theorem qE {c : Ctx} {Ls : List Blk} (M : Mem c Ls w) (i : Nat) (d : Tmp) (k off : Nat) {g m T : Nat} {F : NV} (h : HL P ops Q (Mem c Ls) n fuel (listed.setIfInBounds i true) (a.put (some d) (F off)) w) {ty : TypeId} {x : Operand} (hi : ops.toList[i]? = some o := by exact rfl) (hin : i < n := by decide) (hf : Region.free .any ops listed i = true := by kernel_rfl) (hr : (Region.ready .any ops listed).contains i = true := by kernel_rfl) (hw : Wn ops o a = true := by first | exact want_no rfl | kernel_rfl) (hd : o.dst = some d := by exact rfl) (ho : o.op = .load ty x := by exact rfl) (hk : Ls[k]? = some ⟨g, .cells (av m F) T⟩ := by exact rfl) (ho2 : off < m := by first | omega | decide) (hx : Ev a x (.pointer (some ⟨g, off, none⟩)) := by exact ⟨by kernel_rfl⟩) (ha : Na P ty := by exact ⟨fun _ => by kernel_rfl⟩) : HL P ops Q (Mem c Ls) n (fuel + 1) listed a w := hl_cell M i hi hin hf hr hw (some d) hd ty x ho g off hx.out _ ha.out (fun _ M => M.cell k hk ho2 rfl) h
theorem qO (i : Nat) (h : PL P ops (Exit.then (fun a' w' => S w' ∧ HL P ops Q S n fuel (listed.setIfInBounds i true) a' w') Q) [o] a w) (hin : i < n := by decide) (hr : Region.ready .any ops listed = [i] := by kernel_rfl) (hi : ops.toList[i]? = some o := by exact rfl) : HL P ops Q S n (fuel + 1) listed a w := hl_one i hin hr hi h
theorem qZ (h : PL P ops (Exit.then (fun a' w' => Q .normal a' w') Q) [o] a w) (hr : Region.ready .any ops listed = [n] := by kernel_rfl) (hr2 : Region.ready .any ops (listed.setIfInBounds n true) = [] := by kernel_rfl) (hi : ops.toList[n]? = some o := by exact rfl) : HL P ops Q S n (fuel + 1) listed a w := hl_end hr hr2 hi h
theorem rgh {c : Ctx} {L : List Blk} {id : Nat} {l : List Oper} (M : Mem c L w) (Ls : List Blk) (n : Nat) (h : ∀ w', Mem c L w' → HL P l.toArray Q (Mem c Ls) n (n + 1) (Array.replicate (n + 1) false) a w') (hn : l.length = n + 1 := by exact rfl) (hm : P.follows .mixedOrders = true := by kernel_rfl) (hB : (Region.sinkB .any l.toArray n && Region.chainB .any l.toArray n && Region.noSelect l.toArray) = true := by kernel_rfl) (hQ : ∀ c a d v w, Q (.panic c) (Act.put a d v) w → Q (.panic c) a w := by exact fun _ _ d _ _ h => by cases d <;> exact h) : (Code.region id l.toArray true).wp P Q a w := rg_held M Ls n hn hm hB hQ h
end
end Go.Proofs.YtffimigpbcilbaaGreatDoor
