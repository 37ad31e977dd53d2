/- Part 2 of the walks and facts. -/
import Derived.Test.YtffimigpbcilbaaGreatDoorCnDef
import Derived.Test.YtffimigpbcilbaaGreatDoorCn1
import Derived.Laws.MakeOwn
import Derived.LoopNIn
import Derived.OrdersIn
import Derived.RangeFuncLeaves
import Derived.RangeFuncRecord
import Derived.Shelf.Strings.Builder2
import Derived.Shelf.Strings.BuilderK
import Derived.TacticsIn
import Derived.Test.YtffimigpbcilbaaGreatDoorProg
set_option maxHeartbeats 16000000
set_option maxRecDepth 100000
namespace Go.Proofs.YtffimigpbcilbaaGreatDoor
open Go.RowKit
structure SB (Z : Obj) (cap : Nat) (l : List Value) : Prop where
 ex : ∃ cs T fr, Z = .cells cs T fr ∧ l.length ≤ cap ∧ cap ≤ cs.size ∧ (∀ i, i < l.length → cs[i]? = l[i]?) ∧ ∀ i, i < cap → (decide (fr.1 ≤ i) && decide (i < fr.2)) = false
theorem SB.le {Z : Obj} {cap : Nat} {l : List Value} (h : SB Z cap l) : l.length ≤ cap := by
 obtain ⟨_, _, _, _, h1, _⟩ := h.ex
 exact h1
theorem SB.cell {Z : Obj} {cap : Nat} {l : List Value} (h : SB Z cap l) {W : World} {g : Nat} (hz : W.heap[g]? = some Z) {i : Nat} {v : Value} (hi : l[i]? = some v) : W.cell? ⟨g, i, none⟩ = some v := by
 obtain ⟨cs, T, fr, rfl, _, _, h3, _⟩ := h.ex
 have hlt := (List.getElem?_eq_some_iff.1 hi).1
 unfold World.cell?
 rw [hz]
 simp only [Option.isSome_none, Bool.false_eq_true, if_false]
 rw [h3 i hlt, hi]
def bs (ns : List Int) : ByteArray := ⟨(ns.map fun n => UInt8.ofNat n.toNat).toArray⟩
def sb (s : Yb) : List Int := s.data.toList.map fun b => (b.toNat : Int)
def vs8 (l : List Int) : List Value := l.map fun x => .int .u8 x
theorem bs_size (l : List Int) : (bs l).size = l.length := by simp [bs, ByteArray.size]
theorem sb_length (s : Yb) : (sb s).length = s.size := by simp [sb]
theorem vs8_length (l : List Int) : (vs8 l).length = l.length := by simp [vs8]
theorem sb_get (s : Yb) (i : Nat) (h : i < s.size) : (sb s)[i]? = some (bt s i) := by
 have h' : i < s.data.size := h
 unfold sb bt
 rw [List.getElem?_map, Array.getElem?_toList, Array.getElem?_eq_getElem h']
 rfl
theorem sb_bs (l : List Int) (h : ∀ x ∈ l, 0 ≤ x ∧ x < 256) : sb (bs l) = l := by
 unfold sb bs
 rw [List.map_map]
 conv => rhs; rw [← List.map_id l]
 refine List.map_congr_left fun x hx => ?_
 have := h x hx
 simp
 omega
theorem bs_sb (s : Yb) : bs (sb s) = s := by
 unfold sb bs
 rw [List.map_map]
 apply ByteArray.ext
 simp only
 conv => rhs; rw [← Array.toArray_toList (xs := s.data)]
 congr 1
 conv => rhs; rw [← List.map_id s.data.toList]
 refine List.map_congr_left fun x _ => ?_
 simp
theorem bt_of_sb (s : Yb) (i : Nat) : bt s i = (sb s).getD i 0 := by
 by_cases h : i < s.size
 ·rw [List.getD_eq_getElem?_getD, sb_get s i h]
  rfl
 ·have h' : s.data.size ≤ i := by have : s.data.size = s.size := rfl; omega
  rw [List.getD_eq_getElem?_getD, List.getElem?_eq_none (by rw [sb_length]; omega)]
  unfold bt
  rw [Array.getElem?_eq_none h']
  rfl
theorem sb_nn (s : Yb) : ∀ x ∈ sb s, 0 ≤ x ∧ x < 256 := by
 intro x hx
 obtain ⟨b, _, rfl⟩ := List.mem_map.1 hx
 have := b.toNat_lt
 omega
theorem sb_append (s t : Yb) : sb (s ++ t) = sb s ++ sb t := by
 unfold sb
 rw [← List.map_append]
 congr 1
section
variable {P : Program} {ops : Array Oper} {rest : List Oper} {o : Oper} {a : Act} {w : World} {c : Ctx} {L : List Blk} {Q : Exit → Act → World → Prop}
theorem rounds_go {c : Code} {n : Nat} (h : c.wp P (Exit.then (Code.rounds P c Q n) Q) a w) : Code.rounds P c Q (n + 1) a w := h
theorem setCells_block (g : Nat) (T : TypeId) (fr : Nat × Nat) : ∀ (vs : List Value) (W : World) (cs : Array Value) (o : Nat), W.heap[g]? = some (.cells cs T fr) → ∃ ds, (W.setCells g o vs).heap[g]? = some (.cells ds T fr) ∧ ds.size = cs.size ∧ ∀ i, ds[i]? = if o ≤ i ∧ i < o + vs.length ∧ i < cs.size then vs[i - o]? else cs[i]?
 | [], W, cs, o, h => ⟨cs, h, rfl, fun i => by rw [if_neg (by simp; omega)]⟩
 | v :: vs, W, cs, o, h => by
  have h1 : (W.setCell ⟨g, o, none⟩ v).heap[g]? = some (.cells (cs.setIfInBounds o v) T fr) := by simp [World.setCell, Array.getElem?_modify, h]
  obtain ⟨ds, h2, h3, h4⟩ := setCells_block g T fr vs _ _ (o + 1) h1
  refine ⟨ds, h2, by simpa using h3, fun i => ?_⟩
  rw [h4 i]
  simp only [Array.size_setIfInBounds, List.length_cons]
  by_cases hi : o + 1 ≤ i ∧ i < o + 1 + vs.length ∧ i < cs.size
  ·rw [if_pos hi, if_pos (by omega), show i - o = (i - (o + 1)) + 1 by omega, List.getElem?_cons_succ]
  ·rw [if_neg hi, Array.getElem?_setIfInBounds]
   by_cases e : o = i
   ·subst e
    by_cases hs : o < cs.size
    ·rw [if_pos rfl, if_pos hs, if_pos (by omega), Nat.sub_self]
     rfl
    ·rw [if_pos rfl, if_neg hs, if_neg (by omega)]
     exact (Array.getElem?_eq_none (by omega)).symm
   ·rw [if_neg e, if_neg (by omega)]
theorem SB.sets {Z : Obj} {cap : Nat} {l : List Value} (h : SB Z cap l) (vs : List Value) (hr : l.length + vs.length ≤ cap) {W : World} {g : Nat} (hz : W.heap[g]? = some Z) : ∃ Z', (W.setCells g l.length vs).heap[g]? = some Z' ∧ SB Z' cap (l ++ vs) := by
 obtain ⟨cs, T, fr, rfl, h1, h2, h3, h4⟩ := h.ex
 obtain ⟨ds, e1, e2, e3⟩ := setCells_block g T fr vs W cs l.length hz
 refine ⟨_, e1, ⟨ds, T, fr, rfl, by simpa using hr, by omega, fun i hi => ?_, h4⟩⟩
 rw [List.length_append] at hi
 rw [e3 i]
 by_cases hl : l.length ≤ i
 ·rw [if_pos (by omega), List.getElem?_append_right hl]
 ·rw [if_neg (by omega), h3 i (by omega), List.getElem?_append_left (by omega)]
theorem SB.take {Z : Obj} {cap : Nat} {l : List Value} (h : SB Z cap l) : SB Z cap [] := by
 obtain ⟨cs, T, fr, e, h1, h2, h3, h4⟩ := h.ex
 exact ⟨cs, T, fr, e, by simp, h2, fun i hi => by simp at hi, h4⟩
theorem pl_appX (M : Mem c L w) (hw : Region.wanted o (yielded ops a.tmps) = true) (d : Option Tmp) (hd : o.dst = d) (t tx ty e : TypeId) (info : TypeInfo) (ht : P.underlying t = some (.slice e)) (hin : P.info? e = some info) (hsz : info.size = 1) (i g n cap : Nat) (Z : Obj) (l : List Value) (hi : L[i]? = some ⟨g, Z⟩) (hs : SB Z cap l) (hn : l.length = n) (x : Value) (m : Nat) (news : List Value) (hsrc : ∀ w, Mem c L w → Src P 1 tx x m news w) (hm : news.length = m) (hroom : n + m ≤ cap)
  (hrun : ∀ w, (execOp a.eval o).run P w = (do pure (Next.value (← Builtin.append_ #[t, tx] ty #[.slice (some ⟨g, 0, none⟩) n cap, x]))).run P w)
  (h : ∀ Z' w', SB Z' cap (l ++ news) → Mem c (L.set i ⟨g, Z'⟩) w' → PL P ops Q rest (a.put d (.slice (some ⟨g, 0, none⟩) (n + m) cap)) w') : PL P ops Q (o :: rest) a w := by
 subst hn hm
 obtain ⟨Z', h2, h3⟩ := hs.sets news hroom (M.get i hi)
 obtain ⟨cs, T, fr, hZ, h4, h5, h6, h7⟩ := hs.ex
 have hg := M.get i hi
 rw [hZ] at hg
 have hr := run_append_room_src (P := P) w t tx ty e info ht hin g 0 l.length cap x news.length news (by rw [hsz]; exact hsrc w M) hroom (fun j hj => by
   rw [hsz, Nat.mul_one, Nat.zero_add]
   unfold World.cell?
   rw [hg]
   simp
   omega) (fun j hj => by
   rw [hsz, Nat.mul_one, Nat.zero_add]
   unfold World.frozen?
   rw [hg]
   exact h7 _ (by show l.length + j < cap; omega))
 rw [hsz, Nat.mul_one, Nat.zero_add] at hr
 refine pl_to hw d hd _ _ ?_ (h Z' _ h3 (M.put i ⟨g, Z⟩ hi Z' (grown_setCells _ _ _ _) h2))
 rw [hrun]
 simp only [Sem.run_bind, hr, Result.andThen_ok, Sem.run_pure]
theorem pl_make (M : Mem c L w) (hw : Region.wanted o (yielded ops a.tmps) = true) (d : Option Tmp) (hd : o.dst = d) (t e : TypeId) (info : TypeInfo) (zv : Value) (ht : P.underlying t = some (.slice e)) (hin : P.info? e = some info) (hzv : info.zero = some zv) (hsz : info.size = 1) (hby : info.bytes ≤ 16) (x y : Operand) (ho : o.op = .makeSlice t x y) (kx ky : IntKind) (hx : a.eval x = .int kx 0) (cap : Nat) (hy : a.eval y = .int ky (cap : Int)) (hc : cap < 1000000)
  (h : ∀ g Z w', SB Z cap [] → Mem c (L ++ [⟨g, Z⟩]) w' → PL P ops Q rest (a.put d (.slice (some ⟨g, 0, none⟩) 0 cap)) w') : PL P ops Q (o :: rest) a w := by
 have hr := run_make (P := P) w t e info zv ht hin hzv kx ky 0 (cap : Int) (Int.le_refl _) (by omega) (by
  have := Int.mul_le_mul (show (info.bytes : Int) ≤ 16 by omega) (show (cap : Int) ≤ 1000000 by omega) (by omega) (by omega)
  omega) (by omega)
 simp only [Int.toNat_zero, Int.toNat_natCast, hsz, Nat.mul_one] at hr
 refine pl_to hw d hd (.slice (some ⟨w.heap.size, 0, none⟩) 0 cap) _ ?_ (h w.heap.size (.cells (madeCells zv.cells cap) e) (w.alloc (.cells (madeCells zv.cells cap) e)) ⟨_, e, (0, 0), rfl, by simp, by rw [size_madeCells]; exact Nat.le_refl _, fun i hi => by simp at hi, fun i _ => by simp⟩ (M.new _ _ (new_below w _) (heap_alloc_new w _) (Nat.le_refl _)))
 unfold execOp
 simp only [ho, hx, hy, Sem.run_bind, hr, Result.andThen_ok, Sem.run_pure]
end
section
variable {ops : Array Oper} {rest : List Oper} {o : Oper} {a : Act} {w : World} {c : Ctx} {L : List Blk} {Q : Exit → Act → World → Prop}
theorem pl_conv (M : Mem c L w) (hw : Region.wanted o (yielded ops a.tmps) = true) (d : Option Tmp) (hd : o.dst = d) (x : Operand) (ho : o.op = .convert 9 61 x) (s : Yb) (hx : a.eval x = .string s)
  (h : ∀ g cap Z w', SB Z cap (vs8 (sb s)) → Mem c (L ++ [⟨g, Z⟩]) w' → PL Tryz.prog ops Q rest (a.put d (.slice (some ⟨g, 0, none⟩) s.size cap)) w') : PL Tryz.prog ops Q (o :: rest) a w := by
 have hr := run_bytes_of_string (P := Tryz.prog) w 9 61 5 s Tryz.underlying9 Tryz.underlying61 Tryz.underlying5
 have hge : s.size ≤ grownCap w s.size 0 5 := grownCap_ge w s.size 0 5
 generalize grownCap w s.size 0 5 = cap at hr hge
 refine pl_to hw d hd _ _ (by unfold execOp; simp only [ho, hx, Sem.run_bind, hr, Result.andThen_ok, Sem.run_pure]) (h w.heap.size cap (.cells (bytesRow s cap) 5 ((bytesRow s cap).size, (bytesRow s cap).size + 1)) _ ⟨_, _, _, rfl, by rw [vs8_length, sb_length]; exact hge, ?_, fun i hi => ?_, fun i hi => ?_⟩ (M.drew.new _ _ (new_below _ _) (heap_alloc_new w.drew _) (Nat.le_refl _)))
 ·have hs : s.size = s.data.size := rfl
  simp [bytesRow]
  omega
 ·rw [vs8_length, sb_length] at hi
  have hi' : i < s.data.size := hi
  unfold bytesRow vs8
  rw [Array.getElem?_append_left (by simpa using hi'), Array.getElem?_map, Array.getElem?_eq_getElem hi', List.getElem?_map, sb_get s i hi]
  unfold bt
  rw [Array.getElem?_eq_getElem hi']
  rfl
 ·have hs : s.size = s.data.size := rfl
  have hsz : cap ≤ (bytesRow s cap).size := by
   simp [bytesRow]
   omega
  simp
  omega
theorem pl_back (M : Mem c L w) (hw : Region.wanted o (yielded ops a.tmps) = true) (d : Option Tmp) (hd : o.dst = d) (x : Operand) (ho : o.op = .convert 61 9 x) (i g n cap : Nat) (hx : a.eval x = .slice (some ⟨g, 0, none⟩) n cap) (Z : Obj) (hi : L[i]? = some ⟨g, Z⟩) (l : List Int) (cp : Nat) (hs : SB Z cp (vs8 l)) (hn : l.length = n) (hf : ∀ x ∈ l, 0 ≤ x ∧ x < 256)
  (h : PL Tryz.prog ops Q rest (a.put d (.string (bs l))) w) : PL Tryz.prog ops Q (o :: rest) a w := by
 subst hn
 refine pl_to hw d hd _ w ?_ h
 have hl : (l.map fun n => UInt8.ofNat n.toNat).length = l.length := by simp
 have h2 := run_convert_bytes_back (P := Tryz.prog) w 61 9 5 ⟨g, 0, none⟩ cap (l.map fun n => UInt8.ofNat n.toNat) Tryz.underlying61 Tryz.underlying5 Tryz.underlying9 (fun j hj => by
  rw [hl] at hj
  have hv : (vs8 l)[j]? = some (.int .u8 (l[j]'hj)) := by
   unfold vs8
   rw [List.getElem?_map, List.getElem?_eq_getElem hj]
   rfl
  rw [add_at, Nat.zero_add, hs.cell (M.get i hi) hv]
  have := hf _ (List.getElem_mem hj)
  simp
  omega)
 rw [hl] at h2
 unfold execOp
 simp only [ho, hx, Sem.run_bind, h2, Result.andThen_ok, Sem.run_pure]
 rfl
end
open Go.RowKit
def stepA (P : Program) (ops : Array Oper) : Nat → List Oper → Act → World → Option (Act × World)
 | 0, _, a, w => some (a, w)
 | _ + 1, [], _, _ => none
 | n + 1, o :: rest, a, w =>
  match Region.wanted o (yielded ops a.tmps) with
  | true => match (execOp a.eval o).run P w with
   | .ok (.value v) w' => stepA P ops n rest (a.put o.dst v) w'
   | _ => none
  | false => stepA P ops n rest (a.put o.dst undef) w
def actA (P : Program) (ops : Array Oper) (n : Nat) (l : List Oper) (a : Act) (w : World) : Act := match stepA P ops n l a w with
 | some p => p.1
 | none => a
def stepL (P : Program) (ops : Array Oper) : Nat → List Oper → Act → World → Option (List (Value × World) × Act)
 | 0, _, a, _ => some ([], a)
 | _ + 1, [], _, _ => none
 | n + 1, o :: rest, a, w =>
  match Region.wanted o (yielded ops a.tmps) with
  | true => match (execOp a.eval o).run P w with
   | .ok (.value v) w' => match stepL P ops n rest (a.put o.dst v) w' with
    | some (L, A) => some ((v, w') :: L, A)
    | none => none
   | _ => none
  | false => stepL P ops n rest (a.put o.dst undef) w
def valL (P : Program) (ops : Array Oper) (n : Nat) (l : List Oper) (a : Act) (w : World) : List Value := match stepL P ops n l a w with
 | some p => p.1.map Prod.fst
 | none => []
def actL (P : Program) (ops : Array Oper) (n : Nat) (l : List Oper) (a : Act) (w : World) : Act := match stepL P ops n l a w with
 | some p => p.2
 | none => a
def slt (a : Act) : Nat → Value := fun k => a.tmps[k]?.getD undef
def vr (v : NV) (i n : Nat) : List Value := (List.range' i n).map v
def und (n : Nat) : List Value := List.replicate n undef
abbrev fm (l : List Value) : Act := ⟨l.toArray, []⟩
theorem Mem.nf {c : Ctx} {L L' : List Blk} {W : World} (M : Mem c L W) (h : L = L' := by first | (simp only [List.set_cons_zero, List.set_cons_succ, List.cons_append, List.nil_append]; exact rfl) | exact rfl) : Mem c L' W := h ▸ M
theorem exS {a : Act} {F : (Nat → Value) → Act} {R : (Nat → Value) → Prop} (hR : R (slt a)) (h : a = F (slt a) := by kernel_rfl) : ∃ v, a = F v ∧ R v := ⟨slt a, h, hR⟩
section
variable {P : Program} {ops : Array Oper} {l : List Oper} {a : Act} {w W : World} {Q : Exit → Act → World → Prop} {R : Act → Prop}
theorem pl_steps : ∀ (n : Nat) (l : List Oper) (a A : Act) (w w' : World), stepA P ops n l a w = some (A, w') → PL P ops Q (l.drop n) A w' → PL P ops Q l a w
 | 0, _, a, A, w, w', h, k => by
  obtain ⟨rfl, rfl⟩ : a = A ∧ w = w' := by simpa [stepA] using h
  exact k
 | n + 1, [], _, _, _, _, h, _ => by simp [stepA] at h
 | n + 1, o :: rest, a, A, w, w', h, k => by
  unfold stepA at h
  cases e : Region.wanted o (yielded ops a.tmps) with
  | true =>
   rw [e] at h
   simp only at h
   split at h
   ·rename_i v u hr
    exact pl_to e _ rfl v u hr (pl_steps n rest _ A _ w' h k)
   ·cases h
  | false =>
   rw [e] at h
   simp only at h
   exact pl_skip e _ rfl (pl_steps n rest _ A _ w' h k)
theorem rV (n : Nat) (h : PL P ops Q (l.drop n) (actA P ops n l a w) w) (hr : stepA P ops n l a w = some (actA P ops n l a w, w) := by kernel_rfl) : PL P ops Q l a w := pl_steps n l a _ w w hr h
theorem sq {id : Nat} {y : Code} (h : y.wp P Q (actA P l.toArray l.length l a w) w) (hr : stepA P l.toArray l.length l a w = some (actA P l.toArray l.length l a w, w) := by kernel_rfl) : (Code.seq (Code.region id l.toArray false) y).wp P Q a w :=
 wp_seq (rg_lit (pl_steps l.length l a _ w w hr (by rw [List.drop_length]; exact pl_nil (au_then h))))
theorem sR {id : Nat} {l : List Oper} {y : Code} (h : PL P l.toArray (Exit.then (y.wp P Q) Q) l a w) : (Code.seq (Code.region id l.toArray false) y).wp P Q a w := wp_seq (rg_lit h)
theorem nT {K : Act → World → Prop} (h : K a w) : PL P ops (Exit.then K Q) [] a w := pl_nil (au_then h)
structure RnL (P : Program) (ops : Array Oper) (n : Nat) (l : List Oper) (a : Act) (V : List Value) (A : Act) : Prop where
 out : ∀ w, stepL P ops n l a w = some (V.map (fun v => (v, w)), A)
theorem k_steps : ∀ (n : Nat) (l : List Oper) (a : Act) (V : List Value) (A : Act), RnL P ops n l a V A → KL P ops W R (l.drop n) A → KL P ops W R l a
 | 0, _, a, V, A, h, k => by
  have := h.out W
  obtain ⟨-, rfl⟩ : _ ∧ a = A := by simpa [stepL] using this
  exact k
 | n + 1, [], _, _, _, h, _ => by simpa [stepL] using h.out W
 | n + 1, o :: rest, a, V, A, ⟨h⟩, k => by
  unfold stepL at h
  cases e : Region.wanted o (yielded ops a.tmps) with
  | true =>
   simp only [e] at h
   have key : ∀ w, ∃ v V', V = v :: V' ∧ (execOp a.eval o).run P w = .ok (.value v) w ∧ stepL P ops n rest (a.put o.dst v) w = some (V'.map (fun v => (v, w)), A) := fun w => by
    have hw := h w
    split at hw
    ·rename_i v u hr
     split at hw
     ·rename_i L B hs
      cases V with
      | nil => simp at hw
      | cons x V' =>
       simp only [List.map_cons, Option.some.injEq, Prod.mk.injEq, List.cons.injEq] at hw
       obtain ⟨⟨⟨rfl, rfl⟩, rfl⟩, rfl⟩ := hw
       exact ⟨v, V', rfl, hr, hs⟩
     ·cases hw
    ·cases hw
   obtain ⟨v, V', rfl, -, -⟩ := key W
   have key2 : ∀ w, (execOp a.eval o).run P w = .ok (.value v) w ∧ stepL P ops n rest (a.put o.dst v) w = some (V'.map (fun v => (v, w)), A) := fun w => by
    obtain ⟨v2, V2, e2, h1, h2⟩ := key w
    obtain ⟨rfl, rfl⟩ := List.cons.inj e2
    exact ⟨h1, h2⟩
   exact k_val e _ rfl v (fun w => (key2 w).1) (k_steps n rest _ V' A ⟨fun w => (key2 w).2⟩ k)
  | false =>
   simp only [e] at h
   exact k_skip e _ rfl (k_steps n rest _ V A ⟨h⟩ k)
theorem kR (n : Nat) (h : KL P ops W R (l.drop n) (actL P ops n l a W)) (hr : RnL P ops n l a (valL P ops n l a W) (actL P ops n l a W) := by exact ⟨fun _ => by kernel_rfl⟩) : KL P ops W R l a := k_steps n l a _ _ hr h
end
structure Rn (P : Program) (a : Act) (o : Oper) (v : Value) : Prop where
 out : ∀ w, (execOp a.eval o).run P w = .ok (.value v) w
structure Rc (P : Program) (a : Act) (o : Oper) (f : FuncId) (xs : Array Value) : Prop where
 out : ∀ w, (execOp a.eval o).run P w = .ok (.enter f xs) w
structure Ra (P : Program) (a : Act) (o : Oper) (Z : Obj) : Prop where
 out : ∀ w, (execOp a.eval o).run P w = .ok (.value (.pointer (some ⟨w.heap.size, 0, none⟩))) (w.alloc Z)
structure Ev (a : Act) (x : Operand) (v : Value) : Prop where
 out : a.eval x = v
structure Na (P : Program) (ty : TypeId) : Prop where
 out : ∀ w, (isAgg ty).run P w = .ok false w
theorem isRow_of {P : Program} {ty : TypeId} (h : (P.underlying ty).map TypeDesc.isRow = some true) : ∃ t, P.underlying ty = some t ∧ t.isRow = true := by
 cases e : P.underlying ty with
 | none => rw [e] at h; cases h
 | some t => rw [e] at h; exact ⟨t, rfl, by simpa using h⟩
section
variable {P : Program} {ops : Array Oper} {rest : List Oper} {o : Oper} {a : Act} {w W : World} {c : Ctx} {L : List Blk} {Q : Exit → Act → World → Prop} {K : Act → World → Prop} {R : Act → Prop}
theorem pN (M : Mem c L w) (d : Tmp) (Z : Obj) (h : ∀ g w', Mem c (L ++ [⟨g, Z⟩]) w' → PL P ops Q rest (a.put (some d) (.pointer (some ⟨g, 0, none⟩))) w') (hw : Wn ops o a = true := by first | exact want_no rfl | kernel_rfl) (hd : o.dst = some d := by exact rfl) (hr : Ra P a o Z := by exact ⟨fun _ => by kernel_rfl⟩) : PL P ops Q (o :: rest) a w := pl_new M hw (some d) hd Z hr.out h
theorem pC (M : Mem c L w) (d : Tmp) (f : FuncId) (xs : Array Value) (v : Value) (hc : ∀ w, Mem c L w → Calls P f xs w fun e w' => e = .returned v ∧ Below w.heap.size w w') (h : ∀ w', Mem c L w' → PL P ops Q rest (a.put (some d) v) w') (hw : Wn ops o a = true := by first | exact want_no rfl | kernel_rfl) (hd : o.dst = some d := by exact rfl) (hr : Rc P a o f xs := by exact ⟨fun _ => by kernel_rfl⟩) : PL P ops Q (o :: rest) a w := pl_call M hw (some d) hd f xs v hr.out hc h
theorem kC (M : Mem c L W) (d : Tmp) (f : FuncId) (xs : Array Value) (v : Value) (hc : ∀ w, Mem c L w → Calls P f xs w fun e w' => e = .returned v ∧ Below w.heap.size w w') (h : KL P ops W R rest (a.put (some d) v)) (hw : Wn ops o a = true := by first | exact want_no rfl | kernel_rfl) (hd : o.dst = some d := by exact rfl) (hr : Rc P a o f xs := by exact ⟨fun _ => by kernel_rfl⟩) : KL P ops W R (o :: rest) a := k_call M hw (some d) hd f xs v hr.out hc h
theorem pE (M : Mem c L w) (d : Tmp) (g off : Nat) (v : Value) (hc : ∀ w, Mem c L w → w.cell? ⟨g, off, none⟩ = some v) (h : PL P ops Q rest (a.put (some d) v) w) {ty : TypeId} {x : Operand} (hw : Wn ops o a = true := by first | exact want_no rfl | kernel_rfl) (hd : o.dst = some d := by exact rfl) (ho : o.op = .load ty x := by exact rfl) (hx : Ev a x (.pointer (some ⟨g, off, none⟩)) := by exact ⟨by kernel_rfl⟩) (ha : Na P ty := by exact ⟨fun _ => by kernel_rfl⟩) : PL P ops Q (o :: rest) a w := pl_cell M hw (some d) hd ty x ho g off hx.out v ha.out hc h
theorem kE (M : Mem c L W) (d : Tmp) (g off : Nat) (v : Value) (hc : ∀ w, Mem c L w → w.cell? ⟨g, off, none⟩ = some v) (h : KL P ops W R rest (a.put (some d) v)) {ty : TypeId} {x : Operand} (hw : Wn ops o a = true := by first | exact want_no rfl | kernel_rfl) (hd : o.dst = some d := by exact rfl) (ho : o.op = .load ty x := by exact rfl) (hx : Ev a x (.pointer (some ⟨g, off, none⟩)) := by exact ⟨by kernel_rfl⟩) (ha : Na P ty := by exact ⟨fun _ => by kernel_rfl⟩) : KL P ops W R (o :: rest) a := k_cell M hw (some d) hd ty x ho g off hx.out v ha.out hc h
theorem pL (M : Mem c L w) (d : Tmp) (i : Nat) {g n T : Nat} {F : NV} (hi : L[i]? = some ⟨g, .cells (av n F) T⟩) (off k : Nat) (F' : NV) (hp : ∀ j, j < k → F (off + j) = F' j) (h : PL P ops Q rest (a.put (some d) (.agg (av k F'))) w) {ty : TypeId} {x : Operand} (hw : Wn ops o a = true := by first | exact want_no rfl | kernel_rfl) (hd : o.dst = some d := by exact rfl) (ho : o.op = .load ty x := by exact rfl) (hx : Ev a x (.pointer (some ⟨g, off, none⟩)) := by exact ⟨by kernel_rfl⟩) (hk : off + k ≤ n := by decide) (hu : (P.underlying ty).map TypeDesc.isRow = some true := by kernel_rfl) (hz : (P.info? ty).map (·.size) = some k := by kernel_rfl) : PL P ops Q (o :: rest) a w := by
 obtain ⟨t, h1, h2⟩ := isRow_of hu
 exact pl_load M hw (some d) hd ty x ho i g off hx.out n T F hi k F' hp hk t h1 h2 hz h
theorem kL (M : Mem c L W) (d : Tmp) (i : Nat) {g n T : Nat} {F : NV} (hi : L[i]? = some ⟨g, .cells (av n F) T⟩) (off k : Nat) (F' : NV) (hp : ∀ j, j < k → F (off + j) = F' j) (h : KL P ops W R rest (a.put (some d) (.agg (av k F')))) {ty : TypeId} {x : Operand} (hw : Wn ops o a = true := by first | exact want_no rfl | kernel_rfl) (hd : o.dst = some d := by exact rfl) (ho : o.op = .load ty x := by exact rfl) (hx : Ev a x (.pointer (some ⟨g, off, none⟩)) := by exact ⟨by kernel_rfl⟩) (hk : off + k ≤ n := by decide) (hu : (P.underlying ty).map TypeDesc.isRow = some true := by kernel_rfl) (hz : (P.info? ty).map (·.size) = some k := by kernel_rfl) : KL P ops W R (o :: rest) a := by
 obtain ⟨t, h1, h2⟩ := isRow_of hu
 exact k_load M hw (some d) hd ty x ho i g off hx.out n T F hi k F' hp hk t h1 h2 hz h
theorem pA (M : Mem c L w) (d : Tmp) (i n : Nat) (F : NV) (h : PL P ops Q rest (a.put (some d) (.agg (av n F))) w) {g T : Nat} {ty : TypeId} {x : Operand} (hw : Wn ops o a = true := by first | exact want_no rfl | kernel_rfl) (hd : o.dst = some d := by exact rfl) (ho : o.op = .load ty x := by exact rfl) (hi : L[i]? = some ⟨g, .cells (av n F) T⟩ := by exact rfl) (hx : Ev a x (.pointer (some ⟨g, 0, none⟩)) := by exact ⟨by kernel_rfl⟩) (hu : (P.underlying ty).map TypeDesc.isRow = some true := by kernel_rfl) (hz : (P.info? ty).map (·.size) = some n := by kernel_rfl) : PL P ops Q (o :: rest) a w := by
 obtain ⟨t, h1, h2⟩ := isRow_of hu
 exact pl_load M hw (some d) hd ty x ho i g 0 hx.out n T F hi n F (fun j _ => by rw [Nat.zero_add]) (by omega) t h1 h2 hz h
theorem kA (M : Mem c L W) (d : Tmp) (i n : Nat) (F : NV) (h : KL P ops W R rest (a.put (some d) (.agg (av n F)))) {g T : Nat} {ty : TypeId} {x : Operand} (hw : Wn ops o a = true := by first | exact want_no rfl | kernel_rfl) (hd : o.dst = some d := by exact rfl) (ho : o.op = .load ty x := by exact rfl) (hi : L[i]? = some ⟨g, .cells (av n F) T⟩ := by exact rfl) (hx : Ev a x (.pointer (some ⟨g, 0, none⟩)) := by exact ⟨by kernel_rfl⟩) (hu : (P.underlying ty).map TypeDesc.isRow = some true := by kernel_rfl) (hz : (P.info? ty).map (·.size) = some n := by kernel_rfl) : KL P ops W R (o :: rest) a := by
 obtain ⟨t, h1, h2⟩ := isRow_of hu
 exact k_load M hw (some d) hd ty x ho i g 0 hx.out n T F hi n F (fun j _ => by rw [Nat.zero_add]) (by omega) t h1 h2 hz h
theorem pP (M : Mem c L w) (i : Nat) {g n T : Nat} {F : NV} (hi : L[i]? = some ⟨g, .cells (av n F) T⟩) (off : Nat) (v : Value) (Fn : NV) (hk : off < n) (hfn : ∀ j, j < n → (if j = off then v else F j) = Fn j) (h : ∀ w', Mem c (L.set i ⟨g, .cells (av n Fn) T⟩) w' → PL P ops Q rest a w') {ty : TypeId} {x y : Operand} (hw : Wn ops o a = true := by first | exact want_no rfl | kernel_rfl) (hd : o.dst = none := by exact rfl) (ho : o.op = .store ty x y := by exact rfl) (hx : Ev a x (.pointer (some ⟨g, off, none⟩)) := by exact ⟨by kernel_rfl⟩) (hy : Ev a y v := by exact ⟨by kernel_rfl⟩) (hz : (P.info? ty).map (·.size) = some 1 := by kernel_rfl) (h1 : v.oneCell' = true := by exact rfl) (hc : v.cells = #[v] := by exact rfl) : PL P ops Q (o :: rest) a w :=
 pl_put1 M hw hd ty x y ho i g off hx.out n T F hi v Fn hy.out hz hk h1 hc hfn h
theorem pH (d : Tmp) (v : Value) (hr : ∀ w, (execOp a.eval o).run P w = .ok (.value v) w) (h : PL P ops Q rest (a.put (some d) v) w) (hw : Wn ops o a = true := by first | exact want_no rfl | kernel_rfl) (hd : o.dst = some d := by exact rfl) : PL P ops Q (o :: rest) a w := pl_val hw (some d) hd v hr h
theorem kH (d : Tmp) (v : Value) (hr : ∀ w, (execOp a.eval o).run P w = .ok (.value v) w) (h : KL P ops W R rest (a.put (some d) v)) (hw : Wn ops o a = true := by first | exact want_no rfl | kernel_rfl) (hd : o.dst = some d := by exact rfl) : KL P ops W R (o :: rest) a := k_val hw (some d) hd v hr h
theorem jT (p : Prop) [Decidable p] (hp : p) (hr : Rn P a o (.bool (decide p)) := by exact ⟨fun _ => by kernel_rfl⟩) (w : World) : (execOp a.eval o).run P w = .ok (.value (.bool true)) w := (hr.out w).trans (by rw [decide_eq_true hp])
theorem jF (p : Prop) [Decidable p] (hp : ¬ p) (hr : Rn P a o (.bool (decide p)) := by exact ⟨fun _ => by kernel_rfl⟩) (w : World) : (execOp a.eval o).run P w = .ok (.value (.bool false)) w := (hr.out w).trans (by rw [decide_eq_false hp])
theorem jD (p : Prop) [Decidable p] (hp : p) (hr : Rn P a o (.bool (!(decide p))) := by exact ⟨fun _ => by kernel_rfl⟩) (w : World) : (execOp a.eval o).run P w = .ok (.value (.bool false)) w := (hr.out w).trans (by rw [decide_eq_true hp]; rfl)
theorem jU (p : Prop) [Decidable p] (hp : ¬ p) (hr : Rn P a o (.bool (!(decide p))) := by exact ⟨fun _ => by kernel_rfl⟩) (w : World) : (execOp a.eval o).run P w = .ok (.value (.bool true)) w := (hr.out w).trans (by rw [decide_eq_false hp]; rfl)
theorem jV (x : Int) {v : Int} (h : x = v) (h0 : -9223372036854775808 ≤ x) (h1 : x < 9223372036854775808) (hr : Rn P a o (.int .i64 (IntKind.wrap .i64 x)) := by exact ⟨fun _ => by kernel_rfl⟩) (w : World) : (execOp a.eval o).run P w = .ok (.value (.int .i64 v)) w := (hr.out w).trans (by
 rw [show IntKind.wrap .i64 x = x by simp [IntKind.wrap, IntKind.signed, IntKind.bits, go_sem]; omega, h])
end
section
variable {P : Program} {ops : Array Oper} {o : Oper} {a : Act} {w : World} {Q : Exit → Act → World → Prop} {S : World → Prop} {n fuel : Nat} {listed : Array Bool}
theorem qV (M : S w) (i : Nat) (d : Tmp) (v : Value) (h : HL P ops Q S n fuel (listed.setIfInBounds i true) (a.put (some d) v) w) (hi : ops.toList[i]? = some o := by exact rfl) (hin : i < n := by decide) (hf : Region.free .any ops listed i = true := by kernel_rfl) (hr : (Region.ready .any ops listed).contains i = true := by kernel_rfl) (hw : Wn ops o a = true := by first | exact want_no rfl | kernel_rfl) (hd : o.dst = some d := by exact rfl) (hrun : Rn P a o v := by exact ⟨fun _ => by kernel_rfl⟩) : HL P ops Q S n (fuel + 1) listed a w := hl_val M i hi hin hf hr hw (some d) hd v (fun w _ => hrun.out w) h
end
section
variable {P : Program} {ops : Array Oper} {rest : List Oper} {o : Oper} {a : Act} {w W : World} {c : Ctx} {L : List Blk} {Q : Exit → Act → World → Prop} {R : Act → Prop}
theorem ZT (d : Tmp) (p : Prop) [Decidable p] (h : PL P ops Q rest (a.put (some d) (.bool true)) w) (hp : p := by first | omega | decide) (hr : Rn P a o (.bool (decide p)) := by exact ⟨fun _ => by kernel_rfl⟩) (hw : Wn ops o a = true := by first | exact want_no rfl | kernel_rfl) (hd : o.dst = some d := by exact rfl) : PL P ops Q (o :: rest) a w := pH d _ (jT p hp hr) h hw hd
theorem ZF (d : Tmp) (p : Prop) [Decidable p] (h : PL P ops Q rest (a.put (some d) (.bool false)) w) (hp : ¬ p := by first | omega | decide) (hr : Rn P a o (.bool (decide p)) := by exact ⟨fun _ => by kernel_rfl⟩) (hw : Wn ops o a = true := by first | exact want_no rfl | kernel_rfl) (hd : o.dst = some d := by exact rfl) : PL P ops Q (o :: rest) a w := pH d _ (jF p hp hr) h hw hd
theorem ZD (d : Tmp) (p : Prop) [Decidable p] (h : PL P ops Q rest (a.put (some d) (.bool false)) w) (hp : p := by first | omega | decide) (hr : Rn P a o (.bool (!(decide p))) := by exact ⟨fun _ => by kernel_rfl⟩) (hw : Wn ops o a = true := by first | exact want_no rfl | kernel_rfl) (hd : o.dst = some d := by exact rfl) : PL P ops Q (o :: rest) a w := pH d _ (jD p hp hr) h hw hd
theorem ZS (d : Tmp) (p : Prop) [Decidable p] (h : PL P ops Q rest (a.put (some d) (.bool true)) w) (hp : ¬ p := by first | omega | decide) (hr : Rn P a o (.bool (!(decide p))) := by exact ⟨fun _ => by kernel_rfl⟩) (hw : Wn ops o a = true := by first | exact want_no rfl | kernel_rfl) (hd : o.dst = some d := by exact rfl) : PL P ops Q (o :: rest) a w := pH d _ (jU p hp hr) h hw hd
theorem ZI (d : Tmp) (x v : Int) (h : PL P ops Q rest (a.put (some d) (.int .i64 v)) w) (e1 : x = v := by omega) (e2 : -9223372036854775808 ≤ x := by omega) (e3 : x < 9223372036854775808 := by omega) (hr : Rn P a o (.int .i64 (IntKind.wrap .i64 x)) := by exact ⟨fun _ => by kernel_rfl⟩) (hw : Wn ops o a = true := by first | exact want_no rfl | kernel_rfl) (hd : o.dst = some d := by exact rfl) : PL P ops Q (o :: rest) a w := pH d _ (jV x e1 e2 e3 hr) h hw hd
theorem eI (d : Tmp) (x v : Int) (h : KL P ops W R rest (a.put (some d) (.int .i64 v))) (e1 : x = v := by omega) (e2 : -9223372036854775808 ≤ x := by omega) (e3 : x < 9223372036854775808 := by omega) (hr : Rn P a o (.int .i64 (IntKind.wrap .i64 x)) := by exact ⟨fun _ => by kernel_rfl⟩) (hw : Wn ops o a = true := by first | exact want_no rfl | kernel_rfl) (hd : o.dst = some d := by exact rfl) : KL P ops W R (o :: rest) a := kH d _ (jV x e1 e2 e3 hr) h hw hd
theorem ZQ (d : Tmp) (k : IntKind) (x : Int) {v : Int} (e1 : x = v) (h : PL P ops Q rest (a.put (some d) (.int k v)) w) (hr : Rn P a o (.int k x) := by exact ⟨fun _ => by kernel_rfl⟩) (hw : Wn ops o a = true := by first | exact want_no rfl | kernel_rfl) (hd : o.dst = some d := by exact rfl) : PL P ops Q (o :: rest) a w := pH d _ (fun w => (hr.out w).trans (by rw [e1])) h hw hd
theorem eQ (d : Tmp) (k : IntKind) (x : Int) {v : Int} (e1 : x = v) (h : KL P ops W R rest (a.put (some d) (.int k v))) (hr : Rn P a o (.int k x) := by exact ⟨fun _ => by kernel_rfl⟩) (hw : Wn ops o a = true := by first | exact want_no rfl | kernel_rfl) (hd : o.dst = some d := by exact rfl) : KL P ops W R (o :: rest) a := kH d _ (fun w => (hr.out w).trans (by rw [e1])) h hw hd
def ixN (P : Program) (t : TypeId) : Option (Nat × Option Nat) := match P.underlying t with
 | some (.array n e) => some (n, (P.info? e).map (·.size))
 | _ => none
theorem run_zx (k : IntKind) (g i n : Nat) {t : TypeId} {x ix : Operand} (ho : o.op = .indexAddr t x ix) (hx : Ev a x (.pointer (some ⟨g, 0, none⟩))) (hi : Ev a ix (.int k (i : Int))) (hu : ixN P t = some (n, some 1)) (hlt : i < n) (w : World) : (execOp a.eval o).run P w = .ok (.value (.pointer (some ⟨g, i, none⟩))) w := by
 unfold ixN at hu
 split at hu
 ·rename_i m e h
  obtain ⟨rfl, h2⟩ : m = n ∧ (P.info? e).map (·.size) = some 1 := by simpa using hu
  exact run_ix1 t m e h h2 x ix ho g hx.out k i hi.out hlt w
 ·cases hu
theorem ZX (d : Tmp) (k : IntKind) (g i n : Nat) (h : PL P ops Q rest (a.put (some d) (.pointer (some ⟨g, i, none⟩))) w) {t : TypeId} {x ix : Operand} (ho : o.op = .indexAddr t x ix := by exact rfl) (hx : Ev a x (.pointer (some ⟨g, 0, none⟩)) := by exact ⟨by kernel_rfl⟩) (hi : Ev a ix (.int k (i : Int)) := by exact ⟨by kernel_rfl⟩) (hu : ixN P t = some (n, some 1) := by kernel_rfl) (hlt : i < n := by first | omega | decide) (hw : Wn ops o a = true := by first | exact want_no rfl | kernel_rfl) (hd : o.dst = some d := by exact rfl) : PL P ops Q (o :: rest) a w := pH d _ (run_zx k g i n ho hx hi hu hlt) h hw hd
theorem eX (d : Tmp) (k : IntKind) (g i n : Nat) (h : KL P ops W R rest (a.put (some d) (.pointer (some ⟨g, i, none⟩)))) {t : TypeId} {x ix : Operand} (ho : o.op = .indexAddr t x ix := by exact rfl) (hx : Ev a x (.pointer (some ⟨g, 0, none⟩)) := by exact ⟨by kernel_rfl⟩) (hi : Ev a ix (.int k (i : Int)) := by exact ⟨by kernel_rfl⟩) (hu : ixN P t = some (n, some 1) := by kernel_rfl) (hlt : i < n := by first | omega | decide) (hw : Wn ops o a = true := by first | exact want_no rfl | kernel_rfl) (hd : o.dst = some d := by exact rfl) : KL P ops W R (o :: rest) a := kH d _ (run_zx k g i n ho hx hi hu hlt) h hw hd
theorem ZE (M : Mem c L w) (d : Tmp) (i off : Nat) {g n T : Nat} {F : NV} (h : PL P ops Q rest (a.put (some d) (F off)) w) {ty : TypeId} {x : Operand} (hw : Wn ops o a = true := by first | exact want_no rfl | kernel_rfl) (hd : o.dst = some d := by exact rfl) (ho : o.op = .load ty x := by exact rfl) (hi : L[i]? = some ⟨g, .cells (av n F) T⟩ := by exact rfl) (hk : off < n := by first | omega | decide) (hx : Ev a x (.pointer (some ⟨g, off, none⟩)) := by exact ⟨by kernel_rfl⟩) (ha : Na P ty := by exact ⟨fun _ => by kernel_rfl⟩) : PL P ops Q (o :: rest) a w := pE M d g off (F off) (fun _ M => M.cell i hi hk rfl) h hw hd ho hx ha
theorem eE (M : Mem c L W) (d : Tmp) (i off : Nat) {g n T : Nat} {F : NV} (h : KL P ops W R rest (a.put (some d) (F off))) {ty : TypeId} {x : Operand} (hw : Wn ops o a = true := by first | exact want_no rfl | kernel_rfl) (hd : o.dst = some d := by exact rfl) (ho : o.op = .load ty x := by exact rfl) (hi : L[i]? = some ⟨g, .cells (av n F) T⟩ := by exact rfl) (hk : off < n := by first | omega | decide) (hx : Ev a x (.pointer (some ⟨g, off, none⟩)) := by exact ⟨by kernel_rfl⟩) (ha : Na P ty := by exact ⟨fun _ => by kernel_rfl⟩) : KL P ops W R (o :: rest) a := kE M d g off (F off) (fun _ M => M.cell i hi hk rfl) h hw hd ho hx ha
theorem ZP8 (M : Mem c L w) (i off : Nat) (y : Int) {g n T : Nat} {f : NI} (h : ∀ w2, Mem c (L.set i ⟨g, .cells (av n (w8 (upd f off y))) T⟩) w2 → PL P ops Q rest a w2) {ty : TypeId} {x z : Operand} (hw : Wn ops o a = true := by first | exact want_no rfl | kernel_rfl) (hd : o.dst = none := by exact rfl) (ho : o.op = .store ty x z := by exact rfl) (hi : L[i]? = some ⟨g, .cells (av n (w8 f)) T⟩ := by exact rfl) (hk : off < n := by first | omega | decide) (hx : Ev a x (.pointer (some ⟨g, off, none⟩)) := by exact ⟨by kernel_rfl⟩) (hy : Ev a z (.int .u8 y) := by exact ⟨by kernel_rfl⟩) (hz : (P.info? ty).map (·.size) = some 1 := by kernel_rfl) : PL P ops Q (o :: rest) a w := pP M i hi off (.int .u8 y) (w8 (upd f off y)) hk (fun j _ => put_w8 _ _ _ j) h hw hd ho hx hy hz
theorem ZP32 (M : Mem c L w) (i off : Nat) (y : Int) {g n T : Nat} {f : NI} (h : ∀ w2, Mem c (L.set i ⟨g, .cells (av n (w32 (upd f off y))) T⟩) w2 → PL P ops Q rest a w2) {ty : TypeId} {x z : Operand} (hw : Wn ops o a = true := by first | exact want_no rfl | kernel_rfl) (hd : o.dst = none := by exact rfl) (ho : o.op = .store ty x z := by exact rfl) (hi : L[i]? = some ⟨g, .cells (av n (w32 f)) T⟩ := by exact rfl) (hk : off < n := by first | omega | decide) (hx : Ev a x (.pointer (some ⟨g, off, none⟩)) := by exact ⟨by kernel_rfl⟩) (hy : Ev a z (.int .u32 y) := by exact ⟨by kernel_rfl⟩) (hz : (P.info? ty).map (·.size) = some 1 := by kernel_rfl) : PL P ops Q (o :: rest) a w := pP M i hi off (.int .u32 y) (w32 (upd f off y)) hk (fun j _ => put_w32 _ _ _ j) h hw hd ho hx hy hz
theorem ZP64 (M : Mem c L w) (i off : Nat) (y : Int) {g n T : Nat} {f : NI} (h : ∀ w2, Mem c (L.set i ⟨g, .cells (av n (w64 (upd f off y))) T⟩) w2 → PL P ops Q rest a w2) {ty : TypeId} {x z : Operand} (hw : Wn ops o a = true := by first | exact want_no rfl | kernel_rfl) (hd : o.dst = none := by exact rfl) (ho : o.op = .store ty x z := by exact rfl) (hi : L[i]? = some ⟨g, .cells (av n (w64 f)) T⟩ := by exact rfl) (hk : off < n := by first | omega | decide) (hx : Ev a x (.pointer (some ⟨g, off, none⟩)) := by exact ⟨by kernel_rfl⟩) (hy : Ev a z (.int .u64 y) := by exact ⟨by kernel_rfl⟩) (hz : (P.info? ty).map (·.size) = some 1 := by kernel_rfl) : PL P ops Q (o :: rest) a w := pP M i hi off (.int .u64 y) (w64 (upd f off y)) hk (fun j _ => put_w64 _ _ _ j) h hw hd ho hx hy hz
theorem ZG (M : Mem c L w) (i n : Nat) (F' : NV) {g T : Nat} {F : NV} (h : ∀ w2, Mem c (L.set i ⟨g, .cells (av n F') T⟩) w2 → PL P ops Q rest a w2) {ty : TypeId} {x y : Operand} (hw : Wn ops o a = true := by first | exact want_no rfl | kernel_rfl) (hd : o.dst = none := by exact rfl) (ho : o.op = .store ty x y := by exact rfl) (hi : L[i]? = some ⟨g, .cells (av n F) T⟩ := by exact rfl) (h1 : ∀ j, j < n → (F' j).oneCell' = true := by exact fun _ _ => rfl) (hx : Ev a x (.pointer (some ⟨g, 0, none⟩)) := by exact ⟨by kernel_rfl⟩) (hy : Ev a y (.agg (av n F')) := by exact ⟨by kernel_rfl⟩) (hz : (P.info? ty).map (·.size) = some n := by kernel_rfl) : PL P ops Q (o :: rest) a w := pl_put M hw hd ty x y ho i g 0 hx.out n T F hi n F' F' hy.out hz (by omega) h1 (fun j hj => by rw [if_pos (by omega), Nat.sub_zero]) h
theorem ZC (M : Mem c L w) (d : Tmp) {f : FuncId} {xs : Array Value} {v : Value} (hc : ∀ w, Mem c L w → Calls P f xs w fun e w' => e = .returned v ∧ Below w.heap.size w w') (h : ∀ w', Mem c L w' → PL P ops Q rest (a.put (some d) v) w') (hw : Wn ops o a = true := by first | exact want_no rfl | kernel_rfl) (hd : o.dst = some d := by exact rfl) (hr : Rc P a o f xs := by exact ⟨fun _ => by kernel_rfl⟩) : PL P ops Q (o :: rest) a w := pC M d f xs v hc h hw hd hr
theorem eC (M : Mem c L W) (d : Tmp) {f : FuncId} {xs : Array Value} {v : Value} (hc : ∀ w, Mem c L w → Calls P f xs w fun e w' => e = .returned v ∧ Below w.heap.size w w') (h : KL P ops W R rest (a.put (some d) v)) (hw : Wn ops o a = true := by first | exact want_no rfl | kernel_rfl) (hd : o.dst = some d := by exact rfl) (hr : Rc P a o f xs := by exact ⟨fun _ => by kernel_rfl⟩) : KL P ops W R (o :: rest) a := kC M d f xs v hc h hw hd hr
structure Rm (P : Program) (a : Act) (o : Oper) (v : NV) (Z : Obj) : Prop where
 out : ∀ w, (execOp a.eval o).run P w = .ok (.value (v w.heap.size)) (w.alloc Z)
theorem ZM (M : Mem c L w) (d : Tmp) (v : NV) (Z : Obj) (h : ∀ g w2, Mem c (L ++ [⟨g, Z⟩]) w2 → PL P ops Q rest (a.put (some d) (v g)) w2) (hw : Wn ops o a = true := by first | exact want_no rfl | kernel_rfl) (hd : o.dst = some d := by exact rfl) (hr : Rm P a o v Z := by exact ⟨fun _ => by kernel_rfl⟩) : PL P ops Q (o :: rest) a w := pl_mk M hw (some d) hd v Z hr.out h
structure Rs (P : Program) (fn : Func) (a : Act) (v : Value) : Prop where
 out : ∀ w, (results fn a.tmps).run P w = .ok v w
theorem b1 {fn : Func} {w0 : World} {v : Value} (M : Mem ⟨w0, []⟩ L w) (hr : Rs P fn a v := by exact ⟨fun _ => by kernel_rfl⟩) (hd : a.defers = [] := by kernel_rfl) : bodyPost P fn (fun r w2 => r = .returned v ∧ Below w0.heap.size w0 w2) .ret a w := bodyPost_ret (hr.out w) hd ⟨rfl, below_grown M.old⟩
end
theorem exS2 {A : Type} {a : Act} {F : (Nat → Value) → A → Act} {R : (Nat → Value) → A → Prop} (y : A) (hR : R (slt a) y) (h : a = F (slt a) y := by kernel_rfl) : ∃ v y, a = F v y ∧ R v y := ⟨slt a, y, h, hR⟩
section
variable {P : Program} {ops : Array Oper} {rest : List Oper} {o : Oper} {a : Act} {w W : World} {c : Ctx} {L : List Blk} {Q : Exit → Act → World → Prop} {R : Act → Prop}
theorem wT (d : Tmp) {p : Prop} [Decidable p] (hp : p) (h : PL P ops Q rest (a.put (some d) (.bool true)) w) (hr : Rn P a o (.bool (decide p)) := by exact ⟨fun _ => by kernel_rfl⟩) (hw : Wn ops o a = true := by first | exact want_no rfl | kernel_rfl) (hd : o.dst = some d := by exact rfl) : PL P ops Q (o :: rest) a w := pH d _ (jT p hp hr) h hw hd
theorem wF (d : Tmp) {p : Prop} [Decidable p] (hp : ¬ p) (h : PL P ops Q rest (a.put (some d) (.bool false)) w) (hr : Rn P a o (.bool (decide p)) := by exact ⟨fun _ => by kernel_rfl⟩) (hw : Wn ops o a = true := by first | exact want_no rfl | kernel_rfl) (hd : o.dst = some d := by exact rfl) : PL P ops Q (o :: rest) a w := pH d _ (jF p hp hr) h hw hd
theorem wD (d : Tmp) {p : Prop} [Decidable p] (hp : p) (h : PL P ops Q rest (a.put (some d) (.bool false)) w) (hr : Rn P a o (.bool (!(decide p))) := by exact ⟨fun _ => by kernel_rfl⟩) (hw : Wn ops o a = true := by first | exact want_no rfl | kernel_rfl) (hd : o.dst = some d := by exact rfl) : PL P ops Q (o :: rest) a w := pH d _ (jD p hp hr) h hw hd
theorem wU (d : Tmp) {p : Prop} [Decidable p] (hp : ¬ p) (h : PL P ops Q rest (a.put (some d) (.bool true)) w) (hr : Rn P a o (.bool (!(decide p))) := by exact ⟨fun _ => by kernel_rfl⟩) (hw : Wn ops o a = true := by first | exact want_no rfl | kernel_rfl) (hd : o.dst = some d := by exact rfl) : PL P ops Q (o :: rest) a w := pH d _ (jU p hp hr) h hw hd
theorem pD (M : Mem c L w) (d : Tmp) (v : Value) {f : FuncId} {xs : Array Value} (hc : ∀ w, Mem c L w → Calls P f xs w fun e w' => e = .returned v ∧ Below w.heap.size w w') (h : ∀ w', Mem c L w' → PL P ops Q rest (a.put (some d) v) w') (hw : Wn ops o a = true := by first | exact want_no rfl | kernel_rfl) (hd : o.dst = some d := by exact rfl) (hr : Rc P a o f xs := by exact ⟨fun _ => by kernel_rfl⟩) : PL P ops Q (o :: rest) a w := pC M d f xs v hc h hw hd hr
theorem kD (M : Mem c L W) (d : Tmp) (v : Value) {f : FuncId} {xs : Array Value} (hc : ∀ w, Mem c L w → Calls P f xs w fun e w' => e = .returned v ∧ Below w.heap.size w w') (h : KL P ops W R rest (a.put (some d) v)) (hw : Wn ops o a = true := by first | exact want_no rfl | kernel_rfl) (hd : o.dst = some d := by exact rfl) (hr : Rc P a o f xs := by exact ⟨fun _ => by kernel_rfl⟩) : KL P ops W R (o :: rest) a := kC M d f xs v hc h hw hd hr
theorem ZY (M : Mem c L w) (d : Tmp) (i : Nat) (v : Value) (Z' : Obj) {f : FuncId} {xs : Array Value} {g : Nat} {Z : Obj} (hc : ∀ w, Mem c L w → Calls P f xs w fun e w' => e = .returned v ∧ Grw w w' [g] ∧ w'.heap[g]? = some Z') (h : ∀ w', Mem c (L.set i ⟨g, Z'⟩) w' → PL P ops Q rest (a.put (some d) v) w') (hi : L[i]? = some ⟨g, Z⟩ := by exact rfl) (hw : Wn ops o a = true := by first | exact want_no rfl | kernel_rfl) (hd : o.dst = some d := by exact rfl) (hr : Rc P a o f xs := by exact ⟨fun _ => by kernel_rfl⟩) : PL P ops Q (o :: rest) a w := pl_callp M hw (some d) hd f xs v i g Z Z' hi hr.out hc h
theorem zJ (d : Tmp) (v x : Value) (e : x = v) (h : PL P ops Q rest (a.put (some d) v) w) (hw : Wn ops o a = true := by first | exact want_no rfl | kernel_rfl) (hd : o.dst = some d := by exact rfl) (hr : Rn P a o x := by exact ⟨fun _ => by kernel_rfl⟩) : PL P ops Q (o :: rest) a w := pH d v (fun w => (hr.out w).trans (by rw [e])) h hw hd
theorem zW (d : Tmp) (x : Int) (h : PL P ops Q rest (a.put (some d) (.int .i64 x)) w) (e2 : -9223372036854775808 ≤ x := by omega) (e3 : x < 9223372036854775808 := by omega) (hr : Rn P a o (.int .i64 (IntKind.wrap .i64 x)) := by exact ⟨fun _ => by kernel_rfl⟩) (hw : Wn ops o a = true := by first | exact want_no rfl | kernel_rfl) (hd : o.dst = some d := by exact rfl) : PL P ops Q (o :: rest) a w := pH d _ (jV x rfl e2 e3 hr) h hw hd
theorem zT (d : Tmp) (x : Yb) (h : PL P ops Q rest (a.put (some d) (.bool true)) w) (hr : Rn P a o (.bool (x.toList == x.toList)) := by exact ⟨fun _ => by kernel_rfl⟩) (hw : Wn ops o a = true := by first | exact want_no rfl | kernel_rfl) (hd : o.dst = some d := by exact rfl) : PL P ops Q (o :: rest) a w := zJ d _ _ (by rw [beq_self_eq_true]) h hw hd hr
theorem zN (d : Tmp) (x : Yb) (h : PL P ops Q rest (a.put (some d) (.bool false)) w) (hr : Rn P a o (.bool (!(x.toList == x.toList))) := by exact ⟨fun _ => by kernel_rfl⟩) (hw : Wn ops o a = true := by first | exact want_no rfl | kernel_rfl) (hd : o.dst = some d := by exact rfl) : PL P ops Q (o :: rest) a w := zJ d _ _ (by rw [beq_self_eq_true]; rfl) h hw hd hr
theorem bX {fn : Func} {Φ : Ending → World → Prop} (v : Value) (hX : Φ (.returned v) w) (hr : Rs P fn a v := by exact ⟨fun _ => by kernel_rfl⟩) (hd : a.defers = [] := by kernel_rfl) : bodyPost P fn Φ .ret a w := bodyPost_ret (hr.out w) hd hX
structure Ep (a : Act) (p : Tmp) (v : Value) : Prop where
 out : a.tmps.getD p undef = v
theorem bc {fn : Func} {Φ : Ending → World → Prop} {p : Tmp} {ty : TypeId} (h : fn.results = #[.cell p ty]) (M : Mem c L w) (i n : Nat) (F : NV) (hX : Φ (.returned (.agg (av n F))) w) {g T : Nat} (hi : L[i]? = some ⟨g, .cells (av n F) T⟩ := by exact rfl) (hp : Ep a p (.pointer (some ⟨g, 0, none⟩)) := by exact ⟨by kernel_rfl⟩) (hu : (P.underlying ty).map TypeDesc.isRow = some true := by kernel_rfl) (hz : (P.info? ty).map (·.size) = some n := by kernel_rfl) (hd : a.defers = [] := by kernel_rfl) : bodyPost P fn Φ .ret a w := by
 obtain ⟨t, h1, h2⟩ := isRow_of hu
 exact bodyPost_ret (results_cell_row h _ _ g T (av n F) (0, 0) _ hp.out (M.get i hi) h1 (by revert h2; cases t <;> intro h2 <;> first | rfl | cases h2) (by rw [av_size]; exact hz)) hd hX
theorem bct {fn : Func} {Φ : Ending → World → Prop} {p s : Tmp} {ty : TypeId} (h : fn.results = #[.cell p ty, .tmp s]) (M : Mem c L w) (i n : Nat) (F : NV) (x : Value) (hX : Φ (.returned (.tuple #[.agg (av n F), x])) w) {g T : Nat} (hi : L[i]? = some ⟨g, .cells (av n F) T⟩ := by exact rfl) (hp : Ep a p (.pointer (some ⟨g, 0, none⟩)) := by exact ⟨by kernel_rfl⟩) (hs : Ep a s x := by exact ⟨by kernel_rfl⟩) (hu : (P.underlying ty).map TypeDesc.isRow = some true := by kernel_rfl) (hz : (P.info? ty).map (·.size) = some n := by kernel_rfl) (hd : a.defers = [] := by kernel_rfl) : bodyPost P fn Φ .ret a w := by
 obtain ⟨t, h1, h2⟩ := isRow_of hu
 exact bodyPost_ret (results_cell_tmp h _ _ g T (av n F) (0, 0) _ _ hp.out hs.out (M.get i hi) h1 (by revert h2; cases t <;> intro h2 <;> first | rfl | cases h2) (by rw [av_size]; exact hz)) hd hX
end
section
variable {P : Program} {ops : Array Oper} {o : Oper} {a : Act} {w : World} {Q : Exit → Act → World → Prop} {S : World → Prop} {n fuel : Nat} {listed : Array Bool}
theorem qH (M : S w) (i : Nat) (d : Tmp) (v : Value) (hrun : ∀ w, S w → (execOp a.eval o).run P w = .ok (.value v) w) (h : HL P ops Q S n fuel (listed.setIfInBounds i true) (a.put (some d) v) w) (hi : ops.toList[i]? = some o := by exact rfl) (hin : i < n := by decide) (hf : Region.free .any ops listed i = true := by kernel_rfl) (hr : (Region.ready .any ops listed).contains i = true := by kernel_rfl) (hw : Wn ops o a = true := by first | exact want_no rfl | kernel_rfl) (hd : o.dst = some d := by exact rfl) : HL P ops Q S n (fuel + 1) listed a w := hl_val M i hi hin hf hr hw (some d) hd v hrun h
theorem qC {c : Ctx} {Ls : List Blk} (M : Mem c Ls w) (i : Nat) (d : Tmp) (g off : Nat) (v : Value) (hc : ∀ w, Mem c Ls w → w.cell? ⟨g, off, none⟩ = some v) (h : HL P ops Q (Mem c Ls) n fuel (listed.setIfInBounds i true) (a.put (some d) v) w) {ty : TypeId} {x : Operand} (hi : ops.toList[i]? = some o := by exact rfl) (hin : i < n := by decide) (hf : Region.free .any ops listed i = true := by kernel_rfl) (hr : (Region.ready .any ops listed).contains i = true := by kernel_rfl) (hw : Wn ops o a = true := by first | exact want_no rfl | kernel_rfl) (hd : o.dst = some d := by exact rfl) (ho : o.op = .load ty x := by exact rfl) (hx : Ev a x (.pointer (some ⟨g, off, none⟩)) := by exact ⟨by kernel_rfl⟩) (ha : Na P ty := by exact ⟨fun _ => by kernel_rfl⟩) : HL P ops Q (Mem c Ls) n (fuel + 1) listed a w := hl_cell M i hi hin hf hr hw (some d) hd ty x ho g off hx.out v ha.out hc h
theorem qE {c : Ctx} {Ls : List Blk} (M : Mem c Ls w) (i : Nat) (d : Tmp) (k off : Nat) {g m T : Nat} {F : NV} (h : HL P ops Q (Mem c Ls) n fuel (listed.setIfInBounds i true) (a.put (some d) (F off)) w) {ty : TypeId} {x : Operand} (hi : ops.toList[i]? = some o := by exact rfl) (hin : i < n := by decide) (hf : Region.free .any ops listed i = true := by kernel_rfl) (hr : (Region.ready .any ops listed).contains i = true := by kernel_rfl) (hw : Wn ops o a = true := by first | exact want_no rfl | kernel_rfl) (hd : o.dst = some d := by exact rfl) (ho : o.op = .load ty x := by exact rfl) (hk : Ls[k]? = some ⟨g, .cells (av m F) T⟩ := by exact rfl) (ho2 : off < m := by first | omega | decide) (hx : Ev a x (.pointer (some ⟨g, off, none⟩)) := by exact ⟨by kernel_rfl⟩) (ha : Na P ty := by exact ⟨fun _ => by kernel_rfl⟩) : HL P ops Q (Mem c Ls) n (fuel + 1) listed a w := hl_cell M i hi hin hf hr hw (some d) hd ty x ho g off hx.out _ ha.out (fun _ M => M.cell k hk ho2 rfl) h
theorem qO (i : Nat) (h : PL P ops (Exit.then (fun a' w' => S w' ∧ HL P ops Q S n fuel (listed.setIfInBounds i true) a' w') Q) [o] a w) (hin : i < n := by decide) (hr : Region.ready .any ops listed = [i] := by kernel_rfl) (hi : ops.toList[i]? = some o := by exact rfl) : HL P ops Q S n (fuel + 1) listed a w := hl_one i hin hr hi h
theorem qZ (h : PL P ops (Exit.then (fun a' w' => Q .normal a' w') Q) [o] a w) (hr : Region.ready .any ops listed = [n] := by kernel_rfl) (hr2 : Region.ready .any ops (listed.setIfInBounds n true) = [] := by kernel_rfl) (hi : ops.toList[n]? = some o := by exact rfl) : HL P ops Q S n (fuel + 1) listed a w := hl_end hr hr2 hi h
theorem rgh {c : Ctx} {L : List Blk} {id : Nat} {l : List Oper} (M : Mem c L w) (Ls : List Blk) (n : Nat) (h : ∀ w', Mem c L w' → HL P l.toArray Q (Mem c Ls) n (n + 1) (Array.replicate (n + 1) false) a w') (hn : l.length = n + 1 := by exact rfl) (hm : P.follows .mixedOrders = true := by kernel_rfl) (hB : (Region.sinkB .any l.toArray n && Region.chainB .any l.toArray n && Region.noSelect l.toArray) = true := by kernel_rfl) (hQ : ∀ c a d v w, Q (.panic c) (Act.put a d v) w → Q (.panic c) a w := by exact fun _ _ d _ _ h => by cases d <;> exact h) : (Code.region id l.toArray true).wp P Q a w := rg_held M Ls n hn hm hB hQ h
end
open Go.RowKit
theorem inz91 : (Tryz.prog.info? 91).map (·.size) = some 1 := by kernel_rfl
theorem inz5 : (Tryz.prog.info? 5).map (·.size) = some 1 := by kernel_rfl
theorem inz159 : (Tryz.prog.info? 159).map (·.size) = some 64 := by kernel_rfl
theorem inz241 : (Tryz.prog.info? 241).map (·.size) = some 2 := by kernel_rfl
theorem inz242 : (Tryz.prog.info? 242).map (·.size) = some 4 := by kernel_rfl
theorem inz9 : (Tryz.prog.info? 9).map (·.size) = some 1 := by kernel_rfl
theorem inz86 : (Tryz.prog.info? 86).map (·.size) = some 1 := by kernel_rfl
theorem inz61 : (Tryz.prog.info? 61).map (·.size) = some 1 := by kernel_rfl
theorem Mem.oldc {c : Ctx} {L : List Blk} {W : World} (M : Mem c L W) {g k : Nat} {v : Value} (hc : c.w.cell? ⟨g, k, none⟩ = some v) (hr : g ∉ c.r) : W.cell? ⟨g, k, none⟩ = some v := by
 have hlt : g < c.w.heap.size := by
  refine Classical.byContradiction fun hn => ?_
  have : c.w.heap[g]? = none := Array.getElem?_eq_none (by omega)
  simp [World.cell?, this] at hc
 rw [← hc]
 unfold World.cell?
 simp only
 rw [M.old.block g hlt hr]
theorem wrap64 {x : Int} (h0 : -9223372036854775808 ≤ x) (h1 : x < 9223372036854775808) : IntKind.wrap .i64 x = x := by
 simp [IntKind.wrap, IntKind.signed, IntKind.bits, go_sem]
 omega
theorem quo4 (j : Nat) (hj : j < 1000000) : IntKind.wrap .i64 ((j : Int).tdiv 4) = ((j / 4 : Nat) : Int) := by
 rw [Int.tdiv_eq_ediv_of_nonneg (by omega), wrap64 (by omega) (by omega)]
 omega
theorem rem4 (n : Nat) : Int.tmod (n : Int) 4 = ((n % 4 : Nat) : Int) := by
 rw [Int.tmod_eq_emod_of_nonneg (by omega)]
 omega
theorem run_shlV {P : Program} {a : Act} {o : Oper} (t rt : TypeId) (x y : Operand) (ho : o.op = .binOp .shl t x y rt) (k : Int) (ky : IntKind) (m : Nat) (hx : a.eval x = .int .u32 k) (hy : a.eval y = .int ky (m : Int)) (_hm : m ≤ 32) (w : World) :
  (execOp a.eval o).run P w = .ok (.value (.int .u32 (vl k m))) w := by
 unfold execOp vl
 simp [ho, hx, hy, eqGuard, binOp]
theorem run_ixP {P : Program} {a : Act} {o : Oper} (t : TypeId) (len : Nat) (elem : TypeId) (sz : Nat) (hu : P.underlying t = some (.array len elem)) (hs : (P.info? elem).map (·.size) = some sz) (hag : ∀ w, (isAgg elem).run P w = .ok true w) (x ix : Operand) (ho : o.op = .index t x ix) (F : NV) (n : Nat) (hx : a.eval x = .agg (av n F)) (k : IntKind) (i : Nat) (hi : a.eval ix = .int k (i : Int)) (hlt : i < len) (hn : i * sz + sz ≤ n) (w : World) :
  (execOp a.eval o).run P w = .ok (.value (.agg (av sz (fun j => F (i * sz + j))))) w := by
 have he : (av n F).extract (i * sz) (i * sz + sz) = av sz (fun j => F (i * sz + j)) := by
  apply Array.ext_getElem?
  intro j
  rw [Array.getElem?_extract]
  by_cases hj : j < sz
  ·rw [if_pos (by rw [av_size]; omega), av_get _ _ _ (by omega), av_get _ _ _ hj]
  ·rw [if_neg (by rw [av_size]; omega), Array.getElem?_eq_none (by rw [av_size]; omega)]
 cases hq : P.info? elem with
 | none => simp [hq] at hs
 | some u =>
  have hsz : u.size = sz := by simpa [hq] using hs
  unfold execOp
  simp [ho, hx, hi, Instr.index, asIntOf, run_underlying hu, sizeOf, typeInfo, hq, hsz, hlt, part, hag, he]
theorem pl_laid {P : Program} {ops : Array Oper} {rest : List Oper} {o : Oper} {a : Act} {w : World} {c : Ctx} {L : List Blk} {Q : Exit → Act → World → Prop} (M : Mem c L w) (hw : Region.wanted o (yielded ops a.tmps) = true) (d : Option Tmp) (hd : o.dst = d) (ty : TypeId) (x : Operand) (ho : o.op = .load ty x) (hx : a.eval x = .pointer (some ⟨2, 0, none⟩)) (t : TypeDesc) (hu : P.underlying ty = some t) (ht : t.isRow = true) (hz : (P.info? ty).map (·.size) = some 4)
  (h : PL P ops Q rest (a.put d (.agg (av 4 (wi TF)))) w) : PL P ops Q (o :: rest) a w := by
 refine pl_to hw d hd _ w ?_ h
 unfold execOp
 have hl := run_loadAt_mid (P := P) w 2 0 ty (av 4 (wi TF)).toList t (fun j v hv => by
  obtain ⟨hj, rfl⟩ := av_toList_get _ _ _ _ hv
  rw [Nat.zero_add]
  exact M.laid.t j hj) hu ht (by rw [hz]; simp [av_size])
 simp only [ho, hx, Sem.run_bind, hl, Result.andThen_ok, Sem.run_pure, Array.toArray_toList]
theorem run_ixL {P : Program} {a : Act} {o : Oper} (t elem : TypeId) (hu : P.underlying t = some (.slice elem)) (hs : (P.info? elem).map (·.size) = some 1) (x ix : Operand) (ho : o.op = .indexAddr t x ix) (g off len cap : Nat) (hx : a.eval x = .slice (some ⟨g, off, none⟩) len cap) (k : IntKind) (i : Nat) (hi : a.eval ix = .int k (i : Int)) (hlt : i < len) (w : World) :
  (execOp a.eval o).run P w = .ok (.value (.pointer (some ⟨g, off + i, none⟩))) w := by
 cases hq : P.info? elem with
 | none => simp [hq] at hs
 | some u =>
  have hsz : u.size = 1 := by simpa [hq] using hs
  unfold execOp
  simp [ho, hx, hi, Instr.indexAt, asIntOf, run_underlying hu, sizeOf, typeInfo, hq, hsz, add_at, hlt]
theorem run_strl {P : Program} {a : Act} {o : Oper} (t : TypeId) (hu : P.underlying t = some .string) (x lo : Operand) (ho : o.op = .slice t x (some lo) none none) (s : Yb) (hx : a.eval x = .string s) (k : IntKind) (i : Nat) (hi : a.eval lo = .int k (i : Int)) (hle : i ≤ s.size) (v : Yb) (hv : s.extract i s.size = v) (w : World) :
  (execOp a.eval o).run P w = .ok (.value (.string v)) w := by
 subst hv
 unfold execOp
 simp [ho, hx, hi, run_sliceAt_string w t (.string s) (some (.int k i)) none none hu, run_slice_string_l w t s hu k i (by omega) (by omega)]
theorem run_strh {P : Program} {a : Act} {o : Oper} (t : TypeId) (hu : P.underlying t = some .string) (x hi : Operand) (ho : o.op = .slice t x none (some hi) none) (s : Yb) (hx : a.eval x = .string s) (k : IntKind) (i : Nat) (hh : a.eval hi = .int k (i : Int)) (hle : i ≤ s.size) (v : Yb) (hv : s.extract 0 i = v) (w : World) :
  (execOp a.eval o).run P w = .ok (.value (.string v)) w := by
 subst hv
 unfold execOp
 simp [ho, hx, hh, run_sliceAt_string w t (.string s) none (some (.int k i)) none hu, run_slice_string_h w t s hu k i (by omega) (by omega)]
theorem run_cat {P : Program} {a : Act} {o : Oper} (t rt : TypeId) (x y : Operand) (ho : o.op = .binOp .add t x y rt) (s u : Yb) (hx : a.eval x = .string s) (hy : a.eval y = .string u) (hb : s.size + u.size ≤ 9223372036854775807) (w : World) :
  (execOp a.eval o).run P w = .ok (.value (.string (s ++ u))) w := by
 have h := run_string_add_sum (P := P) (w := w) s u hb
 unfold execOp
 simp [ho, hx, hy, eqGuard, binOp, h]
theorem vo_comm (x y : Int) : vo x y = vo y x := by
 unfold vo
 rw [BitVec.or_comm]
theorem wrap32_nat (n : Nat) (h : n < 4294967296) : IntKind.wrap .u32 (n : Int) = (n : Int) := by
 simp [IntKind.wrap, IntKind.signed, IntKind.bits]
 omega
theorem run_ixS {P : Program} {a : Act} {o : Oper} (t : TypeId) (hu : P.underlying t = some .string) (x ix : Operand) (ho : o.op = .index t x ix) (s : Yb) (hx : a.eval x = .string s) (k : IntKind) (i : Nat) (hi : a.eval ix = .int k (i : Int)) (hlt : i < s.size) (w : World) :
  (execOp a.eval o).run P w = .ok (.value (.int .u8 (bt s i))) w := by
 have e : s[i]? = some s[i] := ByteArray.getElem?_lt' s i hlt
 have e2 : bt s i = (s[i].toNat : Int) := by
  unfold bt
  rw [Array.getElem?_eq_getElem hlt]
  rfl
 unfold execOp
 simp [ho, hx, hi, Instr.index, asIntOf, run_underlying hu, e, e2]
theorem run_shrV {P : Program} {a : Act} {o : Oper} (t rt : TypeId) (x y : Operand) (ho : o.op = .binOp .shr t x y rt) (k : Int) (ky : IntKind) (m : Nat) (hx : a.eval x = .int .u32 k) (hy : a.eval y = .int ky (m : Int)) (_hm : m ≤ 32) (w : World) :
  (execOp a.eval o).run P w = .ok (.value (.int .u32 (sr k m))) w := by
 have hp : (0 : Int) ≤ 2 ^ m := Int.le_of_lt (Int.pow_pos (by decide))
 unfold execOp sr
 rw [Int.fdiv_eq_ediv_of_nonneg k hp]
 simp [ho, hx, hy, eqGuard, binOp]
theorem run_strlh {P : Program} {a : Act} {o : Oper} (t : TypeId) (hu : P.underlying t = some .string) (x lo hi : Operand) (ho : o.op = .slice t x (some lo) (some hi) none) (s : Yb) (hx : a.eval x = .string s) (k k' : IntKind) (i j : Nat) (hl : a.eval lo = .int k (i : Int)) (hh : a.eval hi = .int k' (j : Int)) (hij : i ≤ j) (hle : j ≤ s.size) (w : World) :
  (execOp a.eval o).run P w = .ok (.value (.string (s.extract i j))) w := by
 unfold execOp
 simp [ho, hx, hl, hh, run_sliceAt_string w t (.string s) (some (.int k i)) (some (.int k' j)) none hu, run_slice_string w t s k k' i j hu (by omega) (by omega) (by omega)]
def xb (x y : Int) : Int := IntKind.wrap .u8 (BitVec.ofInt 8 x ^^^ BitVec.ofInt 8 y).toNat
theorem sb_av (n : Nat) (F : NI) (T : TypeId) : SB (.cells (av n (w8 F)) T) n (vs8 ((List.range n).map F)) := ⟨_, T, (0, 0), rfl, by simp [vs8], by rw [av_size]; exact Nat.le_refl _, fun i hi => by
 simp [vs8] at hi
 simp [vs8, av, w8, hi], fun i _ => by simp⟩
theorem run_ix0 {P : Program} {a : Act} {o : Oper} (t elem : TypeId) (hu : P.underlying t = some (.slice elem)) (hs : (P.info? elem).map (·.size) = some 1) (x ix : Operand) (ho : o.op = .indexAddr t x ix) (g len cap : Nat) (hx : a.eval x = .slice (some ⟨g, 0, none⟩) len cap) (k : IntKind) (i : Nat) (hi : a.eval ix = .int k (i : Int)) (hlt : i < len) (w : World) :
  (execOp a.eval o).run P w = .ok (.value (.pointer (some ⟨g, i, none⟩))) w := by
 have h := run_ixL (P := P) t elem hu hs x ix ho g 0 len cap hx k i hi hlt w
 rwa [Nat.zero_add] at h
theorem xb_nn (x y : Int) : 0 ≤ xb x y ∧ xb x y < 256 := by
 unfold xb
 simp [IntKind.wrap, IntKind.signed, IntKind.bits]
 omega
open Go.Shelf
def bF0 : Nat → Value := fun i => if i = 0 then .pointer none else .slice none 0 0
section
variable {P : Program} {ops : Array Oper} {rest : List Oper} {o : Oper} {a : Act} {w : World} {c : Ctx} {L : List Blk} {Q : Exit → Act → World → Prop} {K : Act → World → Prop} {J : Act → World → Prop}
theorem pl_newB (M : Mem c L w) (hw : Region.wanted o (yielded ops a.tmps) = true) (d : Option Tmp) (hd : o.dst = d) (Z : Obj) (hrun : ∀ w, (execOp a.eval o).run P w = .ok (.value (.pointer (some ⟨w.heap.size, 0, none⟩))) (w.alloc Z))
  (h : ∀ g w', (∀ b ∈ L, b.g < g) → Mem c (L ++ [⟨g, Z⟩]) w' → PL P ops Q rest (a.put d (.pointer (some ⟨g, 0, none⟩))) w') : PL P ops Q (o :: rest) a w :=
 pl_to hw d hd _ _ (hrun w) (h w.heap.size _ (fun _ hb => M.lt hb) (M.new _ _ (new_below w _) (heap_alloc_new w _) (Nat.le_refl _)))
theorem pl_callr (hw : Region.wanted o (yielded ops a.tmps) = true) (d : Option Tmp) (hd : o.dst = d) (f : FuncId) (args : Array Value) (v : Value) (R : World → Prop) (hrun : ∀ w, (execOp a.eval o).run P w = .ok (.enter f args) w)
  (hc : Calls P f args w fun e w' => e = .returned v ∧ R w') (h : ∀ w', R w' → PL P ops Q rest (a.put d v) w') : PL P ops Q (o :: rest) a w :=
 pl_callq hw d hd f args hrun (hc.mono fun _ w' ⟨he, hr⟩ => ⟨v, he, h w' hr⟩)
end
theorem owns_keep {w w' : World} {B : Nat} {e : TypeId} {v : Value} {n : Nat} {xs : List Value} (h : w.ownsRow B e 1 v n xs) (hb : Below w.heap.size w w') : w'.ownsRow B e 1 v n xs := by
 obtain ⟨h1, h2⟩ := h
 refine ⟨h1, ?_⟩
 rcases h2 with h2 | ⟨g, cap, cur, h3, h4, h5, h6⟩
 ·exact .inl h2
 ·exact .inr ⟨g, cap, cur, h3, h4, by rw [hb.block g (Array.getElem?_eq_some_iff.1 h5).1]; exact h5, h6⟩
theorem bat_keep {w w' : World} {T e : TypeId} {B b : Nat} {p : Value} {xs : List Value} (h : Lib.BuilderAt T e B b p xs w) (hb : Below w.heap.size w w') : Lib.BuilderAt T e B b p xs w' := by
 obtain ⟨h1, v, h2, h3, h4⟩ := h
 exact ⟨h1, v, by rw [hb.block b (Array.getElem?_eq_some_iff.1 h2).1]; exact h2, owns_keep h3 hb, h4⟩
theorem isb_keep {w w' : World} {T e : TypeId} {B b : Nat} {xs : List Value} (h : Lib.IsBuilder T e B b xs w) (hb : Below w.heap.size w w') : Lib.IsBuilder T e B b xs w' := h.imp (bat_keep · hb) (bat_keep · hb)
theorem isb_lt {w : World} {T e : TypeId} {B b : Nat} {xs : List Value} (h : Lib.IsBuilder T e B b xs w) : b < w.heap.size := h.elim Lib.BuilderAt.lt Lib.BuilderAt.lt
theorem same1 {w w' : World} {g : Nat} {Z : Obj} (h : Grw w w' [g]) (h1 : w.heap[g]? = some Z) (h2 : w'.heap[g]? = some Z) : Below w.heap.size w w' := ⟨h.os, h.tape, h.output, h.size, fun j hj => by
 by_cases e : j = g
 ·subst e
  rw [h1, h2]
 ·exact h.block j hj (by simp [e])⟩
theorem below_laid {w u : World} (h : Below w.heap.size w u) (hL : Laid w) : Laid u := hL.of fun k hk => h.block k (Nat.lt_of_lt_of_le hk hL.lt)
open Go.RowKit
def rl (x : Int) (n : Nat) : Int := vo (vl x n) (sr x (32 - n))
def tr0 : Nat → Value := wi fun j => TF (0 * 2 + j)
def tr1 : Nat → Value := wi fun j => TF (1 * 2 + j)
def mA1 (v : NI) (i j : Nat) : Int := va (v i) (v j)
def mD1 (v : NI) (i j l : Nat) : Int := rl (vx (v l) (mA1 v i j)) 16
def mC1 (v : NI) (i j k l : Nat) : Int := va (v k) (mD1 v i j l)
def mB1 (v : NI) (i j k l : Nat) : Int := rl (vx (v j) (mC1 v i j k l)) 12
def mA2 (v : NI) (i j k l : Nat) : Int := va (mA1 v i j) (mB1 v i j k l)
def mD2 (v : NI) (i j k l : Nat) : Int := rl (vx (mD1 v i j l) (mA2 v i j k l)) 8
def mC2 (v : NI) (i j k l : Nat) : Int := va (mC1 v i j k l) (mD2 v i j k l)
def mB2 (v : NI) (i j k l : Nat) : Int := rl (vx (mB1 v i j k l) (mC2 v i j k l)) 7
def mxF (v : NI) (i j k l : Nat) : Nat → Int := upd (upd (upd (upd v i (mA2 v i j k l)) j (mB2 v i j k l)) k (mC2 v i j k l)) l (mD2 v i j k l)
theorem c_rl16 (x : Int) (w : World) (hL : Laid w)  : Cs 172 #[.int .u32 x, .int .i64 16] w (.int .u32 (rl x 16)) := by
 go_enter Tryz.func172, Tryz.ntmps172
 have M := Mem.start hL
 refine sq <| sq <| sq <| wp_ret ?_
 exact b1 M
theorem c_rl12 (x : Int) (w : World) (hL : Laid w)  : Cs 172 #[.int .u32 x, .int .i64 12] w (.int .u32 (rl x 12)) := by
 go_enter Tryz.func172, Tryz.ntmps172
 have M := Mem.start hL
 refine sq <| sq <| sq <| wp_ret ?_
 exact b1 M
theorem c_rl8 (x : Int) (w : World) (hL : Laid w)  : Cs 172 #[.int .u32 x, .int .i64 8] w (.int .u32 (rl x 8)) := by
 go_enter Tryz.func172, Tryz.ntmps172
 have M := Mem.start hL
 refine sq <| sq <| sq <| wp_ret ?_
 exact b1 M
theorem c_rl7 (x : Int) (w : World) (hL : Laid w)  : Cs 172 #[.int .u32 x, .int .i64 7] w (.int .u32 (rl x 7)) := by
 go_enter Tryz.func172, Tryz.ntmps172
 have M := Mem.start hL
 refine sq <| sq <| sq <| wp_ret ?_
 exact b1 M
theorem c_mix (v : NI) (p0 p1 p2 p3 : Nat) (h4 : p0 < 16) (h1 : p1 < 16) (h2 : p2 < 16) (h3 : p3 < 16) (g : Nat) (w : World) (hL : Laid w) (hg : w.heap[g]? = some (.cells (av 16 (w32 v)) 149)) (h0 : 2 < g) : Calls Tryz.prog 175 #[.pointer (some ⟨g, 0, none⟩), .int .i64 (p0 : Int), .int .i64 (p1 : Int), .int .i64 (p2 : Int), .int .i64 (p3 : Int)] w fun r w' => r = .returned (.tuple #[]) ∧ Grw w w' [g] ∧ w'.heap[g]? = some (.cells (av 16 (w32 (mxF v p0 p1 p2 p3))) 149) := by
 go_enter Tryz.func175, Tryz.ntmps175
 have M := Mem.startp hL hg h0
 refine wp_seq <| rgh M [⟨g, .cells (av 16 (w32 v)) 149⟩] 23 fun u1 M => qV M 0 16 (.pointer (some ⟨g, 0, none⟩)) <| qV M 1 17 (.int .i64 (p0 : Int)) <| qV M 2 18 (.pointer (some ⟨g, 0, none⟩)) <| qH M 3 19 (.pointer (some ⟨g, p0, none⟩)) (fun w _ => (run_ix1 149 16 91 Tryz.underlying149 inz91 _ _ rfl g (by kernel_rfl) .i64 (p0) (by kernel_rfl) (by omega)) w) <| qE M 4 20 0 p0 <| qV M 5 21 (.pointer (some ⟨g, 0, none⟩)) <| qV M 6 22 (.int .i64 (p1 : Int)) <| qV M 7 23 (.pointer (some ⟨g, 0, none⟩)) <| qH M 8 24 (.pointer (some ⟨g, p1, none⟩)) (fun w _ => (run_ix1 149 16 91 Tryz.underlying149 inz91 _ _ rfl g (by kernel_rfl) .i64 (p1) (by kernel_rfl) (by omega)) w) <| qE M 9 25 0 p1 <| qV M 10 26 (.pointer (some ⟨g, 0, none⟩)) <| qV M 11 27 (.int .i64 (p2 : Int)) <| qV M 12 28 (.pointer (some ⟨g, 0, none⟩)) <| qH M 13 29 (.pointer (some ⟨g, p2, none⟩)) (fun w _ => (run_ix1 149 16 91 Tryz.underlying149 inz91 _ _ rfl g (by kernel_rfl) .i64 (p2) (by kernel_rfl) (by omega)) w) ?_
 refine qE M 14 30 0 p2 <| qV M 15 31 (.pointer (some ⟨g, 0, none⟩)) <| qV M 16 32 (.int .i64 (p3 : Int)) <| qV M 17 33 (.pointer (some ⟨g, 0, none⟩)) <| qH M 18 34 (.pointer (some ⟨g, p3, none⟩)) (fun w _ => (run_ix1 149 16 91 Tryz.underlying149 inz91 _ _ rfl g (by kernel_rfl) .i64 (p3) (by kernel_rfl) (by omega)) w) <| qE M 19 35 0 p3 <| qV M 20 10 (.int .u32 (v p0)) <| qV M 21 11 (.int .u32 (v p1)) <| qV M 22 12 (.int .u32 (v p2)) <| qZ ?_
 refine rV 1 <| nT <| au_then <| wp_seq <| sR <| pl_laid M (want_no rfl) (some 36) rfl 242 _ rfl (by kernel_rfl) _ Tryz.underlying242 rfl inz242 <| rV 1 <| nT <| wp_block <| wp_loop_rounds 3 ?_
 refine rounds_go <| sq <| wp_seq <| cT <| wp_skip <| au_then <| wp_seq <| wp_block <| sR <| pH 39 (.agg (av 2 tr0)) (fun w => Eq.trans (run_ixP 242 2 241 2 Tryz.underlying242 inz241 (fun _ => by kernel_rfl) _ _ rfl (wi TF) 4 (by kernel_rfl) .i64 0 (by kernel_rfl) (by omega) (by omega) w) (by kernel_rfl)) <| pN M 15 (.cells (av 2 (wi (fun _ => 0))) 241) fun g1 u2 M => ZG M 1 2 tr0 fun u3 M => nT <| sq <| sR <| rV 4 ?_
 refine ZE M 47 1 0 <| pC M 48 172 #[.int .u32 (vx (v p3) (mA1 v p0 p1)), .int .i64 16] (.int .u32 (mD1 v p0 p1 p3)) (fun w M => c_rl16 _ w M.laid) fun u4 M => rV 1 <| nT <| sq <| rg_lit <| rV 4 <| ZE M 56 1 1 <| pC M 57 172 #[.int .u32 (vx (v p1) (mC1 v p0 p1 p2 p3)), .int .i64 12] (.int .u32 (mB1 v p0 p1 p2 p3)) (fun w M => c_rl12 _ w M.laid) fun u5 M => rV 1 <| pl_nil <| au_block <| au_then <| rg_lit <| rV 2 <| nT ?_
 refine rounds_go <| sq <| wp_seq <| cT <| wp_skip <| au_then <| wp_seq <| wp_block <| sR <| pH 39 (.agg (av 2 tr1)) (fun w => Eq.trans (run_ixP 242 2 241 2 Tryz.underlying242 inz241 (fun _ => by kernel_rfl) _ _ rfl (wi TF) 4 (by kernel_rfl) .i64 1 (by kernel_rfl) (by omega) (by omega) w) (by kernel_rfl)) <| pN M 15 (.cells (av 2 (wi (fun _ => 0))) 241) fun g2 u6 M => ZG M 2 2 tr1 fun u7 M => nT <| sq <| sR <| rV 4 ?_
 refine ZE M 47 2 0 <| pC M 48 172 #[.int .u32 (vx (mD1 v p0 p1 p3) (mA2 v p0 p1 p2 p3)), .int .i64 8] (.int .u32 (mD2 v p0 p1 p2 p3)) (fun w M => c_rl8 _ w M.laid) fun u8 M => rV 1 <| nT <| sq <| rg_lit <| rV 4 <| ZE M 56 2 1 <| pC M 57 172 #[.int .u32 (vx (mB1 v p0 p1 p2 p3) (mC2 v p0 p1 p2 p3)), .int .i64 7] (.int .u32 (mB2 v p0 p1 p2 p3)) (fun w M => c_rl7 _ w M.laid) fun u9 M => rV 1 <| pl_nil <| au_block <| au_then <| rg_lit <| rV 2 <| nT ?_
 refine rounds_go <| sq <| wp_seq <| cF <| wp_exit <| au_then_exit <| au_then_exit <| au_block_exit <| au_then <| rgh M [⟨g1, .cells (av 2 tr0) 241⟩, ⟨g2, .cells (av 2 tr1) 241⟩] 23 fun u10 M => ?_
 have qM := M.drop (.cons _ (.cons_cons _ (.cons_cons _ (.slnil))))
 refine qV qM 0 59 (.pointer (some ⟨g, 0, none⟩)) <| qV qM 1 60 (.int .i64 (p0 : Int)) <| qV qM 2 61 (.pointer (some ⟨g, 0, none⟩)) <| qV qM 3 62 (.int .i64 (p1 : Int)) <| qV qM 4 63 (.pointer (some ⟨g, 0, none⟩)) <| qV qM 5 64 (.int .i64 (p2 : Int)) <| qV qM 6 65 (.pointer (some ⟨g, 0, none⟩)) <| qV qM 7 66 (.int .i64 (p3 : Int)) <| qV qM 8 67 (.int .u32 (mA2 v p0 p1 p2 p3)) <| qV qM 9 68 (.int .u32 (mB2 v p0 p1 p2 p3)) <| qV qM 10 69 (.int .u32 (mC2 v p0 p1 p2 p3)) <| qV qM 11 70 (.int .u32 (mD2 v p0 p1 p2 p3)) <| qV qM 12 71 (.pointer (some ⟨g, 0, none⟩)) <| qH qM 13 72 (.pointer (some ⟨g, p0, none⟩)) (fun w _ => (run_ix1 149 16 91 Tryz.underlying149 inz91 _ _ rfl g (by kernel_rfl) .i64 (p0) (by kernel_rfl) (by omega)) w) <| qV qM 15 73 (.pointer (some ⟨g, 0, none⟩)) <| qV qM 18 75 (.pointer (some ⟨g, 0, none⟩)) ?_
 refine qV qM 21 77 (.pointer (some ⟨g, 0, none⟩)) <| qO 14 ?_
 refine ZP32 M 0 p0 (mA2 v p0 p1 p2 p3) fun u11 M => nT ?_
 refine ⟨(M.drop (.cons _ (.cons_cons _ (.cons_cons _ (.slnil))))), ?_⟩
 refine qH (M.drop (.cons _ (.cons_cons _ (.cons_cons _ (.slnil))))) 16 74 (.pointer (some ⟨g, p1, none⟩)) (fun w _ => (run_ix1 149 16 91 Tryz.underlying149 inz91 _ _ rfl g (by kernel_rfl) .i64 (p1) (by kernel_rfl) (by omega)) w) <| qO 17 ?_
 refine ZP32 M 0 p1 (mB2 v p0 p1 p2 p3) fun u12 M => nT ?_
 refine ⟨(M.drop (.cons _ (.cons_cons _ (.cons_cons _ (.slnil))))), ?_⟩
 refine qH (M.drop (.cons _ (.cons_cons _ (.cons_cons _ (.slnil))))) 19 76 (.pointer (some ⟨g, p2, none⟩)) (fun w _ => (run_ix1 149 16 91 Tryz.underlying149 inz91 _ _ rfl g (by kernel_rfl) .i64 (p2) (by kernel_rfl) (by omega)) w) <| qO 20 ?_
 refine ZP32 M 0 p2 (mC2 v p0 p1 p2 p3) fun u13 M => nT ?_
 refine ⟨(M.drop (.cons _ (.cons_cons _ (.cons_cons _ (.slnil))))), ?_⟩
 refine qH (M.drop (.cons _ (.cons_cons _ (.cons_cons _ (.slnil))))) 22 78 (.pointer (some ⟨g, p3, none⟩)) (fun w _ => (run_ix1 149 16 91 Tryz.underlying149 inz91 _ _ rfl g (by kernel_rfl) .i64 (p3) (by kernel_rfl) (by omega)) w) <| qZ ?_
 refine ZP32 M 0 p3 (mD2 v p0 p1 p2 p3) fun u14 M => nT ?_
 exact bodyPost_end (v := .tuple #[]) (results_none Tryz.results175 _ _) (by kernel_rfl) ⟨rfl, M.old, M.get 0 rfl⟩
def rn1 (v : NI) : Nat → Int := mxF v 0 4 8 12
def rn2 (v : NI) : Nat → Int := mxF (rn1 v) 1 5 9 13
def rn3 (v : NI) : Nat → Int := mxF (rn2 v) 2 6 10 14
def rn4 (v : NI) : Nat → Int := mxF (rn3 v) 3 7 11 15
def rn5 (v : NI) : Nat → Int := mxF (rn4 v) 0 5 10 15
def rn6 (v : NI) : Nat → Int := mxF (rn5 v) 1 6 11 12
def rn7 (v : NI) : Nat → Int := mxF (rn6 v) 2 7 8 13
def rn8 (v : NI) : Nat → Int := mxF (rn7 v) 3 4 9 14
def rd (v : NI) : Nat → (Nat → Int)
 | 0 => v
 | j + 1 => rn8 (rd v j)
theorem c_round (v : NI) (g : Nat) (w : World) (hL : Laid w) (hg : w.heap[g]? = some (.cells (av 16 (w32 v)) 149)) (h0 : 2 < g) : Calls Tryz.prog 163 #[.pointer (some ⟨g, 0, none⟩)] w fun r w' => r = .returned (.tuple #[]) ∧ Grw w w' [g] ∧ w'.heap[g]? = some (.cells (av 16 (w32 (rn8 v))) 149) := by
 go_enter Tryz.func163, Tryz.ntmps163
 have M := Mem.startp hL hg h0
 refine sR <| rV 1 <| ZY M 3 0 (.tuple #[]) (.cells (av 16 (w32 (rn1 v))) 149) (fun w M => c_mix v 0 4 8 12 (by decide) (by decide) (by decide) (by decide) g w M.laid (M.get 0 rfl) (M.ne0 0 rfl)) fun u1 M => nT <| sR <| rV 1 <| ZY M 5 0 (.tuple #[]) (.cells (av 16 (w32 (rn2 v))) 149) (fun w M => c_mix (rn1 v) 1 5 9 13 (by decide) (by decide) (by decide) (by decide) g w M.laid (M.get 0 rfl) (M.ne0 0 rfl)) fun u2 M => nT <| sR <| rV 1 <| ZY M 7 0 (.tuple #[]) (.cells (av 16 (w32 (rn3 v))) 149) (fun w M => c_mix (rn2 v) 2 6 10 14 (by decide) (by decide) (by decide) (by decide) g w M.laid (M.get 0 rfl) (M.ne0 0 rfl)) fun u3 M => nT <| sR <| rV 1 <| ZY M 9 0 (.tuple #[]) (.cells (av 16 (w32 (rn4 v))) 149) (fun w M => c_mix (rn3 v) 3 7 11 15 (by decide) (by decide) (by decide) (by decide) g w M.laid (M.get 0 rfl) (M.ne0 0 rfl)) fun u4 M => nT ?_
 refine sR <| rV 1 <| ZY M 11 0 (.tuple #[]) (.cells (av 16 (w32 (rn5 v))) 149) (fun w M => c_mix (rn4 v) 0 5 10 15 (by decide) (by decide) (by decide) (by decide) g w M.laid (M.get 0 rfl) (M.ne0 0 rfl)) fun u5 M => nT <| sR <| rV 1 <| ZY M 13 0 (.tuple #[]) (.cells (av 16 (w32 (rn6 v))) 149) (fun w M => c_mix (rn5 v) 1 6 11 12 (by decide) (by decide) (by decide) (by decide) g w M.laid (M.get 0 rfl) (M.ne0 0 rfl)) fun u6 M => nT <| sR <| rV 1 <| ZY M 15 0 (.tuple #[]) (.cells (av 16 (w32 (rn7 v))) 149) (fun w M => c_mix (rn6 v) 2 7 8 13 (by decide) (by decide) (by decide) (by decide) g w M.laid (M.get 0 rfl) (M.ne0 0 rfl)) fun u7 M => nT <| rg_lit <| rV 1 <| ZY M 17 0 (.tuple #[]) (.cells (av 16 (w32 (rn8 v))) 149) (fun w M => c_mix (rn7 v) 3 4 9 14 (by decide) (by decide) (by decide) (by decide) g w M.laid (M.get 0 rfl) (M.ne0 0 rfl)) fun u8 M => pl_nil ?_
 exact bodyPost_end (v := .tuple #[]) (results_none Tryz.results163 _ _) (by kernel_rfl) ⟨rfl, M.old, M.get 0 rfl⟩
def pw (v : NI) (p : Nat) (b : NI) : Nat → (Nat → Int)
 | 0 => v
 | j + 1 => upd (pw v p b j) (p + j / 4) (vo (pw v p b j (p + j / 4)) (vl (cv .u32 (b j)) (j % 4 * 8)))
theorem c_put (v : NI) (p : Nat) (s : Yb) (hp : p + (s.size + 3) / 4 ≤ 16) (g : Nat) (w : World) (hL : Laid w) (hg : w.heap[g]? = some (.cells (av 16 (w32 v)) 149)) (h0 : 2 < g) : Calls Tryz.prog 132 #[.pointer (some ⟨g, 0, none⟩), .int .i64 (p : Int), .string s] w fun r w' => r = .returned (.tuple #[]) ∧ Grw w w' [g] ∧ w'.heap[g]? = some (.cells (av 16 (w32 (pw v p (bt s) s.size))) 149) := by
 go_enter Tryz.func132, Tryz.ntmps132
 have M := Mem.startp hL hg h0
 refine sq <| wp_block ?_
 refine au_loop (fun j a w' => ∃ v1 : NV, a = (fm ([.pointer (some ⟨g, 0, none⟩), .int .i64 (p : Int), .string s] ++ vr v1 3 5 ++ [.int .i64 (s.size : Int), .int .i64 (j : Int)] ++ vr v1 10 22)) ∧ Mem ⟨w, [g]⟩ [⟨g, .cells (av 16 (w32 (pw v p (bt s) j))) 149⟩] w') s.size (exS M) ?_ ?_
 ·intro j a u0 hj hI
  obtain ⟨v1, rfl, M⟩ := hI
  refine sR <| ZT 10 ((j : Int) < (s.size : Int)) <| nT <| wp_seq <| cT <| wp_skip <| au_then <| wp_seq <| wp_block <| sq <| rg_tail M 19 (by kernel_rfl) (by kernel_rfl) ?_
  simp only [List.take_succ_cons, List.take_zero]
  refine kR 3 <| eQ 15 .i64 (IntKind.wrap .i64 ((j : Int).tdiv 4)) (quo4 j (by omega)) <| eI 16 ((p : Int) + ((j / 4 : Nat) : Int)) ((p + j / 4 : Nat) : Int) <| kR 1 <| eX 18 .i64 g ((p + j / 4 : Nat)) 16 <| eE M 19 0 ((p + j / 4 : Nat)) <| kR 2 <| kH 22 (.int .u8 (bt s j)) (run_ixS 9 Tryz.underlying9 _ _ rfl s (by kernel_rfl) .i64 j (by kernel_rfl) hj) <| kR 2 <| eQ 25 .i64 (Int.tmod (j : Int) 4) (rem4 j) <| eI 26 (((j % 4 : Nat) : Int) * 8) ((j % 4 * 8 : Nat) : Int) <| kH 27 (.int .u32 (vl (cv .u32 (bt s j)) (j % 4 * 8))) (run_shlV 91 3 _ _ rfl _ .i64 (j % 4 * 8) (by kernel_rfl) (by kernel_rfl) (by omega)) <| kR 2 <| eX 30 .i64 g ((p + j / 4 : Nat)) 16 <| kl_nil fun u1 M => ZP32 M 0 ((p + j / 4 : Nat)) (vo ((pw v p (bt s) j) ((p + j / 4 : Nat))) (vl (cv .u32 (bt s j)) (j % 4 * 8))) fun u2 M => ?_
  refine pl_nil <| au_block <| au_then <| rg_lit <| ZI 31 ((j : Int) + 1) ((j + 1 : Nat) : Int) <| rV 1 <| nT ?_
  exact exS M
 ·intro a u0 hI
  obtain ⟨v1, rfl, M⟩ := hI
  refine sR <| ZF 10 ((s.size : Int) < (s.size : Int)) <| nT <| wp_seq <| cF <| wp_exit <| au_then_exit <| au_then_exit <| au_block_exit ?_
  exact bodyPost_end (v := .tuple #[]) (results_none Tryz.results132 _ _) (by kernel_rfl) ⟨rfl, M.old, M.get 0 rfl⟩
def strK : ByteArray := ⟨#[101, 120, 112, 97, 110, 100, 32, 51, 50, 45, 98, 121, 116, 101, 32, 107]⟩
def f1 : Nat → Int := pw (fun _ => 0) 0 (bt strK) 16
def f2 (key : Yb) : Nat → Int := pw f1 4 (bt key) key.size
def fw (key nonce : Yb) (n : Int) : Nat → Int := pw (upd (f2 key) 12 n) 13 (bt nonce) nonce.size
theorem c_first (key nonce : Yb) (n : Int) (hk : key.size = 32) (hn : nonce.size = 12) (w : World) (hL : Laid w)  : Cs 101 #[.string key, .string nonce, .int .u32 n] w (.agg (av 16 (w32 (fw key nonce n)))) := by
 go_enter Tryz.func101, Tryz.ntmps101
 have M := Mem.start hL
 refine sR <| pN M 6 (.cells (av 16 (w32 (fun _ => 0))) 149) fun g1 u1 M => nT <| sR <| pN M 7 (.cells (av 16 (w32 (fun _ => 0))) 149) fun g2 u2 M => nT <| sR <| ZY M 8 1 (.tuple #[]) (.cells (av 16 (w32 f1)) 149) (fun w M => c_put (fun _ => 0) 0 strK (by decide) g2 w M.laid (M.get 1 rfl) (M.ne0 1 rfl)) fun u3 M => nT <| sR <| rV 1 <| ZY M 10 1 (.tuple #[]) (.cells (av 16 (w32 (f2 key))) 149) (fun w M => c_put f1 4 key (by omega) g2 w M.laid (M.get 1 rfl) (M.ne0 1 rfl)) fun u4 M => nT <| sR <| rV 2 <| ZP32 M 1 12 n fun u5 M => ?_
 refine nT <| sR <| rV 1 <| ZY M 14 1 (.tuple #[]) (.cells (av 16 (w32 (fw key nonce n))) 149) (fun w M => c_put (upd (f2 key) 12 n) 13 nonce (by omega) g2 w M.laid (M.get 1 rfl) (M.ne0 1 rfl)) fun u6 M => nT <| sR <| pA M 15 1 16 (w32 (fw key nonce n)) <| ZG M 0 16 (w32 (fw key nonce n)) fun u7 M => nT <| wp_ret ?_
 exact bc Tryz.results101 M 0 16 (w32 (fw key nonce n)) ⟨rfl, below_grown M.old⟩
def bk (f v : NI) : Nat → (Nat → Int)
 | 0 => fun _ => 0
 | j + 1 => upd (bk f v j) j (cv .u8 (sr (va (v (j / 4)) (f (j / 4))) (j % 4 * 8)))
def bl (f : NI) (i : Nat) : Int := cv .u8 (sr (va (rd f 10 (i / 4)) (f (i / 4))) (i % 4 * 8))
theorem bk_at (f v : NI) : ∀ n, ∀ i, i < n → bk f v n i = cv .u8 (sr (va (v (i / 4)) (f (i / 4))) (i % 4 * 8))
 | 0, i, h => absurd h (by omega)
 | n + 1, i, h => by
  unfold bk upd
  by_cases e : i = n
  ·rw [if_pos e, e]
  ·rw [if_neg e, bk_at f v n i (by omega)]
theorem bk_av (f : NI) : av 64 (w8 (bk f (rd f 10) 64)) = av 64 (w8 (bl f)) := av_congr fun i hi => by
 unfold w8 bl
 rw [bk_at _ _ 64 i hi]
theorem c_block (f : NI) (w : World) (hL : Laid w)  : Cs 133 #[.agg (av 16 (w32 f))] w (.agg (av 64 (w8 (bl f)))) := by
 go_enter Tryz.func133, Tryz.ntmps133
 have M := Mem.start hL
 refine sR <| pN M 1 (.cells (av 16 (w32 f)) 149) fun g1 u1 M => pN M 2 (.cells (av 64 (w8 (fun _ => 0))) 159) fun g2 u2 M => nT <| sR <| pA M 6 0 16 (w32 f) <| pN M 3 (.cells (av 16 (w32 (fun _ => 0))) 149) fun g3 u3 M => ZG M 2 16 (w32 f) fun u4 M => nT <| wp_seq <| sq <| wp_block ?_
 refine au_loop (fun j a w' => ∃ v1 : NV, a = (fm ([.agg (av 16 (w32 f)), .pointer (some ⟨g1, 0, none⟩), .pointer (some ⟨g2, 0, none⟩), .pointer (some ⟨g3, 0, none⟩)] ++ vr v1 4 3 ++ [.int .i64 (j : Int)] ++ vr v1 8 24)) ∧ Mem ⟨w, []⟩ [⟨g1, .cells (av 16 (w32 f)) 149⟩, ⟨g2, .cells (av 64 (w8 (fun _ => 0))) 159⟩, ⟨g3, .cells (av 16 (w32 (rd f j))) 149⟩] w') 10 (exS M) ?_ ?_
 ·intro j a u0 hj hI
  obtain ⟨v1, rfl, M⟩ := hI
  refine sR <| ZT 8 ((j : Int) < 10) <| nT <| wp_seq <| cT <| wp_skip <| au_then <| wp_seq <| wp_block <| rg_lit <| ZY M 9 2 (.tuple #[]) (.cells (av 16 (w32 (rd f (j + 1)))) 149) (fun w M => c_round (rd f j) g3 w M.laid (M.get 2 rfl) (M.ne0 2 rfl)) fun u5 M => pl_nil <| au_block <| au_then <| rg_lit <| ZI 10 ((j : Int) + 1) ((j + 1 : Nat) : Int) ?_
  refine rV 1 <| nT ?_
  exact exS M
 ·intro a u0 hI
  obtain ⟨v1, rfl, M⟩ := hI
  refine sR <| ZF 8 (10 < 10) <| nT <| wp_seq <| cF <| wp_exit <| au_then_exit <| au_then_exit <| au_block_exit <| au_then <| sR <| pN M 4 (.cells (av 64 (w8 (fun _ => 0))) 159) fun g4 u6 M => nT <| wp_seq <| sq <| wp_block ?_
  refine au_loop (fun j a w' => ∃ v2 : NV, a = (fm ([.agg (av 16 (w32 f)), .pointer (some ⟨g1, 0, none⟩), .pointer (some ⟨g2, 0, none⟩), .pointer (some ⟨g3, 0, none⟩), .pointer (some ⟨g4, 0, none⟩)] ++ vr v2 5 2 ++ [.int .i64 (10 : Int)] ++ vr v2 8 3 ++ [.int .i64 (j : Int)] ++ vr v2 12 20)) ∧ Mem ⟨w, []⟩ [⟨g1, .cells (av 16 (w32 f)) 149⟩, ⟨g2, .cells (av 64 (w8 (fun _ => 0))) 159⟩, ⟨g3, .cells (av 16 (w32 (rd f 10))) 149⟩, ⟨g4, .cells (av 64 (w8 (bk f (rd f 10) j))) 159⟩] w') 64 (exS M) ?_ ?_
  ·intro j a u0 hj hI
   obtain ⟨v2, rfl, M⟩ := hI
   refine sR <| ZT 12 ((j : Int) < 64) <| nT <| wp_seq <| cT <| wp_skip <| au_then <| wp_seq <| wp_block <| sq <| rg_tail M 16 (by kernel_rfl) (by kernel_rfl) ?_
   simp only [List.take_succ_cons, List.take_zero]
   refine kR 2 <| eQ 16 .i64 (IntKind.wrap .i64 ((j : Int).tdiv 4)) (quo4 j (by omega)) <| eX 17 .i64 g3 ((j / 4 : Nat)) 16 <| eE M 18 2 ((j / 4 : Nat)) <| kR 1 <| eQ 20 .i64 (IntKind.wrap .i64 ((j : Int).tdiv 4)) (quo4 j (by omega)) <| eX 21 .i64 g1 ((j / 4 : Nat)) 16 <| eE M 22 0 ((j / 4 : Nat)) <| kR 2 <| eQ 25 .i64 (Int.tmod (j : Int) 4) (rem4 j) <| eI 26 (((j % 4 : Nat) : Int) * 8) ((j % 4 * 8 : Nat) : Int) <| kH 27 (.int .u32 (sr (va (rd f 10 (j / 4)) (f (j / 4))) (j % 4 * 8))) (run_shrV 91 3 _ _ rfl _ .i64 (j % 4 * 8) (by kernel_rfl) (by kernel_rfl) (by omega)) <| kR 1 <| eX 29 .i64 g4 (j) 64 <| kl_nil fun u7 M => ZP8 M 3 j (cv .u8 (sr (va (rd f 10 (j / 4)) (f (j / 4))) (j % 4 * 8))) fun u8 M => ?_
   refine pl_nil <| au_block <| au_then <| rg_lit <| ZI 30 ((j : Int) + 1) ((j + 1 : Nat) : Int) <| rV 1 <| nT ?_
   exact exS M
  ·intro a u0 hI
   obtain ⟨v2, rfl, M⟩ := hI
   refine sR <| ZF 12 (64 < 64) <| nT <| wp_seq <| cF <| wp_exit <| au_then_exit <| au_then_exit <| au_block_exit <| au_then <| sR <| pA M 31 3 64 (w8 (bk f (rd f 10) 64)) <| ZG M 1 64 (w8 (bk f (rd f 10) 64)) fun u9 M => nT <| wp_ret ?_
   refine bodyPost_ret (v := .agg (av 64 (w8 (bl f)))) (Eq.trans (b := .ok (.agg (av 64 (w8 (bk f (rd f 10) 64)))) _) (results_cell_row Tryz.results133 _ _ g2 159 (av 64 (w8 (bk f (rd f 10) 64))) (0, 0) _ (by kernel_rfl) (M.get 1 rfl) Tryz.underlying159 rfl (by rw [av_size]; exact inz159)) (by rw [bk_av])) (by kernel_rfl) ⟨rfl, below_grown M.old⟩
open Go.Shelf Go.RowKit
def repRen : Go.Shelf.Ren := ⟨fun | 165 => 128 | 167 => 130 | 169 => 131 | 240 => 160 | 241 => 161 | 276 => 173 | 277 => 174 | n => n, fun | 0 => 0 | 3 => 3 | 4 => 4 | 5 => 5 | 9 => 9 | 20 => 20 | 37 => 61 | 70 => 175 | 72 => 177 | 75 => 183 | 80 => 95 | 127 => 220 | 164 => 237 | n => n, fun | n => n⟩
theorem lays165 : Go.Proofs.Lays.n165 Tryz.prog repRen := {
 mixed := by kernel_rfl
 f165 := Tryz.func128.trans (congrArg some (by kernel_rfl))
 f240 := Tryz.func160.trans (congrArg some (by kernel_rfl))
 f241 := Tryz.func161.trans (congrArg some (by kernel_rfl))
 f276 := Tryz.func173.trans (congrArg some (by kernel_rfl))
 f277 := Tryz.func174.trans (congrArg some (by kernel_rfl))
 t0 := Tryz.underlying0
 a0 := Tryz.isAgg0
 z0 := Tryz.sizeOf0
 v0 := Tryz.zeroValue0
 t3 := Tryz.underlying3
 a3 := Tryz.isAgg3
 z3 := Tryz.sizeOf3
 v3 := Tryz.zeroValue3
 t4 := Tryz.underlying4
 a4 := Tryz.isAgg4
 z4 := Tryz.sizeOf4
 v4 := Tryz.zeroValue4
 t9 := Tryz.underlying9
 a9 := Tryz.isAgg9
 z9 := Tryz.sizeOf9
 v9 := Tryz.zeroValue9
 t20 := Tryz.underlying20
 a20 := Tryz.isAgg20
 z20 := Tryz.sizeOf20
 v20 := Tryz.zeroValue20
 t37 := Tryz.underlying61
 a37 := Tryz.isAgg61
 z37 := Tryz.sizeOf61
 v37 := Tryz.zeroValue61
 t70 := Tryz.underlying175
 a70 := Tryz.isAgg175
 z70 := Tryz.sizeOf175
 v70 := Tryz.zeroValue175
 t72 := Tryz.underlying177
 a72 := Tryz.isAgg177
 z72 := Tryz.sizeOf177
 v72 := Tryz.zeroValue177
 t164 := Tryz.underlying237
 a164 := Tryz.isAgg237
 z164 := Tryz.sizeOf237
 v164 := Tryz.zeroValue237 }
theorem lays167 : Go.Proofs.Lays.n167 Tryz.prog repRen := {
 mixed := by kernel_rfl
 f167 := Tryz.func130.trans (congrArg some (by kernel_rfl))
 f240 := Tryz.func160.trans (congrArg some (by kernel_rfl))
 f276 := Tryz.func173.trans (congrArg some (by kernel_rfl))
 t0 := Tryz.underlying0
 a0 := Tryz.isAgg0
 z0 := Tryz.sizeOf0
 v0 := Tryz.zeroValue0
 t4 := Tryz.underlying4
 a4 := Tryz.isAgg4
 z4 := Tryz.sizeOf4
 v4 := Tryz.zeroValue4
 t5 := Tryz.underlying5
 a5 := Tryz.isAgg5
 z5 := Tryz.sizeOf5
 v5 := Tryz.zeroValue5
 t9 := Tryz.underlying9
 a9 := Tryz.isAgg9
 z9 := Tryz.sizeOf9
 v9 := Tryz.zeroValue9
 t20 := Tryz.underlying20
 a20 := Tryz.isAgg20
 z20 := Tryz.sizeOf20
 v20 := Tryz.zeroValue20
 t37 := Tryz.underlying61
 a37 := Tryz.isAgg61
 z37 := Tryz.sizeOf61
 v37 := Tryz.zeroValue61
 t70 := Tryz.underlying175
 a70 := Tryz.isAgg175
 z70 := Tryz.sizeOf175
 v70 := Tryz.zeroValue175
 t72 := Tryz.underlying177
 a72 := Tryz.isAgg177
 z72 := Tryz.sizeOf177
 v72 := Tryz.zeroValue177
 t75 := Tryz.underlying183
 a75 := Tryz.isAgg183
 z75 := Tryz.sizeOf183
 v75 := Tryz.zeroValue183
 t164 := Tryz.underlying237
 a164 := Tryz.isAgg237
 z164 := Tryz.sizeOf237
 v164 := Tryz.zeroValue237 }
theorem lays169 : Go.Proofs.Lays.n169 Tryz.prog repRen := {
 mixed := by kernel_rfl
 f169 := Tryz.func131.trans (congrArg some (by kernel_rfl))
 t0 := Tryz.underlying0
 a0 := Tryz.isAgg0
 z0 := Tryz.sizeOf0
 v0 := Tryz.zeroValue0
 t3 := Tryz.underlying3
 a3 := Tryz.isAgg3
 z3 := Tryz.sizeOf3
 v3 := Tryz.zeroValue3
 t9 := Tryz.underlying9
 a9 := Tryz.isAgg9
 z9 := Tryz.sizeOf9
 v9 := Tryz.zeroValue9
 t37 := Tryz.underlying61
 a37 := Tryz.isAgg61
 z37 := Tryz.sizeOf61
 v37 := Tryz.zeroValue61
 t70 := Tryz.underlying175
 a70 := Tryz.isAgg175
 z70 := Tryz.sizeOf175
 v70 := Tryz.zeroValue175
 t72 := Tryz.underlying177
 a72 := Tryz.isAgg177
 z72 := Tryz.sizeOf177
 v72 := Tryz.zeroValue177
 t127 := Tryz.underlying220
 a127 := Tryz.isAgg220
 z127 := Tryz.sizeOf220
 v127 := Tryz.zeroValue220 }
theorem repExtra : Builder.Extra Tryz.prog repRen := {
 sizeBuilder := by kernel_rfl
 liesBuilder := by kernel_rfl
 t5 := Tryz.underlying5
 a5 := Tryz.isAgg5
 z5 := Tryz.sizeOf5
 v5 := Tryz.zeroValue5
 infoByte := by kernel_rfl
 cellsByte := by kernel_rfl
 sizeByte := by kernel_rfl
 neB5 := by decide }
open Go.RowKit
open Go.Shelf
def FW (ro : Option Nat) : Fence := { Fence.wide with round := ro }
theorem fw_calls {ro : Option Nat} {n : Nat} {P : Program} {f : FuncId} {args : Array Value} {w : World} {R : Ending → World → Prop} (h : Calls P f args w R) : CallsIn (FW ro) n P f args w R := (callsIn_wide (n := n)).2 h
theorem fw_rows {ro : Option Nat} {n : Nat} {P : Program} {row : String} {args : Array Value} {w : World} {R : Value → World → Prop} (h : Rows P row args w R) : RowsIn (FW ro) n P row args w R :=
 fun c cs _ => let ⟨v, w', r, s⟩ := h c cs; ⟨v, w', r, stepsIn_wide.2 s⟩
section
variable {P : Program} {ops : Array Oper} {rest : List Oper} {o : Oper} {a : Act} {w : World} {Q : Exit → Act → World → Prop} {K : Act → World → Prop} {n : Nat} {ro : Option Nat}
theorem op_in (hd : ∀ c, o.op ≠ .defer c) (h : o.wp P a w K Q) : o.wpIn (FW ro) n P a w K Q := by
 refine ⟨fun _ _ => trivial, ?_⟩
 rw [Oper.semAt_eq _ _ _ hd]
 unfold Oper.wp at h
 generalize (execOp a.eval o).run P w = r at h
 cases r with
 | ok x w' =>
  cases x <;> simp only [Oper.upon] at h <;> simp only [Oper.uponIn]
  all_goals first
   | exact h
   | exact h.elim
   | exact ⟨fun e => by simp [FW, Fence.wide] at e, fw_calls h⟩
   | exact ⟨fun e => by simp [FW, Fence.wide] at e, fw_rows h⟩
 | halt x w' => cases x <;> simp only [Oper.upon] at h <;> simp only [Oper.uponIn] <;> exact h
def ndB (o : Oper) : Bool := match o.op with
 | .defer _ => false
 | _ => true
theorem nd_of (h : ndB o = true) : ∀ c, o.op ≠ .defer c := fun c e => by simp [ndB, e] at h
theorem list_in : ∀ (l : List Oper) (a : Act) (w : World), l.all ndB = true → (∀ a w, ¬ Q .outgrown a w) → wpList P ops Q l a w → wpListIn (FW ro) n P ops Q l a w
 | [], _, _, _, _, h => h
 | o :: l, a, w, hd, hQ, h => by
  simp only [List.all_cons, Bool.and_eq_true] at hd
  unfold wpList at h
  unfold wpListIn
  split
  ·rename_i hw
   rw [if_pos hw] at h
   rcases h with h | ⟨_, a', w', h⟩
   ·exact Oper.wpIn_mono (fun a w h => list_in l a w hd.2 hQ h) (op_in (nd_of hd.1) h)
   ·exact absurd h (hQ a' w')
  ·rename_i hw
   rw [if_neg hw] at h
   exact ⟨fun _ _ => trivial, list_in l _ _ hd.2 hQ h⟩
theorem list_in_then : ∀ (l : List Oper) (a : Act) (w : World), l.all ndB = true → (∀ a w, ¬ Q .outgrown a w) → wpList P ops (Exit.then (wpListIn (FW ro) n P ops Q rest) Q) l a w → wpListIn (FW ro) n P ops Q (l ++ rest) a w
 | [], _, _, _, _, h => h
 | o :: l, a, w, hd, hQ, h => by
  simp only [List.all_cons, Bool.and_eq_true] at hd
  unfold wpList at h
  rw [List.cons_append]
  unfold wpListIn
  split
  ·rename_i hw
   rw [if_pos hw] at h
   rcases h with h | ⟨_, a', w', h⟩
   ·exact Oper.wpIn_mono (fun a w h => list_in_then l a w hd.2 hQ h) (op_in (nd_of hd.1) (wp_unthen h))
   ·exact absurd h (hQ a' w')
  ·rename_i hw
   rw [if_neg hw] at h
   exact ⟨fun _ _ => trivial, list_in_then l _ _ hd.2 hQ h⟩
theorem any_in (hd : ∀ (i : Nat) (o : Oper), ops[i]? = some o → ndB o = true) (hQ : ∀ a w, ¬ Q .outgrown a w) {md : Region.Mode} : ∀ (fuel : Nat) (listed : Array Bool) (a : Act) (w : World), wpAny P md ops Q fuel listed a w → wpAnyIn (FW ro) n P md ops Q fuel listed a w
 | 0, _, _, _, h => h
 | fuel + 1, listed, a, w, h => ⟨h.1, fun i hi => by
  have h1 := h.2 i hi
  unfold wpOp at h1
  unfold wpOpIn
  cases ho : ops[i]? with
  | none =>
   simp only [ho] at h1 ⊢
   exact any_in hd hQ fuel _ _ _ h1
  | some o =>
   simp only [ho] at h1 ⊢
   split
   ·rename_i hw
    rw [if_pos hw] at h1
    rcases h1 with h1 | ⟨_, a', w', h1⟩
    ·exact Oper.wpIn_mono (fun a w h => any_in hd hQ fuel _ a w h) (op_in (nd_of (hd i o ho)) h1)
    ·exact absurd h1 (hQ a' w')
   ·rename_i hw
    rw [if_neg hw] at h1
    exact ⟨fun _ _ => trivial, any_in hd hQ fuel _ _ _ h1⟩⟩
theorem rr_lit {id : Nat} {l : List Oper} (hd : l.all ndB = true) (hQ : ∀ a w, ¬ Q .outgrown a w) (h : PL P l.toArray Q l a w) : (Code.region id l.toArray false).wpIn (FW ro) n P Q a w := wpIn_region_lit (list_in l a w hd hQ h.out)
theorem rr_held {c : Ctx} {L : List Blk} {id : Nat} {l : List Oper} (hd : l.all ndB = true) (hO : ∀ a w, ¬ Q .outgrown a w) (M : Mem c L w) (Ls : List Blk) (m : Nat) (hn : l.length = m + 1) (hm : P.follows .mixedOrders = true) (hB : (Region.sinkB .any l.toArray m && Region.chainB .any l.toArray m && Region.noSelect l.toArray) = true) (hQ : ∀ c a d v w, Q (.panic c) (Act.put a d v) w → Q (.panic c) a w)
  (h : ∀ w', Mem c L w' → HL P l.toArray Q (Mem c Ls) m (m + 1) (Array.replicate (m + 1) false) a w') : (Code.region id l.toArray true).wpIn (FW ro) n P Q a w := by
 simp only [Bool.and_eq_true] at hB
 have hsz : l.toArray.size = m + 1 := by simpa using hn
 have inv : HeadInv .any l.toArray m (Array.replicate (m + 1) false) :=
  ⟨by simpa using hn.symm, fun j oj _ hl => (by rw [getD_replicate_false] at hl; cases hl), fun t _ ht => getD_in (by simp; omega) (getD_replicate_false _ _)⟩
 have h2 := (h w.drew M.drew).out hQ ⟨hB.1.1, hB.1.2, by omega, hB.2⟩ inv
 refine wpIn_region_any hm (any_in (fun i o ho => ?_) hO _ _ _ _ (wpAny_of_L (S := Mem c Ls) (n := m) _ _ _ _ ?_))
 ·have h3 : l[i]? = some o := by simpa using ho
  exact List.all_eq_true.1 hd o (List.mem_of_getElem? h3)
 ·rw [hsz]
  exact h2
theorem rr_ghost {c : Code} (I : Nat → Act → World → Prop) (n₀ : Nat) (h₀ : I n₀ a w)
  (round : ∀ m a w, I m a w → c.wpIn (FW ro) n P (Exit.then (fun a' w' => ∃ m', m' < m ∧ I m' a' w') Q) a w) : (Code.loop c).wpIn (FW ro) n P Q a w := by
 refine wpIn_loop (fun a w => ∃ m, I m a w) (fun a w => leastOf (fun m => I m a w)) ⟨n₀, h₀⟩ ?_
 intro a w hI
 refine wpIn_mono (round _ a w (leastOf_spec hI).1) ?_
 intro e a' w' hq
 cases e with
 | normal =>
  obtain ⟨m', hlt, hI'⟩ := hq
  exact show (∃ m, I m a' w') ∧ leastOf (fun m => I m a' w') < leastOf (fun m => I m a w) from ⟨⟨m', hI'⟩, Nat.lt_of_le_of_lt ((leastOf_spec ⟨m', hI'⟩).2 m' hI') hlt⟩
 | exit id => exact hq
 | goto l => exact hq
 | ret => exact hq
 | panic ch => exact hq
 | outgrown => exact hq
theorem rr_loop {c : Code} (I : Nat → Act → World → Prop) (N : Nat) (h0 : I 0 a w) (round : ∀ j a w, j < N → I j a w → c.wpIn (FW ro) n P (Exit.then (I (j + 1)) Q) a w) (last : ∀ a w, I N a w → c.wpIn (FW ro) n P (Exit.then (fun _ _ => False) Q) a w) : (Code.loop c).wpIn (FW ro) n P Q a w := by
 refine rr_ghost (fun n a w => n ≤ N ∧ I (N - n) a w) N ⟨Nat.le_refl _, by rw [Nat.sub_self]; exact h0⟩ fun n a w ⟨hn, hI⟩ => ?_
 cases n with
 | zero =>
  rw [Nat.sub_zero] at hI
  refine wpIn_mono (last a w hI) fun e a' w' hq => ?_
  cases e <;> first | exact hq | exact hq.elim
 | succ n =>
  refine wpIn_mono (round (N - (n + 1)) a w (by omega) hI) fun e a' w' hq => ?_
  rw [show N - (n + 1) + 1 = N - n by omega] at hq
  cases e <;> first | exact hq | exact ⟨n, by omega, by omega, hq⟩
def rdPost (lp : Nat) (d : Option Tmp) (a : Act) (Q : Exit → Act → World → Prop) : Exit → Act → World → Prop
 | .normal, _, u => ∃ r, u.heap[lp]? = some (.loop r) ∧ Q .normal (a.put d (.bool true)) (u.putObj lp (.loop { r with state := .ready, pending := none }))
 | .exit i, _, u => ∃ r, u.heap[lp]? = some (.loop r) ∧ Q .normal (a.put d (.bool false)) (u.putObj lp (.loop { r with state := .done, pending := some (.exit i) }))
 | .ret, _, u => ∃ r, u.heap[lp]? = some (.loop r) ∧ Q .normal (a.put d (.bool false)) (u.putObj lp (.loop { r with state := .done, pending := some .ret }))
 | _, _, _ => False
theorem pl_yield (lp : Nat) (r : Loop) (args : Array Value) (hl : w.heap[lp]? = some (.loop r)) (hs : args.size = r.params.size) (hst : r.state = .ready) (hd : ndB o = true) (hrun : ∀ w, (execOp a.eval o).run P w = (Instr.yield lp args).run P w) (hw : Region.wanted o (yielded ops a.tmps) = true)
  (h : r.assign.wpIn (FW (some lp)) 0 P (Exit.then (fun a1 w1 => w1.heap[lp]? = some (.loop r) ∧ r.body.wpIn (FW (some lp)) 0 P (rdPost lp o.dst a Q) a1 (w1.putObj lp (.loop { r with state := .busy }))) (fun _ _ _ => False)) { tmps := (r.params.zip args).foldl (fun t (p, v) => t.setIfInBounds p v) r.tmps, defers := [] } w) :
  wpListIn (FW none) 0 P ops Q [o] a w := by
 unfold wpListIn
 rw [if_pos hw]
 refine ⟨fun _ _ => trivial, ?_⟩
 rw [Oper.semAt_eq _ _ _ (nd_of hd), hrun, run_yield hl hs, Oper.uponIn_round]
 refine ⟨fun e => by simp [FW, Fence.wide] at e, ?_⟩
 refine roundIn_of_wpIn (F := FW none) trivial <| wpIn_mono h ?_
 rintro e a1 w1 hq
 cases e with
 | normal =>
  obtain ⟨h1, h2⟩ := hq
  refine ⟨_, run_beginRound h1 hst, ?_⟩
  refine wpIn_mono h2 ?_
  rintro e a2 w2 hq
  cases e with
  | normal =>
   obtain ⟨r2, h3, h4⟩ := hq
   exact ⟨_, _, run_endRound none h3, h4⟩
  | ret =>
   obtain ⟨r2, h3, h4⟩ := hq
   exact ⟨_, _, run_endRound _ h3, h4⟩
  | exit i =>
   obtain ⟨r2, h3, h4⟩ := hq
   exact ⟨_, _, run_endRound _ h3, h4⟩
  | goto i => exact hq.elim
  | panic c => exact hq.elim
  | outgrown => exact hq.elim
 | ret => exact hq.elim
 | exit i => exact hq.elim
 | goto i => exact hq.elim
 | panic c => exact hq.elim
 | outgrown => exact hq.elim
theorem wp_range {g : Operand} {ps : Array Tmp} {assign body : Code} {gf : FuncId} {lb : Array Value} (hg : a.eval g = .func (.func gf) #[] lb) (eg : ∀ args w, (callFunc gf args).run P w = .ok (.enter gf args) w)
  (h : ∀ fn, Calls P gf (#[.func (.yield (w.heap.size + 1)) #[] #[]] ++ lb) ((w.alloc (.deferred (some []))).alloc (.loop { state := .ready, pending := none, fn, tmps := a.tmps, params := ps, assign, body, defers := w.heap.size }))
   fun e w3 => (∃ v, e = .returned v) ∧ ∃ r, w3.heap[w.heap.size + 1]? = some (.loop r) ∧ r.state ≠ .busy ∧
    (match r.pending with
     | none => Q .normal { a with defers := { target := .collected w.heap.size, args := #[] } :: a.defers } (w3.putObj (w.heap.size + 1) (.loop { r with state := .exhausted }))
     | some c => c.wp P Q { a with defers := { target := .collected w.heap.size, args := #[] } :: a.defers } (w3.putObj (w.heap.size + 1) (.loop { r with state := .exhausted })))) :
  (Code.rangeFunc g ps assign body).wp P Q a w := by
 refine (wpIn_wide (n := 0)).1 <| wpIn_rangeFunc ?_
 intro fn _
 refine ⟨w.heap.size + 1, [{ target := .collected w.heap.size, args := #[] }], ((w.alloc (.deferred (some []))).alloc (.loop { state := .ready, pending := none, fn, tmps := a.tmps, params := ps, assign, body, defers := w.heap.size })), { target := .fn (.func gf) lb, args := #[.func (.yield (w.heap.size + 1)) #[] #[]] }, ((w.alloc (.deferred (some []))).alloc (.loop { state := .ready, pending := none, fn, tmps := a.tmps, params := ps, assign, body, defers := w.heap.size })), gf, #[.func (.yield (w.heap.size + 1)) #[] #[]] ++ lb, ((w.alloc (.deferred (some []))).alloc (.loop { state := .ready, pending := none, fn, tmps := a.tmps, params := ps, assign, body, defers := w.heap.size })), run_enterLoop_outer _ _ _ _ _, ?_, fun _ _ => trivial, ?_, fun e => by simp [Fence.wide] at e, ?_⟩
 ·simp only [resolve, hg]
  simp [go_sem]
 ·simp [invoke, go_sem, eg]
 ·refine (callsIn_wide (n := 0 - 1)).2 ((h fn).mono ?_)
  rintro e w3 ⟨⟨v, rfl⟩, r, h1, h2, h3⟩
  refine ⟨r.pending, _, run_endLoop h1 h2, ?_⟩
  cases hp : r.pending with
  | none =>
   rw [hp] at h3
   exact h3
  | some c =>
   rw [hp] at h3
   exact wpIn_wide.2 h3
theorem marks_ret {fn : Func} {R : Ending → World → Prop} {D : Nat} {v : Value} (hdf : a.defers = [{ target := .collected D, args := #[] }]) (hD : w.heap[D]? = some (.deferred (some []))) (hr : ∀ w, (results fn a.tmps).run P w = .ok v w) (h : R (.returned v) (w.putObj D (.deferred none))) : bodyPostM Fence.wide 0 P fn R .ret a w := by
 show LeavesInM Fence.wide 0 P fn a.tmps R a.defers .returning w
 rw [hdf]
 refine ⟨by simp, .inl ⟨D, _, rfl, run_takeDeferred hD, ?_⟩⟩
 exact ⟨v, hr _, h⟩
end
def NR (Z : Obj) : Prop := ∀ c fz, Z ≠ .cells c 5 fz
structure ST (w : World) (k : Nat) (l : List UInt8) (L : List Blk) (u : World) : Prop where
 bel : Below w.heap.size w u
 hk : w.heap.size ≤ k
 isb : Lib.IsBuilderF 177 5 k k (Lib.byteCells l) u
 at_ : ∀ b ∈ L, u.heap[b.g]? = some b.Z
 ne : ∀ b ∈ L, b.g ≠ k
 nr : ∀ b ∈ L, NR b.Z
 ge : ∀ b ∈ L, w.heap.size ≤ b.g
 nodup : (L.map Blk.g).Nodup
theorem ST.mem {w u : World} {k : Nat} {l : List UInt8} {L : List Blk} (h : ST w k l L u) (hL : Laid w) : Mem ⟨u, L.map Blk.g⟩ L u :=
 ⟨grown_refl _ _, h.at_, fun b hb => .inr (List.mem_map_of_mem hb), h.nodup, below_laid h.bel hL, fun x e => by
  obtain ⟨b, hb, e⟩ := List.mem_map.1 e
  have := h.ge b hb
  have := hL.lt
  omega⟩
theorem isf_lt {w : World} {T e : TypeId} {B b : Nat} {xs : List Value} (h : Lib.IsBuilderF T e B b xs w) : b < w.heap.size := h.elim Lib.BuilderAtF.lt Lib.BuilderAtF.lt
theorem owf_keep {w w' : World} {B : Nat} {e : TypeId} {v : Value} {n : Nat} {xs : List Value} (h : w.ownsRowF B e 1 v n xs) (hb : ∀ (g : Nat) (c : Array Value) (fz : Nat × Nat), w.heap[g]? = some (Obj.cells c e fz) → w'.heap[g]? = w.heap[g]?) : w'.ownsRowF B e 1 v n xs := by
 obtain ⟨h1, h2⟩ := h
 refine ⟨h1, ?_⟩
 rcases h2 with h2 | ⟨g, cap, cur, fz, h3, h4, h5, h6⟩
 ·exact .inl h2
 ·exact .inr ⟨g, cap, cur, fz, h3, h4, by rw [hb g cur fz h5]; exact h5, h6⟩
theorem batf_keep {w w' : World} {T e : TypeId} {B b : Nat} {p : Value} {xs : List Value} (h : Lib.BuilderAtF T e B b p xs w) (hk : w'.heap[b]? = w.heap[b]?) (hb : ∀ (g : Nat) (c : Array Value) (fz : Nat × Nat), w.heap[g]? = some (Obj.cells c e fz) → w'.heap[g]? = w.heap[g]?) : Lib.BuilderAtF T e B b p xs w' := by
 obtain ⟨h1, v, h2, h3, h4⟩ := h
 exact ⟨h1, v, by rw [hk]; exact h2, owf_keep h3 hb, h4⟩
theorem isf_keep {w w' : World} {T e : TypeId} {B b : Nat} {xs : List Value} (h : Lib.IsBuilderF T e B b xs w) (hk : w'.heap[b]? = w.heap[b]?) (hb : ∀ (g : Nat) (c : Array Value) (fz : Nat × Nat), w.heap[g]? = some (Obj.cells c e fz) → w'.heap[g]? = w.heap[g]?) : Lib.IsBuilderF T e B b xs w' := h.imp (batf_keep · hk hb) (batf_keep · hk hb)
theorem ST.next {w u u' : World} {k : Nat} {l : List UInt8} {L L' : List Blk} (h : ST w k l L u) (M : Mem ⟨u, L.map Blk.g⟩ L' u') (hn : ∀ b ∈ L', NR b.Z) : ST w k l L' u' := by
 have hkl := isf_lt h.isb
 have hsz := h.bel.size
 have hr : ∀ g, g ∈ L.map Blk.g → g ≠ k ∧ w.heap.size ≤ g ∧ ∃ Z, u.heap[g]? = some Z ∧ NR Z := fun g hg => by
  obtain ⟨b, hb, rfl⟩ := List.mem_map.1 hg
  exact ⟨h.ne b hb, h.ge b hb, b.Z, h.at_ b hb, h.nr b hb⟩
 have ho : Grw u u' (L.map Blk.g) := M.old
 refine ⟨h.bel.trans ⟨ho.os, ho.tape, ho.output, ho.size, fun j hj => ho.block j (by omega) fun hm => ?_⟩, h.hk, isf_keep h.isb (ho.block k hkl fun hm => (hr k hm).1 rfl) (fun g c fz hg => ho.block g (Array.getElem?_eq_some_iff.1 hg).1 fun hm => ?_), M.at_, fun b hb e => ?_, hn, fun b hb => ?_, M.nodup⟩
 ·have := (hr j hm).2.1
  omega
 ·obtain ⟨_, _, Z, h1, h2⟩ := hr g hm
  rw [hg] at h1
  exact h2 c fz (Option.some.inj h1).symm
 ·rcases M.ge b hb with h1 | h1
  ·have h1 : u.heap.size ≤ b.g := h1
   omega
  ·exact (hr _ h1).1 e
 ·rcases M.ge b hb with h1 | h1
  ·have h1 : u.heap.size ≤ b.g := h1
   omega
  ·exact (hr _ h1).2.1
theorem ST.perm {w u : World} {k : Nat} {l : List UInt8} {L L' : List Blk} (h : ST w k l L u) (hp : L.Perm L') : ST w k l L' u :=
 ⟨h.bel, h.hk, h.isb, fun b hb => h.at_ b (hp.mem_iff.2 hb), fun b hb => h.ne b (hp.mem_iff.2 hb), fun b hb => h.nr b (hp.mem_iff.2 hb), fun b hb => h.ge b (hp.mem_iff.2 hb), (hp.map _).nodup_iff.1 h.nodup⟩
theorem ST.drop {w u : World} {k : Nat} {l : List UInt8} {L L' : List Blk} (h : ST w k l L u) (hp : L'.Sublist L) : ST w k l L' u :=
 ⟨h.bel, h.hk, h.isb, fun b hb => h.at_ b (hp.subset hb), fun b hb => h.ne b (hp.subset hb), fun b hb => h.nr b (hp.subset hb), fun b hb => h.ge b (hp.subset hb), h.nodup.sublist (hp.map _)⟩
theorem cells_one (l : List UInt8) (c : Int) (h0 : 0 ≤ c) (h1 : c < 256) : Lib.byteCells (l ++ [UInt8.ofNat c.toNat]) = Lib.byteCells l ++ [.int .u8 c] := by
 rw [Lib.byteCells_append]
 congr 1
 have e : (UInt8.ofNat c.toNat).toNat = c.toNat := by
  rw [UInt8.toNat_ofNat']
  omega
 show [Value.int .u8 ((UInt8.ofNat c.toNat).toNat : Int)] = _
 rw [e]
 congr 2
 omega
theorem ST.write {w u : World} {k : Nat} {l : List UInt8} {L : List Blk} (h : ST w k l L u) (c : Int) (h0 : 0 ≤ c) (h1 : c < 256) (hl : l.length < 1000000) : Calls Tryz.prog 130 #[.pointer (some ⟨k, 0, none⟩), .int .u8 c] u fun r u' => r = .returned .nilIface ∧ ST w k (l ++ [UInt8.ofNat c.toNat]) L u' := by
 have hkl := isf_lt h.isb
 have hlen : (Lib.byteCells l).length = l.length := Lib.byteCells_length l
 refine (Any.Builder_WriteByte_k (P := Tryz.prog) (ρ := repRen) lays167 repExtra k k (Lib.byteCells l) c u h.isb (by omega) (by omega)).mono ?_
 rintro r u' ⟨rfl, h2, h3, h4⟩
 have hat : ∀ b ∈ L, u'.heap[b.g]? = some b.Z := fun b hb => h4 b.g b.Z (h.at_ b hb) (fun e => h.ne b hb (Option.some.inj e)) (fun cs fz e => h.nr b hb cs fz e)
 exact ⟨rfl, h.bel.trans (h3.mono h.hk), h.hk, .inr (by rw [cells_one l c h0 h1]; exact h2), hat, h.ne, h.nr, h.ge, h.nodup⟩
theorem ST.str {w u : World} {k : Nat} {l : List UInt8} {L : List Blk} (h : ST w k l L u) : Calls Tryz.prog 131 #[.pointer (some ⟨k, 0, none⟩)] u fun r u' => r = .returned (.string ⟨l.toArray⟩) ∧ ST w k l L u' := by
 have hkl := isf_lt h.isb
 refine (Any.Builder_String_any_k (P := Tryz.prog) (ρ := repRen) lays169 repExtra k k l u h.isb (by omega)).mono ?_
 rintro r u' ⟨rfl, h2, h3, h4⟩
 have hat : ∀ b ∈ L, u'.heap[b.g]? = some b.Z := fun b hb => h4 b.g b.Z (h.at_ b hb) (fun e => h.ne b hb (Option.some.inj e)) (fun cs fz e => h.nr b hb cs fz e)
 exact ⟨rfl, h.bel.trans (h3.mono h.hk), h.hk, h2, hat, h.ne, h.nr, h.ge, h.nodup⟩
theorem ST.put {w u : World} {k : Nat} {l : List UInt8} {L : List Blk} (h : ST w k l L u) (hL : Laid w) (i g : Nat) (Z Z' : Obj) (hi : L[i]? = some ⟨g, Z⟩) (hz : NR Z') : ST w k l (L.set i ⟨g, Z'⟩) (u.putObj g Z') := by
 have hg : u.heap[g]? = some Z := h.at_ _ (List.mem_of_getElem? hi)
 have hlt : g < u.heap.size := (Array.getElem?_eq_some_iff.1 hg).1
 have hu : Grw u (u.putObj g Z') [g] := ⟨rfl, rfl, rfl, by simp, fun j _ hj => World.putObj_heap_other (by simpa using hj)⟩
 refine h.next ((h.mem hL).put i ⟨g, Z⟩ hi Z' hu (World.putObj_heap_same hlt)) fun b hb => ?_
 rcases List.mem_or_eq_of_mem_set hb with h1 | h1
 ·exact h.nr b h1
 ·rw [h1]
  exact hz
end Go.Proofs.YtffimigpbcilbaaGreatDoor
