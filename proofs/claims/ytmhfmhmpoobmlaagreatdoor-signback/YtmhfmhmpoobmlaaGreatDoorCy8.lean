/- Part 8 of the walks and facts. -/
import Derived.Test.YtmhfmhmpoobmlaaGreatDoorCxDef
import Derived.Test.YtmhfmhmpoobmlaaGreatDoorCx1
import Derived.Test.YtmhfmhmpoobmlaaGreatDoorCx2
import Derived.Test.YtmhfmhmpoobmlaaGreatDoorCx3
import Derived.Test.YtmhfmhmpoobmlaaGreatDoorCx4
import Derived.Test.YtmhfmhmpoobmlaaGreatDoorCx5
import Derived.Test.YtmhfmhmpoobmlaaGreatDoorCx6
import Derived.Test.YtmhfmhmpoobmlaaGreatDoorCy7
import Derived.Laws.IdiomStrings
import Derived.Laws.StructEq
import Derived.Test.YtmhfmhmpoobmlaaGreatDoorRows
set_option maxHeartbeats 4000000
set_option maxRecDepth 100000
namespace Go.Proofs.YtmhfmhmpoobmlaaGreatDoor.Ord
open Go.RowKit
structure BC (W : World) (g : Nat) (f : Nat → Int) (n : Nat) : Prop where
 lt : g < W.heap.size
 c : ∀ i, i < n → W.cell? ⟨g, i, none⟩ = some (.int .u8 (f i))
 fz : ∀ i, i < n → W.frozen? ⟨g, i, none⟩ = false
theorem BC.keep {W W' : World} {g n : Nat} {f : Nat → Int} (h : BC W g f n) (hb : Below W.heap.size W W') : BC W' g f n where
 lt := Nat.lt_of_lt_of_le h.lt hb.size
 c := fun i hi => by
  rw [← h.c i hi]
  unfold World.cell?
  rw [hb.block g h.lt]
 fz := fun i hi => by
  rw [← h.fz i hi]
  unfold World.frozen?
  rw [hb.block g h.lt]
theorem BC.alloc {W : World} {g n : Nat} {f : Nat → Int} (h : BC W g f n) (o : Obj) : BC (W.alloc o) g f n := h.keep (new_below W o)
theorem heap_setCell_size (W : World) (a : Addr) (v : Value) : (W.setCell a v).heap.size = W.heap.size := by
 simp
theorem BC.set {W : World} {g n : Nat} {f : Nat → Int} (h : BC W g f n) {k : Nat} (hk : k < n) (v : Int) : BC (W.setCell ⟨g, k, none⟩ (.int .u8 v)) g (upd f k v) n where
 lt := by rw [heap_setCell_size]; exact h.lt
 c := fun i hi => by
  by_cases e : i = k
  ·subst e
   rw [World.cell?_setCell_same _ _ _ (h.c i hk)]
   simp [upd]
  ·rw [World.cell?_setCell_other _ _ _ _ (by simp <;> omega), h.c i hi]
   simp [upd, e]
 fz := fun i hi => by
  rw [World.frozen?_setCell]
  exact h.fz i hi
theorem BC.other {W : World} {g n : Nat} {f : Nat → Int} (h : BC W g f n) {a : Addr} (ha : g ≠ a.block) (v : Value) : BC (W.setCell a v) g f n where
 lt := by rw [heap_setCell_size]; exact h.lt
 c := fun i hi => by
  rw [World.cell?_setCell_other _ _ _ _ (by intro e; rw [e] at ha; exact ha rfl), h.c i hi]
 fz := fun i hi => by
  rw [World.frozen?_setCell]
  exact h.fz i hi
theorem BC.drew {W : World} {g n : Nat} {f : Nat → Int} (h : BC W g f n) : BC W.drew g f n := ⟨h.lt, h.c, h.fz⟩
theorem row_frozen (w : World) (g j : Nat) (cs : Array Value) (t : TypeId) (hg : w.heap[g]? = some (.cells cs t (cs.size, cs.size + 1))) (hj : j < cs.size) : w.frozen? ⟨g, j, none⟩ = false := by
 unfold World.frozen?
 rw [hg]
 simp
 omega
theorem conv_str (W : World) (s : ByteArray) : ∃ (cap : Nat) (W1 : World), (convert 9 32 (.string s)).run Tryz.prog W = .ok (.slice (some ⟨W.heap.size, 0, none⟩) s.size cap) W1 ∧ BC W1 W.heap.size (bt s) s.size ∧ Below W.heap.size W W1 := by
 have h := run_bytes_of_string (P := Tryz.prog) W 9 32 5 s Tryz.underlying9 Tryz.underlying32 Tryz.underlying5
 generalize grownCap W s.size 0 5 = cap at h
 refine ⟨cap, _, h, ?_, ((Below.refl _ _).drew).alloc (Nat.le_refl _) _⟩
 have hg : (W.drew.alloc (.cells (bytesRow s cap) 5 ((bytesRow s cap).size, (bytesRow s cap).size + 1))).heap[W.heap.size]? = some (.cells (bytesRow s cap) 5 ((bytesRow s cap).size, (bytesRow s cap).size + 1)) := heap_alloc_new W.drew _
 have hsz : s.size ≤ (bytesRow s cap).size := by
  simp [bytesRow]
 refine ⟨by simp, fun i hi => ?_, fun i hi => row_frozen _ _ _ _ _ hg (by omega)⟩
 rw [cell_of_row _ _ _ _ _ _ hg]
 have hi' : i < s.data.size := hi
 unfold bytesRow bt
 rw [Array.getElem?_append_left (by simpa using hi'), Array.getElem?_map, Array.getElem?_eq_getElem hi']
 rfl
theorem conv_back {W : World} {g n : Nat} {f : Nat → Int} (h : BC W g f n) (cap : Nat) (hf : ∀ i, i < n → 0 ≤ f i ∧ f i < 256) :
  (convert 32 9 (.slice (some ⟨g, 0, none⟩) n cap)).run Tryz.prog W = .ok (.string (bs ((List.range n).map f))) W := by
 have hl : ((List.range n).map fun i => UInt8.ofNat (f i).toNat).length = n := by simp
 have h2 := run_convert_bytes_back (P := Tryz.prog) W 32 9 5 ⟨g, 0, none⟩ cap ((List.range n).map fun i => UInt8.ofNat (f i).toNat) Tryz.underlying32 Tryz.underlying5 Tryz.underlying9 (fun j hj => by
  rw [hl] at hj
  have hadd : (⟨g, 0, none⟩ : Addr).add j = ⟨g, j, none⟩ := by unfold Addr.add; split <;> simp_all
  rw [hadd, h.c j hj]
  have := hf j hj
  simp
  omega)
 rw [hl] at h2
 rw [h2]
 unfold bs
 congr 3
 simp [List.map_map]
def swk (s : ByteArray) (k : Nat) : Nat → Int := fun j => sw s j (min (k - 8 * j) 8)
theorem swk_at (s : ByteArray) (k : Nat) : swk s k (k / 8) = sw s (k / 8) (k % 8) := by
 unfold swk
 congr 1
 omega
theorem swk_next (s : ByteArray) (k : Nat) (i : Nat) : upd (swk s k) (k / 8) (sw s (k / 8) (k % 8 + 1)) i = swk s (k + 1) i := by
 unfold upd swk
 by_cases h : i = k / 8
 ·subst h
  rw [if_pos rfl]
  congr 1
  omega
 ·rw [if_neg h]
  congr 1
  omega
theorem sw_stop (s : ByteArray) (j r : Nat) (h : s.size ≤ 8 * j + r) : ∀ d, sw s j (r + d) = sw s j r
 | 0 => rfl
 | d + 1 => by
  show sw s j (r + d) + bt s (8 * j + (r + d)) * 256 ^ (r + d) = _
  rw [bt_out s _ (by omega), sw_stop s j r h d]
  omega
theorem swk_end (s : ByteArray) (j : Nat) : swk s s.size j = sw s j 8 := by
 unfold swk
 by_cases h : s.size ≤ 8 * j + 8
 ·have e := sw_stop s j (min (s.size - 8 * j) 8) (by omega) (8 - min (s.size - 8 * j) 8)
  rw [← e]
  congr 1
  omega
 ·congr 1
  omega
theorem dbl_any (s : ByteArray) (g cap : Nat) (w : World) (hs : s.size ≤ 64) (hB : BC w g (bt s) s.size) :
  Cs 82 #[.slice (some ⟨g, 0, none⟩) s.size cap] w (.agg (arr 8 fun j => sw s j 8)) := by
 have hgl := hB.lt
 go_enter Tryz.func82, Tryz.ntmps82
 go_wp2
 rw [show #[Value.int .u64 0, Value.int .u64 0, Value.int .u64 0, Value.int .u64 0, Value.int .u64 0, Value.int .u64 0, Value.int .u64 0, Value.int .u64 0] = arr 8 (fun _ => 0) from rfl]
 have R1 : Row ((w.alloc (.cells (arr 8 fun _ => 0) 96)).alloc (.cells (arr 8 fun _ => 0) 96)) w.heap.size 96 8 (fun _ => 0) := (Row.new w 96 8 _).alloc _
 have R2 : Row ((w.alloc (.cells (arr 8 fun _ => 0) 96)).alloc (.cells (arr 8 fun _ => 0) 96)) (w.heap.size + 1) 96 8 (fun _ => 0) := Row.new' _ 96 8 _ (by simp)
 have B : BC ((w.alloc (.cells (arr 8 fun _ => 0) 96)).alloc (.cells (arr 8 fun _ => 0) 96)) g (bt s) s.size := (hB.alloc _).alloc _
 have O : Below w.heap.size w ((w.alloc (.cells (arr 8 fun _ => 0) 96)).alloc (.cells (arr 8 fun _ => 0) 96)) := ((Below.refl _ _).alloc (Nat.le_refl _) _).alloc (by simp) _
 generalize (w.alloc (.cells (arr 8 fun _ => 0) 96)).alloc (.cells (arr 8 fun _ => 0) 96) = W at R1 R2 B O ⊢
 clear hB
 go_loopw [8] (fun x wr => ∃ k : Nat, k ≤ s.size ∧ x = .int .i64 k ∧ Row wr w.heap.size 96 8 (fun _ => 0) ∧ Row wr (w.heap.size + 1) 96 8 (swk s k) ∧ BC wr g (bt s) s.size ∧ Below w.heap.size w wr) (fun x _ => s.size - (intOf x).toNat)
 case atStart => exact ⟨0, by omega, rfl, R1, R2.congr (fun i _ => by unfold swk; rw [show min (0 - 8 * i) 8 = 0 by omega]; rfl), B, O⟩
 case round =>
  clear R1 R2 B O
  obtain ⟨k, hk, rfl, R1, R2, B, O⟩ := hrel
  by_cases hlt : k < s.size
  ·have c := B.c k hlt
   have d := R2.cell (i := k / 8) (by omega)
   have e := R2.free (k / 8)
   have b0 := bt_bd s k
   obtain ⟨b0, b1⟩ := b0
   have i1 : (0 : Int) ≤ (k : Int) := by omega
   have i2 : (k : Int) < (s.size : Int) := by omega
   have i3 : (0 : Int) ≤ (k : Int) / 8 := by omega
   have i4 : (k : Int) / 8 < 8 := by omega
   have i5 : ((k : Int) / 8).toNat = k / 8 := by omega
   rcases (show k % 8 = 0 ∨ k % 8 = 1 ∨ k % 8 = 2 ∨ k % 8 = 3 ∨ k % 8 = 4 ∨ k % 8 = 5 ∨ k % 8 = 6 ∨ k % 8 = 7 by omega) with h8 | h8 | h8 | h8 | h8 | h8 | h8 | h8
   ·have a3 : (k : Int) % 8 = 0 := by omega
    have hor : bits BinOp.or IntKind.u64 (swk s k (k / 8)) (bt s k * 1) = sw s (k / 8) 1 := by
     rw [swk_at, h8]
     simp only [Int.mul_one]
     exact swor0 s (k / 8) k (by omega)
    rw [Int.mul_one] at hor
    have RR := hide (R2.set (k / 8) (sw s (k / 8) 1))
    have R1' := hide (R1.other (a := ⟨w.heap.size + 1, k / 8, none⟩) (by simp) (.int .u64 (sw s (k / 8) 1)))
    have B' := hide (B.other (a := ⟨w.heap.size + 1, k / 8, none⟩) (by simp; omega) (.int .u64 (sw s (k / 8) 1)))
    have O' := hide (O.setCell (p := ⟨w.heap.size + 1, k / 8, none⟩) (by simp) (.int .u64 (sw s (k / 8) 1)))
    have HN := hide (fun i => swk_next s k i)
    rw [h8] at HN
    clear R1 R2 B O
    go_wp2_with fail
    go_region
    go_wp2
    exact ⟨⟨k + 1, by omega, by go_num, rowD R1'.out, rowD (RR.out.congr (fun i _ => HN.out i)), B'.out.drew, O'.out.drew⟩, by simp [intOf]; omega⟩
   ·have a3 : (k : Int) % 8 = 1 := by omega
    have hor : bits BinOp.or IntKind.u64 (swk s k (k / 8)) (bt s k * 256) = sw s (k / 8) 2 := by
     rw [swk_at, h8]
     exact swor1 s (k / 8) k (by omega)
    have RR := hide (R2.set (k / 8) (sw s (k / 8) 2))
    have R1' := hide (R1.other (a := ⟨w.heap.size + 1, k / 8, none⟩) (by simp) (.int .u64 (sw s (k / 8) 2)))
    have B' := hide (B.other (a := ⟨w.heap.size + 1, k / 8, none⟩) (by simp; omega) (.int .u64 (sw s (k / 8) 2)))
    have O' := hide (O.setCell (p := ⟨w.heap.size + 1, k / 8, none⟩) (by simp) (.int .u64 (sw s (k / 8) 2)))
    have HN := hide (fun i => swk_next s k i)
    rw [h8] at HN
    clear R1 R2 B O
    go_wp2_with fail
    go_region
    go_wp2
    exact ⟨⟨k + 1, by omega, by go_num, rowD R1'.out, rowD (RR.out.congr (fun i _ => HN.out i)), B'.out.drew, O'.out.drew⟩, by simp [intOf]; omega⟩
   ·have a3 : (k : Int) % 8 = 2 := by omega
    have hor : bits BinOp.or IntKind.u64 (swk s k (k / 8)) (bt s k * 65536) = sw s (k / 8) 3 := by
     rw [swk_at, h8]
     exact swor2 s (k / 8) k (by omega)
    have RR := hide (R2.set (k / 8) (sw s (k / 8) 3))
    have R1' := hide (R1.other (a := ⟨w.heap.size + 1, k / 8, none⟩) (by simp) (.int .u64 (sw s (k / 8) 3)))
    have B' := hide (B.other (a := ⟨w.heap.size + 1, k / 8, none⟩) (by simp; omega) (.int .u64 (sw s (k / 8) 3)))
    have O' := hide (O.setCell (p := ⟨w.heap.size + 1, k / 8, none⟩) (by simp) (.int .u64 (sw s (k / 8) 3)))
    have HN := hide (fun i => swk_next s k i)
    rw [h8] at HN
    clear R1 R2 B O
    go_wp2_with fail
    go_region
    go_wp2
    exact ⟨⟨k + 1, by omega, by go_num, rowD R1'.out, rowD (RR.out.congr (fun i _ => HN.out i)), B'.out.drew, O'.out.drew⟩, by simp [intOf]; omega⟩
   ·have a3 : (k : Int) % 8 = 3 := by omega
    have hor : bits BinOp.or IntKind.u64 (swk s k (k / 8)) (bt s k * 16777216) = sw s (k / 8) 4 := by
     rw [swk_at, h8]
     exact swor3 s (k / 8) k (by omega)
    have RR := hide (R2.set (k / 8) (sw s (k / 8) 4))
    have R1' := hide (R1.other (a := ⟨w.heap.size + 1, k / 8, none⟩) (by simp) (.int .u64 (sw s (k / 8) 4)))
    have B' := hide (B.other (a := ⟨w.heap.size + 1, k / 8, none⟩) (by simp; omega) (.int .u64 (sw s (k / 8) 4)))
    have O' := hide (O.setCell (p := ⟨w.heap.size + 1, k / 8, none⟩) (by simp) (.int .u64 (sw s (k / 8) 4)))
    have HN := hide (fun i => swk_next s k i)
    rw [h8] at HN
    clear R1 R2 B O
    go_wp2_with fail
    go_region
    go_wp2
    exact ⟨⟨k + 1, by omega, by go_num, rowD R1'.out, rowD (RR.out.congr (fun i _ => HN.out i)), B'.out.drew, O'.out.drew⟩, by simp [intOf]; omega⟩
   ·have a3 : (k : Int) % 8 = 4 := by omega
    have hor : bits BinOp.or IntKind.u64 (swk s k (k / 8)) (bt s k * 4294967296) = sw s (k / 8) 5 := by
     rw [swk_at, h8]
     exact swor4 s (k / 8) k (by omega)
    have RR := hide (R2.set (k / 8) (sw s (k / 8) 5))
    have R1' := hide (R1.other (a := ⟨w.heap.size + 1, k / 8, none⟩) (by simp) (.int .u64 (sw s (k / 8) 5)))
    have B' := hide (B.other (a := ⟨w.heap.size + 1, k / 8, none⟩) (by simp; omega) (.int .u64 (sw s (k / 8) 5)))
    have O' := hide (O.setCell (p := ⟨w.heap.size + 1, k / 8, none⟩) (by simp) (.int .u64 (sw s (k / 8) 5)))
    have HN := hide (fun i => swk_next s k i)
    rw [h8] at HN
    clear R1 R2 B O
    go_wp2_with fail
    go_region
    go_wp2
    exact ⟨⟨k + 1, by omega, by go_num, rowD R1'.out, rowD (RR.out.congr (fun i _ => HN.out i)), B'.out.drew, O'.out.drew⟩, by simp [intOf]; omega⟩
   ·have a3 : (k : Int) % 8 = 5 := by omega
    have hor : bits BinOp.or IntKind.u64 (swk s k (k / 8)) (bt s k * 1099511627776) = sw s (k / 8) 6 := by
     rw [swk_at, h8]
     exact swor5 s (k / 8) k (by omega)
    have RR := hide (R2.set (k / 8) (sw s (k / 8) 6))
    have R1' := hide (R1.other (a := ⟨w.heap.size + 1, k / 8, none⟩) (by simp) (.int .u64 (sw s (k / 8) 6)))
    have B' := hide (B.other (a := ⟨w.heap.size + 1, k / 8, none⟩) (by simp; omega) (.int .u64 (sw s (k / 8) 6)))
    have O' := hide (O.setCell (p := ⟨w.heap.size + 1, k / 8, none⟩) (by simp) (.int .u64 (sw s (k / 8) 6)))
    have HN := hide (fun i => swk_next s k i)
    rw [h8] at HN
    clear R1 R2 B O
    go_wp2_with fail
    go_region
    go_wp2
    exact ⟨⟨k + 1, by omega, by go_num, rowD R1'.out, rowD (RR.out.congr (fun i _ => HN.out i)), B'.out.drew, O'.out.drew⟩, by simp [intOf]; omega⟩
   ·have a3 : (k : Int) % 8 = 6 := by omega
    have hor : bits BinOp.or IntKind.u64 (swk s k (k / 8)) (bt s k * 281474976710656) = sw s (k / 8) 7 := by
     rw [swk_at, h8]
     exact swor6 s (k / 8) k (by omega)
    have RR := hide (R2.set (k / 8) (sw s (k / 8) 7))
    have R1' := hide (R1.other (a := ⟨w.heap.size + 1, k / 8, none⟩) (by simp) (.int .u64 (sw s (k / 8) 7)))
    have B' := hide (B.other (a := ⟨w.heap.size + 1, k / 8, none⟩) (by simp; omega) (.int .u64 (sw s (k / 8) 7)))
    have O' := hide (O.setCell (p := ⟨w.heap.size + 1, k / 8, none⟩) (by simp) (.int .u64 (sw s (k / 8) 7)))
    have HN := hide (fun i => swk_next s k i)
    rw [h8] at HN
    clear R1 R2 B O
    go_wp2_with fail
    go_region
    go_wp2
    exact ⟨⟨k + 1, by omega, by go_num, rowD R1'.out, rowD (RR.out.congr (fun i _ => HN.out i)), B'.out.drew, O'.out.drew⟩, by simp [intOf]; omega⟩
   ·have a3 : (k : Int) % 8 = 7 := by omega
    have hor : bits BinOp.or IntKind.u64 (swk s k (k / 8)) (bt s k * 72057594037927936) = sw s (k / 8) 8 := by
     rw [swk_at, h8]
     exact swor7 s (k / 8) k (by omega)
    have RR := hide (R2.set (k / 8) (sw s (k / 8) 8))
    have R1' := hide (R1.other (a := ⟨w.heap.size + 1, k / 8, none⟩) (by simp) (.int .u64 (sw s (k / 8) 8)))
    have B' := hide (B.other (a := ⟨w.heap.size + 1, k / 8, none⟩) (by simp; omega) (.int .u64 (sw s (k / 8) 8)))
    have O' := hide (O.setCell (p := ⟨w.heap.size + 1, k / 8, none⟩) (by simp) (.int .u64 (sw s (k / 8) 8)))
    have HN := hide (fun i => swk_next s k i)
    rw [h8] at HN
    clear R1 R2 B O
    go_wp2_with fail
    go_region
    go_wp2
    exact ⟨⟨k + 1, by omega, by go_num, rowD R1'.out, rowD (RR.out.congr (fun i _ => HN.out i)), B'.out.drew, O'.out.drew⟩, by simp [intOf]; omega⟩
  ·have hk' : k = s.size := by omega
   subst hk'
   have HR := hide (R2.congr (f' := fun j => sw s j 8) (fun i _ => swk_end s i))
   have RR := hide (R1.setAll (fun j => sw s j 8))
   have OO := hide (below_setCells (g := w.heap.size) (Nat.le_refl _) (arr 8 fun j => sw s j 8).toList 0 O)
   clear R2 O B
   generalize hff : (fun j => sw s j 8) = f at HR RR OO
   have HF := hide hff
   clear hff
   go_wp2_with (first | (refine wpList_load_row rfl 96 _ rfl (w.heap.size + 1) rfl 96 (arr 8 f) (0, 0) _ HR.out Tryz.underlying96 rfl (info96 _) ?_) | (refine wpList_store_mid rfl 96 _ _ rfl w.heap.size 0 (arr 8 f) rfl rfl ?tho (info96 _) (arr_one _ _) ?_))
   case tho => rw [arr_size]; exact R1.there
   exact bodyPost_ret (v := .agg (arr 8 f)) (results_cell_row Tryz.results82 _ _ w.heap.size 96 (arr 8 f) (0, 0) _ rfl RR.out Tryz.underlying96 rfl (info96 _)) rfl ⟨by rw [HF.out], OO.out⟩
def pt (s : ByteArray) (k : Nat) : Nat → Int := fun i => (if 2 * i < k then bt s (2 * i) else 0) + (if 2 * i + 1 < k then bt s (2 * i + 1) * 256 else 0)
theorem pt_dig (s : ByteArray) (k : Nat) : Dig (pt s k) 16 := fun i _ => by
 have hb := bt_bd s (2 * i)
 have hc := bt_bd s (2 * i + 1)
 unfold pt
 split <;> split <;> omega
theorem pt_S (s : ByteArray) : S (pt s 32) 16 = val s := by
 simp [S, pt, val, sw]
 omega
theorem parts_any (s : ByteArray) (w : World) (hs : s.size = 32) :
  Cs 14 #[.string s] w (.agg (arr 16 (pt s 32))) := _root_.Go.Proofs.YtmhfmhmpoobmlaaGreatDoor.parts_any s w hs
def ofN (s : ByteArray) : Int := bv s s.size % Lm
theorem ofN_bd (s : ByteArray) : 0 ≤ ofN s ∧ ofN s < Lm := lmod _
theorem mod_bytes (s : ByteArray) (w : World) (hs : s.size ≤ 64) :
  Cs 71 #[.agg (arr 8 fun j => sw s j 8)] w (.agg (arr 4 (d64 (ofN s)))) := by
 have h := modulo_any (fun j => sw s j 8) w (sw_wds s 8)
 rw [Q_bv s 8, bv_64 s hs] at h
 exact h
theorem of_any (s : ByteArray) (w : World) (hs : s.size ≤ 64) (hp : s.size = 32 ∨ s.size = 64) :
  Cs 37 #[.string s] w (.tuple #[.agg (arr 4 (d64 (ofN s))), .int .i64 0]) := by
 have HM := hide fun w => mod_bytes s w hs
 have R : Row (w.alloc (.cells #[Value.int .u64 0, Value.int .u64 0, Value.int .u64 0, Value.int .u64 0] 44)) w.heap.size 44 4 (fun _ => 0) := Row.new w 44 4 (fun _ => 0)
 have O : Below w.heap.size w (w.alloc (.cells #[Value.int .u64 0, Value.int .u64 0, Value.int .u64 0, Value.int .u64 0] 44)) := new_below w _
 obtain ⟨cap, W1, hcv, B, hb⟩ := conv_str (w.alloc (.cells #[Value.int .u64 0, Value.int .u64 0, Value.int .u64 0, Value.int .u64 0] 44)) s
 rw [show (w.alloc (.cells #[Value.int .u64 0, Value.int .u64 0, Value.int .u64 0, Value.int .u64 0] 44)).heap.size = w.heap.size + 1 by simp] at hcv B
 have HB := hide B
 replace R := R.keep hb
 replace O := O.trans (hb.mono O.size)
 clear B hb
 generalize ofN s = V at *
 have fin : ∀ w', Row w' w.heap.size 44 4 (fun _ => 0) → Below w.heap.size w w' → True := fun _ _ _ => trivial
 clear fin
 rcases hp with hp | hp
 ·have n0 : ((s.size : Int) != 32) = false := by simp [hp]
  go_enter Tryz.func37, Tryz.ntmps37
  go_wp2_with fail
  have HC := dbl_any s _ cap W1 hs HB.out
  rw [hp] at HC
  refine HC.mono ?_
  clear HC
  rintro _ w1 ⟨rfl, hb1⟩
  replace R := R.keep hb1
  replace O := O.trans (hb1.mono O.size)
  clear hb1 HB hcv n0
  go_wp2_with fail
  refine (HM.out _).mono ?_
  rintro _ w2 ⟨rfl, hb1⟩
  replace R := R.keep hb1
  replace O := O.trans (hb1.mono O.size)
  clear hb1 HM
  have RR := hide (R.setAll (d64 V))
  have OO := hide (below_setCells (g := w.heap.size) (Nat.le_refl _) (arr 4 (d64 V)).toList 0 O)
  clear O
  go_wp2_with (refine wpList_store_mid rfl 44 _ _ rfl w.heap.size 0 (arr 4 (d64 V)) rfl rfl ?thn (info44 _) (arr_one _ _) ?_)
  case thn => rw [arr_size]; exact R.there
  exact bodyPost_ret (v := .tuple #[.agg (arr 4 (d64 V)), .int .i64 0]) (results_cell_tmp Tryz.results37 _ _ w.heap.size 44 (arr 4 (d64 V)) (0, 0) _ _ rfl rfl RR.out Tryz.underlying44 rfl (info44 _)) rfl ⟨rfl, OO.out⟩
 ·have n0 : ((s.size : Int) != 32) = true := by simp [hp]
  have n1 : ((s.size : Int) != 64) = false := by simp [hp]
  go_enter Tryz.func37, Tryz.ntmps37
  go_wp2_with fail
  have HC := dbl_any s _ cap W1 hs HB.out
  rw [hp] at HC
  refine HC.mono ?_
  clear HC
  rintro _ w1 ⟨rfl, hb1⟩
  replace R := R.keep hb1
  replace O := O.trans (hb1.mono O.size)
  clear hb1 HB hcv n0 n1
  go_wp2_with fail
  refine (HM.out _).mono ?_
  rintro _ w2 ⟨rfl, hb1⟩
  replace R := R.keep hb1
  replace O := O.trans (hb1.mono O.size)
  clear hb1 HM
  have RR := hide (R.setAll (d64 V))
  have OO := hide (below_setCells (g := w.heap.size) (Nat.le_refl _) (arr 4 (d64 V)).toList 0 O)
  clear O
  go_wp2_with (refine wpList_store_mid rfl 44 _ _ rfl w.heap.size 0 (arr 4 (d64 V)) rfl rfl ?thm (info44 _) (arr_one _ _) ?_)
  case thm => rw [arr_size]; exact R.there
  exact bodyPost_ret (v := .tuple #[.agg (arr 4 (d64 V)), .int .i64 0]) (results_cell_tmp Tryz.results37 _ _ w.heap.size 44 (arr 4 (d64 V)) (0, 0) _ _ rfl rfl RR.out Tryz.underlying44 rfl (info44 _)) rfl ⟨rfl, OO.out⟩
theorem of_no (s : ByteArray) (w : World) (h1 : s.size ≠ 32) (h2 : s.size ≠ 64) :
  Cs 37 #[.string s] w (.tuple #[.agg (arr 4 (d64 0)), .int .i64 2]) := by
 have n0 : ((s.size : Int) != 32) = true := by simp; omega
 have n1 : ((s.size : Int) != 64) = true := by simp; omega
 go_enter Tryz.func37, Tryz.ntmps37
 go_wp2
 exact bodyPost_ret (v := .tuple #[.agg (arr 4 (d64 0)), .int .i64 2]) (by simp [results, Tryz.results37, go_sem]; rfl) rfl ⟨rfl, (Below.refl _ _).alloc (Nat.le_refl _) _⟩
theorem canon_val (s : ByteArray) : ((br (fun j => sw s j 8) Lf 4 : Int) == 1) = decide (bv s 32 < Lm) := by
 have e := ms_Q (sw_wds s 4) Lf_wds 4 (by omega)
 have b := Q_bd (ms_wds (fun j => sw s j 8) Lf 4)
 have hb := br_bd (fun j => sw s j 8) Lf 4
 have q := Q_bv s 4
 have q2 := Q_bd (sw_wds s 4)
 have lp := Lm_P
 rw [q, Lf_Q] at e
 rw [q] at q2
 generalize Q (ms (fun j => sw s j 8) Lf) 4 = A at *
 generalize br (fun j => sw s j 8) Lf 4 = c at *
 rw [show 8 * 4 = 32 from rfl] at *
 generalize bv s 32 = V at *
 generalize (18446744073709551616 : Int) ^ 4 = X at *
 have l0 := Lm_pos
 generalize Lm = L at *
 rcases (show c = 0 ∨ c = 1 by omega) with rfl | rfl
 ·rw [show ((0 : Int) == 1) = false from rfl]
  symm
  rw [decide_eq_false_iff_not]
  omega
 ·rw [show ((1 : Int) == 1) = true from rfl]
  symm
  rw [decide_eq_true_eq]
  omega
theorem canon_yes (s : ByteArray) (w : World) (hs : s.size = 32) :
  Cs 36 #[.string s] w (.bool (decide (bv s 32 < Lm))) := by
 have n0 : ((s.size : Int) != 32) = false := by simp [hs]
 obtain ⟨cap, W1, hcv, B, hb⟩ := conv_str w s
 have HB := hide B
 have O := hb
 have HV := hide (canon_val s)
 clear B hb
 go_enter Tryz.func36, Tryz.ntmps36
 go_wp2_with fail
 have HC := dbl_any s _ cap W1 (by omega) HB.out
 rw [hs] at HC
 refine HC.mono ?_
 clear HC
 rintro _ w1 ⟨rfl, hb1⟩
 replace O := O.trans (hb1.mono O.size)
 clear hb1 HB hcv n0
 go_wp2_with fail
 refine (low_any _ _).mono ?_
 rintro _ w2 ⟨rfl, hb1⟩
 replace O := O.trans (hb1.mono O.size)
 clear hb1
 go_wp2_with fail
 refine (modulus_any _).mono ?_
 rintro _ w3 ⟨rfl, hb1⟩
 replace O := O.trans (hb1.mono O.size)
 clear hb1
 go_wp2_with fail
 refine (minus_any _ _ _ (sw_wds s 4) Lf_wds).mono ?_
 rintro _ w4 ⟨rfl, hb1⟩
 replace O := O.trans (hb1.mono O.size)
 clear hb1
 generalize ms (fun j => sw s j 8) Lf = r
 have hbr := br_bd (fun j => sw s j 8) Lf 4
 generalize br (fun j => sw s j 8) Lf 4 = c at *
 have RC : Row (w4.alloc (.cells #[Value.int .u64 0, Value.int .u64 0, Value.int .u64 0, Value.int .u64 0] 42)) w4.heap.size 42 4 (fun _ => 0) := Row.new w4 42 4 (fun _ => 0)
 have BB := hide (O.trans ((below_setCells (g := w4.heap.size) (Nat.le_refl _) (arr 4 r).toList 0 (new_below w4 (.cells #[Value.int .u64 0, Value.int .u64 0, Value.int .u64 0, Value.int .u64 0] 42))).mono O.size))
 generalize hd : decide (bv s 32 < Lm) = d at *
 have HD := hide hd
 clear hd O
 go_wp2_with (refine wpList_store_mid rfl 42 _ _ rfl w4.heap.size 0 (arr 4 r) rfl rfl ?thr (info42 _) (arr_one _ _) ?_)
 case thr => rw [arr_size]; exact RC.there
 go_ret
 exact ⟨by rw [HD.out, ← HV.out]; rfl, BB.out⟩
end Go.Proofs.YtmhfmhmpoobmlaaGreatDoor.Ord

namespace Go.Proofs.YtmhfmhmpoobmlaaGreatDoor
open Go.RowKit
namespace Ord
theorem leb_le (N : Int) : lebytes N = bs (le N 32) := by
 unfold lebytes le digs
 have e : ∀ (i j : Nat), (N / 18446744073709551616 ^ i % 18446744073709551616) / 256 ^ j % 256 = N / 256 ^ (8 * i + j) % 256 ∨ 8 ≤ j := by
  intro i j
  by_cases hj : 8 ≤ j
  ·exact .inr hj
  ·left
   have e1 : (256 : Int) ^ (8 * i + j) = 18446744073709551616 ^ i * 256 ^ j := by
    rw [Int.pow_add, Int.pow_mul]
    rfl
   have hp := p64 i
   rw [e1, ← Int.ediv_ediv_of_nonneg (by omega)]
   generalize N / 18446744073709551616 ^ i = A
   rcases (show j = 0 ∨ j = 1 ∨ j = 2 ∨ j = 3 ∨ j = 4 ∨ j = 5 ∨ j = 6 ∨ j = 7 by omega) with rfl | rfl | rfl | rfl | rfl | rfl | rfl | rfl
   ·simp only [Int.pow_zero]; omega
   ·simp only [show (256 : Int) ^ 1 = 256 from by decide]; omega
   ·simp only [show (256 : Int) ^ 2 = 65536 from by decide]; omega
   ·simp only [show (256 : Int) ^ 3 = 16777216 from by decide]; omega
   ·simp only [show (256 : Int) ^ 4 = 4294967296 from by decide]; omega
   ·simp only [show (256 : Int) ^ 5 = 1099511627776 from by decide]; omega
   ·simp only [show (256 : Int) ^ 6 = 281474976710656 from by decide]; omega
   ·simp only [show (256 : Int) ^ 7 = 72057594037927936 from by decide]; omega
 congr 1
 have e' : ∀ (i j : Nat), j < 8 → N / 256 ^ (8 * i + j) % 256 = (N / 18446744073709551616 ^ i % 18446744073709551616) / 256 ^ j % 256 := fun i j hj => by
  rcases e i j with h | h
  ·exact h.symm
  ·omega
 have hl : List.range 32 = [8 * 0 + 0, 8 * 0 + 1, 8 * 0 + 2, 8 * 0 + 3, 8 * 0 + 4, 8 * 0 + 5, 8 * 0 + 6, 8 * 0 + 7, 8 * 1 + 0, 8 * 1 + 1, 8 * 1 + 2, 8 * 1 + 3, 8 * 1 + 4, 8 * 1 + 5, 8 * 1 + 6, 8 * 1 + 7, 8 * 2 + 0, 8 * 2 + 1, 8 * 2 + 2, 8 * 2 + 3, 8 * 2 + 4, 8 * 2 + 5, 8 * 2 + 6, 8 * 2 + 7, 8 * 3 + 0, 8 * 3 + 1, 8 * 3 + 2, 8 * 3 + 3, 8 * 3 + 4, 8 * 3 + 5, 8 * 3 + 6, 8 * 3 + 7] := by decide
 rw [hl]
 simp only [List.map_cons, List.map_nil]
 rw [e' 0 0 (by omega), e' 0 1 (by omega), e' 0 2 (by omega), e' 0 3 (by omega), e' 0 4 (by omega), e' 0 5 (by omega), e' 0 6 (by omega), e' 0 7 (by omega), e' 1 0 (by omega), e' 1 1 (by omega), e' 1 2 (by omega), e' 1 3 (by omega), e' 1 4 (by omega), e' 1 5 (by omega), e' 1 6 (by omega), e' 1 7 (by omega), e' 2 0 (by omega), e' 2 1 (by omega), e' 2 2 (by omega), e' 2 3 (by omega), e' 2 4 (by omega), e' 2 5 (by omega), e' 2 6 (by omega), e' 2 7 (by omega), e' 3 0 (by omega), e' 3 1 (by omega), e' 3 2 (by omega), e' 3 3 (by omega), e' 3 4 (by omega), e' 3 5 (by omega), e' 3 6 (by omega), e' 3 7 (by omega)]
 simp
theorem leb_size (N : Int) : (lebytes N).size = 32 := by
 unfold lebytes
 rw [bs_size]
 rfl
theorem leb_bv {N : Int} (hN : 0 ≤ N ∧ N < Lm) : bv (lebytes N) 32 = N := by
 have hP := Lm_P
 rw [leb_le N, bv_le N hN.1 32 32 (by omega)]
 have e : (256 : Int) ^ 32 = 18446744073709551616 ^ 4 := by decide
 rw [e, Int.emod_eq_of_lt hN.1 (by omega)]
end Ord
theorem add_self (P : Pt) : P.add P = P.mul 2 := by
 show _ = (zeroP.add P).add P
 rw [add_comm' zeroP, add_zero']
theorem Rep.dbl2 {p : P5} {P : Pt} (h : Rep p P) : Rep (dblF p) (P.mul 2) := by
 rw [← add_self]
 exact h.dbl
theorem Rep.d4 {p : P5} {P : Pt} {n : Nat} (h : Rep p (P.mul n)) : Rep (d4 p) (P.mul (n * 16)) := by
 have e : P.mul (n * 16) = ((((P.mul n).mul 2).mul 2).mul 2).mul 2 := by
  rw [← mul_mul', ← mul_mul', ← mul_mul', ← mul_mul']
 rw [e]
 exact h.dbl2.dbl2.dbl2.dbl2
theorem Rep.mulT {p : P5} {P : Pt} (h : Rep p P) : ∀ k, Rep (mulT p k) (P.mul k)
 | 0 => zero5_rep
 | k + 1 => (Rep.mulT h k).sum h
theorem Rep.sumN {p q : P5} {P : Pt} {m n : Nat} (hp : Rep p (P.mul m)) (hq : Rep q (P.mul n)) : Rep (sumF p q) (P.mul (m + n)) := by
 rw [mul_add']
 exact hp.sum hq
theorem div_step {A : Int} {B b : Nat} (h0 : 0 ≤ A) (h1 : (A / B).toNat = b) (hB : 0 < B) : A.toNat = b * B + (A % B).toNat := by
 have h2 := Int.emod_nonneg A (show (B : Int) ≠ 0 by omega)
 have h3 : 0 ≤ A / B := Int.ediv_nonneg h0 (by omega)
 have h4 := Int.mul_ediv_add_emod A B
 apply Int.ofNat.inj
 show (A.toNat : Int) = ((b * B + (A % B).toNat : Nat) : Int)
 rw [Int.natCast_add, Int.natCast_mul, ← h1, Int.toNat_of_nonneg h0, Int.toNat_of_nonneg h3, Int.toNat_of_nonneg h2, Int.mul_comm]
 exact h4.symm
theorem Rep.acc {p : P5} {P : Pt} (h : Rep p P) (s : ByteArray) : ∀ j, j ≤ 32 → Rep (acc p s j) (P.mul (Ord.bv s 32 / 256 ^ (32 - j)).toNat)
 | 0, _ => by
  have hb := Ord.bv_bd s 32
  rw [Int.ediv_eq_zero_of_lt hb.1 hb.2]
  exact zero5_rep
 | j + 1, hj => by
  have ih := Rep.acc h s j (by omega)
  have hb := Ord.bv_bd s 32
  have ha := Ord.bv_at s (j := 31 - j) (m := 32) (by omega)
  have hp := Ord.p8 (31 - j)
  rw [show 32 - j = 31 - j + 1 by omega, Int.pow_succ, ← Int.ediv_ediv_of_nonneg (by omega)] at ih
  rw [show 32 - (j + 1) = 31 - j by omega]
  have hA : 0 ≤ Ord.bv s 32 / 256 ^ (31 - j) := Int.ediv_nonneg hb.1 (by omega)
  generalize Ord.bv s 32 / 256 ^ (31 - j) = A at *
  have hd := div_step (B := 256) hA rfl (by omega)
  rw [hd, show (A % ((256 : Nat) : Int)) = A % 256 from rfl, ha]
  have ht := bt_bd s (31 - j)
  show Rep (sumF (_root_.Go.Proofs.YtmhfmhmpoobmlaaGreatDoor.d4 (sumF (_root_.Go.Proofs.YtmhfmhmpoobmlaaGreatDoor.d4 (_root_.Go.Proofs.YtmhfmhmpoobmlaaGreatDoor.acc p s j)) (_root_.Go.Proofs.YtmhfmhmpoobmlaaGreatDoor.mulT p (bt s (31 - j) / 16).toNat))) (_root_.Go.Proofs.YtmhfmhmpoobmlaaGreatDoor.mulT p (bt s (31 - j) % 16).toNat)) _
  have h2 := ((ih.d4.sumN (h.mulT (bt s (31 - j) / 16).toNat)).d4).sumN (h.mulT (bt s (31 - j) % 16).toNat)
  have e : ((A / 256).toNat * 16 + (bt s (31 - j) / 16).toNat) * 16 + (bt s (31 - j) % 16).toNat = (A / ((256 : Nat) : Int)).toNat * 256 + (bt s (31 - j)).toNat := by
   rw [show (A / ((256 : Nat) : Int)) = A / 256 from rfl]
   omega
  rw [e] at h2
  exact h2
def mulV (p : P5) (N : Int) : P5 := acc p (Ord.lebytes N) 32
theorem Rep.mul {p : P5} {P : Pt} (h : Rep p P) {N : Int} (hN : 0 ≤ N ∧ N < Ord.Lm) : Rep (mulV p N) (P.mul N.toNat) := by
 have h2 := h.acc (Ord.lebytes N) 32 (Nat.le_refl _)
 rw [Ord.leb_bv hN, Nat.sub_self, Int.pow_zero, Int.ediv_one] at h2
 exact h2
theorem c_mul {p : P5} {P : Pt} (h : Rep p P) (N : Int) (w : World) : Cs 26 #[.agg (arr 20 p.f), .agg (arr 4 (Ord.d64 N))] w (.agg (arr 20 (mulV p N).f)) :=
 mulY_gen p (Ord.d64 N) (Ord.lebytes N) w ⟨trivial⟩ h.ok h.none (Ord.leb_size N) (fun w => Ord.bytes_any N w)
theorem pb_d16 (N : Int) (i : Nat) : pb (Ord.d16 N) i = N / 2 ^ i % 2 := by
 have e : (2 : Int) ^ i = 65536 ^ (i / 16) * 2 ^ (i % 16) := by
  have e1 : (65536 : Int) ^ (i / 16) = 2 ^ (16 * (i / 16)) := by rw [Int.pow_mul]; rfl
  rw [e1, ← Int.pow_add]
  congr 1
  omega
 have hp : (0 : Int) < 65536 ^ (i / 16) := Int.pow_pos (by decide)
 unfold pb Ord.d16
 rw [e, ← Int.ediv_ediv_of_nonneg (by omega)]
 generalize N / 65536 ^ (i / 16) = A
 have h8 : i % 16 < 16 := by omega
 generalize i % 16 = r at *
 rcases (show r = 0 ∨ r = 1 ∨ r = 2 ∨ r = 3 ∨ r = 4 ∨ r = 5 ∨ r = 6 ∨ r = 7 ∨ r = 8 ∨ r = 9 ∨ r = 10 ∨ r = 11 ∨ r = 12 ∨ r = 13 ∨ r = 14 ∨ r = 15 by omega) with rfl | rfl | rfl | rfl | rfl | rfl | rfl | rfl | rfl | rfl | rfl | rfl | rfl | rfl | rfl | rfl
 ·rw [show (2 : Int) ^ 0 = 1 by decide]; omega
 ·rw [show (2 : Int) ^ 1 = 2 by decide]; omega
 ·rw [show (2 : Int) ^ 2 = 4 by decide]; omega
 ·rw [show (2 : Int) ^ 3 = 8 by decide]; omega
 ·rw [show (2 : Int) ^ 4 = 16 by decide]; omega
 ·rw [show (2 : Int) ^ 5 = 32 by decide]; omega
 ·rw [show (2 : Int) ^ 6 = 64 by decide]; omega
 ·rw [show (2 : Int) ^ 7 = 128 by decide]; omega
 ·rw [show (2 : Int) ^ 8 = 256 by decide]; omega
 ·rw [show (2 : Int) ^ 9 = 512 by decide]; omega
 ·rw [show (2 : Int) ^ 10 = 1024 by decide]; omega
 ·rw [show (2 : Int) ^ 11 = 2048 by decide]; omega
 ·rw [show (2 : Int) ^ 12 = 4096 by decide]; omega
 ·rw [show (2 : Int) ^ 13 = 8192 by decide]; omega
 ·rw [show (2 : Int) ^ 14 = 16384 by decide]; omega
 ·rw [show (2 : Int) ^ 15 = 32768 by decide]; omega
theorem RRep.dblN {q : RQ} {P : Pt} {n : Nat} (h : RRep q (P.mul n)) : RRep (raddV q q) (P.mul (n * 2)) := by
 rw [mul_mul', ← add_self]
 exact h.add h
theorem RRep.rmul {q : RQ} {P : Pt} (h : RRep q P) {N : Int} (h0 : 0 ≤ N) (h1 : N < 2 ^ 256) : ∀ j, j ≤ 256 → RRep (racc q (Ord.d16 N) j) (P.mul (N / 2 ^ (256 - j)).toNat)
 | 0, _ => by
  rw [Int.ediv_eq_zero_of_lt h0 h1]
  exact rzero_rep
 | j + 1, hj => by
  have ih := RRep.rmul h h0 h1 j (by omega)
  have hb := pb_d16 N (255 - j)
  have hp : (0 : Int) < 2 ^ (255 - j) := Int.pow_pos (by decide)
  rw [show 256 - j = 255 - j + 1 by omega, Int.pow_succ, ← Int.ediv_ediv_of_nonneg (by omega)] at ih
  rw [show 256 - (j + 1) = 255 - j by omega]
  have hA : 0 ≤ N / 2 ^ (255 - j) := Int.ediv_nonneg h0 (by omega)
  generalize N / 2 ^ (255 - j) = A at *
  have hd := div_step (B := 2) hA rfl (by omega)
  rw [hd]
  show RRep (if pb (Ord.d16 N) (255 - j) = 1 then raddV (raddV (racc q (Ord.d16 N) j) (racc q (Ord.d16 N) j)) q else raddV (racc q (Ord.d16 N) j) (racc q (Ord.d16 N) j)) _
  have h2 := ih.dblN
  by_cases hbit : pb (Ord.d16 N) (255 - j) = 1
  ·rw [if_pos hbit]
   rw [hb] at hbit
   rw [show (A % ((2 : Nat) : Int)) = A % 2 from rfl, hbit]
   exact h2.add h
  ·rw [if_neg hbit]
   rw [hb] at hbit
   rw [show (A % ((2 : Nat) : Int)) = A % 2 from rfl, show A % 2 = 0 by omega]
   exact h2
def rst (q : RQ) : List Bool → RQ → RQ
 | [], r => r
 | true :: l, r => rst q l (raddV (raddV r r) q)
 | false :: l, r => rst q l (raddV r r)
def nst : List Bool → Nat → Nat
 | [], n => n
 | true :: l, n => nst l (n * 2 + 1)
 | false :: l, n => nst l (n * 2)
theorem RRep.rst {q : RQ} {P : Pt} (hq : RRep q P) : ∀ (l : List Bool) (r : RQ) (n : Nat), RRep r (P.mul n) → RRep (rst q l r) (P.mul (nst l n))
 | [], _, _, h => h
 | true :: l, _, _, h => RRep.rst hq l _ _ ((h.dblN).add hq)
 | false :: l, _, _, h => RRep.rst hq l _ _ h.dblN
theorem RQ.ext {p q : RQ} (h : p.x = q.x ∧ p.y = q.y ∧ p.z = q.z ∧ p.t = q.t) : p = q := by
 cases p
 cases q
 obtain ⟨rfl, rfl, rfl, rfl⟩ := h
 rfl
def bQ : RQ := rofV BX BY
theorem RRep.step {P : Pt} {r r' : RQ} {n n' : Nat} {q : RQ} (h : RRep r (P.mul n)) (hq : RRep q P) (l : List Bool) (h1 : (YtmhfmhmpoobmlaaGreatDoor.rst q l r).x = r'.x ∧ (YtmhfmhmpoobmlaaGreatDoor.rst q l r).y = r'.y ∧ (YtmhfmhmpoobmlaaGreatDoor.rst q l r).z = r'.z ∧ (YtmhfmhmpoobmlaaGreatDoor.rst q l r).t = r'.t) (h2 : nst l n = n') : RRep r' (P.mul n') := by
 have h3 := hq.rst l r n h
 rw [RQ.ext h1, h2] at h3
 exact h3
def o0 : RQ := rzeroV
def bl : Nat → Nat → List Bool → List Bool
 | 0, _, l => l
 | k + 1, n, l => bl k (n / 2) ((n % 2 == 1) :: l)
def chkR (q : RQ) : List (Nat × Nat × RQ) → RQ → Bool
 | [], _ => true
 | (k, n, r') :: l, r => (rst q (bl k n []) r).x == r'.x && (rst q (bl k n []) r).y == r'.y && (rst q (bl k n []) r).z == r'.z && (rst q (bl k n []) r).t == r'.t && chkR q l r'
def endR : List (Nat × Nat × RQ) → RQ → RQ
 | [], r => r
 | (_, _, r') :: l, _ => endR l r'
def endN : List (Nat × Nat × RQ) → Nat → Nat
 | [], n => n
 | (k, m, _) :: l, n => endN l (nst (bl k m []) n)
theorem chkR_rep {q : RQ} {P : Pt} (hq : RRep q P) : ∀ (l : List (Nat × Nat × RQ)) (r : RQ) (n : Nat), chkR q l r = true → RRep r (P.mul n) → RRep (endR l r) (P.mul (endN l n))
 | [], _, _, _, h => h
 | (k, m, r') :: l, r, n, hc, h => by
  unfold chkR at hc
  simp only [Bool.and_eq_true, beq_iff_eq] at hc
  exact chkR_rep hq l r' _ hc.2 (h.step hq (bl k m []) ⟨hc.1.1.1.1, hc.1.1.1.2, hc.1.1.2, hc.1.2⟩ rfl)
theorem bq_rep : RRep bQ baseQ := by
 unfold bQ
 rw [← base_q]
 exact rbase_rep
def lO : List (Nat × Nat × RQ) := [(16, 32768, ⟨28395401623189904592402220376056608767286906469681911141736293996965798587502, 39551095695588853852379006563980990449178671813393243361538106395492117339030, 13195407553963494886988266688278850522809838004392335738274838344469044685139, 5998313819499033592004301560146126542607977991985566157281743382373950066103⟩), (16, 0, ⟨3736255692963323852157080816719051928015231286185418755506407306915993899308, 17983798907073456331824429511468081546160187313990958684116939890165973385368, 33785251562200620272591655105578257675791047440203960497896472325457266014387, 45039970419153914913233916472718629475295562274195907195989696614576481271418⟩), (16, 0, ⟨32052919422593390400337661247495038476529181208675066921379485888298719544837, 28429070914396697255495341828562990241969202408203355349348710724900185533588, 10588827755536999659864071860885663282680288609784572110374386994466660820476, 43013930901032196104395741888172690439877794597309416145526463712315394175116⟩), (16, 0, ⟨4776277093813094955447743187417552572016585737685742536869622802835626899788, 30356025824548741949173045342494487507276562520522040179358715903492292688926, 29323326198710578740964923425401914765723760484569174664957710697561699375900, 13956212776148083255775091524001131953413201558734147707505118271509020383196⟩), (16, 0, ⟨806028773641219405862066059792010227355644258226013237337961789056367360821, 13645183299928035859404353138110674523321692145028244430183708252202950528286, 25740815768117163713671634973563184703771474299857880066918189357958302116656, 52976027652120056614879305678715301146658099535885801916867846385800325449149⟩), (16, 0, ⟨53202340910804720089923126557762210560763707178748913619495571538216751118793, 5994992531545989339101713789415225570399832354646093006770512998245129148230, 49169377775103921856242158605049669300247942084372411297801676540811558102635, 17654134180440362703753347632903727523010676403024084488303834421225956520400⟩), (16, 0, ⟨34437211082591628754963963332413600883643232053922453139678842744603559047493, 54680333614222602184519653312904971056685970828137662068838011254234276717307, 57588523901183987980859279241235023185009676028267405362722392578218847616269, 41914822620010476767204697037032211561614625667705488896940774529961006791822⟩), (16, 0, ⟨24938624142880780344185953651372311870993717010437796377091996921811638714354, 16474457591788104045688778599773579319323806555755566182177038192546166075924, 57524396202905988941658100797691401348601525856126991861405551356077940318813, 26224548346873096615053983777140347907859092712892604855457609964493929522927⟩), (16, 42743, ⟨25168124459283634048685004133356609610721974039013091971913029540572414504877, 27987968856047954817657214997378746610764352260470400266540909667165894558128, 14768179893708287219721532596338883635357869270426009452434214877506987587763, 6326508007159339918357099038779855480739308633279098373600916981610574437171⟩), (16, 52981, ⟨27747334574616394001671544972397522701443406515410373621549800952286789188031, 8199122845177527114994708208354772536036717138860348540088995815280918949742, 5134118114367787481165291208904372290085401719766489595368751140561486979321, 54909114419988028932990657036010681893848110131280402308041711995246989110530⟩), (16, 6076, ⟨47916525168426179058218639806050604838489673677967769462188175335800095451463, 30617327695503016912621504384003028789359232859295326909963525387337587687837, 15147999521824012262492808253667687103168467042379860254812284001570090082820, 29164916684187026905245983522567931035026027657278887173783286103699229397309⟩), (16, 59058, ⟨55586458315084942508444723505078300992367419188555001130362602504126887477078, 42426833684895173971395463425312672006402497661541248970032229337861445966265, 30730388071930233499358459694661362762964327783092890224499688175283802616403, 8039619322643508031468223705383141458266607702281554665860735995537490650637⟩), (16, 49299, ⟨51419250150038731644333251568919273144715778504851121824800562544659421298484, 28903739427090395221708848164697410114564063746263677860320303608050639344901, 15017484878533359343056733774260568446294757705876846707190123253873000062853, 6663089723473616439001129195948032937660877275257366086977936812382531236983⟩), (16, 6354, ⟨10254399784315766716610494235702531705911148126970686655270206883261708408098, 11469908055901212768965127832624076734961441843657061447519809181412902932642, 30131591433583498236796704419554815994011702757874957746806098848784234914440, 16582165256344878604191661744201309794514361187147972527423185449348709391635⟩), (16, 59310, ⟨32761083542642319082911891549565013916355666803021809017442293094877123159423, 43260193632724267928556799731591429809763670677086712837872571686988731236319, 52079969498321735438166242631188276138841292434150570293186434401445865030891, 50690132427915236889963139383109278049152775223873666246053827620230532825267⟩), (13, 5101, ⟨0, 31463696881198654800294338934949973004785003180365891933753696501213649936932, 31463696881198654800294338934949973004785003180365891933753696501213649936932, 0⟩)]
def oN : Nat := 7237005577332262213973186563042994240857116359379907606001950938285454250989
theorem oN_Lm : (oN : Int) = Ord.Lm := by decide +kernel
theorem ord_zero : baseQ.mul oN = zeroP := by
 have h := chkR_rep bq_rep lO o0 0 (by decide +kernel) rzero_rep
 rw [show endN lO 0 = oN from by decide +kernel] at h
 exact (h.same rzero_rep).1 (by decide +kernel)
def decQ (s : ByteArray) : Pt := if h : rdecB s = true then decPt s h else zeroP
theorem dec_both {s : ByteArray} (hc : decC s = 0) : Rep (decP s) (decQ s) ∧ RRep (rdecP s) (decQ s) := by
 have h32 : s.size = 32 := by
  refine Classical.byContradiction fun h => ?_
  unfold decC at hc
  rw [if_neg h] at hc
  cases hc
 have hB : rdecB s = true := by
  cases h : rdecB s
  ·unfold decC at hc
   rw [if_pos h32, dec_eq, h] at hc
   cases hc
  ·rfl
 have e : decQ s = decPt s hB := by
  unfold decQ
  rw [dif_pos hB]
 rw [e]
 exact ⟨dec_rep h32 hB, rdec_rep h32 hB⟩
def ofC (s : ByteArray) : Int := if s.size = 32 ∨ s.size = 64 then 0 else 2
def ofV (s : ByteArray) : Int := if s.size = 32 ∨ s.size = 64 then Ord.ofN s else 0
theorem c_of (s : ByteArray) (w : World) : Cs 37 #[.string s] w (.tuple #[.agg (arr 4 (Ord.d64 (ofV s))), .int .i64 (ofC s)]) := by
 unfold ofV ofC
 by_cases h : s.size = 32 ∨ s.size = 64
 ·rw [if_pos h, if_pos h]
  exact Ord.of_any s w (by omega) h
 ·rw [if_neg h, if_neg h]
  exact Ord.of_no s w (by omega) (by omega)
theorem ofV_bd (s : ByteArray) : 0 ≤ ofV s ∧ ofV s < Ord.Lm := by
 unfold ofV
 split
 ·exact Ord.ofN_bd s
 ·decide
theorem c_rofO {s : ByteArray} (h : ofC s = 0) (w : World) : Cs 22 #[.string s] w (.agg (arr 16 (Ord.d16 (ofV s)))) := by
 have hs : s.size = 32 ∨ s.size = 64 := by
  refine Classical.byContradiction fun hn => ?_
  unfold ofC at h
  rw [if_neg hn] at h
  cases h
 have h2 := Ord.rof_any s (8 * s.size) w (by omega) rfl
 rw [Ord.ov_all s s.size (8 * s.size) rfl] at h2
 unfold ofV Ord.ofN
 rw [if_pos hs]
 exact h2
theorem base_mod {A : Int} (h : 0 ≤ A) : baseQ.mul (A % Ord.Lm).toNat = baseQ.mul A.toNat := by
 have hd := div_step (B := oN) h rfl (by decide)
 rw [hd, mul_add', Nat.mul_comm, mul_mul', ord_zero, zero_mul', add_comm', add_zero', oN_Lm]
theorem l_add {M N : Int} (hM : 0 ≤ M) (hN : 0 ≤ N) : baseQ.mul ((M + N) % Ord.Lm).toNat = (baseQ.mul M.toNat).add (baseQ.mul N.toNat) := by
 rw [base_mod (by omega), ← mul_add']
 congr 1
 omega
theorem l_mul {M N : Int} (hM : 0 ≤ M) (hN : 0 ≤ N) : baseQ.mul (M * N % Ord.Lm).toNat = (baseQ.mul M.toNat).mul N.toNat := by
 rw [base_mod (Int.mul_nonneg hM hN), ← mul_mul']
 congr 1
 exact Int.toNat_mul hM hN
end Go.Proofs.YtmhfmhmpoobmlaaGreatDoor

namespace Go.Proofs.YtmhfmhmpoobmlaaGreatDoor.Ord
open Go.RowKit
theorem and_bd {x : Int} (h0 : 0 ≤ x) (h1 : x < 256) : 0 ≤ bits .and .u8 x 248 ∧ bits .and .u8 x 248 < 256 := by
 obtain ⟨X, rfl⟩ := Int.eq_ofNat_of_zero_le h0
 have hX : X < 256 := by omega
 have h : ∀ n : Fin 256, 0 ≤ bits .and .u8 ((n.val : Nat) : Int) 248 ∧ bits .and .u8 ((n.val : Nat) : Int) 248 < 256 := by decide +kernel
 exact h ⟨X, hX⟩
theorem or_bd {x : Int} (h0 : 0 ≤ x) (h1 : x < 256) : 0 ≤ bits .or .u8 (bits .and .u8 x 127) 64 ∧ bits .or .u8 (bits .and .u8 x 127) 64 < 256 := by
 obtain ⟨X, rfl⟩ := Int.eq_ofNat_of_zero_le h0
 have hX : X < 256 := by omega
 have h : ∀ n : Fin 256, 0 ≤ bits .or .u8 (bits .and .u8 ((n.val : Nat) : Int) 127) 64 ∧ bits .or .u8 (bits .and .u8 ((n.val : Nat) : Int) 127) 64 < 256 := by decide +kernel
 exact h ⟨X, hX⟩
def clF (s : ByteArray) : Nat → Int := upd (upd (bt s) 0 (bits .and .u8 (bt s 0) 248)) 31 (bits .or .u8 (bits .and .u8 (bt s 31) 127) 64)
def clS (s : ByteArray) : ByteArray := bs ((List.range 32).map (clF s))
theorem clF_bd (s : ByteArray) (i : Nat) : 0 ≤ clF s i ∧ clF s i < 256 := by
 unfold clF upd
 by_cases h1 : i = 31
 ·rw [if_pos h1]
  exact or_bd (bt_bd s 31).1 (bt_bd s 31).2
 ·rw [if_neg h1]
  by_cases h2 : i = 0
  ·rw [if_pos h2]
   exact and_bd (bt_bd s 0).1 (bt_bd s 0).2
  ·rw [if_neg h2]
   exact bt_bd s i
theorem clS_size (s : ByteArray) : (clS s).size = 32 := by unfold clS; rw [bs_size]; simp
theorem clamp_yes (s : ByteArray) (w : World) (hs : s.size = 32) :
  Cs 46 #[.string s] w (.tuple #[.string (clS s), .int .i64 0]) := by
 have n0 : ((s.size : Int) != 32) = false := by simp [hs]
 obtain ⟨cap, W1, hcv, B, hb⟩ := conv_str w s
 rw [hs] at B
 have c0 := B.c 0 (by omega)
 have c31 := B.c 31 (by omega)
 have f0 := B.fz 0 (by omega)
 have f31 := B.fz 31 (by omega)
 have gl := B.lt
 have B2 := (B.set (k := 0) (by omega) (bits .and .u8 (bt s 0) 248)).set (k := 31) (by omega) (bits .or .u8 (bits .and .u8 (bt s 31) 127) 64)
 have hbk := conv_back (f := clF s) B2 cap (fun i _ => clF_bd s i)
 rw [show bs ((List.range 32).map (clF s)) = clS s from rfl] at hbk
 have OO := hide ((hb.setCell (p := ⟨w.heap.size, 0, none⟩) (Nat.le_refl _) (.int .u8 (bits .and .u8 (bt s 0) 248))).setCell (p := ⟨w.heap.size, 31, none⟩) (Nat.le_refl _) (.int .u8 (bits .or .u8 (bits .and .u8 (bt s 31) 127) 64)))
 clear B2 B hb
 generalize clS s = C at *
 go_enter Tryz.func46, Tryz.ntmps46
 go_wp2
 exact bodyPost_ret (v := .tuple #[.string C, .int .i64 0]) (by simp [results, Tryz.results46, go_sem]) rfl ⟨rfl, OO.out⟩
theorem rcanon_yes (s : ByteArray) (w : World) (hs : s.size = 32) :
  Cs 40 #[.string s] w (.bool (decide (bv s 32 < Lm))) := by
 have n0 : ((s.size : Int) == 32) = true := by simp [hs]
 have HL : Hid (∀ w, Cs 50 #[.agg (arr 16 (pt s 32)), .agg (arr 16 oF)] w (.bool (decide (bv s 32 < Lm)))) := hide fun w => by
  have h := less_any (pt s 32) oF w (pt_dig s 32) oF_dig
  rwa [pt_S, val_bv, oF_S] at h
 generalize decide (bv s 32 < Lm) = d at *
 go_enter Tryz.func40, Tryz.ntmps40
 go_wp2_with fail
 refine (parts_any s _ hs).mono ?_
 rintro _ w1 ⟨rfl, O⟩
 go_wp2_with fail
 refine (order_any _).mono ?_
 rintro _ w2 ⟨rfl, hb1⟩
 replace O := O.trans (hb1.mono O.size)
 clear hb1
 go_wp2_with fail
 refine (HL.out _).mono ?_
 rintro _ w3 ⟨rfl, hb1⟩
 replace O := O.trans (hb1.mono O.size)
 clear hb1 HL
 go_wp2
 go_ret
 exact ⟨rfl, O⟩
end Go.Proofs.YtmhfmhmpoobmlaaGreatDoor.Ord

namespace Go.Proofs.YtmhfmhmpoobmlaaGreatDoor.Sha
open Go.Proofs.YtmhfmhmpoobmlaaGreatDoor renaming d16 → xd16
open Go.RowKit
def xb (x y : Int) : Int := IntKind.wrap .u8 (BitVec.ofInt 8 x ^^^ BitVec.ofInt 8 y).toNat
theorem xb_nn (x y : Int) : 0 ≤ xb x y ∧ xb x y < 256 := by
 unfold xb
 simp [IntKind.wrap, IntKind.signed, IntKind.bits]
 omega
theorem run_ix0 {P : Program} {a : Act} {o : Oper} (t elem : TypeId) (hu : P.underlying t = some (.slice elem)) (hs : (P.info? elem).map (·.size) = some 1) (x ix : Operand) (ho : o.op = .indexAddr t x ix) (g len cap : Nat) (hx : a.eval x = .slice (some ⟨g, 0, none⟩) len cap) (k : IntKind) (i : Nat) (hi : a.eval ix = .int k (i : Int)) (hlt : i < len) (w : World) :
  (execOp a.eval o).run P w = .ok (.value (.pointer (some ⟨g, i, none⟩))) w := by
 have h := run_ixL (P := P) t elem hu hs x ix ho g 0 len cap hx k i hi hlt w
 rwa [Nat.zero_add] at h
theorem bt_sub (s : ByteArray) (p q j : Nat) (hj : j < q - p) (hq : q ≤ s.size) : bt (s.extract p q) j = bt s (p + j) := by
 unfold bt
 rw [ByteArray.data_extract, Array.getElem?_extract, if_pos (by show j < min q s.data.size - p; have : s.size = s.data.size := rfl; omega)]
theorem SB.put {Z : Obj} {cap : Nat} {l : List Value} (h : SB Z cap l) {i : Nat} (hi : i < l.length) (v : Value) {W : World} {g : Nat} (hz : W.heap[g]? = some Z) : ∃ Z', (W.setCell ⟨g, i, none⟩ v).heap[g]? = some Z' ∧ SB Z' cap (l.set i v) := by
 obtain ⟨cs, T, fr, rfl, h1, h2, h3, h4⟩ := h.ex
 refine ⟨.cells (cs.setIfInBounds i v) T fr, ?_, ⟨_, T, fr, rfl, by simpa using h1, by simpa using h2, fun j hj => ?_, h4⟩⟩
 ·simp [World.setCell, Array.getElem?_modify, hz]
 ·rw [List.length_set] at hj
  rw [Array.getElem?_setIfInBounds, List.getElem?_set]
  by_cases e : i = j
  ·subst e
   rw [if_pos rfl, if_pos rfl, if_pos (by omega), if_pos hi]
  ·rw [if_neg e, if_neg e, h3 j hj]
theorem SB.free {Z : Obj} {cap : Nat} {l : List Value} (h : SB Z cap l) {i : Nat} (hi : i < l.length) {W : World} {g : Nat} (hz : W.heap[g]? = some Z) : W.frozen? ⟨g, i, none⟩ = false := by
 obtain ⟨cs, T, fr, rfl, h1, h2, h3, h4⟩ := h.ex
 unfold World.frozen?
 rw [hz]
 exact h4 i (by omega)
theorem vs8_set (l : List Int) (k : Nat) (x : Int) : (vs8 l).set k (.int .u8 x) = vs8 (l.set k x) := by
 unfold vs8
 rw [List.map_set]
section
variable {P : Program} {ops : Array Oper} {rest : List Oper} {o : Oper} {a : Act} {w : World} {c : Ctx} {L : List Blk} {Q : Exit → Act → World → Prop} {K : Act → World → Prop}
theorem pl_putS (M : Mem c L w) (hw : Region.wanted o (yielded ops a.tmps) = true) (hd : o.dst = none) (ty : TypeId) (x y : Operand) (ho : o.op = .store ty x y) (i g off : Nat) (hx : a.eval x = .pointer (some ⟨g, off, none⟩)) (Z : Obj) (hi : L[i]? = some ⟨g, Z⟩) (cap : Nat) (l : List Value) (hs : SB Z cap l) (hk : off < l.length) (v : Value)
  (hy : a.eval y = v) (hz : (P.info? ty).map (·.size) = some 1) (h1 : v.oneCell' = true) (hc : v.cells = #[v])
  (h : ∀ Z' w', SB Z' cap (l.set off v) → Mem c (L.set i ⟨g, Z'⟩) w' → PL P ops Q rest a w') : PL P ops Q (o :: rest) a w := by
 have R := M.get i hi
 obtain ⟨Z', h2, h3⟩ := hs.put hk v R
 have h4 := h Z' (w.setCell ⟨g, off, none⟩ v) h3 (M.put i ⟨g, _⟩ hi _ (grown_setCell w g off v) h2)
 have hcell : w.cell? ⟨g, off, none⟩ = some l[off] := hs.cell R (List.getElem?_eq_getElem hk)
 have hrun : (Instr.storeAt ty (.pointer (some ⟨g, off, none⟩)) v).run P w = .ok () (w.setCell ⟨g, off, none⟩ v) := by
  cases hq : P.info? ty with
  | none => simp [hq] at hz
  | some t =>
   have ht : t.size = 1 := by simpa [hq] using hz
   have hcc := run_storeCells_cells (P := P) g off [v] 0 w (by intro j hj; simp at hj; subst hj; simp [hcell]) (by intro j hj; simp at hj; subst hj; simpa using hs.free hk R) (by simpa using h1)
   simp only [Nat.add_zero, World.setCells] at hcc
   simp [Instr.storeAt, Instr.sureAddr, storeVar, sizeOf, typeInfo, hq, ht, hc, hcc]
 refine ⟨Go.BigFrame.wpList_want hw fun K hK => ?_⟩
 unfold Oper.wp execOp
 simp only [ho, hx, hy, Sem.run_bind, hrun, Result.andThen_ok, Sem.run_pure]
 show K (a.put o.dst undef) _
 rw [hd]
 exact hK _ _ h4.out
theorem rg_cut {c : Code} (I : Act → World → Prop) (h : c.wp P (Exit.then I Q) a w) (k : ∀ a w, I a w → K a w) : c.wp P (Exit.then K Q) a w := wp_mono h fun e a w hq => by
 cases e <;> first | exact k _ _ hq | exact hq
end
section
variable {P : Program} {ops : Array Oper} {o o2 : Oper} {a : Act} {w : World} {Q : Exit → Act → World → Prop} {S : World → Prop} {n fuel : Nat} {listed : Array Bool}
theorem hl_two (i j : Nat) (hin : i < n) (hjn : j < n) (hr : Region.ready .any ops listed = [i, j]) (hi : ops.toList[i]? = some o) (hj : ops.toList[j]? = some o2)
  (h : PL P ops (Exit.then (fun a' w' => S w' ∧ HL P ops Q S n fuel (listed.setIfInBounds i true) a' w') Q) [o] a w)
  (h2 : PL P ops (Exit.then (fun a' w' => S w' ∧ HL P ops Q S n fuel (listed.setIfInBounds j true) a' w') Q) [o2] a w) : HL P ops Q S n (fuel + 1) listed a w := by
 refine ⟨fun hQ hB inv => ⟨fun h0 => (by rw [hr] at h0; cases h0), fun m hm => ?_⟩⟩
 have hm' := hm
 rw [hr] at hm
 rcases List.mem_cons.1 hm with rfl | hm
 ·exact wpOp_mono (fun a' w' h3 => ⟨fun _ => h3.1, h3.2.out hQ hB (inv.set hm' hin)⟩) (wpOp_one (by rw [← Array.getElem?_toList]; exact hi) h.out)
 ·obtain rfl := List.mem_singleton.1 hm
  exact wpOp_mono (fun a' w' h3 => ⟨fun _ => h3.1, h3.2.out hQ hB (inv.set hm' hjn)⟩) (wpOp_one (by rw [← Array.getElem?_toList]; exact hj) h2.out)
end
def rU (a : Int) : Int := pwm a (xbit 252 2) 252
def rV (a : Int) : Int := mI (rU a) (pwm 2 (xbit 253 5) 253)
theorem rU_bd (a : Int) : Bd (rU a) := pwm_bd _ _ _
theorem rV_bd (a : Int) : Bd (rV a) := mI_bd _ _
theorem ne_w {x y : Int} (hx : Bd x) (hy : Bd y) (w : World) : (binOp .neq 36 (.agg (av 16 (w64 (xd16 x)))) (.agg (av 16 (w64 (xd16 y))))).run Tryz.prog w = .ok (.bool (!(x == y))) w := by
 have h : (binOp .neq 36 (.agg (arr 16 (xd16 x))) (.agg (arr 16 (xd16 y)))).run Tryz.prog w = .ok (.bool (!(eqw (xd16 x) (xd16 y) 0 16))) w := by
  rw [run_neq_struct, run_equalIn_words 9998 36 16 (xd16 x) (xd16 y) w Tryz.underlying36]
  rfl
 rw [eqD hx hy] at h
 exact h
theorem low_b (x : Int) : un (xd16 x 0) 1 = x % 2 := by
 have e : xd16 x 0 = x % 65536 := by simp [xd16]
 have h0 : 0 ≤ x % 65536 := by omega
 rw [e]
 obtain ⟨n, hn⟩ := Int.eq_ofNat_of_zero_le h0
 rw [hn]
 unfold un
 have e2 : (BitVec.ofInt 64 ((n : Nat) : Int) &&& BitVec.ofInt 64 1).toNat = n % 2 := by
  rw [BitVec.toNat_and, BitVec.toNat_ofInt, BitVec.toNat_ofInt, show (((1 : Int) % ((2 ^ 64 : Nat) : Int)).toNat) = 2 ^ 1 - 1 from by decide, Nat.and_two_pow_sub_one_eq_mod]
  omega
 rw [e2]
 simp [IntKind.wrap, IntKind.signed, IntKind.bits]
 omega
theorem rr_u {a : Int} (h : mI (rU a) (rU a) = a) : rr a = (if rU a % 2 = 1 then nI (rU a) else rU a, true) := by
 rw [rr_eq]
 unfold rrF
 exact if_pos h
theorem rr_v {a : Int} (h : ¬ mI (rU a) (rU a) = a) (h2 : mI (rV a) (rV a) = a) : rr a = (if rV a % 2 = 1 then nI (rV a) else rV a, true) := by
 rw [rr_eq]
 unfold rrF
 unfold rV at h2 ⊢
 rw [rmo_pow] at h2 ⊢
 exact (if_neg h).trans (if_pos h2)
theorem rr_0 {a : Int} (h : ¬ mI (rU a) (rU a) = a) (h2 : ¬ mI (rV a) (rV a) = a) : rr a = (0, false) := by
 rw [rr_eq]
 unfold rrF
 unfold rV at h2
 rw [rmo_pow] at h2
 exact (if_neg h).trans (if_neg h2)
theorem c_rrootL (a : Int) (ha : Bd a) (w : World) (hL : Laid w)  :
  Cs 92 #[.agg (av 16 (w64 (xd16 a)))] w (.tuple #[.agg (av 16 (w64 (xd16 (rr a).1))), .bool (rr a).2]) := by
 go_enter Tryz.func92, Tryz.ntmps92
 have M := Mem.start hL
 refine sR ?_
 refine pN M 1 (.cells (av 16 (w64 (xd16 a))) 36) fun g1 u1 M => ?_
 refine pN M 2 (.cells (av 16 (w64 (fun _ => 0))) 36) fun g2 u2 M => ?_
 refine pV 3 (.bool false) <| nT ?_
 refine wp_seq ?_
 refine rg_cut (fun a' w' => ∃ gz gy : Nat, a' = ⟨#[.agg (av 16 (w64 (xd16 a))), .pointer (some ⟨g1, 0, none⟩), .pointer (some ⟨g2, 0, none⟩), .bool false, .pointer (some ⟨gz, 0, none⟩), .agg (av 16 (w64 (xd16 a))), .slice (some ⟨gy, 0, none⟩) 252 252, .agg (av 16 (w64 (xd16 (rU a)))), undef, undef, undef, undef, undef, undef, undef, undef, undef, undef, undef, undef, undef, undef, undef, undef, undef, undef, undef, undef, undef, undef, undef], []⟩ ∧ Mem ⟨w, []⟩ [⟨g1, .cells (av 16 (w64 (xd16 a))) 36⟩, ⟨g2, .cells (av 16 (w64 (fun _ => 0))) 36⟩, ⟨gz, .cells (av 16 (w64 (xd16 (rU a)))) 36⟩] w') ?_ ?_
 ·skip
  refine rg_held M [⟨g1, .cells (av 16 (w64 (xd16 a))) 36⟩, ⟨g2, .cells (av 16 (w64 (fun _ => 0))) 36⟩] 4 rfl (by kernel_rfl) (by kernel_rfl) (fun _ _ d _ _ h => by cases d <;> exact h) fun u3 M => ?_
  refine hl_load M 0 rfl (by decide) (by kernel_rfl) (by kernel_rfl) (want_no rfl) (some 5) rfl 36 _ rfl 0 g1 0 (by kernel_rfl) 16 36 (w64 (xd16 a)) rfl 16 (w64 (xd16 a)) (fun j _ => by rw [Nat.zero_add]) (by decide) _ Tryz.underlying36 rfl inz36 ?_
  refine hl_two 1 3 (by decide) (by decide) (by kernel_rfl) rfl rfl ?_ ?_
  ·skip
   refine pl_calln M (want_no rfl) (some 6) rfl 98 #[.int .i64 252, .int .i64 2] (fun g3 => .slice (some ⟨g3, 0, none⟩) 252 252) (.cells (av 252 (fun i => .bool (xbit 252 2 i))) 4) (fun _ => by kernel_rfl) (fun w M => bits_252 w) fun g3 u4 M => ?_
   refine nT ?_
   refine ⟨(M.drop (.cons_cons _ (.cons_cons _ (.cons _ (.slnil))))), ?_⟩
   refine hl_two 2 3 (by decide) (by decide) (by kernel_rfl) rfl rfl ?_ ?_
   ·skip
    refine pC M 7 97 #[.agg (av 16 (w64 (xd16 a))), .slice (some ⟨g3, 0, none⟩) 252 252] (.agg (av 16 (w64 (xd16 (rU a))))) (fun w M => (by have e := power_any (xd16 a) 252 (xbit 252 2) g3 w (YtmhfmhmpoobmlaaGreatDoor.d16_dig _ 16) (M.get 2 rfl) (by decide); rw [bS ha] at e; exact e)) fun u5 M => ?_
    refine nT ?_
    refine ⟨(M.drop (.cons_cons _ (.cons_cons _ (.cons _ (.slnil))))), ?_⟩
    refine hl_one 3 (by decide) (by kernel_rfl) rfl ?_
    refine pN M 4 (.cells (av 16 (w64 (fun _ => 0))) 36) fun g4 u6 M => ?_
    refine nT ?_
    refine ⟨(M.drop (.cons_cons _ (.cons_cons _ (.cons _ (.cons _ (.slnil)))))), ?_⟩
    refine hl_end (by kernel_rfl) (by kernel_rfl) rfl ?_
    refine pl_put M (want_no rfl) rfl 36 _ _ rfl 3 g4 0 (by kernel_rfl) 16 36 (w64 (fun _ => 0)) rfl 16 (w64 (xd16 (rU a))) (w64 (xd16 (rU a))) (by kernel_rfl) inz36 (by decide) (fun _ _ => rfl) (fun j hj => by rw [if_pos (by omega), Nat.sub_zero]) fun u7 M => ?_
    refine nT ?_
    refine au_then ?_
    exact ⟨g4, g3, by kernel_rfl, (M.drop (.cons_cons _ (.cons_cons _ (.cons _ (.cons_cons _ (.slnil))))))⟩
   ·skip
    refine pN M 4 (.cells (av 16 (w64 (fun _ => 0))) 36) fun g5 u8 M => ?_
    refine nT ?_
    refine ⟨(M.drop (.cons_cons _ (.cons_cons _ (.cons _ (.cons _ (.slnil)))))), ?_⟩
    refine hl_one 2 (by decide) (by kernel_rfl) rfl ?_
    refine pC M 7 97 #[.agg (av 16 (w64 (xd16 a))), .slice (some ⟨g3, 0, none⟩) 252 252] (.agg (av 16 (w64 (xd16 (rU a))))) (fun w M => (by have e := power_any (xd16 a) 252 (xbit 252 2) g3 w (YtmhfmhmpoobmlaaGreatDoor.d16_dig _ 16) (M.get 2 rfl) (by decide); rw [bS ha] at e; exact e)) fun u9 M => ?_
    refine nT ?_
    refine ⟨(M.drop (.cons_cons _ (.cons_cons _ (.cons _ (.cons _ (.slnil)))))), ?_⟩
    refine hl_end (by kernel_rfl) (by kernel_rfl) rfl ?_
    refine pl_put M (want_no rfl) rfl 36 _ _ rfl 3 g5 0 (by kernel_rfl) 16 36 (w64 (fun _ => 0)) rfl 16 (w64 (xd16 (rU a))) (w64 (xd16 (rU a))) (by kernel_rfl) inz36 (by decide) (fun _ _ => rfl) (fun j hj => by rw [if_pos (by omega), Nat.sub_zero]) fun u10 M => ?_
    refine nT ?_
    refine au_then ?_
    exact ⟨g5, g3, by kernel_rfl, (M.drop (.cons_cons _ (.cons_cons _ (.cons _ (.cons_cons _ (.slnil))))))⟩
  ·skip
   refine pN M 4 (.cells (av 16 (w64 (fun _ => 0))) 36) fun g6 u11 M => ?_
   refine nT ?_
   refine ⟨(M.drop (.cons_cons _ (.cons_cons _ (.cons _ (.slnil))))), ?_⟩
   refine hl_one 1 (by decide) (by kernel_rfl) rfl ?_
   refine pl_calln M (want_no rfl) (some 6) rfl 98 #[.int .i64 252, .int .i64 2] (fun g7 => .slice (some ⟨g7, 0, none⟩) 252 252) (.cells (av 252 (fun i => .bool (xbit 252 2 i))) 4) (fun _ => by kernel_rfl) (fun w M => bits_252 w) fun g7 u12 M => ?_
   refine nT ?_
   refine ⟨(M.drop (.cons_cons _ (.cons_cons _ (.cons _ (.cons _ (.slnil)))))), ?_⟩
   refine hl_one 2 (by decide) (by kernel_rfl) rfl ?_
   refine pC M 7 97 #[.agg (av 16 (w64 (xd16 a))), .slice (some ⟨g7, 0, none⟩) 252 252] (.agg (av 16 (w64 (xd16 (rU a))))) (fun w M => (by have e := power_any (xd16 a) 252 (xbit 252 2) g7 w (YtmhfmhmpoobmlaaGreatDoor.d16_dig _ 16) (M.get 3 rfl) (by decide); rw [bS ha] at e; exact e)) fun u13 M => ?_
   refine nT ?_
   refine ⟨(M.drop (.cons_cons _ (.cons_cons _ (.cons _ (.cons _ (.slnil)))))), ?_⟩
   refine hl_end (by kernel_rfl) (by kernel_rfl) rfl ?_
   refine pl_put M (want_no rfl) rfl 36 _ _ rfl 2 g6 0 (by kernel_rfl) 16 36 (w64 (fun _ => 0)) rfl 16 (w64 (xd16 (rU a))) (w64 (xd16 (rU a))) (by kernel_rfl) inz36 (by decide) (fun _ _ => rfl) (fun j hj => by rw [if_pos (by omega), Nat.sub_zero]) fun u14 M => ?_
   refine nT ?_
   refine au_then ?_
   exact ⟨g6, g7, by kernel_rfl, (M.drop (.cons_cons _ (.cons_cons _ (.cons_cons _ (.cons _ (.slnil))))))⟩
 rintro _ u15 ⟨gz, gy, rfl, M⟩
 refine wp_seq ?_
 refine wp_seq ?_
 by_cases hU : mI (rU a) (rU a) = a
 ·skip
  refine rg_tail M 4 (by kernel_rfl) (by kernel_rfl) ?_
  simp only [List.take_succ_cons, List.take_zero]
  refine kA M 8 2 16 (w64 (xd16 (rU a))) ?_
  refine kA M 9 2 16 (w64 (xd16 (rU a))) ?_
  refine kC M 10 53 #[.agg (av 16 (w64 (xd16 (rU a)))), .agg (av 16 (w64 (xd16 (rU a))))] (.agg (av 16 (w64 (xd16 (mI (rU a) (rU a)))))) (fun w M => rmulD _ _ w (rU_bd a) (rU_bd a)) ?_
  refine kA M 11 0 16 (w64 (xd16 a)) ?_
  refine kl_nil fun u16 M => ?_
  refine pH 12 (.bool false) (fun w => run_bin .neq 36 _ _ rfl (by kernel_rfl) (by kernel_rfl) (fun _ => by kernel_rfl) (fun w => Eq.trans (ne_w (mI_bd _ _) ha w) (by rw [(beq_iff_eq).2 hU]; rfl)) w) <| nT ?_
  refine cF ?_
  refine wp_skip ?_
  refine au_then ?_
  refine wp_seq ?_
  refine wp_seq ?_
  refine rg_tail M 4 (by kernel_rfl) (by kernel_rfl) ?_
  simp only [List.take_succ_cons, List.take_zero]
  refine kA M 18 2 16 (w64 (xd16 (rU a))) ?_
  refine kA M 19 2 16 (w64 (xd16 (rU a))) ?_
  refine kC M 20 53 #[.agg (av 16 (w64 (xd16 (rU a)))), .agg (av 16 (w64 (xd16 (rU a))))] (.agg (av 16 (w64 (xd16 (mI (rU a) (rU a)))))) (fun w M => rmulD _ _ w (rU_bd a) (rU_bd a)) ?_
  refine kA M 21 0 16 (w64 (xd16 a)) ?_
  refine kl_nil fun u17 M => ?_
  refine pH 22 (.bool false) (fun w => run_bin .neq 36 _ _ rfl (by kernel_rfl) (by kernel_rfl) (fun _ => by kernel_rfl) (fun w => Eq.trans (ne_w (mI_bd _ _) ha w) (by rw [(beq_iff_eq).2 hU]; rfl)) w) <| nT ?_
  refine cF ?_
  refine wp_skip ?_
  refine au_then ?_
  refine wp_seq ?_
  refine wp_seq ?_
  by_cases ho : (rU a) % 2 = 1
  ·skip
   refine rg_lit ?_
   refine pV 24 (.pointer (some ⟨gz, 0, none⟩)) ?_
   refine pE M 25 gz 0 (.int .u64 ((xd16 (rU a)) 0)) (fun w M => M.cell 2 rfl (by decide) rfl) ?_
   refine pH 26 (.int .u64 ((rU a) % 2)) (fun w => Eq.trans (b := .ok (.value (.int .u64 (un (xd16 (rU a) 0) 1))) w) (by kernel_rfl) (by rw [low_b])) <| pH 27 (.bool true) (dT ((rU a) % 2 = 1) (ho)) <| nT ?_
   refine cT ?_
   refine rg_lit ?_
   refine pA M 28 2 16 (w64 (xd16 (rU a))) ?_
   refine pC M 29 93 #[.agg (av 16 (w64 (xd16 (rU a))))] (.agg (av 16 (w64 (xd16 (nI (rU a)))))) (fun w M => rnegD _ w (rU_bd a)) fun u18 M => ?_
   refine pl_put M (want_no rfl) rfl 36 _ _ rfl 2 gz 0 (by kernel_rfl) 16 36 (w64 (xd16 (rU a))) rfl 16 (w64 (xd16 (nI (rU a)))) (w64 (xd16 (nI (rU a)))) (by kernel_rfl) inz36 (by decide) (fun _ _ => rfl) (fun j hj => by rw [if_pos (by omega), Nat.sub_zero]) fun u19 M => ?_
   refine nT <| sR ?_
   refine pA M 30 2 16 (w64 (xd16 (nI (rU a)))) ?_
   refine pl_put M (want_no rfl) rfl 36 _ _ rfl 1 g2 0 (by kernel_rfl) 16 36 (w64 (fun _ => 0)) rfl 16 (w64 (xd16 (nI (rU a)))) (w64 (xd16 (nI (rU a)))) (by kernel_rfl) inz36 (by decide) (fun _ _ => rfl) (fun j hj => by rw [if_pos (by omega), Nat.sub_zero]) fun u20 M => ?_
   refine pV 3 (.bool true) <| nT ?_
   refine wp_ret ?_
   exact bodyPost_ret (v := .tuple #[.agg (av 16 (w64 (xd16 (nI (rU a))))), .bool true]) (results_cell_tmp Tryz.results92 _ _ g2 36 (av 16 (w64 (xd16 (nI (rU a))))) (0, 0) _ _ (by kernel_rfl) (by kernel_rfl) (M.get 1 rfl) Tryz.underlying36 rfl (by rw [av_size]; exact inz36)) (by kernel_rfl) ⟨by rw [rr_u hU, if_pos ho], below_grown M.old⟩
  ·skip
   refine rg_lit ?_
   refine pV 24 (.pointer (some ⟨gz, 0, none⟩)) ?_
   refine pE M 25 gz 0 (.int .u64 ((xd16 (rU a)) 0)) (fun w M => M.cell 2 rfl (by decide) rfl) ?_
   refine pH 26 (.int .u64 ((rU a) % 2)) (fun w => Eq.trans (b := .ok (.value (.int .u64 (un (xd16 (rU a) 0) 1))) w) (by kernel_rfl) (by rw [low_b])) <| pH 27 (.bool false) (dF ((rU a) % 2 = 1) (ho)) <| nT ?_
   refine cF ?_
   refine wp_skip ?_
   refine au_then ?_
   refine sR ?_
   refine pA M 30 2 16 (w64 (xd16 (rU a))) ?_
   refine pl_put M (want_no rfl) rfl 36 _ _ rfl 1 g2 0 (by kernel_rfl) 16 36 (w64 (fun _ => 0)) rfl 16 (w64 (xd16 (rU a))) (w64 (xd16 (rU a))) (by kernel_rfl) inz36 (by decide) (fun _ _ => rfl) (fun j hj => by rw [if_pos (by omega), Nat.sub_zero]) fun u21 M => ?_
   refine pV 3 (.bool true) <| nT ?_
   refine wp_ret ?_
   exact bodyPost_ret (v := .tuple #[.agg (av 16 (w64 (xd16 (rU a)))), .bool true]) (results_cell_tmp Tryz.results92 _ _ g2 36 (av 16 (w64 (xd16 (rU a)))) (0, 0) _ _ (by kernel_rfl) (by kernel_rfl) (M.get 1 rfl) Tryz.underlying36 rfl (by rw [av_size]; exact inz36)) (by kernel_rfl) ⟨by rw [rr_u hU, if_neg ho], below_grown M.old⟩
 ·skip
  refine rg_tail M 4 (by kernel_rfl) (by kernel_rfl) ?_
  simp only [List.take_succ_cons, List.take_zero]
  refine kA M 8 2 16 (w64 (xd16 (rU a))) ?_
  refine kA M 9 2 16 (w64 (xd16 (rU a))) ?_
  refine kC M 10 53 #[.agg (av 16 (w64 (xd16 (rU a)))), .agg (av 16 (w64 (xd16 (rU a))))] (.agg (av 16 (w64 (xd16 (mI (rU a) (rU a)))))) (fun w M => rmulD _ _ w (rU_bd a) (rU_bd a)) ?_
  refine kA M 11 0 16 (w64 (xd16 a)) ?_
  refine kl_nil fun u22 M => ?_
  refine pH 12 (.bool true) (fun w => run_bin .neq 36 _ _ rfl (by kernel_rfl) (by kernel_rfl) (fun _ => by kernel_rfl) (fun w => Eq.trans (ne_w (mI_bd _ _) ha w) (by rw [(beq_eq_false_iff_ne).2 hU]; rfl)) w) <| nT ?_
  refine cT ?_
  refine rg_held M [⟨g1, .cells (av 16 (w64 (xd16 a))) 36⟩, ⟨g2, .cells (av 16 (w64 (fun _ => 0))) 36⟩, ⟨gz, .cells (av 16 (w64 (xd16 (rU a)))) 36⟩] 5 rfl (by kernel_rfl) (by kernel_rfl) (fun _ _ d _ _ h => by cases d <;> exact h) fun u23 M => ?_
  refine hl_load M 0 rfl (by decide) (by kernel_rfl) (by kernel_rfl) (want_no rfl) (some 13) rfl 36 _ rfl 2 gz 0 (by kernel_rfl) 16 36 (w64 (xd16 (rU a))) rfl 16 (w64 (xd16 (rU a))) (fun j _ => by rw [Nat.zero_add]) (by decide) _ Tryz.underlying36 rfl inz36 ?_
  refine hl_one 1 (by decide) (by kernel_rfl) rfl ?_
  refine pC M 14 89 #[.int .u32 2] (.agg (av 16 (w64 (xd16 2)))) (fun w M => rsmall_any 2 w (by decide) (by decide)) fun u24 M => ?_
  refine nT ?_
  refine ⟨M, ?_⟩
  refine hl_one 2 (by decide) (by kernel_rfl) rfl ?_
  refine pl_calln M (want_no rfl) (some 15) rfl 98 #[.int .i64 253, .int .i64 5] (fun g8 => .slice (some ⟨g8, 0, none⟩) 253 253) (.cells (av 253 (fun i => .bool (xbit 253 5 i))) 4) (fun _ => by kernel_rfl) (fun w M => bits_253 w) fun g8 u25 M => ?_
  refine nT ?_
  refine ⟨(M.drop (.cons_cons _ (.cons_cons _ (.cons_cons _ (.cons _ (.slnil)))))), ?_⟩
  refine hl_one 3 (by decide) (by kernel_rfl) rfl ?_
  refine pC M 16 97 #[.agg (av 16 (w64 (xd16 2))), .slice (some ⟨g8, 0, none⟩) 253 253] (.agg (av 16 (w64 (xd16 (pwm 2 (xbit 253 5) 253))))) (fun w M => (by have e := power_any (xd16 2) 253 (xbit 253 5) g8 w (YtmhfmhmpoobmlaaGreatDoor.d16_dig _ 16) (M.get 3 rfl) (by decide); rw [bS ⟨by decide, by decide⟩] at e; exact e)) fun u26 M => ?_
  refine nT ?_
  refine ⟨(M.drop (.cons_cons _ (.cons_cons _ (.cons_cons _ (.cons _ (.slnil)))))), ?_⟩
  refine hl_one 4 (by decide) (by kernel_rfl) rfl ?_
  refine pC M 17 53 #[.agg (av 16 (w64 (xd16 (rU a)))), .agg (av 16 (w64 (xd16 (pwm 2 (xbit 253 5) 253))))] (.agg (av 16 (w64 (xd16 (rV a))))) (fun w M => rmulD _ _ w (rU_bd a) (pwm_bd _ _ _)) fun u27 M => ?_
  refine nT ?_
  refine ⟨(M.drop (.cons_cons _ (.cons_cons _ (.cons_cons _ (.cons _ (.slnil)))))), ?_⟩
  refine hl_end (by kernel_rfl) (by kernel_rfl) rfl ?_
  refine pl_put M (want_no rfl) rfl 36 _ _ rfl 2 gz 0 (by kernel_rfl) 16 36 (w64 (xd16 (rU a))) rfl 16 (w64 (xd16 (rV a))) (w64 (xd16 (rV a))) (by kernel_rfl) inz36 (by decide) (fun _ _ => rfl) (fun j hj => by rw [if_pos (by omega), Nat.sub_zero]) fun u28 M => ?_
  refine nT ?_
  refine au_then ?_
  refine wp_seq ?_
  refine wp_seq ?_
  by_cases hV : mI (rV a) (rV a) = a
  ·skip
   refine rg_tail M 4 (by kernel_rfl) (by kernel_rfl) ?_
   simp only [List.take_succ_cons, List.take_zero]
   refine kA M 18 2 16 (w64 (xd16 (rV a))) ?_
   refine kA M 19 2 16 (w64 (xd16 (rV a))) ?_
   refine kC M 20 53 #[.agg (av 16 (w64 (xd16 (rV a)))), .agg (av 16 (w64 (xd16 (rV a))))] (.agg (av 16 (w64 (xd16 (mI (rV a) (rV a)))))) (fun w M => rmulD _ _ w (rV_bd a) (rV_bd a)) ?_
   refine kA M 21 0 16 (w64 (xd16 a)) ?_
   refine kl_nil fun u29 M => ?_
   refine pH 22 (.bool false) (fun w => run_bin .neq 36 _ _ rfl (by kernel_rfl) (by kernel_rfl) (fun _ => by kernel_rfl) (fun w => Eq.trans (ne_w (mI_bd _ _) ha w) (by rw [(beq_iff_eq).2 hV]; rfl)) w) <| nT ?_
   refine cF ?_
   refine wp_skip ?_
   refine au_then ?_
   refine wp_seq ?_
   refine wp_seq ?_
   by_cases ho : (rV a) % 2 = 1
   ·skip
    refine rg_lit ?_
    refine pV 24 (.pointer (some ⟨gz, 0, none⟩)) ?_
    refine pE M 25 gz 0 (.int .u64 ((xd16 (rV a)) 0)) (fun w M => M.cell 2 rfl (by decide) rfl) ?_
    refine pH 26 (.int .u64 ((rV a) % 2)) (fun w => Eq.trans (b := .ok (.value (.int .u64 (un (xd16 (rV a) 0) 1))) w) (by kernel_rfl) (by rw [low_b])) <| pH 27 (.bool true) (dT ((rV a) % 2 = 1) (ho)) <| nT ?_
    refine cT ?_
    refine rg_lit ?_
    refine pA M 28 2 16 (w64 (xd16 (rV a))) ?_
    refine pC M 29 93 #[.agg (av 16 (w64 (xd16 (rV a))))] (.agg (av 16 (w64 (xd16 (nI (rV a)))))) (fun w M => rnegD _ w (rV_bd a)) fun u30 M => ?_
    refine pl_put M (want_no rfl) rfl 36 _ _ rfl 2 gz 0 (by kernel_rfl) 16 36 (w64 (xd16 (rV a))) rfl 16 (w64 (xd16 (nI (rV a)))) (w64 (xd16 (nI (rV a)))) (by kernel_rfl) inz36 (by decide) (fun _ _ => rfl) (fun j hj => by rw [if_pos (by omega), Nat.sub_zero]) fun u31 M => ?_
    refine nT <| sR ?_
    refine pA M 30 2 16 (w64 (xd16 (nI (rV a)))) ?_
    refine pl_put M (want_no rfl) rfl 36 _ _ rfl 1 g2 0 (by kernel_rfl) 16 36 (w64 (fun _ => 0)) rfl 16 (w64 (xd16 (nI (rV a)))) (w64 (xd16 (nI (rV a)))) (by kernel_rfl) inz36 (by decide) (fun _ _ => rfl) (fun j hj => by rw [if_pos (by omega), Nat.sub_zero]) fun u32 M => ?_
    refine pV 3 (.bool true) <| nT ?_
    refine wp_ret ?_
    exact bodyPost_ret (v := .tuple #[.agg (av 16 (w64 (xd16 (nI (rV a))))), .bool true]) (results_cell_tmp Tryz.results92 _ _ g2 36 (av 16 (w64 (xd16 (nI (rV a))))) (0, 0) _ _ (by kernel_rfl) (by kernel_rfl) (M.get 1 rfl) Tryz.underlying36 rfl (by rw [av_size]; exact inz36)) (by kernel_rfl) ⟨by rw [rr_v hU hV, if_pos ho], below_grown M.old⟩
   ·skip
    refine rg_lit ?_
    refine pV 24 (.pointer (some ⟨gz, 0, none⟩)) ?_
    refine pE M 25 gz 0 (.int .u64 ((xd16 (rV a)) 0)) (fun w M => M.cell 2 rfl (by decide) rfl) ?_
    refine pH 26 (.int .u64 ((rV a) % 2)) (fun w => Eq.trans (b := .ok (.value (.int .u64 (un (xd16 (rV a) 0) 1))) w) (by kernel_rfl) (by rw [low_b])) <| pH 27 (.bool false) (dF ((rV a) % 2 = 1) (ho)) <| nT ?_
    refine cF ?_
    refine wp_skip ?_
    refine au_then ?_
    refine sR ?_
    refine pA M 30 2 16 (w64 (xd16 (rV a))) ?_
    refine pl_put M (want_no rfl) rfl 36 _ _ rfl 1 g2 0 (by kernel_rfl) 16 36 (w64 (fun _ => 0)) rfl 16 (w64 (xd16 (rV a))) (w64 (xd16 (rV a))) (by kernel_rfl) inz36 (by decide) (fun _ _ => rfl) (fun j hj => by rw [if_pos (by omega), Nat.sub_zero]) fun u33 M => ?_
    refine pV 3 (.bool true) <| nT ?_
    refine wp_ret ?_
    exact bodyPost_ret (v := .tuple #[.agg (av 16 (w64 (xd16 (rV a)))), .bool true]) (results_cell_tmp Tryz.results92 _ _ g2 36 (av 16 (w64 (xd16 (rV a)))) (0, 0) _ _ (by kernel_rfl) (by kernel_rfl) (M.get 1 rfl) Tryz.underlying36 rfl (by rw [av_size]; exact inz36)) (by kernel_rfl) ⟨by rw [rr_v hU hV, if_neg ho], below_grown M.old⟩
  ·skip
   refine rg_tail M 4 (by kernel_rfl) (by kernel_rfl) ?_
   simp only [List.take_succ_cons, List.take_zero]
   refine kA M 18 2 16 (w64 (xd16 (rV a))) ?_
   refine kA M 19 2 16 (w64 (xd16 (rV a))) ?_
   refine kC M 20 53 #[.agg (av 16 (w64 (xd16 (rV a)))), .agg (av 16 (w64 (xd16 (rV a))))] (.agg (av 16 (w64 (xd16 (mI (rV a) (rV a)))))) (fun w M => rmulD _ _ w (rV_bd a) (rV_bd a)) ?_
   refine kA M 21 0 16 (w64 (xd16 a)) ?_
   refine kl_nil fun u34 M => ?_
   refine pH 22 (.bool true) (fun w => run_bin .neq 36 _ _ rfl (by kernel_rfl) (by kernel_rfl) (fun _ => by kernel_rfl) (fun w => Eq.trans (ne_w (mI_bd _ _) ha w) (by rw [(beq_eq_false_iff_ne).2 hV]; rfl)) w) <| nT ?_
   refine cT ?_
   refine sR <| pV 23 (.agg (av 16 (w64 (fun _ => 0)))) ?_
   refine pl_put M (want_no rfl) rfl 36 _ _ rfl 1 g2 0 (by kernel_rfl) 16 36 (w64 (fun _ => 0)) rfl 16 (w64 (fun _ => 0)) (w64 (fun _ => 0)) (by kernel_rfl) inz36 (by decide) (fun _ _ => rfl) (fun j hj => by rw [if_pos (by omega), Nat.sub_zero]) fun u35 M => ?_
   refine pV 3 (.bool false) <| nT ?_
   refine wp_ret ?_
   refine au_then_ret ?_
   exact bodyPost_ret (v := .tuple #[.agg (av 16 (w64 (fun _ => 0))), .bool false]) (results_cell_tmp Tryz.results92 _ _ g2 36 (av 16 (w64 (fun _ => 0))) (0, 0) _ _ (by kernel_rfl) (by kernel_rfl) (M.get 1 rfl) Tryz.underlying36 rfl (by rw [av_size]; exact inz36)) (by kernel_rfl) ⟨by rw [rr_0 hU hV, d16_zero], below_grown M.old⟩
theorem odd_b (s : ByteArray) : decide (bt s 31 / 128 = 1) = oddB s := odd_eq s
theorem cut_sb (s : ByteArray) (hs : s.size = 32) : bs ((sb s).set 31 (bits .and .u8 (bt s 31) 127)) = cutS s := by
 have hl : (sb s).length = 32 := by rw [sb_length, hs]
 have e : (sb s).set 31 (bits .and .u8 (bt s 31) 127) = (List.range 32).map (cutF s) := by
  rw [← cut_eq]
  apply List.ext_getElem?
  intro i
  by_cases hi : i < 32
  ·rw [List.getElem?_set, List.getElem?_map, List.getElem?_range hi, Option.map_some]
   unfold YtmhfmhmpoobmlaaGreatDoor.upd
   by_cases h : i = 31
   ·subst h
    rw [if_pos rfl, if_pos (by omega), if_pos rfl]
    rfl
   ·rw [if_neg (fun e => h e.symm), if_neg h, sb_get s i (by omega)]
    rfl
  ·rw [List.getElem?_eq_none (by simp; omega), List.getElem?_eq_none (by simp; omega)]
 rw [e]
 rfl
theorem cut_nn (s : ByteArray) : ∀ x ∈ (sb s).set 31 (bits .and .u8 (bt s 31) 127), 0 ≤ x ∧ x < 256 := fun x hx => by
 have hb := bt_nn s 31
 rcases List.mem_or_eq_of_mem_set hx with h | h
 ·exact sb_nn s x h
 ·rw [h]
  exact (bits_bd hb.1 hb.2).2.2.1
theorem rd_yes {s : ByteArray} (hs : s.size = 32) (h : rdecB s = true) : (rdecP s).f = (rofV (rdecX s) (rY s)).f ∧ rdecC s = 0 := by
 unfold rdecP rdecC
 rw [if_pos hs, if_pos hs, if_pos h, if_pos h]
 exact ⟨rfl, rfl⟩
theorem rd_no {s : ByteArray} (hs : s.size = 32) (h : ¬ rdecB s = true) : (rdecP s).f = (fun _ => 0) ∧ rdecC s = 40 := by
 unfold rdecP rdecC
 rw [if_pos hs, if_pos hs, if_neg h, if_neg h]
 exact ⟨rnone_f, rfl⟩
theorem rd_len {s : ByteArray} (hs : ¬ s.size = 32) : (rdecP s).f = (fun _ => 0) ∧ rdecC s = 2 := by
 unfold rdecP rdecC
 rw [if_neg hs, if_neg hs]
 exact ⟨rnone_f, rfl⟩
theorem rdB (s : ByteArray) : rdecB s = true ↔ val (cutS s) < Pm ∧ (rr (aI (rY s))).2 = true ∧ ¬ (rX s = 0 ∧ oddB s = true) := by
 unfold rdecB
 by_cases a : rX s = 0 <;> cases b : oddB s <;> simp [a]
theorem eq_z {x : Int} (hx : Bd x) (w : World) : (binOp .eql 36 (.agg (av 16 (w64 (xd16 x)))) (.agg (av 16 (w64 (fun _ => 0))))).run Tryz.prog w = .ok (.bool (x == 0)) w := by
 have h := run_eql_words 36 16 (xd16 x) (fun _ => 0) w Tryz.underlying36
 have e : eqw (xd16 x) (fun _ => 0) 0 16 = (x == 0) := by
  rw [← d16_zero]
  exact eqD hx zero_bd
 rw [e] at h
 exact h
theorem c_rdecL (s : ByteArray) (w : World) (hL : Laid w)  :
  Cs 41 #[.string s] w (.tuple #[.agg (av 64 (w64 (rdecP s).f)), .int .i64 (rdecC s)]) := by
 go_enter Tryz.func41, Tryz.ntmps41
 have M := Mem.start hL
 refine sR ?_
 refine pN M 2 (.cells (av 64 (w64 (fun _ => 0))) 52) fun g1 u1 M => ?_
 refine pV 3 (.int .i64 0) <| nT ?_
 refine wp_seq ?_
 refine wp_seq ?_
 by_cases hs : s.size = 32
 ·skip
  refine rg_lit ?_
  refine pV 12 (.string s) <| pV 13 (.int .i64 (s.size : Int)) <| pH 14 (.bool false) (nF ((s.size : Int) = 32) (by omega)) <| nT ?_
  refine cF ?_
  refine wp_skip ?_
  refine au_then ?_
  refine sR <| pV 16 (.string s) ?_
  refine pl_conv M (want_no rfl) (some 17) rfl _ rfl s (by kernel_rfl) ?_
  intro gq capq Zq u2 hZq M
  refine pV 4 (.slice (some ⟨gq, 0, none⟩) s.size capq) <| nT <| sR <| pV 18 (.slice (some ⟨gq, 0, none⟩) s.size capq) ?_
  refine pH 19 (.pointer (some ⟨gq, 31, none⟩)) (run_ix0 32 5 Tryz.underlying32 inz5 _ _ rfl gq s.size capq (by kernel_rfl) .i64 31 (by kernel_rfl) (by omega)) ?_
  refine pE M 20 gq 31 (.int .u8 (bt s 31)) (fun w M => hZq.cell (M.get 1 rfl) (by unfold vs8; rw [List.getElem?_map, sb_get _ _ (by omega)]; rfl)) ?_
  refine pH 21 (.int .u8 (bt s 31 / 128)) (fun w => run_bin .shr 5 _ _ rfl (by kernel_rfl) (by kernel_rfl) (fun _ => by kernel_rfl) (run_shr7 _) w) <| pH 22 (.bool (oddB s)) (fun w => Eq.trans (b := .ok (.value (.bool (decide (bt s 31 / 128 = 1)))) w) (by kernel_rfl) (by rw [odd_b])) <| pV 5 (.bool (oddB s)) <| nT ?_
  refine sR <| pV 23 (.slice (some ⟨gq, 0, none⟩) s.size capq) <| pV 24 (.slice (some ⟨gq, 0, none⟩) s.size capq) <| pH 25 (.pointer (some ⟨gq, 31, none⟩)) (run_ix0 32 5 Tryz.underlying32 inz5 _ _ rfl gq s.size capq (by kernel_rfl) .i64 31 (by kernel_rfl) (by omega)) ?_
  refine pE M 26 gq 31 (.int .u8 (bt s 31)) (fun w M => hZq.cell (M.get 1 rfl) (by unfold vs8; rw [List.getElem?_map, sb_get _ _ (by omega)]; rfl)) ?_
  refine pV 27 (.int .u8 (bits .and .u8 (bt s 31) 127)) <| pH 28 (.pointer (some ⟨gq, 31, none⟩)) (run_ix0 32 5 Tryz.underlying32 inz5 _ _ rfl gq s.size capq (by kernel_rfl) .i64 31 (by kernel_rfl) (by omega)) ?_
  refine pl_putS M (want_no rfl) rfl 5 _ _ rfl 1 gq 31 (by kernel_rfl) Zq rfl capq _ hZq (by rw [vs8_length, sb_length]; omega) (.int .u8 (bits .and .u8 (bt s 31) 127)) (by kernel_rfl) inz5 rfl rfl ?_
  intro Zr u3 hZr M
  rw [vs8_set] at hZr
  refine nT ?_
  refine wp_seq ?_
  refine wp_seq ?_
  by_cases hc : val (cutS s) < Pm
  ·skip
   refine rg_lit ?_
   refine pV 29 (.slice (some ⟨gq, 0, none⟩) s.size capq) ?_
   refine pl_back M (want_no rfl) (some 30) rfl _ rfl 1 gq s.size capq (by kernel_rfl) Zr rfl ((sb s).set 31 (bits .and .u8 (bt s 31) 127)) capq hZr (by rw [List.length_set, sb_length]) (cut_nn s) ?_
   rw [cut_sb s hs]
   refine pC M 31 86 #[.string (cutS s)] (.bool true) (fun w M => (by have e := rcanon_yes (cutS s) w (cutS_size s); rw [decide_eq_true hc] at e; exact e)) fun u4 M => ?_
   refine pV 32 (.bool false) <| nT ?_
   refine cF ?_
   refine wp_skip ?_
   refine au_then ?_
   refine sR <| pV 34 (.slice (some ⟨gq, 0, none⟩) s.size capq) ?_
   refine pl_back M (want_no rfl) (some 35) rfl _ rfl 1 gq s.size capq (by kernel_rfl) Zr rfl ((sb s).set 31 (bits .and .u8 (bt s 31) 127)) capq hZr (by rw [List.length_set, sb_length]) (cut_nn s) ?_
   rw [cut_sb s hs]
   refine pC M 36 87 #[.string (cutS s)] (.agg (av 16 (w64 (xd16 (rY s))))) (fun w M => rof_any (cutS s) w (cutS_size s)) fun u5 M => ?_
   refine pN M 6 (.cells (av 16 (w64 (fun _ => 0))) 36) fun g2 u6 M => ?_
   refine pl_put M (want_no rfl) rfl 36 _ _ rfl 2 g2 0 (by kernel_rfl) 16 36 (w64 (fun _ => 0)) rfl 16 (w64 (xd16 (rY s))) (w64 (xd16 (rY s))) (by kernel_rfl) inz36 (by decide) (fun _ _ => rfl) (fun j hj => by rw [if_pos (by omega), Nat.sub_zero]) fun u7 M => ?_
   refine nT <| sR ?_
   refine pA M 37 2 16 (w64 (xd16 (rY s))) ?_
   refine pA M 38 2 16 (w64 (xd16 (rY s))) ?_
   refine pC M 39 53 #[.agg (av 16 (w64 (xd16 (rY s)))), .agg (av 16 (w64 (xd16 (rY s))))] (.agg (av 16 (w64 (xd16 (mI (rY s) (rY s)))))) (fun w M => rmulD _ _ w (rY_bd s) (rY_bd s)) fun u8 M => ?_
   refine pN M 7 (.cells (av 16 (w64 (fun _ => 0))) 36) fun g3 u9 M => ?_
   refine pl_put M (want_no rfl) rfl 36 _ _ rfl 3 g3 0 (by kernel_rfl) 16 36 (w64 (fun _ => 0)) rfl 16 (w64 (xd16 (mI (rY s) (rY s)))) (w64 (xd16 (mI (rY s) (rY s)))) (by kernel_rfl) inz36 (by decide) (fun _ _ => rfl) (fun j hj => by rw [if_pos (by omega), Nat.sub_zero]) fun u10 M => ?_
   refine nT ?_
   refine wp_seq ?_
   refine rg_allocs M 3 [(8, fun g => .pointer (some ⟨g, 0, none⟩), .cells (av 16 (w64 (fun _ => 0))) 36)] (by kernel_rfl) (by kernel_rfl) (⟨rfl, rfl, fun _ _ => by kernel_rfl, trivial⟩) (by decide) ?_
   simp only [List.take_succ_cons, List.take_zero]
   refine kA M 40 3 16 (w64 (xd16 (mI (rY s) (rY s)))) ?_
   refine kC M 41 89 #[.int .u32 1] (.agg (av 16 (w64 (xd16 1)))) (fun w M => rsmall_any 1 w (by decide) (by decide)) ?_
   refine kC M 42 88 #[.agg (av 16 (w64 (xd16 (mI (rY s) (rY s))))), .agg (av 16 (w64 (xd16 1)))] (.agg (av 16 (w64 (xd16 (sI (mI (rY s) (rY s)) 1))))) (fun w M => rsubD _ _ w (mI_bd _ _) one_bd) ?_
   refine kl_nil fun u11 g4 M => ?_
   refine pl_put M (want_no rfl) rfl 36 _ _ rfl 4 g4 0 (by kernel_rfl) 16 36 (w64 (fun _ => 0)) rfl 16 (w64 (xd16 (sI (mI (rY s) (rY s)) 1))) (w64 (xd16 (sI (mI (rY s) (rY s)) 1))) (by kernel_rfl) inz36 (by decide) (fun _ _ => rfl) (fun j hj => by rw [if_pos (by omega), Nat.sub_zero]) fun u12 M => ?_
   refine nT ?_
   refine wp_seq ?_
   refine rg_allocs M 5 [(9, fun g => .pointer (some ⟨g, 0, none⟩), .cells (av 16 (w64 (fun _ => 0))) 36)] (by kernel_rfl) (by kernel_rfl) (⟨rfl, rfl, fun _ _ => by kernel_rfl, trivial⟩) (by decide) ?_
   simp only [List.take_succ_cons, List.take_zero]
   refine kC M 43 90 #[] (.agg (av 16 (w64 (xd16 DI)))) (fun w M => c_rD w) ?_
   refine kA M 44 3 16 (w64 (xd16 (mI (rY s) (rY s)))) ?_
   refine kC M 45 53 #[.agg (av 16 (w64 (xd16 DI))), .agg (av 16 (w64 (xd16 (mI (rY s) (rY s)))))] (.agg (av 16 (w64 (xd16 (mI DI (mI (rY s) (rY s))))))) (fun w M => rmulD _ _ w DI_bd (mI_bd _ _)) ?_
   refine kC M 46 89 #[.int .u32 1] (.agg (av 16 (w64 (xd16 1)))) (fun w M => rsmall_any 1 w (by decide) (by decide)) ?_
   refine kC M 47 91 #[.agg (av 16 (w64 (xd16 (mI DI (mI (rY s) (rY s)))))), .agg (av 16 (w64 (xd16 1)))] (.agg (av 16 (w64 (xd16 (pI (mI DI (mI (rY s) (rY s))) 1))))) (fun w M => raddD _ _ w (mI_bd _ _) one_bd) ?_
   refine kl_nil fun u13 g5 M => ?_
   refine pl_put M (want_no rfl) rfl 36 _ _ rfl 5 g5 0 (by kernel_rfl) 16 36 (w64 (fun _ => 0)) rfl 16 (w64 (xd16 (pI (mI DI (mI (rY s) (rY s))) 1))) (w64 (xd16 (pI (mI DI (mI (rY s) (rY s))) 1))) (by kernel_rfl) inz36 (by decide) (fun _ _ => rfl) (fun j hj => by rw [if_pos (by omega), Nat.sub_zero]) fun u14 M => ?_
   refine nT ?_
   refine wp_seq ?_
   refine rg_cut (fun a' w' => ∃ gz : Nat, a' = ⟨#[.string s, undef, .pointer (some ⟨g1, 0, none⟩), .int .i64 0, .slice (some ⟨gq, 0, none⟩) s.size capq, .bool (oddB s), .pointer (some ⟨g2, 0, none⟩), .pointer (some ⟨g3, 0, none⟩), .pointer (some ⟨g4, 0, none⟩), .pointer (some ⟨g5, 0, none⟩), .pointer (some ⟨gz, 0, none⟩), .bool ((rr (aI (rY s))).2), .string s, .int .i64 (s.size : Int), .bool false, undef, .string s, .slice (some ⟨gq, 0, none⟩) s.size capq, .slice (some ⟨gq, 0, none⟩) s.size capq, .pointer (some ⟨gq, 31, none⟩), .int .u8 (bt s 31), .int .u8 (bt s 31 / 128), .bool (oddB s), .slice (some ⟨gq, 0, none⟩) s.size capq, .slice (some ⟨gq, 0, none⟩) s.size capq, .pointer (some ⟨gq, 31, none⟩), .int .u8 (bt s 31), .int .u8 (bits .and .u8 (bt s 31) 127), .pointer (some ⟨gq, 31, none⟩), .slice (some ⟨gq, 0, none⟩) s.size capq, .string (cutS s), .bool true, .bool false, undef, .slice (some ⟨gq, 0, none⟩) s.size capq, .string (cutS s), .agg (av 16 (w64 (xd16 (rY s)))), .agg (av 16 (w64 (xd16 (rY s)))), .agg (av 16 (w64 (xd16 (rY s)))), .agg (av 16 (w64 (xd16 (mI (rY s) (rY s))))), .agg (av 16 (w64 (xd16 (mI (rY s) (rY s))))), .agg (av 16 (w64 (xd16 1))), .agg (av 16 (w64 (xd16 (sI (mI (rY s) (rY s)) 1)))), .agg (av 16 (w64 (xd16 DI))), .agg (av 16 (w64 (xd16 (mI (rY s) (rY s))))), .agg (av 16 (w64 (xd16 (mI DI (mI (rY s) (rY s)))))), .agg (av 16 (w64 (xd16 1))), .agg (av 16 (w64 (xd16 (pI (mI DI (mI (rY s) (rY s))) 1)))), .tuple #[.agg (av 16 (w64 (xd16 (rX s)))), .bool ((rr (aI (rY s))).2)], .agg (av 16 (w64 (xd16 (sI (mI (rY s) (rY s)) 1)))), .agg (av 16 (w64 (xd16 (pI (mI DI (mI (rY s) (rY s))) 1)))), .agg (av 16 (w64 (xd16 (vI (pI (mI DI (mI (rY s) (rY s))) 1))))), .agg (av 16 (w64 (xd16 (aI (rY s))))), .tuple #[.agg (av 16 (w64 (xd16 (rX s)))), .bool ((rr (aI (rY s))).2)], .agg (av 16 (w64 (xd16 (rX s)))), .bool ((rr (aI (rY s))).2), undef, undef, undef, undef, undef, undef, undef, undef, undef, undef, undef, undef, undef, undef, undef, undef, undef], []⟩ ∧ Mem ⟨w, []⟩ [⟨g1, .cells (av 64 (w64 (fun _ => 0))) 52⟩, ⟨gq, Zr⟩, ⟨g2, .cells (av 16 (w64 (xd16 (rY s)))) 36⟩, ⟨g3, .cells (av 16 (w64 (xd16 (mI (rY s) (rY s))))) 36⟩, ⟨g4, .cells (av 16 (w64 (xd16 (sI (mI (rY s) (rY s)) 1)))) 36⟩, ⟨g5, .cells (av 16 (w64 (xd16 (pI (mI DI (mI (rY s) (rY s))) 1)))) 36⟩, ⟨gz, .cells (av 16 (w64 (xd16 (rX s)))) 36⟩] w') ?_ ?_
   ·skip
    refine rg_held M [⟨g1, .cells (av 64 (w64 (fun _ => 0))) 52⟩, ⟨gq, Zr⟩, ⟨g2, .cells (av 16 (w64 (xd16 (rY s)))) 36⟩, ⟨g3, .cells (av 16 (w64 (xd16 (mI (rY s) (rY s))))) 36⟩, ⟨g4, .cells (av 16 (w64 (xd16 (sI (mI (rY s) (rY s)) 1)))) 36⟩, ⟨g5, .cells (av 16 (w64 (xd16 (pI (mI DI (mI (rY s) (rY s))) 1)))) 36⟩] 10 rfl (by kernel_rfl) (by kernel_rfl) (fun _ _ d _ _ h => by cases d <;> exact h) fun u15 M => ?_
    refine hl_load M 0 rfl (by decide) (by kernel_rfl) (by kernel_rfl) (want_no rfl) (some 49) rfl 36 _ rfl 4 g4 0 (by kernel_rfl) 16 36 (w64 (xd16 (sI (mI (rY s) (rY s)) 1))) rfl 16 (w64 (xd16 (sI (mI (rY s) (rY s)) 1))) (fun j _ => by rw [Nat.zero_add]) (by decide) _ Tryz.underlying36 rfl inz36 ?_
    refine hl_load M 1 rfl (by decide) (by kernel_rfl) (by kernel_rfl) (want_no rfl) (some 50) rfl 36 _ rfl 5 g5 0 (by kernel_rfl) 16 36 (w64 (xd16 (pI (mI DI (mI (rY s) (rY s))) 1))) rfl 16 (w64 (xd16 (pI (mI DI (mI (rY s) (rY s))) 1))) (fun j _ => by rw [Nat.zero_add]) (by decide) _ Tryz.underlying36 rfl inz36 ?_
    refine hl_two 2 8 (by decide) (by decide) (by kernel_rfl) rfl rfl ?_ ?_
    ·skip
     refine pC M 51 52 #[.agg (av 16 (w64 (xd16 (pI (mI DI (mI (rY s) (rY s))) 1))))] (.agg (av 16 (w64 (xd16 (vI (pI (mI DI (mI (rY s) (rY s))) 1)))))) (fun w M => rinvD _ w (pI_bd _ _)) fun u16 M => ?_
     refine nT ?_
     refine ⟨M, ?_⟩
     refine hl_two 3 8 (by decide) (by decide) (by kernel_rfl) rfl rfl ?_ ?_
     ·skip
      refine pC M 52 53 #[.agg (av 16 (w64 (xd16 (sI (mI (rY s) (rY s)) 1)))), .agg (av 16 (w64 (xd16 (vI (pI (mI DI (mI (rY s) (rY s))) 1)))))] (.agg (av 16 (w64 (xd16 (aI (rY s)))))) (fun w M => rmulD _ _ w (sI_bd _ _) (vI_bd _)) fun u17 M => ?_
      refine nT ?_
      refine ⟨M, ?_⟩
      refine hl_two 4 8 (by decide) (by decide) (by kernel_rfl) rfl rfl ?_ ?_
      ·skip
       refine pC M 53 92 #[.agg (av 16 (w64 (xd16 (aI (rY s)))))] (.tuple #[.agg (av 16 (w64 (xd16 (rX s)))), .bool ((rr (aI (rY s))).2)]) (fun w M => c_rrootL (aI (rY s)) (aI_bd _) w M.laid) fun u18 M => ?_
       refine nT ?_
       refine ⟨M, ?_⟩
       refine qV M 5 48 (.tuple #[.agg (av 16 (w64 (xd16 (rX s)))), .bool ((rr (aI (rY s))).2)]) ?_
       refine qV M 6 54 (.agg (av 16 (w64 (xd16 (rX s))))) ?_
       refine qV M 7 55 (.bool ((rr (aI (rY s))).2)) ?_
       refine hl_one 8 (by decide) (by kernel_rfl) rfl ?_
       refine pN M 10 (.cells (av 16 (w64 (fun _ => 0))) 36) fun g6 u19 M => ?_
       refine nT ?_
       refine ⟨(M.drop (.cons_cons _ (.cons_cons _ (.cons_cons _ (.cons_cons _ (.cons_cons _ (.cons_cons _ (.cons _ (.slnil))))))))), ?_⟩
       refine hl_one 9 (by decide) (by kernel_rfl) rfl ?_
       refine pl_put M (want_no rfl) rfl 36 _ _ rfl 6 g6 0 (by kernel_rfl) 16 36 (w64 (fun _ => 0)) rfl 16 (w64 (xd16 (rX s))) (w64 (xd16 (rX s))) (by kernel_rfl) inz36 (by decide) (fun _ _ => rfl) (fun j hj => by rw [if_pos (by omega), Nat.sub_zero]) fun u20 M => ?_
       refine nT ?_
       refine ⟨(M.drop (.cons_cons _ (.cons_cons _ (.cons_cons _ (.cons_cons _ (.cons_cons _ (.cons_cons _ (.cons _ (.slnil))))))))), ?_⟩
       refine hl_end (by kernel_rfl) (by kernel_rfl) rfl ?_
       refine pV 11 (.bool ((rr (aI (rY s))).2)) <| nT ?_
       refine au_then ?_
       exact ⟨g6, by kernel_rfl, M⟩
      ·skip
       refine pN M 10 (.cells (av 16 (w64 (fun _ => 0))) 36) fun g7 u21 M => ?_
       refine nT ?_
       refine ⟨(M.drop (.cons_cons _ (.cons_cons _ (.cons_cons _ (.cons_cons _ (.cons_cons _ (.cons_cons _ (.cons _ (.slnil))))))))), ?_⟩
       refine hl_one 4 (by decide) (by kernel_rfl) rfl ?_
       refine pC M 53 92 #[.agg (av 16 (w64 (xd16 (aI (rY s)))))] (.tuple #[.agg (av 16 (w64 (xd16 (rX s)))), .bool ((rr (aI (rY s))).2)]) (fun w M => c_rrootL (aI (rY s)) (aI_bd _) w M.laid) fun u22 M => ?_
       refine nT ?_
       refine ⟨(M.drop (.cons_cons _ (.cons_cons _ (.cons_cons _ (.cons_cons _ (.cons_cons _ (.cons_cons _ (.cons _ (.slnil))))))))), ?_⟩
       refine qV (M.drop (.cons_cons _ (.cons_cons _ (.cons_cons _ (.cons_cons _ (.cons_cons _ (.cons_cons _ (.cons _ (.slnil))))))))) 5 48 (.tuple #[.agg (av 16 (w64 (xd16 (rX s)))), .bool ((rr (aI (rY s))).2)]) ?_
       refine qV (M.drop (.cons_cons _ (.cons_cons _ (.cons_cons _ (.cons_cons _ (.cons_cons _ (.cons_cons _ (.cons _ (.slnil))))))))) 6 54 (.agg (av 16 (w64 (xd16 (rX s))))) ?_
       refine qV (M.drop (.cons_cons _ (.cons_cons _ (.cons_cons _ (.cons_cons _ (.cons_cons _ (.cons_cons _ (.cons _ (.slnil))))))))) 7 55 (.bool ((rr (aI (rY s))).2)) ?_
       refine hl_one 9 (by decide) (by kernel_rfl) rfl ?_
       refine pl_put M (want_no rfl) rfl 36 _ _ rfl 6 g7 0 (by kernel_rfl) 16 36 (w64 (fun _ => 0)) rfl 16 (w64 (xd16 (rX s))) (w64 (xd16 (rX s))) (by kernel_rfl) inz36 (by decide) (fun _ _ => rfl) (fun j hj => by rw [if_pos (by omega), Nat.sub_zero]) fun u23 M => ?_
       refine nT ?_
       refine ⟨(M.drop (.cons_cons _ (.cons_cons _ (.cons_cons _ (.cons_cons _ (.cons_cons _ (.cons_cons _ (.cons _ (.slnil))))))))), ?_⟩
       refine hl_end (by kernel_rfl) (by kernel_rfl) rfl ?_
       refine pV 11 (.bool ((rr (aI (rY s))).2)) <| nT ?_
       refine au_then ?_
       exact ⟨g7, by kernel_rfl, M⟩
     ·skip
      refine pN M 10 (.cells (av 16 (w64 (fun _ => 0))) 36) fun g8 u24 M => ?_
      refine nT ?_
      refine ⟨(M.drop (.cons_cons _ (.cons_cons _ (.cons_cons _ (.cons_cons _ (.cons_cons _ (.cons_cons _ (.cons _ (.slnil))))))))), ?_⟩
      refine hl_one 3 (by decide) (by kernel_rfl) rfl ?_
      refine pC M 52 53 #[.agg (av 16 (w64 (xd16 (sI (mI (rY s) (rY s)) 1)))), .agg (av 16 (w64 (xd16 (vI (pI (mI DI (mI (rY s) (rY s))) 1)))))] (.agg (av 16 (w64 (xd16 (aI (rY s)))))) (fun w M => rmulD _ _ w (sI_bd _ _) (vI_bd _)) fun u25 M => ?_
      refine nT ?_
      refine ⟨(M.drop (.cons_cons _ (.cons_cons _ (.cons_cons _ (.cons_cons _ (.cons_cons _ (.cons_cons _ (.cons _ (.slnil))))))))), ?_⟩
      refine hl_one 4 (by decide) (by kernel_rfl) rfl ?_
      refine pC M 53 92 #[.agg (av 16 (w64 (xd16 (aI (rY s)))))] (.tuple #[.agg (av 16 (w64 (xd16 (rX s)))), .bool ((rr (aI (rY s))).2)]) (fun w M => c_rrootL (aI (rY s)) (aI_bd _) w M.laid) fun u26 M => ?_
      refine nT ?_
      refine ⟨(M.drop (.cons_cons _ (.cons_cons _ (.cons_cons _ (.cons_cons _ (.cons_cons _ (.cons_cons _ (.cons _ (.slnil))))))))), ?_⟩
      refine qV (M.drop (.cons_cons _ (.cons_cons _ (.cons_cons _ (.cons_cons _ (.cons_cons _ (.cons_cons _ (.cons _ (.slnil))))))))) 5 48 (.tuple #[.agg (av 16 (w64 (xd16 (rX s)))), .bool ((rr (aI (rY s))).2)]) ?_
      refine qV (M.drop (.cons_cons _ (.cons_cons _ (.cons_cons _ (.cons_cons _ (.cons_cons _ (.cons_cons _ (.cons _ (.slnil))))))))) 6 54 (.agg (av 16 (w64 (xd16 (rX s))))) ?_
      refine qV (M.drop (.cons_cons _ (.cons_cons _ (.cons_cons _ (.cons_cons _ (.cons_cons _ (.cons_cons _ (.cons _ (.slnil))))))))) 7 55 (.bool ((rr (aI (rY s))).2)) ?_
      refine hl_one 9 (by decide) (by kernel_rfl) rfl ?_
      refine pl_put M (want_no rfl) rfl 36 _ _ rfl 6 g8 0 (by kernel_rfl) 16 36 (w64 (fun _ => 0)) rfl 16 (w64 (xd16 (rX s))) (w64 (xd16 (rX s))) (by kernel_rfl) inz36 (by decide) (fun _ _ => rfl) (fun j hj => by rw [if_pos (by omega), Nat.sub_zero]) fun u27 M => ?_
      refine nT ?_
      refine ⟨(M.drop (.cons_cons _ (.cons_cons _ (.cons_cons _ (.cons_cons _ (.cons_cons _ (.cons_cons _ (.cons _ (.slnil))))))))), ?_⟩
      refine hl_end (by kernel_rfl) (by kernel_rfl) rfl ?_
      refine pV 11 (.bool ((rr (aI (rY s))).2)) <| nT ?_
      refine au_then ?_
      exact ⟨g8, by kernel_rfl, M⟩
    ·skip
     refine pN M 10 (.cells (av 16 (w64 (fun _ => 0))) 36) fun g9 u28 M => ?_
     refine nT ?_
     refine ⟨(M.drop (.cons_cons _ (.cons_cons _ (.cons_cons _ (.cons_cons _ (.cons_cons _ (.cons_cons _ (.cons _ (.slnil))))))))), ?_⟩
     refine hl_one 2 (by decide) (by kernel_rfl) rfl ?_
     refine pC M 51 52 #[.agg (av 16 (w64 (xd16 (pI (mI DI (mI (rY s) (rY s))) 1))))] (.agg (av 16 (w64 (xd16 (vI (pI (mI DI (mI (rY s) (rY s))) 1)))))) (fun w M => rinvD _ w (pI_bd _ _)) fun u29 M => ?_
     refine nT ?_
     refine ⟨(M.drop (.cons_cons _ (.cons_cons _ (.cons_cons _ (.cons_cons _ (.cons_cons _ (.cons_cons _ (.cons _ (.slnil))))))))), ?_⟩
     refine hl_one 3 (by decide) (by kernel_rfl) rfl ?_
     refine pC M 52 53 #[.agg (av 16 (w64 (xd16 (sI (mI (rY s) (rY s)) 1)))), .agg (av 16 (w64 (xd16 (vI (pI (mI DI (mI (rY s) (rY s))) 1)))))] (.agg (av 16 (w64 (xd16 (aI (rY s)))))) (fun w M => rmulD _ _ w (sI_bd _ _) (vI_bd _)) fun u30 M => ?_
     refine nT ?_
     refine ⟨(M.drop (.cons_cons _ (.cons_cons _ (.cons_cons _ (.cons_cons _ (.cons_cons _ (.cons_cons _ (.cons _ (.slnil))))))))), ?_⟩
     refine hl_one 4 (by decide) (by kernel_rfl) rfl ?_
     refine pC M 53 92 #[.agg (av 16 (w64 (xd16 (aI (rY s)))))] (.tuple #[.agg (av 16 (w64 (xd16 (rX s)))), .bool ((rr (aI (rY s))).2)]) (fun w M => c_rrootL (aI (rY s)) (aI_bd _) w M.laid) fun u31 M => ?_
     refine nT ?_
     refine ⟨(M.drop (.cons_cons _ (.cons_cons _ (.cons_cons _ (.cons_cons _ (.cons_cons _ (.cons_cons _ (.cons _ (.slnil))))))))), ?_⟩
     refine qV (M.drop (.cons_cons _ (.cons_cons _ (.cons_cons _ (.cons_cons _ (.cons_cons _ (.cons_cons _ (.cons _ (.slnil))))))))) 5 48 (.tuple #[.agg (av 16 (w64 (xd16 (rX s)))), .bool ((rr (aI (rY s))).2)]) ?_
     refine qV (M.drop (.cons_cons _ (.cons_cons _ (.cons_cons _ (.cons_cons _ (.cons_cons _ (.cons_cons _ (.cons _ (.slnil))))))))) 6 54 (.agg (av 16 (w64 (xd16 (rX s))))) ?_
     refine qV (M.drop (.cons_cons _ (.cons_cons _ (.cons_cons _ (.cons_cons _ (.cons_cons _ (.cons_cons _ (.cons _ (.slnil))))))))) 7 55 (.bool ((rr (aI (rY s))).2)) ?_
     refine hl_one 9 (by decide) (by kernel_rfl) rfl ?_
     refine pl_put M (want_no rfl) rfl 36 _ _ rfl 6 g9 0 (by kernel_rfl) 16 36 (w64 (fun _ => 0)) rfl 16 (w64 (xd16 (rX s))) (w64 (xd16 (rX s))) (by kernel_rfl) inz36 (by decide) (fun _ _ => rfl) (fun j hj => by rw [if_pos (by omega), Nat.sub_zero]) fun u32 M => ?_
     refine nT ?_
     refine ⟨(M.drop (.cons_cons _ (.cons_cons _ (.cons_cons _ (.cons_cons _ (.cons_cons _ (.cons_cons _ (.cons _ (.slnil))))))))), ?_⟩
     refine hl_end (by kernel_rfl) (by kernel_rfl) rfl ?_
     refine pV 11 (.bool ((rr (aI (rY s))).2)) <| nT ?_
     refine au_then ?_
     exact ⟨g9, by kernel_rfl, M⟩
   rintro _ u33 ⟨gz, rfl, M⟩
   refine wp_seq ?_
   refine wp_seq ?_
   by_cases h2 : (rr (aI (rY s))).2 = true
   ·skip
    rw [h2]
    by_cases h0 : rX s = 0
    ·skip
     by_cases ho : oddB s = true
     ·skip
      rw [ho]
      refine rg_lit ?_
      refine pV 56 (.bool true) <| pV 57 (.bool false) <| pV 58 (.bool false) ?_
      refine pl_load M (want_on 2 false rfl 58 rfl (by kernel_rfl)) (some 59) rfl 36 _ rfl 6 gz 0 (by kernel_rfl) 16 36 (w64 (xd16 (rX s))) rfl 16 (w64 (xd16 (rX s))) (fun j _ => by rw [Nat.zero_add]) (by decide) _ Tryz.underlying36 rfl inz36 ?_
      refine pl_val (want_on 2 false rfl 58 rfl (by kernel_rfl)) (some 60) rfl (.agg (av 16 (w64 (fun _ => 0)))) (fun _ => by kernel_rfl) ?_
      refine pl_val (want_on 2 false rfl 58 rfl (by kernel_rfl)) (some 61) rfl (.bool true) (fun w => run_bin .eql 36 _ _ rfl (by kernel_rfl) (by kernel_rfl) (fun _ => by kernel_rfl) (fun w => Eq.trans (eq_z (rX_bd s) w) (by rw [(beq_iff_eq).2 h0])) w) ?_
      refine pl_val (want_on 2 false rfl 58 rfl (by kernel_rfl)) (some 62) rfl (.bool true) (fun _ => by kernel_rfl) ?_
      refine pl_val (want_on 6 true rfl 62 rfl (by kernel_rfl)) (some 63) rfl (.bool true) (fun _ => by kernel_rfl) ?_
      refine pl_val (want_on 2 false rfl 58 rfl (by kernel_rfl)) (some 64) rfl (.bool true) (fun _ => by kernel_rfl) ?_
      refine pV 65 (.bool true) <| nT ?_
      refine cT ?_
      refine sR <| pV 66 (.agg (av 64 (w64 (fun _ => 0)))) ?_
      refine pl_put M (want_no rfl) rfl 52 _ _ rfl 0 g1 0 (by kernel_rfl) 64 52 (w64 (fun _ => 0)) rfl 64 (w64 (fun _ => 0)) (w64 (fun _ => 0)) (by kernel_rfl) inz52 (by decide) (fun _ _ => rfl) (fun j hj => by rw [if_pos (by omega), Nat.sub_zero]) fun u34 M => ?_
      refine pV 3 (.int .i64 40) <| nT ?_
      refine wp_ret ?_
      refine au_then_ret ?_
      exact bodyPost_ret (v := .tuple #[.agg (av 64 (w64 (fun _ => 0))), .int .i64 40]) (results_cell_tmp Tryz.results41 _ _ g1 52 (av 64 (w64 (fun _ => 0))) (0, 0) _ _ (by kernel_rfl) (by kernel_rfl) (M.get 0 rfl) Tryz.underlying52 rfl (by rw [av_size]; exact inz52)) (by kernel_rfl) ⟨by rw [(rd_no hs (fun c => ((rdB s).1 c).2.2 ⟨h0, ho⟩)).1, (rd_no hs (fun c => ((rdB s).1 c).2.2 ⟨h0, ho⟩)).2], below_grown M.old⟩
     ·skip
      rw [(Bool.not_eq_true _).mp ho]
      refine rg_lit ?_
      refine pV 56 (.bool true) <| pV 57 (.bool false) <| pV 58 (.bool false) ?_
      refine pl_load M (want_on 2 false rfl 58 rfl (by kernel_rfl)) (some 59) rfl 36 _ rfl 6 gz 0 (by kernel_rfl) 16 36 (w64 (xd16 (rX s))) rfl 16 (w64 (xd16 (rX s))) (fun j _ => by rw [Nat.zero_add]) (by decide) _ Tryz.underlying36 rfl inz36 ?_
      refine pl_val (want_on 2 false rfl 58 rfl (by kernel_rfl)) (some 60) rfl (.agg (av 16 (w64 (fun _ => 0)))) (fun _ => by kernel_rfl) ?_
      refine pl_val (want_on 2 false rfl 58 rfl (by kernel_rfl)) (some 61) rfl (.bool true) (fun w => run_bin .eql 36 _ _ rfl (by kernel_rfl) (by kernel_rfl) (fun _ => by kernel_rfl) (fun w => Eq.trans (eq_z (rX_bd s) w) (by rw [(beq_iff_eq).2 h0])) w) ?_
      refine pl_val (want_on 2 false rfl 58 rfl (by kernel_rfl)) (some 62) rfl (.bool true) (fun _ => by kernel_rfl) ?_
      refine pl_val (want_on 6 true rfl 62 rfl (by kernel_rfl)) (some 63) rfl (.bool false) (fun _ => by kernel_rfl) ?_
      refine pl_val (want_on 2 false rfl 58 rfl (by kernel_rfl)) (some 64) rfl (.bool false) (fun _ => by kernel_rfl) ?_
      refine pV 65 (.bool false) <| nT ?_
      refine cF ?_
      refine wp_skip ?_
      refine au_then ?_
      refine wp_seq ?_
      refine sR <| pV 67 (.bool false) <| nT ?_
      refine cF ?_
      refine wp_skip ?_
      refine au_then ?_
      refine sR ?_
      refine pA M 70 6 16 (w64 (xd16 (rX s))) ?_
      refine pA M 71 2 16 (w64 (xd16 (rY s))) ?_
      refine pC M 72 94 #[.agg (av 16 (w64 (xd16 (rX s)))), .agg (av 16 (w64 (xd16 (rY s))))] (.agg (av 64 (w64 (rofV (rX s) (rY s)).f))) (fun w M => c_rof _ _ w (rX_bd s) (rY_bd s)) fun u35 M => ?_
      refine pl_put M (want_no rfl) rfl 52 _ _ rfl 0 g1 0 (by kernel_rfl) 64 52 (w64 (fun _ => 0)) rfl 64 (w64 (rofV (rX s) (rY s)).f) (w64 (rofV (rX s) (rY s)).f) (by kernel_rfl) inz52 (by decide) (fun _ _ => rfl) (fun j hj => by rw [if_pos (by omega), Nat.sub_zero]) fun u36 M => ?_
      refine pV 3 (.int .i64 0) <| nT ?_
      refine wp_ret ?_
      exact bodyPost_ret (v := .tuple #[.agg (av 64 (w64 (rofV (rX s) (rY s)).f)), .int .i64 0]) (results_cell_tmp Tryz.results41 _ _ g1 52 (av 64 (w64 (rofV (rX s) (rY s)).f)) (0, 0) _ _ (by kernel_rfl) (by kernel_rfl) (M.get 0 rfl) Tryz.underlying52 rfl (by rw [av_size]; exact inz52)) (by kernel_rfl) ⟨by rw [(rd_yes hs ((rdB s).2 ⟨hc, h2, fun d => ho d.2⟩)).1, (rd_yes hs ((rdB s).2 ⟨hc, h2, fun d => ho d.2⟩)).2]; unfold rdecX; rw [if_neg ho], below_grown M.old⟩
    ·skip
     refine rg_lit ?_
     refine pV 56 (.bool true) <| pV 57 (.bool false) <| pV 58 (.bool false) ?_
     refine pl_load M (want_on 2 false rfl 58 rfl (by kernel_rfl)) (some 59) rfl 36 _ rfl 6 gz 0 (by kernel_rfl) 16 36 (w64 (xd16 (rX s))) rfl 16 (w64 (xd16 (rX s))) (fun j _ => by rw [Nat.zero_add]) (by decide) _ Tryz.underlying36 rfl inz36 ?_
     refine pl_val (want_on 2 false rfl 58 rfl (by kernel_rfl)) (some 60) rfl (.agg (av 16 (w64 (fun _ => 0)))) (fun _ => by kernel_rfl) ?_
     refine pl_val (want_on 2 false rfl 58 rfl (by kernel_rfl)) (some 61) rfl (.bool false) (fun w => run_bin .eql 36 _ _ rfl (by kernel_rfl) (by kernel_rfl) (fun _ => by kernel_rfl) (fun w => Eq.trans (eq_z (rX_bd s) w) (by rw [(beq_eq_false_iff_ne).2 h0])) w) ?_
     refine pl_val (want_on 2 false rfl 58 rfl (by kernel_rfl)) (some 62) rfl (.bool false) (fun _ => by kernel_rfl) ?_
     refine pl_skip (want_off 6 true rfl 62 rfl (by kernel_rfl)) (some 63) rfl ?_
     refine pl_val (want_on 2 false rfl 58 rfl (by kernel_rfl)) (some 64) rfl (.bool false) (fun _ => by kernel_rfl) ?_
     refine pV 65 (.bool false) <| nT ?_
     refine cF ?_
     refine wp_skip ?_
     refine au_then ?_
     refine wp_seq ?_
     refine wp_seq ?_
     by_cases ho : oddB s = true
     ·skip
      rw [ho]
      refine rg_lit ?_
      refine pV 67 (.bool true) <| nT ?_
      refine cT ?_
      refine rg_lit ?_
      refine pA M 68 6 16 (w64 (xd16 (rX s))) ?_
      refine pC M 69 93 #[.agg (av 16 (w64 (xd16 (rX s))))] (.agg (av 16 (w64 (xd16 (nI (rX s)))))) (fun w M => rnegD _ w (rX_bd s)) fun u37 M => ?_
      refine pl_put M (want_no rfl) rfl 36 _ _ rfl 6 gz 0 (by kernel_rfl) 16 36 (w64 (xd16 (rX s))) rfl 16 (w64 (xd16 (nI (rX s)))) (w64 (xd16 (nI (rX s)))) (by kernel_rfl) inz36 (by decide) (fun _ _ => rfl) (fun j hj => by rw [if_pos (by omega), Nat.sub_zero]) fun u38 M => ?_
      refine nT <| sR ?_
      refine pA M 70 6 16 (w64 (xd16 (nI (rX s)))) ?_
      refine pA M 71 2 16 (w64 (xd16 (rY s))) ?_
      refine pC M 72 94 #[.agg (av 16 (w64 (xd16 (nI (rX s))))), .agg (av 16 (w64 (xd16 (rY s))))] (.agg (av 64 (w64 (rofV (nI (rX s)) (rY s)).f))) (fun w M => c_rof _ _ w (nI_bd _) (rY_bd s)) fun u39 M => ?_
      refine pl_put M (want_no rfl) rfl 52 _ _ rfl 0 g1 0 (by kernel_rfl) 64 52 (w64 (fun _ => 0)) rfl 64 (w64 (rofV (nI (rX s)) (rY s)).f) (w64 (rofV (nI (rX s)) (rY s)).f) (by kernel_rfl) inz52 (by decide) (fun _ _ => rfl) (fun j hj => by rw [if_pos (by omega), Nat.sub_zero]) fun u40 M => ?_
      refine pV 3 (.int .i64 0) <| nT ?_
      refine wp_ret ?_
      exact bodyPost_ret (v := .tuple #[.agg (av 64 (w64 (rofV (nI (rX s)) (rY s)).f)), .int .i64 0]) (results_cell_tmp Tryz.results41 _ _ g1 52 (av 64 (w64 (rofV (nI (rX s)) (rY s)).f)) (0, 0) _ _ (by kernel_rfl) (by kernel_rfl) (M.get 0 rfl) Tryz.underlying52 rfl (by rw [av_size]; exact inz52)) (by kernel_rfl) ⟨by rw [(rd_yes hs ((rdB s).2 ⟨hc, h2, fun d => h0 d.1⟩)).1, (rd_yes hs ((rdB s).2 ⟨hc, h2, fun d => h0 d.1⟩)).2]; unfold rdecX; rw [if_pos ho], below_grown M.old⟩
     ·skip
      rw [(Bool.not_eq_true _).mp ho]
      refine rg_lit ?_
      refine pV 67 (.bool false) <| nT ?_
      refine cF ?_
      refine wp_skip ?_
      refine au_then ?_
      refine sR ?_
      refine pA M 70 6 16 (w64 (xd16 (rX s))) ?_
      refine pA M 71 2 16 (w64 (xd16 (rY s))) ?_
      refine pC M 72 94 #[.agg (av 16 (w64 (xd16 (rX s)))), .agg (av 16 (w64 (xd16 (rY s))))] (.agg (av 64 (w64 (rofV (rX s) (rY s)).f))) (fun w M => c_rof _ _ w (rX_bd s) (rY_bd s)) fun u41 M => ?_
      refine pl_put M (want_no rfl) rfl 52 _ _ rfl 0 g1 0 (by kernel_rfl) 64 52 (w64 (fun _ => 0)) rfl 64 (w64 (rofV (rX s) (rY s)).f) (w64 (rofV (rX s) (rY s)).f) (by kernel_rfl) inz52 (by decide) (fun _ _ => rfl) (fun j hj => by rw [if_pos (by omega), Nat.sub_zero]) fun u42 M => ?_
      refine pV 3 (.int .i64 0) <| nT ?_
      refine wp_ret ?_
      exact bodyPost_ret (v := .tuple #[.agg (av 64 (w64 (rofV (rX s) (rY s)).f)), .int .i64 0]) (results_cell_tmp Tryz.results41 _ _ g1 52 (av 64 (w64 (rofV (rX s) (rY s)).f)) (0, 0) _ _ (by kernel_rfl) (by kernel_rfl) (M.get 0 rfl) Tryz.underlying52 rfl (by rw [av_size]; exact inz52)) (by kernel_rfl) ⟨by rw [(rd_yes hs ((rdB s).2 ⟨hc, h2, fun d => h0 d.1⟩)).1, (rd_yes hs ((rdB s).2 ⟨hc, h2, fun d => h0 d.1⟩)).2]; unfold rdecX; rw [if_neg ho], below_grown M.old⟩
   ·skip
    rw [(Bool.not_eq_true _).mp h2]
    refine rg_lit ?_
    refine pV 56 (.bool false) <| pV 57 (.bool true) <| pV 58 (.bool true) ?_
    refine pl_skip (want_off 2 false rfl 58 rfl (by kernel_rfl)) (some 59) rfl ?_
    refine pl_skip (want_off 2 false rfl 58 rfl (by kernel_rfl)) (some 60) rfl ?_
    refine pl_skip (want_off 2 false rfl 58 rfl (by kernel_rfl)) (some 61) rfl ?_
    refine pl_skip (want_off 2 false rfl 58 rfl (by kernel_rfl)) (some 62) rfl ?_
    refine pl_skip (want_und 6 true rfl 62 rfl (by kernel_rfl)) (some 63) rfl ?_
    refine pl_skip (want_off 2 false rfl 58 rfl (by kernel_rfl)) (some 64) rfl ?_
    refine pV 65 (.bool true) <| nT ?_
    refine cT ?_
    refine sR <| pV 66 (.agg (av 64 (w64 (fun _ => 0)))) ?_
    refine pl_put M (want_no rfl) rfl 52 _ _ rfl 0 g1 0 (by kernel_rfl) 64 52 (w64 (fun _ => 0)) rfl 64 (w64 (fun _ => 0)) (w64 (fun _ => 0)) (by kernel_rfl) inz52 (by decide) (fun _ _ => rfl) (fun j hj => by rw [if_pos (by omega), Nat.sub_zero]) fun u43 M => ?_
    refine pV 3 (.int .i64 40) <| nT ?_
    refine wp_ret ?_
    refine au_then_ret ?_
    exact bodyPost_ret (v := .tuple #[.agg (av 64 (w64 (fun _ => 0))), .int .i64 40]) (results_cell_tmp Tryz.results41 _ _ g1 52 (av 64 (w64 (fun _ => 0))) (0, 0) _ _ (by kernel_rfl) (by kernel_rfl) (M.get 0 rfl) Tryz.underlying52 rfl (by rw [av_size]; exact inz52)) (by kernel_rfl) ⟨by rw [(rd_no hs (fun c => h2 ((rdB s).1 c).2.1)).1, (rd_no hs (fun c => h2 ((rdB s).1 c).2.1)).2], below_grown M.old⟩
  ·skip
   refine rg_lit ?_
   refine pV 29 (.slice (some ⟨gq, 0, none⟩) s.size capq) ?_
   refine pl_back M (want_no rfl) (some 30) rfl _ rfl 1 gq s.size capq (by kernel_rfl) Zr rfl ((sb s).set 31 (bits .and .u8 (bt s 31) 127)) capq hZr (by rw [List.length_set, sb_length]) (cut_nn s) ?_
   rw [cut_sb s hs]
   refine pC M 31 86 #[.string (cutS s)] (.bool false) (fun w M => (by have e := rcanon_yes (cutS s) w (cutS_size s); rw [decide_eq_false hc] at e; exact e)) fun u44 M => ?_
   refine pV 32 (.bool true) <| nT ?_
   refine cT ?_
   refine sR <| pV 33 (.agg (av 64 (w64 (fun _ => 0)))) ?_
   refine pl_put M (want_no rfl) rfl 52 _ _ rfl 0 g1 0 (by kernel_rfl) 64 52 (w64 (fun _ => 0)) rfl 64 (w64 (fun _ => 0)) (w64 (fun _ => 0)) (by kernel_rfl) inz52 (by decide) (fun _ _ => rfl) (fun j hj => by rw [if_pos (by omega), Nat.sub_zero]) fun u45 M => ?_
   refine pV 3 (.int .i64 40) <| nT ?_
   refine wp_ret ?_
   refine au_then_ret ?_
   exact bodyPost_ret (v := .tuple #[.agg (av 64 (w64 (fun _ => 0))), .int .i64 40]) (results_cell_tmp Tryz.results41 _ _ g1 52 (av 64 (w64 (fun _ => 0))) (0, 0) _ _ (by kernel_rfl) (by kernel_rfl) (M.get 0 rfl) Tryz.underlying52 rfl (by rw [av_size]; exact inz52)) (by kernel_rfl) ⟨by rw [(rd_no hs (fun c => hc ((rdB s).1 c).1)).1, (rd_no hs (fun c => hc ((rdB s).1 c).1)).2], below_grown M.old⟩
 ·skip
  refine rg_lit ?_
  refine pV 12 (.string s) <| pV 13 (.int .i64 (s.size : Int)) <| pH 14 (.bool true) (nU ((s.size : Int) = 32) (by omega)) <| nT ?_
  refine cT ?_
  refine sR <| pV 15 (.agg (av 64 (w64 (fun _ => 0)))) ?_
  refine pl_put M (want_no rfl) rfl 52 _ _ rfl 0 g1 0 (by kernel_rfl) 64 52 (w64 (fun _ => 0)) rfl 64 (w64 (fun _ => 0)) (w64 (fun _ => 0)) (by kernel_rfl) inz52 (by decide) (fun _ _ => rfl) (fun j hj => by rw [if_pos (by omega), Nat.sub_zero]) fun u46 M => ?_
  refine pV 3 (.int .i64 2) <| nT ?_
  refine wp_ret ?_
  refine au_then_ret ?_
  exact bodyPost_ret (v := .tuple #[.agg (av 64 (w64 (fun _ => 0))), .int .i64 2]) (results_cell_tmp Tryz.results41 _ _ g1 52 (av 64 (w64 (fun _ => 0))) (0, 0) _ _ (by kernel_rfl) (by kernel_rfl) (M.get 0 rfl) Tryz.underlying52 rfl (by rw [av_size]; exact inz52)) (by kernel_rfl) ⟨by rw [(rd_len hs).1, (rd_len hs).2], below_grown M.old⟩
def bF (j : Nat) : Nat → Int := fun i => if i < j then 102 else 0
theorem bF_step (j : Nat) : upd (bF j) j 102 = bF (j + 1) := by
 funext i
 unfold upd bF
 by_cases h : i = j
 ·rw [if_pos h, if_pos (by omega)]
 ·rw [if_neg h]
  by_cases h2 : i < j
  ·rw [if_pos h2, if_pos (by omega)]
  ·rw [if_neg h2, if_neg (by omega)]
theorem sb_av' (n : Nat) (F : Nat → Int) (T : TypeId) : SB (.cells (av n (w8 F)) T) n (vs8 ((List.range n).map F)) := ⟨_, T, (0, 0), rfl, by simp [vs8], by rw [av_size]; exact Nat.le_refl _, fun i hi => by
 simp [vs8] at hi
 simp [vs8, av, w8, hi], fun i _ => by simp⟩
theorem base_bs : bs ((List.range 32).map (upd (bF 32) 0 88)) = baseS := by decide +kernel
theorem base_nn : ∀ x ∈ (List.range 32).map (upd (bF 32) 0 88), 0 ≤ x ∧ x < 256 := by decide +kernel
theorem rbase_c : rdecC baseS = 0 := by rw [← code_eq]; exact base_c
theorem c_rbaseL  (w : World) (hL : Laid w)  :
  Cs 20 #[] w (.agg (av 64 (w64 (rdecP baseS).f))) := by
 go_enter Tryz.func20, Tryz.ntmps20
 have M := Mem.start hL
 refine sR ?_
 refine pN M 0 (.cells (av 64 (w64 (fun _ => 0))) 52) fun g1 u1 M => ?_
 refine nT <| sR ?_
 refine pl_mk M (want_no rfl) (some 5) rfl (fun g2 => .slice (some ⟨g2, 0, none⟩) 32 32) (.cells (av 32 (w8 (fun _ => 0))) 5) (fun _ => by kernel_rfl) fun g2 u2 M => ?_
 refine pV 1 (.slice (some ⟨g2, 0, none⟩) 32 32) <| nT ?_
 refine wp_seq ?_
 refine sR <| pV 2 (.int .i64 0) <| nT ?_
 refine wp_block ?_
 refine au_loop (fun j a w' => ∃ v1 : Nat → Value, a = ⟨#[.pointer (some ⟨g1, 0, none⟩), .slice (some ⟨g2, 0, none⟩) 32 32, .int .i64 (j : Int), undef, undef, .slice (some ⟨g2, 0, none⟩) 32 32, v1 6, v1 7, v1 8, v1 9, v1 10, v1 11, v1 12, undef, undef, undef, undef, undef, undef, undef, undef, undef], []⟩ ∧ Mem ⟨w, []⟩ [⟨g1, .cells (av 64 (w64 (fun _ => 0))) 52⟩, ⟨g2, .cells (av 32 (w8 (bF j))) 5⟩] w') 32 ⟨fun k_ => ([undef, undef, undef, undef, undef, undef, undef] : List Value).getD (k_ - 6) undef, by kernel_rfl, M⟩ ?_ ?_
 ·intro j a u0 hj hI
  obtain ⟨v1, rfl, M⟩ := hI
  refine wp_seq ?_
  refine sR <| pV 6 (.int .i64 (j : Int)) <| pH 7 (.bool true) (dT ((j : Int) < 32) (by omega)) <| nT ?_
  refine cT ?_
  refine wp_skip ?_
  refine au_then ?_
  refine wp_seq ?_
  refine wp_block ?_
  refine rg_lit ?_
  refine pV 10 (.slice (some ⟨g2, 0, none⟩) 32 32) <| pV 11 (.int .i64 (j : Int)) <| pH 12 (.pointer (some ⟨g2, j, none⟩)) (run_ix0 32 5 Tryz.underlying32 inz5 _ _ rfl g2 32 32 (by kernel_rfl) .i64 j (by kernel_rfl) hj) ?_
  refine pP M 1 rfl j (.int .u8 102) (w8 (upd (bF j) j 102)) (by omega) (fun j _ => put_w8 _ _ _ j) fun u3 M => ?_
  refine pl_nil ?_
  refine au_block ?_
  refine au_then ?_
  refine rg_lit ?_
  refine pV 8 (.int .i64 (j : Int)) <| pH 9 (.int .i64 ((j + 1 : Nat) : Int)) (iV ((j : Int) + 1) (by omega) (by omega) (by omega)) <| pV 2 (.int .i64 ((j + 1 : Nat) : Int)) <| nT ?_
  rw [bF_step] at M
  exact ⟨fun k_ => ([.int .i64 (j : Int), .bool true, .int .i64 (j : Int), .int .i64 ((j + 1 : Nat) : Int), .slice (some ⟨g2, 0, none⟩) 32 32, .int .i64 (j : Int), .pointer (some ⟨g2, j, none⟩)] : List Value).getD (k_ - 6) undef, by kernel_rfl, M⟩
 ·intro a u0 hI
  obtain ⟨v1, rfl, M⟩ := hI
  refine wp_seq ?_
  refine sR <| pV 6 (.int .i64 (32 : Int)) <| pH 7 (.bool false) (dF (((32 : Nat) : Int) < 32) (by decide)) <| nT ?_
  refine cF ?_
  refine wp_exit ?_
  refine au_then_exit ?_
  refine au_then_exit ?_
  refine au_block_exit ?_
  refine au_then ?_
  refine sR <| pV 13 (.slice (some ⟨g2, 0, none⟩) 32 32) <| pH 14 (.pointer (some ⟨g2, 0, none⟩)) (run_ix0 32 5 Tryz.underlying32 inz5 _ _ rfl g2 32 32 (by kernel_rfl) .i64 0 (by kernel_rfl) (by decide)) ?_
  refine pP M 1 rfl 0 (.int .u8 88) (w8 (upd (bF 32) 0 88)) (by decide) (fun j _ => put_w8 _ _ _ j) fun u4 M => ?_
  refine nT <| sR <| pV 16 (.slice (some ⟨g2, 0, none⟩) 32 32) ?_
  refine pl_back M (want_no rfl) (some 17) rfl _ rfl 1 g2 32 32 (by kernel_rfl) _ rfl ((List.range 32).map (upd (bF 32) 0 88)) 32 (sb_av' 32 _ _) (by simp) base_nn ?_
  rw [base_bs]
  refine pC M 18 41 #[.string baseS] (.tuple #[.agg (av 64 (w64 (rdecP baseS).f)), .int .i64 0]) (fun w M => (by have e := c_rdecL baseS w M.laid; rw [rbase_c] at e; exact e)) fun u5 M => ?_
  refine pV 15 (.tuple #[.agg (av 64 (w64 (rdecP baseS).f)), .int .i64 0]) <| pV 19 (.agg (av 64 (w64 (rdecP baseS).f))) <| pV 20 (.int .i64 0) ?_
  refine pN M 3 (.cells (av 64 (w64 (fun _ => 0))) 52) fun g3 u6 M => ?_
  refine pl_put M (want_no rfl) rfl 52 _ _ rfl 2 g3 0 (by kernel_rfl) 64 52 (w64 (fun _ => 0)) rfl 64 (w64 (rdecP baseS).f) (w64 (rdecP baseS).f) (by kernel_rfl) inz52 (by decide) (fun _ _ => rfl) (fun j hj => by rw [if_pos (by omega), Nat.sub_zero]) fun u7 M => ?_
  refine pV 4 (.int .i64 0) <| nT <| sR ?_
  refine pA M 21 2 64 (w64 (rdecP baseS).f) ?_
  refine pl_put M (want_no rfl) rfl 52 _ _ rfl 0 g1 0 (by kernel_rfl) 64 52 (w64 (fun _ => 0)) rfl 64 (w64 (rdecP baseS).f) (w64 (rdecP baseS).f) (by kernel_rfl) inz52 (by decide) (fun _ _ => rfl) (fun j hj => by rw [if_pos (by omega), Nat.sub_zero]) fun u8 M => ?_
  refine nT ?_
  refine wp_ret ?_
  exact bodyPost_ret (v := .agg (av 64 (w64 (rdecP baseS).f))) (results_cell_row Tryz.results20 _ _ g1 52 (av 64 (w64 (rdecP baseS).f)) (0, 0) _ (by kernel_rfl) (M.get 0 rfl) Tryz.underlying52 rfl (by rw [av_size]; exact inz52)) (by kernel_rfl) ⟨rfl, below_grown M.old⟩
def hd (N : Int) (p : ByteArray) : Nat → Value := fun i => if i < 4 then .int .u64 (Ord.d64 N i) else .string p
theorem hd_part (N : Int) (p : ByteArray) : ∀ j, j < 4 → hd N p (0 + j) = w64 (Ord.d64 N) j := fun j hj => by
 unfold hd w64
 rw [Nat.zero_add, if_pos hj]
theorem hd_4 (N : Int) (p : ByteArray) : hd N p 4 = .string p := rfl
theorem hd_put4 (N K : Int) (p : ByteArray) : ∀ j, j < 5 → (if 0 ≤ j ∧ j < 0 + 4 then w64 (Ord.d64 K) (j - 0) else hd N p j) = hd K p j := fun j hj => by
 unfold hd w64
 by_cases h : j < 4
 ·rw [if_pos (by omega), if_pos h, Nat.sub_zero]
 ·rw [if_neg (by omega), if_neg h, if_neg h]
theorem hd_put1 (N : Int) (p q : ByteArray) : ∀ j, j < 5 → (if j = 4 then .string q else hd N p j) = hd N q j := fun j hj => by
 unfold hd
 by_cases h : j < 4
 ·rw [if_neg (by omega), if_pos h, if_pos h]
 ·rw [if_pos (by omega), if_neg h]
theorem hd_one (N : Int) (p : ByteArray) : ∀ j, j < 5 → (hd N p j).oneCell' = true := fun j _ => by
 unfold hd
 split <;> rfl
theorem inz44 : (Tryz.prog.info? 44).map (·.size) = some 4 := by kernel_rfl
theorem inz46 : (Tryz.prog.info? 46).map (·.size) = some 5 := by kernel_rfl
theorem inz60 : (Tryz.prog.info? 60).map (·.size) = some 20 := by kernel_rfl
theorem inz52 : (Tryz.prog.info? 52).map (·.size) = some 64 := by kernel_rfl
theorem inz36 : (Tryz.prog.info? 36).map (·.size) = some 16 := by kernel_rfl
theorem z_base  (w : World) : Cs 25 #[] w (.agg (av 20 (w64 base5.f))) := c_base w
theorem z_mul {p : P5} {P : Pt} (h : Rep p P) (N : Int) (w : World) : Cs 26 #[.agg (av 20 (w64 p.f)), .agg (av 4 (w64 (Ord.d64 N)))] w (.agg (av 20 (w64 (mulV p N).f))) := c_mul h N w
theorem z_bytes (p : P5) (hp : p.Ok) (w : World) : Cs 27 #[.agg (av 20 (w64 p.f))] w (.string (bytesV p)) := c_bytes p w hp
theorem z_dec (s : ByteArray) (w : World) : Cs 34 #[.string s] w (.tuple #[.agg (av 20 (w64 (decP s).f)), .int .i64 (decC s)]) := c_decode s w
theorem z_small (p : P5) (hp : p.Ok) (w : World) : Cs 35 #[.agg (av 20 (w64 p.f))] w (.bool (smallV p)) := c_small p w hp
theorem z_same (p q : P5) (hp : p.Ok) (hq : q.Ok) (w : World) : Cs 38 #[.agg (av 20 (w64 p.f)), .agg (av 20 (w64 q.f))] w (.bool (sameV p q)) := c_same p q w hp hq
theorem z_add (p q : P5) (hp : p.Ok) (hq : q.Ok) (w : World) : Cs 39 #[.agg (av 20 (w64 p.f)), .agg (av 20 (w64 q.f))] w (.agg (av 20 (w64 (addV p q).f))) := YtmhfmhmpoobmlaaGreatDoor.c_add p q w hp hq
theorem z_of (s : ByteArray) (w : World) : Cs 37 #[.string s] w (.tuple #[.agg (av 4 (w64 (Ord.d64 (YtmhfmhmpoobmlaaGreatDoor.ofV s)))), .int .i64 (YtmhfmhmpoobmlaaGreatDoor.ofC s)]) := YtmhfmhmpoobmlaaGreatDoor.c_of s w
theorem z_rmul (q : RQ) (hq : q.Ok) (n : Int) (w : World) : Cs 21 #[.agg (av 64 (w64 q.f)), .agg (av 16 (w64 (Ord.d16 n)))] w (.agg (av 64 (w64 (racc q (Ord.d16 n) 256).f))) := c_rmul q (Ord.d16 n) w hq (Ord.d16_dig n 16)
theorem z_rsame (p q : RQ) (hp : p.Ok) (hq : q.Ok) (w : World) : Cs 43 #[.agg (av 64 (w64 p.f)), .agg (av 64 (w64 q.f))] w (.bool (rsameV p q)) := c_rsame p q w hp hq
theorem z_radd (p q : RQ) (hp : p.Ok) (hq : q.Ok) (w : World) : Cs 44 #[.agg (av 64 (w64 p.f)), .agg (av 64 (w64 q.f))] w (.agg (av 64 (w64 (raddV p q).f))) := c_radd p q w hp hq
theorem z_rof {s : ByteArray} (h : YtmhfmhmpoobmlaaGreatDoor.ofC s = 0) (w : World) : Cs 22 #[.string s] w (.agg (av 16 (w64 (Ord.d16 (YtmhfmhmpoobmlaaGreatDoor.ofV s))))) := c_rofO h w
theorem z_rbase (w : World) (hL : Laid w) : Cs 20 #[] w (.agg (av 64 (w64 (rdecP baseS).f))) := c_rbaseL w hL
theorem z_rdec (s : ByteArray) (w : World) (hL : Laid w) : Cs 41 #[.string s] w (.tuple #[.agg (av 64 (w64 (rdecP s).f)), .int .i64 (rdecC s)]) := c_rdecL s w hL
def an (s : ByteArray) : Int := YtmhfmhmpoobmlaaGreatDoor.ofV (Ord.clS ((ofV s).extract 0 32))
def px (s : ByteArray) : ByteArray := (ofV s).extract 32 (ofV s).size
theorem an_bd (s : ByteArray) : 0 ≤ an s ∧ an s < Ord.Lm := ofV_bd _
def nm (s : ByteArray) : Int := YtmhfmhmpoobmlaaGreatDoor.ofV (ofV s)
theorem nm_bd (s : ByteArray) : 0 ≤ nm s ∧ nm s < Ord.Lm := ofV_bd _
def pb (a : Int) : ByteArray := bytesV (mulV base5 a)
def jo (S : Nat → ByteArray) : Nat → ByteArray
 | 0 => ⟨#[]⟩
 | j + 1 => jo S j ++ S j
theorem e_app (s : ByteArray) : (⟨#[]⟩ : ByteArray) ++ s = s := ByteArray.empty_append
theorem h32 (s : ByteArray) : 32 ≤ (ofV s).size := by rw [ofV_size]; decide
theorem x32 (s : ByteArray) : ((ofV s).extract 0 32).size = 32 := by
 rw [ByteArray.size_extract, ofV_size]
 rfl
theorem c_held (secret : ByteArray) (w : World) (hL : Laid w)  :
  Cs 17 #[.string secret] w (if secret.size = 32 then .tuple #[.agg (av 5 (hd (an secret) (px secret))), .int .i64 0] else .tuple #[.agg (av 5 (hd 0 ⟨#[]⟩)), .int .i64 2]) := by
 go_enter Tryz.func17, Tryz.ntmps17
 have M := Mem.start hL
 refine sR ?_
 refine pN M 2 (.cells (av 5 (hd 0 ⟨#[]⟩)) 46) fun g1 u1 M => ?_
 refine pV 3 (.int .i64 0) <| nT ?_
 refine wp_seq ?_
 refine wp_seq ?_
 by_cases h : secret.size = 32
 ·skip
  refine rg_lit ?_
  refine pV 7 (.string secret) <| pV 8 (.int .i64 (secret.size : Int)) <| pH 9 (.bool false) (nF ((secret.size : Int) = 32) (by omega)) <| nT ?_
  refine cF ?_
  refine wp_skip ?_
  refine au_then ?_
  refine sR <| pV 11 (.string secret) ?_
  refine pC M 12 45 #[.string secret] (.string (ofV secret)) (fun w M => c_of secret w M.laid) fun u2 M => ?_
  refine pV 4 (.string (ofV secret)) <| nT <| sR <| pV 14 (.string (ofV secret)) ?_
  refine pH 15 (.string ((ofV secret).extract 0 32)) (run_strh 9 Tryz.underlying9 _ _ rfl (ofV secret) (by kernel_rfl) .i64 32 (by kernel_rfl) (h32 secret) _ rfl) ?_
  refine pC M 16 46 #[.string ((ofV secret).extract 0 32)] (.tuple #[.string (Ord.clS ((ofV secret).extract 0 32)), .int .i64 0]) (fun w M => Ord.clamp_yes ((ofV secret).extract 0 32) w (x32 secret)) fun u3 M => ?_
  refine pV 13 (.tuple #[.string (Ord.clS ((ofV secret).extract 0 32)), .int .i64 0]) <| pV 17 (.string (Ord.clS ((ofV secret).extract 0 32))) <| pV 18 (.int .i64 0) <| pV 5 (.string (Ord.clS ((ofV secret).extract 0 32))) ?_
  refine pV 6 (.int .i64 0) <| nT <| sR <| pV 20 (.string (Ord.clS ((ofV secret).extract 0 32))) ?_
  refine pC M 21 37 #[.string (Ord.clS ((ofV secret).extract 0 32))] (.tuple #[.agg (av 4 (w64 (Ord.d64 (an secret)))), .int .i64 (YtmhfmhmpoobmlaaGreatDoor.ofC (Ord.clS ((ofV secret).extract 0 32)))]) (fun w M => z_of (Ord.clS ((ofV secret).extract 0 32)) w) fun u4 M => ?_
  refine pV 19 (.tuple #[.agg (av 4 (w64 (Ord.d64 (an secret)))), .int .i64 (YtmhfmhmpoobmlaaGreatDoor.ofC (Ord.clS ((ofV secret).extract 0 32)))]) <| pV 22 (.agg (av 4 (w64 (Ord.d64 (an secret))))) <| pV 23 (.int .i64 (YtmhfmhmpoobmlaaGreatDoor.ofC (Ord.clS ((ofV secret).extract 0 32)))) <| pV 24 (.pointer (some ⟨g1, 0, none⟩)) ?_
  refine pl_put M (want_no rfl) rfl 44 _ _ rfl 0 g1 0 (by kernel_rfl) 5 46 (hd 0 ⟨#[]⟩) rfl 4 (w64 (Ord.d64 (an secret))) (hd (an secret) ⟨#[]⟩) (by kernel_rfl) inz44 (by decide) (fun _ _ => rfl) (hd_put4 _ _ _) fun u5 M => ?_
  refine nT <| sR <| pV 25 (.string (ofV secret)) <| pH 26 (.string (px secret)) (run_strl 9 Tryz.underlying9 _ _ rfl (ofV secret) (by kernel_rfl) .i64 32 (by kernel_rfl) (h32 secret) _ rfl) ?_
  refine pV 27 (.pointer (some ⟨g1, 4, none⟩)) ?_
  refine pP M 0 rfl 4 (.string (px secret)) (hd (an secret) (px secret)) (by decide) (hd_put1 _ _ _) fun u6 M => ?_
  refine nT <| sR ?_
  refine pA M 28 0 5 (hd (an secret) (px secret)) ?_
  refine pl_put M (want_no rfl) rfl 46 _ _ rfl 0 g1 0 (by kernel_rfl) 5 46 (hd (an secret) (px secret)) rfl 5 (hd (an secret) (px secret)) (hd (an secret) (px secret)) (by kernel_rfl) inz46 (by decide) (hd_one _ _) (fun j hj => by rw [if_pos (by omega), Nat.sub_zero]) fun u7 M => ?_
  refine pV 3 (.int .i64 0) <| nT ?_
  refine wp_ret ?_
  exact bodyPost_ret (v := .tuple #[.agg (av 5 (hd (an secret) (px secret))), .int .i64 0]) (results_cell_tmp Tryz.results17 _ _ g1 46 (av 5 (hd (an secret) (px secret))) (0, 0) _ _ (by kernel_rfl) (by kernel_rfl) (M.get 0 rfl) Tryz.underlying46 rfl (by rw [av_size]; exact inz46)) (by kernel_rfl) ⟨by rw [if_pos h], below_grown M.old⟩
 ·skip
  refine rg_lit ?_
  refine pV 7 (.string secret) <| pV 8 (.int .i64 (secret.size : Int)) <| pH 9 (.bool true) (nU ((secret.size : Int) = 32) (by omega)) <| nT ?_
  refine cT ?_
  refine sR ?_
  refine pA M 10 0 5 (hd 0 ⟨#[]⟩) ?_
  refine pl_put M (want_no rfl) rfl 46 _ _ rfl 0 g1 0 (by kernel_rfl) 5 46 (hd 0 ⟨#[]⟩) rfl 5 (hd 0 ⟨#[]⟩) (hd 0 ⟨#[]⟩) (by kernel_rfl) inz46 (by decide) (hd_one _ _) (fun j hj => by rw [if_pos (by omega), Nat.sub_zero]) fun u8 M => ?_
  refine pV 3 (.int .i64 2) <| nT ?_
  refine wp_ret ?_
  refine au_then_ret ?_
  exact bodyPost_ret (v := .tuple #[.agg (av 5 (hd 0 ⟨#[]⟩)), .int .i64 2]) (results_cell_tmp Tryz.results17 _ _ g1 46 (av 5 (hd 0 ⟨#[]⟩)) (0, 0) _ _ (by kernel_rfl) (by kernel_rfl) (M.get 0 rfl) Tryz.underlying46 rfl (by rw [av_size]; exact inz46)) (by kernel_rfl) ⟨by rw [if_neg h], below_grown M.old⟩
theorem c_public (a : Int) (p : ByteArray) (ha : 0 ≤ a ∧ a < Ord.Lm) (w : World) (hL : Laid w)  :
  Cs 18 #[.agg (av 5 (hd a p))] w (.string (pb a)) := by
 go_enter Tryz.func18, Tryz.ntmps18
 have M := Mem.start hL
 refine sR ?_
 refine pN M 1 (.cells (av 5 (hd a p)) 46) fun g1 u1 M => ?_
 refine pV 2 (.string ⟨#[]⟩) <| nT ?_
 refine wp_seq ?_
 refine rg_tail M 5 (by kernel_rfl) (by kernel_rfl) ?_
 simp only [List.take_succ_cons, List.take_zero]
 refine kC M 3 25 #[] (.agg (av 20 (w64 base5.f))) (fun w M => z_base w) ?_
 refine kV 4 (.pointer (some ⟨g1, 0, none⟩)) ?_
 refine kL M 5 0 rfl 0 4 (w64 (Ord.d64 a)) (hd_part _ _) ?_
 refine kC M 6 26 #[.agg (av 20 (w64 base5.f)), .agg (av 4 (w64 (Ord.d64 a)))] (.agg (av 20 (w64 (mulV base5 a).f))) (fun w M => z_mul base_rep a w) ?_
 refine kC M 7 27 #[.agg (av 20 (w64 (mulV base5 a).f))] (.string (pb a)) (fun w M => z_bytes _ (base_rep.mul ha).ok w) ?_
 refine kl_nil fun u2 M => ?_
 refine pV 2 (.string (pb a)) <| nT ?_
 refine wp_ret ?_
 exact bodyPost_ret (v := .string (pb a)) (results_tmp1 Tryz.results18 _ _ _ (by kernel_rfl)) (by kernel_rfl) ⟨rfl, below_grown M.old⟩
theorem c_number (g n cap : Nat) (Ss : Nat → ByteArray) (w : World) (hL : Laid w) (hn : n ≤ 1000) (hS : ∀ j, j < n → w.cell? ⟨g, 0 + j, none⟩ = some (.string (Ss j))) :
  Cs 24 #[.slice (some ⟨g, 0, none⟩) n cap] w (.agg (av 4 (w64 (Ord.d64 (nm (jo Ss n)))))) := by
 go_enter Tryz.func24, Tryz.ntmps24
 have M := Mem.start hL
 refine sR ?_
 refine pN M 2 (.cells (av 4 (w64 (fun _ => 0))) 44) fun g1 u1 M => ?_
 refine nT <| sR ?_
 refine pl_calln M (want_no rfl) (some 8) rfl 54 #[] (fun g2 => .pointer (some ⟨g2, 0, none⟩)) (.cells (av 138 (hF true hs0.ws hs0.rs hs0.ct)) 125) (fun _ => by kernel_rfl) (fun w M => c_new w M.laid) fun g2 u2 M => ?_
 refine pV 3 (.pointer (some ⟨g2, 0, none⟩)) <| nT ?_
 refine wp_seq ?_
 refine sR <| pV 9 (.slice (some ⟨g, 0, none⟩) n cap) <| pV 10 (.int .i64 (n : Int)) <| pV 11 (.int .i64 0) ?_
 refine nT ?_
 refine wp_block ?_
 refine au_loop (fun j a w' => ∃ v1 : Nat → Value, a = ⟨#[.slice (some ⟨g, 0, none⟩) n cap, undef, .pointer (some ⟨g1, 0, none⟩), .pointer (some ⟨g2, 0, none⟩), undef, v1 5, undef, undef, .pointer (some ⟨g2, 0, none⟩), .slice (some ⟨g, 0, none⟩) n cap, .int .i64 (n : Int), .int .i64 (j : Int), v1 12, v1 13, v1 14, v1 15, v1 16, v1 17, v1 18, undef, undef, undef, undef, undef, undef, undef], []⟩ ∧ Mem ⟨w, []⟩ [⟨g1, .cells (av 4 (w64 (fun _ => 0))) 44⟩, ⟨g2, .cells (av 138 (hF true (tk hs0 (jo Ss j) (jo Ss j).size).ws (tk hs0 (jo Ss j) (jo Ss j).size).rs (tk hs0 (jo Ss j) (jo Ss j).size).ct)) 125⟩] w') n ⟨fun k_ => ([undef, undef, undef, undef, undef, undef, undef, undef, undef, undef, undef, undef, undef, undef] : List Value).getD (k_ - 5) undef, by kernel_rfl, M⟩ ?_ ?_
 ·intro j a u0 hj hI
  obtain ⟨v1, rfl, M⟩ := hI
  refine sR <| pH 12 (.bool true) (dT ((j : Int) < (n : Int)) (by omega)) <| nT ?_
  refine wp_seq ?_
  refine cT ?_
  refine wp_skip ?_
  refine au_then ?_
  refine wp_seq ?_
  refine wp_block ?_
  refine sR <| pH 13 (.pointer (some ⟨g, 0 + j, none⟩)) (run_ixL 80 9 Tryz.underlying80 inz9 _ _ rfl g 0 n cap (by kernel_rfl) .i64 j (by kernel_rfl) hj) ?_
  refine pE M 14 g (0 + j) (.string (Ss j)) (fun w M => M.oldc (hS j hj) (by simp)) ?_
  refine pV 5 (.string (Ss j)) <| nT ?_
  refine rg_lit ?_
  refine pV 15 (.pointer (some ⟨g2, 0, none⟩)) <| pV 16 (.string (Ss j)) ?_
  refine pl_callp M (want_no rfl) (some 17) rfl 55 #[.pointer (some ⟨g2, 0, none⟩), .string (Ss j)] (.int .i64 0) 1 g2 (.cells (av 138 (hF true (tk hs0 (jo Ss j) (jo Ss j).size).ws (tk hs0 (jo Ss j) (jo Ss j).size).rs (tk hs0 (jo Ss j) (jo Ss j).size).ct)) 125) (.cells (av 138 (hF true (tk (tk hs0 (jo Ss j) (jo Ss j).size) (Ss j) (Ss j).size).ws (tk (tk hs0 (jo Ss j) (jo Ss j).size) (Ss j) (Ss j).size).rs (tk (tk hs0 (jo Ss j) (jo Ss j).size) (Ss j) (Ss j).size).ct)) 125) rfl (fun _ => by kernel_rfl) (fun w M => c_add (tk hs0 (jo Ss j) (jo Ss j).size) (tk_ok hs0_ok _ _) g2 (Ss j) w M.laid (M.get 1 rfl) (M.ne0 1 rfl)) fun u3 M => ?_
  refine pl_nil ?_
  refine au_block ?_
  refine au_then ?_
  refine rg_lit ?_
  refine pH 18 (.int .i64 ((j + 1 : Nat) : Int)) (iV ((j : Int) + 1) (by omega) (by omega) (by omega)) <| pV 11 (.int .i64 ((j + 1 : Nat) : Int)) <| nT ?_
  rw [← tk_all hs0 (jo Ss j) (Ss j)] at M
  exact ⟨fun k_ => ([.string (Ss j), undef, undef, undef, undef, undef, undef, .bool true, .pointer (some ⟨g, 0 + j, none⟩), .string (Ss j), .pointer (some ⟨g2, 0, none⟩), .string (Ss j), .int .i64 0, .int .i64 ((j + 1 : Nat) : Int)] : List Value).getD (k_ - 5) undef, by kernel_rfl, M⟩
 ·intro a u0 hI
  obtain ⟨v1, rfl, M⟩ := hI
  refine sR <| pH 12 (.bool false) (dF ((n : Int) < (n : Int)) (by omega)) <| nT ?_
  refine wp_seq ?_
  refine cF ?_
  refine wp_exit ?_
  refine au_then_exit ?_
  refine au_then_exit ?_
  refine au_block_exit ?_
  refine au_then ?_
  refine sR <| pV 20 (.pointer (some ⟨g2, 0, none⟩)) ?_
  refine pC M 21 56 #[.pointer (some ⟨g2, 0, none⟩)] (.string (ofV (jo Ss n))) (fun w M => (by have h := c_sum (tk hs0 (jo Ss n) (jo Ss n).size) (tk_ok hs0_ok _ _) g2 w M.laid (M.get 1 rfl) (M.ne0 1 rfl); exact h)) fun u4 M => ?_
  refine pC M 22 37 #[.string (ofV (jo Ss n))] (.tuple #[.agg (av 4 (w64 (Ord.d64 (nm (jo Ss n))))), .int .i64 (YtmhfmhmpoobmlaaGreatDoor.ofC (ofV (jo Ss n)))]) (fun w M => z_of _ w) fun u5 M => ?_
  refine pV 19 (.tuple #[.agg (av 4 (w64 (Ord.d64 (nm (jo Ss n))))), .int .i64 (YtmhfmhmpoobmlaaGreatDoor.ofC (ofV (jo Ss n)))]) <| pV 23 (.agg (av 4 (w64 (Ord.d64 (nm (jo Ss n)))))) <| pV 24 (.int .i64 (YtmhfmhmpoobmlaaGreatDoor.ofC (ofV (jo Ss n)))) ?_
  refine pN M 6 (.cells (av 4 (w64 (fun _ => 0))) 44) fun g3 u6 M => ?_
  refine pl_put M (want_no rfl) rfl 44 _ _ rfl 2 g3 0 (by kernel_rfl) 4 44 (w64 (fun _ => 0)) rfl 4 (w64 (Ord.d64 (nm (jo Ss n)))) (w64 (Ord.d64 (nm (jo Ss n)))) (by kernel_rfl) inz44 (by decide) (fun _ _ => rfl) (fun j hj => by rw [if_pos (by omega), Nat.sub_zero]) fun u7 M => ?_
  refine pV 7 (.int .i64 (YtmhfmhmpoobmlaaGreatDoor.ofC (ofV (jo Ss n)))) <| nT <| sR ?_
  refine pA M 25 2 4 (w64 (Ord.d64 (nm (jo Ss n)))) ?_
  refine pl_put M (want_no rfl) rfl 44 _ _ rfl 0 g1 0 (by kernel_rfl) 4 44 (w64 (fun _ => 0)) rfl 4 (w64 (Ord.d64 (nm (jo Ss n)))) (w64 (Ord.d64 (nm (jo Ss n)))) (by kernel_rfl) inz44 (by decide) (fun _ _ => rfl) (fun j hj => by rw [if_pos (by omega), Nat.sub_zero]) fun u8 M => ?_
  refine nT ?_
  refine wp_ret ?_
  exact bodyPost_ret (v := .agg (av 4 (w64 (Ord.d64 (nm (jo Ss n)))))) (results_cell_row Tryz.results24 _ _ g1 44 (av 4 (w64 (Ord.d64 (nm (jo Ss n))))) (0, 0) _ (by kernel_rfl) (M.get 0 rfl) Tryz.underlying44 rfl (by rw [av_size]; exact inz44)) (by kernel_rfl) ⟨rfl, below_grown M.old⟩
def s3 (a b c : ByteArray) : Nat → ByteArray := fun i => if i = 0 then a else if i = 1 then b else c
def t3 (a b c : ByteArray) : Nat → Value := fun i => if i = 0 then .string a else if i = 1 then .string b else .string c
theorem t3_s (a b c : ByteArray) (i : Nat) : t3 a b c i = .string (s3 a b c i) := by
 unfold t3 s3
 split
 ·rfl
 ·split <;> rfl
theorem jo2 (a b c : ByteArray) : jo (s3 a b c) 2 = a ++ b := by
 show (⟨#[]⟩ ++ a) ++ b = a ++ b
 rw [e_app]
theorem jo3 (a b c : ByteArray) : jo (s3 a b c) 3 = a ++ b ++ c := by
 show ((⟨#[]⟩ ++ a) ++ b) ++ c = a ++ b ++ c
 rw [e_app]
def rn (k s : ByteArray) : Int := nm (px k ++ s)
theorem rn_bd (k s : ByteArray) : 0 ≤ rn k s ∧ rn k s < Ord.Lm := nm_bd _
def kn (R A s : ByteArray) : Int := nm (R ++ A ++ s)
theorem kn_bd (R A s : ByteArray) : 0 ≤ kn R A s ∧ kn R A s < Ord.Lm := nm_bd _
def xn (k s : ByteArray) : Int := (rn k s + kn (pb (rn k s)) (pb (an k)) s * an k % Ord.Lm) % Ord.Lm
def sg (k s : ByteArray) : ByteArray := pb (rn k s) ++ Ord.lebytes (xn k s)
theorem lmod (x : Int) : 0 ≤ x % Ord.Lm ∧ x % Ord.Lm < Ord.Lm := Ord.lmod x
def vfy (p s x : ByteArray) : Bool :=
 if x.size = 64 ∧ decC p = 0 ∧ smallV (decP p) = false ∧ decC (x.extract 0 32) = 0 ∧ Ord.bv (x.extract 32 x.size) 32 < Ord.Lm then sameV (mulV base5 (YtmhfmhmpoobmlaaGreatDoor.ofV (x.extract 32 x.size))) (addV (decP (x.extract 0 32)) (mulV (decP p) (kn (x.extract 0 32) p s))) else false
theorem xl (x : ByteArray) (h : x.size = 64) : (x.extract 32 x.size).size = 32 := by
 rw [ByteArray.size_extract]
 omega
theorem pb_size (a : Int) (ha : 0 ≤ a ∧ a < Ord.Lm) : (pb a).size = 32 := by
 unfold pb
 rw [(base_rep.mul ha).bytes]
 unfold ptS encS
 rw [YtmhfmhmpoobmlaaGreatDoor.bs_size]
 simp
theorem c_Public (secret : ByteArray) (w : World) (hL : Laid w)  :
  Cs 8 #[.string secret] w (if secret.size = 32 then .tuple #[.string (pb (an secret)), .int .i64 0] else .tuple #[.string ⟨#[]⟩, .int .i64 2]) := by
 go_enter Tryz.func8, Tryz.ntmps8
 have M := Mem.start hL
 refine wp_seq ?_
 by_cases h : secret.size = 32
 ·skip
  refine rg_lit ?_
  refine pV 2 (.string ⟨#[]⟩) <| pV 3 (.int .i64 0) <| nT <| sR ?_
  refine pV 7 (.string secret) ?_
  refine pC M 8 17 #[.string secret] (.tuple #[.agg (av 5 (hd (an secret) (px secret))), .int .i64 0]) (fun w M => (by have e := c_held secret w M.laid; rw [if_pos h] at e; exact e)) fun u1 M => ?_
  refine pV 6 (.tuple #[.agg (av 5 (hd (an secret) (px secret))), .int .i64 0]) <| pV 9 (.agg (av 5 (hd (an secret) (px secret)))) <| pV 10 (.int .i64 0) ?_
  refine pN M 4 (.cells (av 5 (hd 0 ⟨#[]⟩)) 46) fun g1 u2 M => ?_
  refine pl_put M (want_no rfl) rfl 46 _ _ rfl 0 g1 0 (by kernel_rfl) 5 46 (hd 0 ⟨#[]⟩) rfl 5 (hd (an secret) (px secret)) (hd (an secret) (px secret)) (by kernel_rfl) inz46 (by decide) (hd_one _ _) (fun j hj => by rw [if_pos (by omega), Nat.sub_zero]) fun u3 M => ?_
  refine pV 5 (.int .i64 0) <| nT ?_
  refine wp_seq ?_
  refine sR <| pV 11 (.int .i64 0) <| pV 12 (.bool false) <| nT ?_
  refine cF ?_
  refine wp_skip ?_
  refine au_then ?_
  refine sR ?_
  refine pA M 14 0 5 (hd (an secret) (px secret)) ?_
  refine pC M 15 18 #[.agg (av 5 (hd (an secret) (px secret)))] (.string (pb (an secret))) (fun w M => c_public _ _ (an_bd secret) w M.laid) fun u4 M => ?_
  refine pV 2 (.string (pb (an secret))) <| pV 3 (.int .i64 0) <| nT ?_
  refine wp_ret ?_
  exact bodyPost_ret (v := .tuple #[.string (pb (an secret)), .int .i64 0]) (results_tmp2 Tryz.results8 _ _ _ _ (by kernel_rfl) (by kernel_rfl)) (by kernel_rfl) ⟨by rw [if_pos h], below_grown M.old⟩
 ·skip
  refine rg_lit ?_
  refine pV 2 (.string ⟨#[]⟩) <| pV 3 (.int .i64 0) <| nT <| sR ?_
  refine pV 7 (.string secret) ?_
  refine pC M 8 17 #[.string secret] (.tuple #[.agg (av 5 (hd 0 ⟨#[]⟩)), .int .i64 2]) (fun w M => (by have e := c_held secret w M.laid; rw [if_neg h] at e; exact e)) fun u5 M => ?_
  refine pV 6 (.tuple #[.agg (av 5 (hd 0 ⟨#[]⟩)), .int .i64 2]) <| pV 9 (.agg (av 5 (hd 0 ⟨#[]⟩))) <| pV 10 (.int .i64 2) ?_
  refine pN M 4 (.cells (av 5 (hd 0 ⟨#[]⟩)) 46) fun g2 u6 M => ?_
  refine pl_put M (want_no rfl) rfl 46 _ _ rfl 0 g2 0 (by kernel_rfl) 5 46 (hd 0 ⟨#[]⟩) rfl 5 (hd 0 ⟨#[]⟩) (hd 0 ⟨#[]⟩) (by kernel_rfl) inz46 (by decide) (hd_one _ _) (fun j hj => by rw [if_pos (by omega), Nat.sub_zero]) fun u7 M => ?_
  refine pV 5 (.int .i64 2) <| nT ?_
  refine wp_seq ?_
  refine sR <| pV 11 (.int .i64 2) <| pV 12 (.bool true) <| nT ?_
  refine cT ?_
  refine sR <| pV 13 (.int .i64 2) <| pV 2 (.string ⟨#[]⟩) <| pV 3 (.int .i64 2) ?_
  refine nT ?_
  refine wp_ret ?_
  refine au_then_ret ?_
  exact bodyPost_ret (v := .tuple #[.string ⟨#[]⟩, .int .i64 2]) (results_tmp2 Tryz.results8 _ _ _ _ (by kernel_rfl) (by kernel_rfl)) (by kernel_rfl) ⟨by rw [if_neg h], below_grown M.old⟩
theorem c_Sign (secret s : ByteArray) (w : World) (hL : Laid w)  :
  Cs 10 #[.string secret, .string s] w (if secret.size = 32 then .tuple #[.string (sg secret s), .int .i64 0] else .tuple #[.string ⟨#[]⟩, .int .i64 2]) := by
 go_enter Tryz.func10, Tryz.ntmps10
 have M := Mem.start hL
 refine wp_seq ?_
 by_cases h : secret.size = 32
 ·skip
  refine rg_lit ?_
  refine pV 4 (.string ⟨#[]⟩) <| pV 5 (.int .i64 0) <| nT <| sR ?_
  refine pV 12 (.string secret) ?_
  refine pC M 13 17 #[.string secret] (.tuple #[.agg (av 5 (hd (an secret) (px secret))), .int .i64 0]) (fun w M => (by have e := c_held secret w M.laid; rw [if_pos h] at e; exact e)) fun u1 M => ?_
  refine pV 11 (.tuple #[.agg (av 5 (hd (an secret) (px secret))), .int .i64 0]) <| pV 14 (.agg (av 5 (hd (an secret) (px secret)))) <| pV 15 (.int .i64 0) ?_
  refine pN M 6 (.cells (av 5 (hd 0 ⟨#[]⟩)) 46) fun g1 u2 M => ?_
  refine pl_put M (want_no rfl) rfl 46 _ _ rfl 0 g1 0 (by kernel_rfl) 5 46 (hd 0 ⟨#[]⟩) rfl 5 (hd (an secret) (px secret)) (hd (an secret) (px secret)) (by kernel_rfl) inz46 (by decide) (hd_one _ _) (fun j hj => by rw [if_pos (by omega), Nat.sub_zero]) fun u3 M => ?_
  refine pV 7 (.int .i64 0) <| nT ?_
  refine wp_seq ?_
  refine sR <| pV 16 (.int .i64 0) <| pV 17 (.bool false) <| nT ?_
  refine cF ?_
  refine wp_skip ?_
  refine au_then ?_
  refine sR <| pV 19 (.pointer (some ⟨g1, 4, none⟩)) ?_
  refine pE M 20 g1 4 (.string (px secret)) (fun w M => M.cell 0 rfl (by decide) (hd_4 _ _)) ?_
  refine pV 21 (.string s) ?_
  refine pl_mk M (want_no rfl) (some 22) rfl (fun g2 => .slice (some ⟨g2, 0, none⟩) 2 2) (.cells (av 2 (t3 (px secret) s ⟨#[]⟩)) 9) (fun _ => by kernel_rfl) fun g2 u4 M => ?_
  refine pC M 23 24 #[.slice (some ⟨g2, 0, none⟩) 2 2] (.agg (av 4 (w64 (Ord.d64 (rn secret s))))) (fun w M => (by have e := c_number g2 2 2 (s3 (px secret) s ⟨#[]⟩) w M.laid (by decide) (fun j hj => by rw [Nat.zero_add, ← t3_s]; exact cell_av (M.get 1 rfl) hj); rw [jo2] at e; exact e)) fun u5 M => ?_
  refine pN M 8 (.cells (av 4 (w64 (fun _ => 0))) 44) fun g3 u6 M => ?_
  refine pl_put M (want_no rfl) rfl 44 _ _ rfl 2 g3 0 (by kernel_rfl) 4 44 (w64 (fun _ => 0)) rfl 4 (w64 (Ord.d64 (rn secret s))) (w64 (Ord.d64 (rn secret s))) (by kernel_rfl) inz44 (by decide) (fun _ _ => rfl) (fun j hj => by rw [if_pos (by omega), Nat.sub_zero]) fun u7 M => ?_
  refine nT ?_
  refine wp_seq ?_
  refine rg_tail M 4 (by kernel_rfl) (by kernel_rfl) ?_
  simp only [List.take_succ_cons, List.take_zero]
  refine kC M 24 25 #[] (.agg (av 20 (w64 base5.f))) (fun w M => z_base w) ?_
  refine kA M 25 2 4 (w64 (Ord.d64 (rn secret s))) ?_
  refine kC M 26 26 #[.agg (av 20 (w64 base5.f)), .agg (av 4 (w64 (Ord.d64 (rn secret s))))] (.agg (av 20 (w64 (mulV base5 (rn secret s)).f))) (fun w M => z_mul base_rep (rn secret s) w) ?_
  refine kC M 27 27 #[.agg (av 20 (w64 (mulV base5 (rn secret s)).f))] (.string (pb (rn secret s))) (fun w M => z_bytes _ (base_rep.mul (rn_bd _ _)).ok w) ?_
  refine kl_nil fun u8 M => ?_
  refine pV 9 (.string (pb (rn secret s))) <| nT <| sR <| pV 28 (.string (pb (rn secret s))) ?_
  refine pA M 29 0 5 (hd (an secret) (px secret)) ?_
  refine pC M 30 18 #[.agg (av 5 (hd (an secret) (px secret)))] (.string (pb (an secret))) (fun w M => c_public _ _ (an_bd secret) w M.laid) fun u9 M => ?_
  refine pV 31 (.string s) ?_
  refine pl_mk M (want_no rfl) (some 32) rfl (fun g4 => .slice (some ⟨g4, 0, none⟩) 3 3) (.cells (av 3 (t3 (pb (rn secret s)) (pb (an secret)) s)) 9) (fun _ => by kernel_rfl) fun g4 u10 M => ?_
  refine pC M 33 24 #[.slice (some ⟨g4, 0, none⟩) 3 3] (.agg (av 4 (w64 (Ord.d64 (kn (pb (rn secret s)) (pb (an secret)) s))))) (fun w M => (by have e := c_number g4 3 3 (s3 (pb (rn secret s)) (pb (an secret)) s) w M.laid (by decide) (fun j hj => by rw [Nat.zero_add, ← t3_s]; exact cell_av (M.get 3 rfl) hj); rw [jo3] at e; exact e)) fun u11 M => ?_
  refine pN M 10 (.cells (av 4 (w64 (fun _ => 0))) 44) fun g5 u12 M => ?_
  refine pl_put M (want_no rfl) rfl 44 _ _ rfl 4 g5 0 (by kernel_rfl) 4 44 (w64 (fun _ => 0)) rfl 4 (w64 (Ord.d64 (kn (pb (rn secret s)) (pb (an secret)) s))) (w64 (Ord.d64 (kn (pb (rn secret s)) (pb (an secret)) s))) (by kernel_rfl) inz44 (by decide) (fun _ _ => rfl) (fun j hj => by rw [if_pos (by omega), Nat.sub_zero]) fun u13 M => ?_
  refine nT ?_
  refine wp_seq ?_
  refine rg_tail M 10 (by kernel_rfl) (by kernel_rfl) ?_
  simp only [List.take_succ_cons, List.take_zero]
  refine kV 34 (.string (pb (rn secret s))) ?_
  refine kA M 35 2 4 (w64 (Ord.d64 (rn secret s))) ?_
  refine kA M 36 4 4 (w64 (Ord.d64 (kn (pb (rn secret s)) (pb (an secret)) s))) ?_
  refine kV 37 (.pointer (some ⟨g1, 0, none⟩)) ?_
  refine kL M 38 0 rfl 0 4 (w64 (Ord.d64 (an secret))) (hd_part _ _) ?_
  refine kC M 39 29 #[.agg (av 4 (w64 (Ord.d64 (kn (pb (rn secret s)) (pb (an secret)) s)))), .agg (av 4 (w64 (Ord.d64 (an secret))))] (.agg (av 4 (w64 (Ord.d64 ((kn (pb (rn secret s)) (pb (an secret)) s) * an secret % Ord.Lm))))) (fun w M => Ord.mul_any _ _ w (kn_bd _ _ _) (an_bd secret)) ?_
  refine kC M 40 28 #[.agg (av 4 (w64 (Ord.d64 (rn secret s)))), .agg (av 4 (w64 (Ord.d64 ((kn (pb (rn secret s)) (pb (an secret)) s) * an secret % Ord.Lm))))] (.agg (av 4 (w64 (Ord.d64 (xn secret s))))) (fun w M => Ord.add_any _ _ w (rn_bd _ _) (lmod _)) ?_
  refine kC M 41 30 #[.agg (av 4 (w64 (Ord.d64 (xn secret s))))] (.string (Ord.lebytes (xn secret s))) (fun w M => Ord.bytes_any _ w) ?_
  refine kH 42 (.string (sg secret s)) (run_cat 9 9 _ _ rfl (pb (rn secret s)) (Ord.lebytes (xn secret s)) (by kernel_rfl) (by kernel_rfl) (by rw [pb_size _ (rn_bd _ _), Ord.leb_size]; decide)) <| kV 4 (.string (sg secret s)) ?_
  refine kl_nil fun u14 M => ?_
  refine pV 5 (.int .i64 0) <| nT ?_
  refine wp_ret ?_
  exact bodyPost_ret (v := .tuple #[.string (sg secret s), .int .i64 0]) (results_tmp2 Tryz.results10 _ _ _ _ (by kernel_rfl) (by kernel_rfl)) (by kernel_rfl) ⟨by rw [if_pos h], below_grown M.old⟩
 ·skip
  refine rg_lit ?_
  refine pV 4 (.string ⟨#[]⟩) <| pV 5 (.int .i64 0) <| nT <| sR ?_
  refine pV 12 (.string secret) ?_
  refine pC M 13 17 #[.string secret] (.tuple #[.agg (av 5 (hd 0 ⟨#[]⟩)), .int .i64 2]) (fun w M => (by have e := c_held secret w M.laid; rw [if_neg h] at e; exact e)) fun u15 M => ?_
  refine pV 11 (.tuple #[.agg (av 5 (hd 0 ⟨#[]⟩)), .int .i64 2]) <| pV 14 (.agg (av 5 (hd 0 ⟨#[]⟩))) <| pV 15 (.int .i64 2) ?_
  refine pN M 6 (.cells (av 5 (hd 0 ⟨#[]⟩)) 46) fun g6 u16 M => ?_
  refine pl_put M (want_no rfl) rfl 46 _ _ rfl 0 g6 0 (by kernel_rfl) 5 46 (hd 0 ⟨#[]⟩) rfl 5 (hd 0 ⟨#[]⟩) (hd 0 ⟨#[]⟩) (by kernel_rfl) inz46 (by decide) (hd_one _ _) (fun j hj => by rw [if_pos (by omega), Nat.sub_zero]) fun u17 M => ?_
  refine pV 7 (.int .i64 2) <| nT ?_
  refine wp_seq ?_
  refine sR <| pV 16 (.int .i64 2) <| pV 17 (.bool true) <| nT ?_
  refine cT ?_
  refine sR <| pV 18 (.int .i64 2) <| pV 4 (.string ⟨#[]⟩) <| pV 5 (.int .i64 2) ?_
  refine nT ?_
  refine wp_ret ?_
  refine au_then_ret ?_
  exact bodyPost_ret (v := .tuple #[.string ⟨#[]⟩, .int .i64 2]) (results_tmp2 Tryz.results10 _ _ _ _ (by kernel_rfl) (by kernel_rfl)) (by kernel_rfl) ⟨by rw [if_neg h], below_grown M.old⟩
theorem c_Verify (p s x : ByteArray) (w : World) (hL : Laid w)  :
  Cs 12 #[.string p, .string s, .string x] w (.bool (vfy p s x)) := by
 go_enter Tryz.func12, Tryz.ntmps12
 have M := Mem.start hL
 refine sR <| pV 6 (.bool false) <| nT ?_
 refine wp_seq ?_
 refine wp_seq ?_
 by_cases h0 : x.size = 64
 ·skip
  refine rg_lit ?_
  refine pV 15 (.string x) <| pV 16 (.int .i64 (x.size : Int)) <| pH 17 (.bool false) (nF ((x.size : Int) = 64) (by omega)) <| nT ?_
  refine cF ?_
  refine wp_skip ?_
  refine au_then ?_
  refine wp_seq ?_
  refine rg_tail M 5 (by kernel_rfl) (by kernel_rfl) ?_
  simp only [List.take_succ_cons, List.take_zero]
  refine kV 18 (.string x) <| kH 19 (.string (x.extract 0 32)) (run_strh 9 Tryz.underlying9 _ _ rfl x (by kernel_rfl) .i64 32 (by kernel_rfl) (by omega) _ rfl) <| kV 20 (.string x) <| kH 21 (.string (x.extract 32 x.size)) (run_strl 9 Tryz.underlying9 _ _ rfl x (by kernel_rfl) .i64 32 (by kernel_rfl) (by omega) _ rfl) ?_
  refine kV 7 (.string (x.extract 0 32)) ?_
  refine kl_nil fun u1 M => ?_
  refine pV 8 (.string (x.extract 32 x.size)) <| nT ?_
  refine wp_seq ?_
  by_cases hp : decC p = 0
  ·skip
   refine rg_lit ?_
   refine pV 23 (.string p) ?_
   refine pC M 24 34 #[.string p] (.tuple #[.agg (av 20 (w64 (decP p).f)), .int .i64 (decC p)]) (fun w M => z_dec p w) fun u2 M => ?_
   refine pV 22 (.tuple #[.agg (av 20 (w64 (decP p).f)), .int .i64 (decC p)]) <| pV 25 (.agg (av 20 (w64 (decP p).f))) <| pV 26 (.int .i64 (decC p)) ?_
   refine pN M 9 (.cells (av 20 (w64 (fun _ => 0))) 60) fun g1 u3 M => ?_
   refine pl_put M (want_no rfl) rfl 60 _ _ rfl 0 g1 0 (by kernel_rfl) 20 60 (w64 (fun _ => 0)) rfl 20 (w64 (decP p).f) (w64 (decP p).f) (by kernel_rfl) inz60 (by decide) (fun _ _ => rfl) (fun j hj => by rw [if_pos (by omega), Nat.sub_zero]) fun u4 M => ?_
   refine pV 10 (.int .i64 (decC p)) <| nT ?_
   refine wp_seq ?_
   refine wp_seq ?_
   by_cases hs : smallV (decP p) = false
   ·skip
    refine rg_lit ?_
    refine pV 27 (.int .i64 (decC p)) <| pH 28 (.bool false) (nF (decC p = 0) (hp)) <| pV 29 (.bool false) ?_
    refine pl_load M (want_on 2 false rfl 29 rfl (by kernel_rfl)) (some 30) rfl 60 _ rfl 0 g1 0 (by kernel_rfl) 20 60 (w64 (decP p).f) rfl 20 (w64 (decP p).f) (fun j _ => by rw [Nat.zero_add]) (by decide) _ Tryz.underlying60 rfl inz60 ?_
    refine pl_call M (want_on 2 false rfl 29 rfl (by kernel_rfl)) (some 31) rfl 35 #[.agg (av 20 (w64 (decP p).f))] (.bool false) (fun _ => by kernel_rfl) (fun w M => (by have e := z_small _ (dec_both hp).1.ok w; rw [hs] at e; exact e)) fun u5 M => ?_
    refine pV 32 (.bool false) <| nT ?_
    refine cF ?_
    refine wp_skip ?_
    refine au_then ?_
    refine wp_seq ?_
    by_cases hf : decC (x.extract 0 32) = 0
    ·skip
     refine rg_lit ?_
     refine pV 34 (.string (x.extract 0 32)) ?_
     refine pC M 35 34 #[.string (x.extract 0 32)] (.tuple #[.agg (av 20 (w64 (decP (x.extract 0 32)).f)), .int .i64 (decC (x.extract 0 32))]) (fun w M => z_dec (x.extract 0 32) w) fun u6 M => ?_
     refine pV 33 (.tuple #[.agg (av 20 (w64 (decP (x.extract 0 32)).f)), .int .i64 (decC (x.extract 0 32))]) <| pV 36 (.agg (av 20 (w64 (decP (x.extract 0 32)).f))) <| pV 37 (.int .i64 (decC (x.extract 0 32))) ?_
     refine pN M 11 (.cells (av 20 (w64 (fun _ => 0))) 60) fun g2 u7 M => ?_
     refine pl_put M (want_no rfl) rfl 60 _ _ rfl 1 g2 0 (by kernel_rfl) 20 60 (w64 (fun _ => 0)) rfl 20 (w64 (decP (x.extract 0 32)).f) (w64 (decP (x.extract 0 32)).f) (by kernel_rfl) inz60 (by decide) (fun _ _ => rfl) (fun j hj => by rw [if_pos (by omega), Nat.sub_zero]) fun u8 M => ?_
     refine pV 10 (.int .i64 (decC (x.extract 0 32))) <| nT ?_
     refine wp_seq ?_
     refine wp_seq ?_
     by_cases hc : Ord.bv (x.extract 32 x.size) 32 < Ord.Lm
     ·skip
      refine rg_lit ?_
      refine pV 38 (.int .i64 (decC (x.extract 0 32))) <| pH 39 (.bool false) (nF (decC (x.extract 0 32) = 0) (hf)) <| pV 40 (.bool false) ?_
      refine pl_val (want_on 2 false rfl 40 rfl (by kernel_rfl)) (some 41) rfl (.string (x.extract 32 x.size)) (fun _ => by kernel_rfl) ?_
      refine pl_call M (want_on 2 false rfl 40 rfl (by kernel_rfl)) (some 42) rfl 36 #[.string (x.extract 32 x.size)] (.bool true) (fun _ => by kernel_rfl) (fun w M => (by have e := Ord.canon_yes (x.extract 32 x.size) w (xl x h0); rw [decide_eq_true hc] at e; exact e)) fun u9 M => ?_
      refine pl_val (want_on 2 false rfl 40 rfl (by kernel_rfl)) (some 43) rfl (.bool false) (fun _ => by kernel_rfl) ?_
      refine pV 44 (.bool false) <| nT ?_
      refine cF ?_
      refine wp_skip ?_
      refine au_then ?_
      refine sR <| pV 46 (.string (x.extract 32 x.size)) ?_
      refine pC M 47 37 #[.string (x.extract 32 x.size)] (.tuple #[.agg (av 4 (w64 (Ord.d64 (YtmhfmhmpoobmlaaGreatDoor.ofV (x.extract 32 x.size))))), .int .i64 (YtmhfmhmpoobmlaaGreatDoor.ofC (x.extract 32 x.size))]) (fun w M => z_of (x.extract 32 x.size) w) fun u10 M => ?_
      refine pV 45 (.tuple #[.agg (av 4 (w64 (Ord.d64 (YtmhfmhmpoobmlaaGreatDoor.ofV (x.extract 32 x.size))))), .int .i64 (YtmhfmhmpoobmlaaGreatDoor.ofC (x.extract 32 x.size))]) <| pV 48 (.agg (av 4 (w64 (Ord.d64 (YtmhfmhmpoobmlaaGreatDoor.ofV (x.extract 32 x.size)))))) <| pV 49 (.int .i64 (YtmhfmhmpoobmlaaGreatDoor.ofC (x.extract 32 x.size))) ?_
      refine pN M 12 (.cells (av 4 (w64 (fun _ => 0))) 44) fun g3 u11 M => ?_
      refine pl_put M (want_no rfl) rfl 44 _ _ rfl 2 g3 0 (by kernel_rfl) 4 44 (w64 (fun _ => 0)) rfl 4 (w64 (Ord.d64 (YtmhfmhmpoobmlaaGreatDoor.ofV (x.extract 32 x.size)))) (w64 (Ord.d64 (YtmhfmhmpoobmlaaGreatDoor.ofV (x.extract 32 x.size)))) (by kernel_rfl) inz44 (by decide) (fun _ _ => rfl) (fun j hj => by rw [if_pos (by omega), Nat.sub_zero]) fun u12 M => ?_
      refine pV 13 (.int .i64 (YtmhfmhmpoobmlaaGreatDoor.ofC (x.extract 32 x.size))) <| nT <| sR <| pV 50 (.string (x.extract 0 32)) ?_
      refine pV 51 (.string p) <| pV 52 (.string s) ?_
      refine pl_mk M (want_no rfl) (some 53) rfl (fun g4 => .slice (some ⟨g4, 0, none⟩) 3 3) (.cells (av 3 (t3 (x.extract 0 32) p s)) 9) (fun _ => by kernel_rfl) fun g4 u13 M => ?_
      refine pC M 54 24 #[.slice (some ⟨g4, 0, none⟩) 3 3] (.agg (av 4 (w64 (Ord.d64 (kn (x.extract 0 32) p s))))) (fun w M => (by have e := c_number g4 3 3 (s3 (x.extract 0 32) p s) w M.laid (by decide) (fun j hj => by rw [Nat.zero_add, ← t3_s]; exact cell_av (M.get 3 rfl) hj); rw [jo3] at e; exact e)) fun u14 M => ?_
      refine pN M 14 (.cells (av 4 (w64 (fun _ => 0))) 44) fun g5 u15 M => ?_
      refine pl_put M (want_no rfl) rfl 44 _ _ rfl 4 g5 0 (by kernel_rfl) 4 44 (w64 (fun _ => 0)) rfl 4 (w64 (Ord.d64 (kn (x.extract 0 32) p s))) (w64 (Ord.d64 (kn (x.extract 0 32) p s))) (by kernel_rfl) inz44 (by decide) (fun _ _ => rfl) (fun j hj => by rw [if_pos (by omega), Nat.sub_zero]) fun u16 M => ?_
      refine nT ?_
      refine wp_seq ?_
      refine rg_tail M 9 (by kernel_rfl) (by kernel_rfl) ?_
      simp only [List.take_succ_cons, List.take_zero]
      refine kC M 55 25 #[] (.agg (av 20 (w64 base5.f))) (fun w M => z_base w) ?_
      refine kA M 56 2 4 (w64 (Ord.d64 (YtmhfmhmpoobmlaaGreatDoor.ofV (x.extract 32 x.size)))) ?_
      refine kC M 57 26 #[.agg (av 20 (w64 base5.f)), .agg (av 4 (w64 (Ord.d64 (YtmhfmhmpoobmlaaGreatDoor.ofV (x.extract 32 x.size)))))] (.agg (av 20 (w64 (mulV base5 (YtmhfmhmpoobmlaaGreatDoor.ofV (x.extract 32 x.size))).f))) (fun w M => z_mul base_rep (YtmhfmhmpoobmlaaGreatDoor.ofV (x.extract 32 x.size)) w) ?_
      refine kA M 58 1 20 (w64 (decP (x.extract 0 32)).f) ?_
      refine kA M 59 0 20 (w64 (decP p).f) ?_
      refine kA M 60 4 4 (w64 (Ord.d64 (kn (x.extract 0 32) p s))) ?_
      refine kC M 61 26 #[.agg (av 20 (w64 (decP p).f)), .agg (av 4 (w64 (Ord.d64 (kn (x.extract 0 32) p s))))] (.agg (av 20 (w64 (mulV (decP p) (kn (x.extract 0 32) p s)).f))) (fun w M => z_mul (dec_both hp).1 (kn (x.extract 0 32) p s) w) ?_
      refine kC M 62 39 #[.agg (av 20 (w64 (decP (x.extract 0 32)).f)), .agg (av 20 (w64 (mulV (decP p) (kn (x.extract 0 32) p s)).f))] (.agg (av 20 (w64 (addV (decP (x.extract 0 32)) (mulV (decP p) (kn (x.extract 0 32) p s))).f))) (fun w M => z_add _ _ (dec_both hf).1.ok ((dec_both hp).1.mul (kn_bd _ _ _)).ok w) ?_
      refine kC M 63 38 #[.agg (av 20 (w64 (mulV base5 (YtmhfmhmpoobmlaaGreatDoor.ofV (x.extract 32 x.size))).f)), .agg (av 20 (w64 (addV (decP (x.extract 0 32)) (mulV (decP p) (kn (x.extract 0 32) p s))).f))] (.bool (sameV (mulV base5 (YtmhfmhmpoobmlaaGreatDoor.ofV (x.extract 32 x.size))) (addV (decP (x.extract 0 32)) (mulV (decP p) (kn (x.extract 0 32) p s))))) (fun w M => z_same _ _ (base_rep.mul (ofV_bd _)).ok ((dec_both hf).1.add ((dec_both hp).1.mul (kn_bd _ _ _))).ok w) ?_
      refine kl_nil fun u17 M => ?_
      refine pV 6 (.bool (sameV (mulV base5 (YtmhfmhmpoobmlaaGreatDoor.ofV (x.extract 32 x.size))) (addV (decP (x.extract 0 32)) (mulV (decP p) (kn (x.extract 0 32) p s))))) <| nT ?_
      refine wp_ret ?_
      exact bodyPost_ret (v := .bool (sameV (mulV base5 (YtmhfmhmpoobmlaaGreatDoor.ofV (x.extract 32 x.size))) (addV (decP (x.extract 0 32)) (mulV (decP p) (kn (x.extract 0 32) p s))))) (results_tmp1 Tryz.results12 _ _ _ (by kernel_rfl)) (by kernel_rfl) ⟨by rw [vfy, if_pos ⟨h0, hp, hs, hf, hc⟩], below_grown M.old⟩
     ·skip
      refine rg_lit ?_
      refine pV 38 (.int .i64 (decC (x.extract 0 32))) <| pH 39 (.bool false) (nF (decC (x.extract 0 32) = 0) (hf)) <| pV 40 (.bool false) ?_
      refine pl_val (want_on 2 false rfl 40 rfl (by kernel_rfl)) (some 41) rfl (.string (x.extract 32 x.size)) (fun _ => by kernel_rfl) ?_
      refine pl_call M (want_on 2 false rfl 40 rfl (by kernel_rfl)) (some 42) rfl 36 #[.string (x.extract 32 x.size)] (.bool false) (fun _ => by kernel_rfl) (fun w M => (by have e := Ord.canon_yes (x.extract 32 x.size) w (xl x h0); rw [decide_eq_false hc] at e; exact e)) fun u18 M => ?_
      refine pl_val (want_on 2 false rfl 40 rfl (by kernel_rfl)) (some 43) rfl (.bool true) (fun _ => by kernel_rfl) ?_
      refine pV 44 (.bool true) <| nT ?_
      refine cT ?_
      refine sR <| pV 6 (.bool false) <| nT ?_
      refine wp_ret ?_
      refine au_then_ret ?_
      exact bodyPost_ret (v := .bool false) (results_tmp1 Tryz.results12 _ _ _ (by kernel_rfl)) (by kernel_rfl) ⟨by rw [vfy, if_neg (fun c => hc c.2.2.2.2)], below_grown M.old⟩
    ·skip
     refine rg_lit ?_
     refine pV 34 (.string (x.extract 0 32)) ?_
     refine pC M 35 34 #[.string (x.extract 0 32)] (.tuple #[.agg (av 20 (w64 (decP (x.extract 0 32)).f)), .int .i64 (decC (x.extract 0 32))]) (fun w M => z_dec (x.extract 0 32) w) fun u19 M => ?_
     refine pV 33 (.tuple #[.agg (av 20 (w64 (decP (x.extract 0 32)).f)), .int .i64 (decC (x.extract 0 32))]) <| pV 36 (.agg (av 20 (w64 (decP (x.extract 0 32)).f))) <| pV 37 (.int .i64 (decC (x.extract 0 32))) ?_
     refine pN M 11 (.cells (av 20 (w64 (fun _ => 0))) 60) fun g6 u20 M => ?_
     refine pl_put M (want_no rfl) rfl 60 _ _ rfl 1 g6 0 (by kernel_rfl) 20 60 (w64 (fun _ => 0)) rfl 20 (w64 (decP (x.extract 0 32)).f) (w64 (decP (x.extract 0 32)).f) (by kernel_rfl) inz60 (by decide) (fun _ _ => rfl) (fun j hj => by rw [if_pos (by omega), Nat.sub_zero]) fun u21 M => ?_
     refine pV 10 (.int .i64 (decC (x.extract 0 32))) <| nT ?_
     refine wp_seq ?_
     refine sR <| pV 38 (.int .i64 (decC (x.extract 0 32))) <| pH 39 (.bool true) (nU (decC (x.extract 0 32) = 0) (hf)) <| pV 40 (.bool true) ?_
     refine pl_skip (want_off 2 false rfl 40 rfl (by kernel_rfl)) (some 41) rfl ?_
     refine pl_skip (want_off 2 false rfl 40 rfl (by kernel_rfl)) (some 42) rfl ?_
     refine pl_skip (want_off 2 false rfl 40 rfl (by kernel_rfl)) (some 43) rfl ?_
     refine pV 44 (.bool true) <| nT ?_
     refine cT ?_
     refine sR <| pV 6 (.bool false) <| nT ?_
     refine wp_ret ?_
     refine au_then_ret ?_
     exact bodyPost_ret (v := .bool false) (results_tmp1 Tryz.results12 _ _ _ (by kernel_rfl)) (by kernel_rfl) ⟨by rw [vfy, if_neg (fun c => hf c.2.2.2.1)], below_grown M.old⟩
   ·skip
    refine rg_lit ?_
    refine pV 27 (.int .i64 (decC p)) <| pH 28 (.bool false) (nF (decC p = 0) (hp)) <| pV 29 (.bool false) ?_
    refine pl_load M (want_on 2 false rfl 29 rfl (by kernel_rfl)) (some 30) rfl 60 _ rfl 0 g1 0 (by kernel_rfl) 20 60 (w64 (decP p).f) rfl 20 (w64 (decP p).f) (fun j _ => by rw [Nat.zero_add]) (by decide) _ Tryz.underlying60 rfl inz60 ?_
    refine pl_call M (want_on 2 false rfl 29 rfl (by kernel_rfl)) (some 31) rfl 35 #[.agg (av 20 (w64 (decP p).f))] (.bool true) (fun _ => by kernel_rfl) (fun w M => (by have e := z_small _ (dec_both hp).1.ok w; rw [(Bool.not_eq_false _).mp hs] at e; exact e)) fun u22 M => ?_
    refine pV 32 (.bool true) <| nT ?_
    refine cT ?_
    refine sR <| pV 6 (.bool false) <| nT ?_
    refine wp_ret ?_
    refine au_then_ret ?_
    exact bodyPost_ret (v := .bool false) (results_tmp1 Tryz.results12 _ _ _ (by kernel_rfl)) (by kernel_rfl) ⟨by rw [vfy, if_neg (fun c => hs c.2.2.1)], below_grown M.old⟩
  ·skip
   refine rg_lit ?_
   refine pV 23 (.string p) ?_
   refine pC M 24 34 #[.string p] (.tuple #[.agg (av 20 (w64 (decP p).f)), .int .i64 (decC p)]) (fun w M => z_dec p w) fun u23 M => ?_
   refine pV 22 (.tuple #[.agg (av 20 (w64 (decP p).f)), .int .i64 (decC p)]) <| pV 25 (.agg (av 20 (w64 (decP p).f))) <| pV 26 (.int .i64 (decC p)) ?_
   refine pN M 9 (.cells (av 20 (w64 (fun _ => 0))) 60) fun g7 u24 M => ?_
   refine pl_put M (want_no rfl) rfl 60 _ _ rfl 0 g7 0 (by kernel_rfl) 20 60 (w64 (fun _ => 0)) rfl 20 (w64 (decP p).f) (w64 (decP p).f) (by kernel_rfl) inz60 (by decide) (fun _ _ => rfl) (fun j hj => by rw [if_pos (by omega), Nat.sub_zero]) fun u25 M => ?_
   refine pV 10 (.int .i64 (decC p)) <| nT ?_
   refine wp_seq ?_
   refine sR <| pV 27 (.int .i64 (decC p)) <| pH 28 (.bool true) (nU (decC p = 0) (hp)) <| pV 29 (.bool true) ?_
   refine pl_skip (want_off 2 false rfl 29 rfl (by kernel_rfl)) (some 30) rfl ?_
   refine pl_skip (want_off 2 false rfl 29 rfl (by kernel_rfl)) (some 31) rfl ?_
   refine pV 32 (.bool true) <| nT ?_
   refine cT ?_
   refine sR <| pV 6 (.bool false) <| nT ?_
   refine wp_ret ?_
   refine au_then_ret ?_
   exact bodyPost_ret (v := .bool false) (results_tmp1 Tryz.results12 _ _ _ (by kernel_rfl)) (by kernel_rfl) ⟨by rw [vfy, if_neg (fun c => hp c.2.1)], below_grown M.old⟩
 ·skip
  refine rg_lit ?_
  refine pV 15 (.string x) <| pV 16 (.int .i64 (x.size : Int)) <| pH 17 (.bool true) (nU ((x.size : Int) = 64) (by omega)) <| nT ?_
  refine cT ?_
  refine sR <| pV 6 (.bool false) <| nT ?_
  refine wp_ret ?_
  refine au_then_ret ?_
  exact bodyPost_ret (v := .bool false) (results_tmp1 Tryz.results12 _ _ _ (by kernel_rfl)) (by kernel_rfl) ⟨by rw [vfy, if_neg (fun c => h0 c.1)], below_grown M.old⟩
theorem rpb (a : Int) (ha : 0 ≤ a ∧ a < Ord.Lm) : RRep (racc (rdecP baseS) (Ord.d16 a) 256) (baseQ.mul a.toNat) := by
 have h := rbase_rep.rmul ha.1 (by have := Ord.Lm_P; omega) 256 (Nat.le_refl _)
 rwa [Nat.sub_self, Int.pow_zero, Int.ediv_one] at h
theorem rmul_rep {q : RQ} {Q : Pt} (h : RRep q Q) (a : Int) (ha : 0 ≤ a ∧ a < Ord.Lm) : RRep (racc q (Ord.d16 a) 256) (Q.mul a.toNat) := by
 have h := h.rmul ha.1 (by have := Ord.Lm_P; omega) 256 (Nat.le_refl _)
 rwa [Nat.sub_self, Int.pow_zero, Int.ediv_one] at h
theorem rbase_ok : (rdecP baseS).Ok := rbase_rep.ok
theorem ofC_dg (s : ByteArray) : YtmhfmhmpoobmlaaGreatDoor.ofC (ofV s) = 0 := by
 unfold YtmhfmhmpoobmlaaGreatDoor.ofC
 rw [if_pos (.inr (ofV_size s))]
theorem ofC_32 (s : ByteArray) (h : s.size = 32) : YtmhfmhmpoobmlaaGreatDoor.ofC s = 0 := by
 unfold YtmhfmhmpoobmlaaGreatDoor.ofC
 rw [if_pos (.inl h)]
theorem z_doc (s : ByteArray) (hs : s.size < 100000) (w : World) (hL : Laid w) : Cs 31 #[.string s] w (.string (ofV s)) := by
 have e := c_doc s hs w hL
 rwa [doc_eq s hs] at e
def rvf (p s x : ByteArray) : Bool :=
 if p.size = 32 ∧ x.size = 64 ∧ Ord.bv (x.extract 32 x.size) 32 < Ord.Lm ∧ rdecC p = 0 ∧ rdecC (x.extract 0 32) = 0 ∧ rsmallV (rdecP p) = false then rsameV (racc (rdecP baseS) (Ord.d16 (YtmhfmhmpoobmlaaGreatDoor.ofV (x.extract 32 x.size))) 256) (raddV (rdecP (x.extract 0 32)) (racc (rdecP p) (Ord.d16 (kn (x.extract 0 32) p s)) 256)) else false
theorem rok {s : ByteArray} (h : rdecC s = 0) : (rdecP s).Ok := (dec_both (by rw [code_eq]; exact h)).2.ok
theorem x1s (x : ByteArray) (h : x.size = 64) : (x.extract 0 32).size = 32 := by
 rw [ByteArray.size_extract]
 omega
theorem c_rsmall (q : RQ) (hq : q.Ok) (w : World) (hL : Laid w)  :
  Cs 42 #[.agg (av 64 (w64 q.f))] w (.bool (rsmallV q)) := by
 go_enter Tryz.func42, Tryz.ntmps42
 have M := Mem.start hL
 refine sR ?_
 refine pN M 1 (.cells (av 64 (w64 q.f)) 52) fun g1 u1 M => ?_
 refine pV 2 (.bool false) <| nT <| sR ?_
 refine pA M 4 0 64 (w64 q.f) ?_
 refine pA M 5 0 64 (w64 q.f) ?_
 refine pC M 6 44 #[.agg (av 64 (w64 q.f)), .agg (av 64 (w64 q.f))] (.agg (av 64 (w64 (raddV q q).f))) (fun w M => z_radd _ _ hq hq w) fun u2 M => ?_
 refine pN M 3 (.cells (av 64 (w64 (fun _ => 0))) 52) fun g2 u3 M => ?_
 refine pl_put M (want_no rfl) rfl 52 _ _ rfl 1 g2 0 (by kernel_rfl) 64 52 (w64 (fun _ => 0)) rfl 64 (w64 (raddV q q).f) (w64 (raddV q q).f) (by kernel_rfl) inz52 (by decide) (fun _ _ => rfl) (fun j hj => by rw [if_pos (by omega), Nat.sub_zero]) fun u4 M => ?_
 refine nT <| sR ?_
 refine pA M 7 1 64 (w64 (raddV q q).f) ?_
 refine pA M 8 1 64 (w64 (raddV q q).f) ?_
 refine pC M 9 44 #[.agg (av 64 (w64 (raddV q q).f)), .agg (av 64 (w64 (raddV q q).f))] (.agg (av 64 (w64 (raddV (raddV q q) (raddV q q)).f))) (fun w M => z_radd _ _ (raddV_ok _ _) (raddV_ok _ _) w) fun u5 M => ?_
 refine pl_put M (want_no rfl) rfl 52 _ _ rfl 1 g2 0 (by kernel_rfl) 64 52 (w64 (raddV q q).f) rfl 64 (w64 (raddV (raddV q q) (raddV q q)).f) (w64 (raddV (raddV q q) (raddV q q)).f) (by kernel_rfl) inz52 (by decide) (fun _ _ => rfl) (fun j hj => by rw [if_pos (by omega), Nat.sub_zero]) fun u6 M => ?_
 refine nT <| sR ?_
 refine pA M 10 1 64 (w64 (raddV (raddV q q) (raddV q q)).f) ?_
 refine pA M 11 1 64 (w64 (raddV (raddV q q) (raddV q q)).f) ?_
 refine pC M 12 44 #[.agg (av 64 (w64 (raddV (raddV q q) (raddV q q)).f)), .agg (av 64 (w64 (raddV (raddV q q) (raddV q q)).f))] (.agg (av 64 (w64 (raddV (raddV (raddV q q) (raddV q q)) (raddV (raddV q q) (raddV q q))).f))) (fun w M => z_radd _ _ (raddV_ok _ _) (raddV_ok _ _) w) fun u7 M => ?_
 refine pC M 13 48 #[] (.agg (av 64 (w64 rzeroV.f))) (fun w M => c_rzero w) fun u8 M => ?_
 refine pC M 14 43 #[.agg (av 64 (w64 (raddV (raddV (raddV q q) (raddV q q)) (raddV (raddV q q) (raddV q q))).f)), .agg (av 64 (w64 rzeroV.f))] (.bool (rsmallV q)) (fun w M => z_rsame _ _ (raddV_ok _ _) rzeroV_ok w) fun u9 M => ?_
 refine pV 2 (.bool (rsmallV q)) <| nT ?_
 refine wp_ret ?_
 exact bodyPost_ret (v := .bool (rsmallV q)) (results_tmp1 Tryz.results42 _ _ _ (by kernel_rfl)) (by kernel_rfl) ⟨rfl, below_grown M.old⟩
theorem c_rVerify (p s x : ByteArray) (hz : s.size ≤ 5000) (w : World) (hL : Laid w)  :
  Cs 13 #[.string p, .string s, .string x] w (.bool (rvf p s x)) := by
 go_enter Tryz.func13, Tryz.ntmps13
 have M := Mem.start hL
 refine sR <| pV 6 (.bool false) <| nT ?_
 refine wp_seq ?_
 refine wp_seq ?_
 by_cases h0 : p.size = 32
 ·skip
  by_cases h1 : x.size = 64
  ·skip
   by_cases hc : Ord.bv (x.extract 32 x.size) 32 < Ord.Lm
   ·skip
    refine rg_lit ?_
    refine pV 13 (.string p) <| pV 14 (.int .i64 (p.size : Int)) <| pH 15 (.bool false) (nF ((p.size : Int) = 32) (by omega)) <| pV 16 (.bool false) ?_
    refine pl_val (want_on 3 false rfl 16 rfl (by kernel_rfl)) (some 17) rfl (.string x) (fun _ => by kernel_rfl) ?_
    refine pl_val (want_on 3 false rfl 16 rfl (by kernel_rfl)) (some 18) rfl (.int .i64 (x.size : Int)) (fun _ => by kernel_rfl) ?_
    refine pl_val (want_on 3 false rfl 16 rfl (by kernel_rfl)) (some 19) rfl (.bool false) (fun w => Eq.trans (b := .ok (.value (.bool (!(decide ((x.size : Int) = 64))))) w) (by kernel_rfl) (by rw [decide_eq_true (by omega)]; rfl)) ?_
    refine pV 20 (.bool false) <| pV 21 (.bool false) ?_
    refine pl_val (want_on 8 false rfl 21 rfl (by kernel_rfl)) (some 22) rfl (.string x) (fun _ => by kernel_rfl) ?_
    refine pl_val (want_on 8 false rfl 21 rfl (by kernel_rfl)) (some 23) rfl (.string (x.extract 32 x.size)) (run_strl 9 Tryz.underlying9 _ _ rfl x (by kernel_rfl) .i64 32 (by kernel_rfl) (by omega) _ rfl) ?_
    refine pl_call M (want_on 8 false rfl 21 rfl (by kernel_rfl)) (some 24) rfl 40 #[.string (x.extract 32 x.size)] (.bool true) (fun _ => by kernel_rfl) (fun w M => (by have e := Ord.rcanon_yes (x.extract 32 x.size) w (xl x h1); rw [decide_eq_true hc] at e; exact e)) fun u1 M => ?_
    refine pl_val (want_on 8 false rfl 21 rfl (by kernel_rfl)) (some 25) rfl (.bool false) (fun _ => by kernel_rfl) ?_
    refine pV 26 (.bool false) <| nT ?_
    refine cF ?_
    refine wp_skip ?_
    refine au_then ?_
    refine sR <| pV 28 (.string p) ?_
    refine pC M 29 41 #[.string p] (.tuple #[.agg (av 64 (w64 (rdecP p).f)), .int .i64 (rdecC p)]) (fun w M => z_rdec p w M.laid) fun u2 M => ?_
    refine pV 27 (.tuple #[.agg (av 64 (w64 (rdecP p).f)), .int .i64 (rdecC p)]) <| pV 30 (.agg (av 64 (w64 (rdecP p).f))) <| pV 31 (.int .i64 (rdecC p)) ?_
    refine pN M 7 (.cells (av 64 (w64 (fun _ => 0))) 52) fun g1 u3 M => ?_
    refine pl_put M (want_no rfl) rfl 52 _ _ rfl 0 g1 0 (by kernel_rfl) 64 52 (w64 (fun _ => 0)) rfl 64 (w64 (rdecP p).f) (w64 (rdecP p).f) (by kernel_rfl) inz52 (by decide) (fun _ _ => rfl) (fun j hj => by rw [if_pos (by omega), Nat.sub_zero]) fun u4 M => ?_
    refine pV 8 (.int .i64 (rdecC p)) <| nT <| sR <| pV 33 (.string x) ?_
    refine pH 34 (.string (x.extract 0 32)) (run_strh 9 Tryz.underlying9 _ _ rfl x (by kernel_rfl) .i64 32 (by kernel_rfl) (by omega) _ rfl) ?_
    refine pC M 35 41 #[.string (x.extract 0 32)] (.tuple #[.agg (av 64 (w64 (rdecP (x.extract 0 32)).f)), .int .i64 (rdecC (x.extract 0 32))]) (fun w M => z_rdec (x.extract 0 32) w M.laid) fun u5 M => ?_
    refine pV 32 (.tuple #[.agg (av 64 (w64 (rdecP (x.extract 0 32)).f)), .int .i64 (rdecC (x.extract 0 32))]) <| pV 36 (.agg (av 64 (w64 (rdecP (x.extract 0 32)).f))) <| pV 37 (.int .i64 (rdecC (x.extract 0 32))) ?_
    refine pN M 9 (.cells (av 64 (w64 (fun _ => 0))) 52) fun g2 u6 M => ?_
    refine pl_put M (want_no rfl) rfl 52 _ _ rfl 1 g2 0 (by kernel_rfl) 64 52 (w64 (fun _ => 0)) rfl 64 (w64 (rdecP (x.extract 0 32)).f) (w64 (rdecP (x.extract 0 32)).f) (by kernel_rfl) inz52 (by decide) (fun _ _ => rfl) (fun j hj => by rw [if_pos (by omega), Nat.sub_zero]) fun u7 M => ?_
    refine pV 10 (.int .i64 (rdecC (x.extract 0 32))) <| nT ?_
    refine wp_seq ?_
    refine wp_seq ?_
    by_cases hp : rdecC p = 0
    ·skip
     by_cases hf : rdecC (x.extract 0 32) = 0
     ·skip
      by_cases hs : rsmallV (rdecP p) = false
      ·skip
       refine rg_lit ?_
       refine pV 38 (.int .i64 (rdecC p)) <| pH 39 (.bool false) (nF (rdecC p = 0) (hp)) <| pV 40 (.bool false) ?_
       refine pl_val (want_on 2 false rfl 40 rfl (by kernel_rfl)) (some 41) rfl (.int .i64 (rdecC (x.extract 0 32))) (fun _ => by kernel_rfl) ?_
       refine pl_val (want_on 2 false rfl 40 rfl (by kernel_rfl)) (some 42) rfl (.bool false) (fun w => Eq.trans (b := .ok (.value (.bool (!(decide (rdecC (x.extract 0 32) = 0))))) w) (by kernel_rfl) (by rw [decide_eq_true (hf)]; rfl)) ?_
       refine pV 43 (.bool false) <| pV 44 (.bool false) ?_
       refine pl_load M (want_on 6 false rfl 44 rfl (by kernel_rfl)) (some 45) rfl 52 _ rfl 0 g1 0 (by kernel_rfl) 64 52 (w64 (rdecP p).f) rfl 64 (w64 (rdecP p).f) (fun j _ => by rw [Nat.zero_add]) (by decide) _ Tryz.underlying52 rfl inz52 ?_
       refine pl_call M (want_on 6 false rfl 44 rfl (by kernel_rfl)) (some 46) rfl 42 #[.agg (av 64 (w64 (rdecP p).f))] (.bool false) (fun _ => by kernel_rfl) (fun w M => (by have e := c_rsmall _ (rok hp) w M.laid; rw [hs] at e; exact e)) fun u8 M => ?_
       refine pV 47 (.bool false) <| nT ?_
       refine cF ?_
       refine wp_skip ?_
       refine au_then ?_
       refine sR <| pV 48 (.string x) <| pH 49 (.string (x.extract 0 32)) (run_strh 9 Tryz.underlying9 _ _ rfl x (by kernel_rfl) .i64 32 (by kernel_rfl) (by omega) _ rfl) <| pV 50 (.string p) ?_
       refine pH 51 (.string ((x.extract 0 32) ++ p)) (run_cat 9 9 _ _ rfl (x.extract 0 32) p (by kernel_rfl) (by kernel_rfl) (by have := x1s x h1; omega)) <| pV 52 (.string s) <| pH 53 (.string ((x.extract 0 32) ++ p ++ s)) (run_cat 9 9 _ _ rfl ((x.extract 0 32) ++ p) s (by kernel_rfl) (by kernel_rfl) (by have := x1s x h1; (try simp only [ByteArray.size_append]); omega)) ?_
       refine pC M 54 31 #[.string ((x.extract 0 32) ++ p ++ s)] (.string (ofV ((x.extract 0 32) ++ p ++ s))) (fun w M => z_doc ((x.extract 0 32) ++ p ++ s) (by have := x1s x h1; (try simp only [ByteArray.size_append]); omega) w M.laid) fun u9 M => ?_
       refine pC M 55 22 #[.string (ofV ((x.extract 0 32) ++ p ++ s))] (.agg (av 16 (w64 (Ord.d16 (kn (x.extract 0 32) p s))))) (fun w M => z_rof (ofC_dg _) w) fun u10 M => ?_
       refine pN M 11 (.cells (av 16 (w64 (fun _ => 0))) 36) fun g3 u11 M => ?_
       refine pl_put M (want_no rfl) rfl 36 _ _ rfl 2 g3 0 (by kernel_rfl) 16 36 (w64 (fun _ => 0)) rfl 16 (w64 (Ord.d16 (kn (x.extract 0 32) p s))) (w64 (Ord.d16 (kn (x.extract 0 32) p s))) (by kernel_rfl) inz36 (by decide) (fun _ _ => rfl) (fun j hj => by rw [if_pos (by omega), Nat.sub_zero]) fun u12 M => ?_
       refine nT ?_
       refine wp_seq ?_
       refine rg_allocs M 5 [(12, fun g => .pointer (some ⟨g, 0, none⟩), .cells (av 64 (w64 (fun _ => 0))) 52)] (by kernel_rfl) (by kernel_rfl) (⟨rfl, rfl, fun _ _ => by kernel_rfl, trivial⟩) (by decide) ?_
       simp only [List.take_succ_cons, List.take_zero]
       refine kC M 56 20 #[] (.agg (av 64 (w64 (rdecP baseS).f))) (fun w M => z_rbase w M.laid) ?_
       refine kV 57 (.string x) <| kH 58 (.string (x.extract 32 x.size)) (run_strl 9 Tryz.underlying9 _ _ rfl x (by kernel_rfl) .i64 32 (by kernel_rfl) (by omega) _ rfl) ?_
       refine kC M 59 22 #[.string (x.extract 32 x.size)] (.agg (av 16 (w64 (Ord.d16 (YtmhfmhmpoobmlaaGreatDoor.ofV (x.extract 32 x.size)))))) (fun w M => z_rof (ofC_32 _ (xl x h1)) w) ?_
       refine kC M 60 21 #[.agg (av 64 (w64 (rdecP baseS).f)), .agg (av 16 (w64 (Ord.d16 (YtmhfmhmpoobmlaaGreatDoor.ofV (x.extract 32 x.size)))))] (.agg (av 64 (w64 (racc (rdecP baseS) (Ord.d16 (YtmhfmhmpoobmlaaGreatDoor.ofV (x.extract 32 x.size))) 256).f))) (fun w M => z_rmul _ rbase_ok (YtmhfmhmpoobmlaaGreatDoor.ofV (x.extract 32 x.size)) w) ?_
       refine kl_nil fun u13 g4 M => ?_
       refine pl_put M (want_no rfl) rfl 52 _ _ rfl 3 g4 0 (by kernel_rfl) 64 52 (w64 (fun _ => 0)) rfl 64 (w64 (racc (rdecP baseS) (Ord.d16 (YtmhfmhmpoobmlaaGreatDoor.ofV (x.extract 32 x.size))) 256).f) (w64 (racc (rdecP baseS) (Ord.d16 (YtmhfmhmpoobmlaaGreatDoor.ofV (x.extract 32 x.size))) 256).f) (by kernel_rfl) inz52 (by decide) (fun _ _ => rfl) (fun j hj => by rw [if_pos (by omega), Nat.sub_zero]) fun u14 M => ?_
       refine nT ?_
       refine wp_seq ?_
       refine rg_tail M 7 (by kernel_rfl) (by kernel_rfl) ?_
       simp only [List.take_succ_cons, List.take_zero]
       refine kA M 61 3 64 (w64 (racc (rdecP baseS) (Ord.d16 (YtmhfmhmpoobmlaaGreatDoor.ofV (x.extract 32 x.size))) 256).f) ?_
       refine kA M 62 1 64 (w64 (rdecP (x.extract 0 32)).f) ?_
       refine kA M 63 0 64 (w64 (rdecP p).f) ?_
       refine kA M 64 2 16 (w64 (Ord.d16 (kn (x.extract 0 32) p s))) ?_
       refine kC M 65 21 #[.agg (av 64 (w64 (rdecP p).f)), .agg (av 16 (w64 (Ord.d16 (kn (x.extract 0 32) p s))))] (.agg (av 64 (w64 (racc (rdecP p) (Ord.d16 (kn (x.extract 0 32) p s)) 256).f))) (fun w M => z_rmul _ (rok hp) (kn (x.extract 0 32) p s) w) ?_
       refine kC M 66 44 #[.agg (av 64 (w64 (rdecP (x.extract 0 32)).f)), .agg (av 64 (w64 (racc (rdecP p) (Ord.d16 (kn (x.extract 0 32) p s)) 256).f))] (.agg (av 64 (w64 (raddV (rdecP (x.extract 0 32)) (racc (rdecP p) (Ord.d16 (kn (x.extract 0 32) p s)) 256)).f))) (fun w M => z_radd _ _ (rok hf) (racc_ok _ _ _) w) ?_
       refine kC M 67 43 #[.agg (av 64 (w64 (racc (rdecP baseS) (Ord.d16 (YtmhfmhmpoobmlaaGreatDoor.ofV (x.extract 32 x.size))) 256).f)), .agg (av 64 (w64 (raddV (rdecP (x.extract 0 32)) (racc (rdecP p) (Ord.d16 (kn (x.extract 0 32) p s)) 256)).f))] (.bool (rsameV (racc (rdecP baseS) (Ord.d16 (YtmhfmhmpoobmlaaGreatDoor.ofV (x.extract 32 x.size))) 256) (raddV (rdecP (x.extract 0 32)) (racc (rdecP p) (Ord.d16 (kn (x.extract 0 32) p s)) 256)))) (fun w M => z_rsame _ _ (racc_ok _ _ _) (raddV_ok _ _) w) ?_
       refine kl_nil fun u15 M => ?_
       refine pV 6 (.bool (rsameV (racc (rdecP baseS) (Ord.d16 (YtmhfmhmpoobmlaaGreatDoor.ofV (x.extract 32 x.size))) 256) (raddV (rdecP (x.extract 0 32)) (racc (rdecP p) (Ord.d16 (kn (x.extract 0 32) p s)) 256)))) <| nT ?_
       refine wp_ret ?_
       exact bodyPost_ret (v := .bool (rsameV (racc (rdecP baseS) (Ord.d16 (YtmhfmhmpoobmlaaGreatDoor.ofV (x.extract 32 x.size))) 256) (raddV (rdecP (x.extract 0 32)) (racc (rdecP p) (Ord.d16 (kn (x.extract 0 32) p s)) 256)))) (results_tmp1 Tryz.results13 _ _ _ (by kernel_rfl)) (by kernel_rfl) ⟨by rw [rvf, if_pos ⟨h0, h1, hc, hp, hf, hs⟩], below_grown M.old⟩
      ·skip
       refine rg_lit ?_
       refine pV 38 (.int .i64 (rdecC p)) <| pH 39 (.bool false) (nF (rdecC p = 0) (hp)) <| pV 40 (.bool false) ?_
       refine pl_val (want_on 2 false rfl 40 rfl (by kernel_rfl)) (some 41) rfl (.int .i64 (rdecC (x.extract 0 32))) (fun _ => by kernel_rfl) ?_
       refine pl_val (want_on 2 false rfl 40 rfl (by kernel_rfl)) (some 42) rfl (.bool false) (fun w => Eq.trans (b := .ok (.value (.bool (!(decide (rdecC (x.extract 0 32) = 0))))) w) (by kernel_rfl) (by rw [decide_eq_true (hf)]; rfl)) ?_
       refine pV 43 (.bool false) <| pV 44 (.bool false) ?_
       refine pl_load M (want_on 6 false rfl 44 rfl (by kernel_rfl)) (some 45) rfl 52 _ rfl 0 g1 0 (by kernel_rfl) 64 52 (w64 (rdecP p).f) rfl 64 (w64 (rdecP p).f) (fun j _ => by rw [Nat.zero_add]) (by decide) _ Tryz.underlying52 rfl inz52 ?_
       refine pl_call M (want_on 6 false rfl 44 rfl (by kernel_rfl)) (some 46) rfl 42 #[.agg (av 64 (w64 (rdecP p).f))] (.bool true) (fun _ => by kernel_rfl) (fun w M => (by have e := c_rsmall _ (rok hp) w M.laid; rw [(Bool.not_eq_false _).mp hs] at e; exact e)) fun u16 M => ?_
       refine pV 47 (.bool true) <| nT ?_
       refine cT ?_
       refine sR <| pV 6 (.bool false) <| nT ?_
       refine wp_ret ?_
       refine au_then_ret ?_
       exact bodyPost_ret (v := .bool false) (results_tmp1 Tryz.results13 _ _ _ (by kernel_rfl)) (by kernel_rfl) ⟨by rw [rvf, if_neg (fun c => hs c.2.2.2.2.2)], below_grown M.old⟩
     ·skip
      refine rg_lit ?_
      refine pV 38 (.int .i64 (rdecC p)) <| pH 39 (.bool false) (nF (rdecC p = 0) (hp)) <| pV 40 (.bool false) ?_
      refine pl_val (want_on 2 false rfl 40 rfl (by kernel_rfl)) (some 41) rfl (.int .i64 (rdecC (x.extract 0 32))) (fun _ => by kernel_rfl) ?_
      refine pl_val (want_on 2 false rfl 40 rfl (by kernel_rfl)) (some 42) rfl (.bool true) (fun w => Eq.trans (b := .ok (.value (.bool (!(decide (rdecC (x.extract 0 32) = 0))))) w) (by kernel_rfl) (by rw [decide_eq_false (hf)]; rfl)) ?_
      refine pV 43 (.bool true) <| pV 44 (.bool true) ?_
      refine pl_skip (want_off 6 false rfl 44 rfl (by kernel_rfl)) (some 45) rfl ?_
      refine pl_skip (want_off 6 false rfl 44 rfl (by kernel_rfl)) (some 46) rfl ?_
      refine pV 47 (.bool true) <| nT ?_
      refine cT ?_
      refine sR <| pV 6 (.bool false) <| nT ?_
      refine wp_ret ?_
      refine au_then_ret ?_
      exact bodyPost_ret (v := .bool false) (results_tmp1 Tryz.results13 _ _ _ (by kernel_rfl)) (by kernel_rfl) ⟨by rw [rvf, if_neg (fun c => hf c.2.2.2.2.1)], below_grown M.old⟩
    ·skip
     refine rg_lit ?_
     refine pV 38 (.int .i64 (rdecC p)) <| pH 39 (.bool true) (nU (rdecC p = 0) (hp)) <| pV 40 (.bool true) ?_
     refine pl_skip (want_off 2 false rfl 40 rfl (by kernel_rfl)) (some 41) rfl ?_
     refine pl_skip (want_off 2 false rfl 40 rfl (by kernel_rfl)) (some 42) rfl ?_
     refine pV 43 (.bool true) <| pV 44 (.bool true) ?_
     refine pl_skip (want_off 6 false rfl 44 rfl (by kernel_rfl)) (some 45) rfl ?_
     refine pl_skip (want_off 6 false rfl 44 rfl (by kernel_rfl)) (some 46) rfl ?_
     refine pV 47 (.bool true) <| nT ?_
     refine cT ?_
     refine sR <| pV 6 (.bool false) <| nT ?_
     refine wp_ret ?_
     refine au_then_ret ?_
     exact bodyPost_ret (v := .bool false) (results_tmp1 Tryz.results13 _ _ _ (by kernel_rfl)) (by kernel_rfl) ⟨by rw [rvf, if_neg (fun c => hp c.2.2.2.1)], below_grown M.old⟩
   ·skip
    refine rg_lit ?_
    refine pV 13 (.string p) <| pV 14 (.int .i64 (p.size : Int)) <| pH 15 (.bool false) (nF ((p.size : Int) = 32) (by omega)) <| pV 16 (.bool false) ?_
    refine pl_val (want_on 3 false rfl 16 rfl (by kernel_rfl)) (some 17) rfl (.string x) (fun _ => by kernel_rfl) ?_
    refine pl_val (want_on 3 false rfl 16 rfl (by kernel_rfl)) (some 18) rfl (.int .i64 (x.size : Int)) (fun _ => by kernel_rfl) ?_
    refine pl_val (want_on 3 false rfl 16 rfl (by kernel_rfl)) (some 19) rfl (.bool false) (fun w => Eq.trans (b := .ok (.value (.bool (!(decide ((x.size : Int) = 64))))) w) (by kernel_rfl) (by rw [decide_eq_true (by omega)]; rfl)) ?_
    refine pV 20 (.bool false) <| pV 21 (.bool false) ?_
    refine pl_val (want_on 8 false rfl 21 rfl (by kernel_rfl)) (some 22) rfl (.string x) (fun _ => by kernel_rfl) ?_
    refine pl_val (want_on 8 false rfl 21 rfl (by kernel_rfl)) (some 23) rfl (.string (x.extract 32 x.size)) (run_strl 9 Tryz.underlying9 _ _ rfl x (by kernel_rfl) .i64 32 (by kernel_rfl) (by omega) _ rfl) ?_
    refine pl_call M (want_on 8 false rfl 21 rfl (by kernel_rfl)) (some 24) rfl 40 #[.string (x.extract 32 x.size)] (.bool false) (fun _ => by kernel_rfl) (fun w M => (by have e := Ord.rcanon_yes (x.extract 32 x.size) w (xl x h1); rw [decide_eq_false hc] at e; exact e)) fun u17 M => ?_
    refine pl_val (want_on 8 false rfl 21 rfl (by kernel_rfl)) (some 25) rfl (.bool true) (fun _ => by kernel_rfl) ?_
    refine pV 26 (.bool true) <| nT ?_
    refine cT ?_
    refine sR <| pV 6 (.bool false) <| nT ?_
    refine wp_ret ?_
    refine au_then_ret ?_
    exact bodyPost_ret (v := .bool false) (results_tmp1 Tryz.results13 _ _ _ (by kernel_rfl)) (by kernel_rfl) ⟨by rw [rvf, if_neg (fun c => hc c.2.2.1)], below_grown M.old⟩
  ·skip
   refine rg_lit ?_
   refine pV 13 (.string p) <| pV 14 (.int .i64 (p.size : Int)) <| pH 15 (.bool false) (nF ((p.size : Int) = 32) (by omega)) <| pV 16 (.bool false) ?_
   refine pl_val (want_on 3 false rfl 16 rfl (by kernel_rfl)) (some 17) rfl (.string x) (fun _ => by kernel_rfl) ?_
   refine pl_val (want_on 3 false rfl 16 rfl (by kernel_rfl)) (some 18) rfl (.int .i64 (x.size : Int)) (fun _ => by kernel_rfl) ?_
   refine pl_val (want_on 3 false rfl 16 rfl (by kernel_rfl)) (some 19) rfl (.bool true) (fun w => Eq.trans (b := .ok (.value (.bool (!(decide ((x.size : Int) = 64))))) w) (by kernel_rfl) (by rw [decide_eq_false (by omega)]; rfl)) ?_
   refine pV 20 (.bool true) <| pV 21 (.bool true) ?_
   refine pl_skip (want_off 8 false rfl 21 rfl (by kernel_rfl)) (some 22) rfl ?_
   refine pl_skip (want_off 8 false rfl 21 rfl (by kernel_rfl)) (some 23) rfl ?_
   refine pl_skip (want_off 8 false rfl 21 rfl (by kernel_rfl)) (some 24) rfl ?_
   refine pl_skip (want_off 8 false rfl 21 rfl (by kernel_rfl)) (some 25) rfl ?_
   refine pV 26 (.bool true) <| nT ?_
   refine cT ?_
   refine sR <| pV 6 (.bool false) <| nT ?_
   refine wp_ret ?_
   refine au_then_ret ?_
   exact bodyPost_ret (v := .bool false) (results_tmp1 Tryz.results13 _ _ _ (by kernel_rfl)) (by kernel_rfl) ⟨by rw [rvf, if_neg (fun c => h1 c.2.1)], below_grown M.old⟩
 ·skip
  refine rg_lit ?_
  refine pV 13 (.string p) <| pV 14 (.int .i64 (p.size : Int)) <| pH 15 (.bool true) (nU ((p.size : Int) = 32) (by omega)) <| pV 16 (.bool true) ?_
  refine pl_skip (want_off 3 false rfl 16 rfl (by kernel_rfl)) (some 17) rfl ?_
  refine pl_skip (want_off 3 false rfl 16 rfl (by kernel_rfl)) (some 18) rfl ?_
  refine pl_skip (want_off 3 false rfl 16 rfl (by kernel_rfl)) (some 19) rfl ?_
  refine pV 20 (.bool true) <| pV 21 (.bool true) ?_
  refine pl_skip (want_off 8 false rfl 21 rfl (by kernel_rfl)) (some 22) rfl ?_
  refine pl_skip (want_off 8 false rfl 21 rfl (by kernel_rfl)) (some 23) rfl ?_
  refine pl_skip (want_off 8 false rfl 21 rfl (by kernel_rfl)) (some 24) rfl ?_
  refine pl_skip (want_off 8 false rfl 21 rfl (by kernel_rfl)) (some 25) rfl ?_
  refine pV 26 (.bool true) <| nT ?_
  refine cT ?_
  refine sR <| pV 6 (.bool false) <| nT ?_
  refine wp_ret ?_
  refine au_then_ret ?_
  exact bodyPost_ret (v := .bool false) (results_tmp1 Tryz.results13 _ _ _ (by kernel_rfl)) (by kernel_rfl) ⟨by rw [rvf, if_neg (fun c => h0 c.1)], below_grown M.old⟩
end Go.Proofs.YtmhfmhmpoobmlaaGreatDoor.Sha

namespace Go.Proofs.YtmhfmhmpoobmlaaGreatDoor
theorem cg_nat {a b : Nat} (h : a % pN = b % pN) : Cg (a : Int) (b : Int) := by
 refine Cg.of_emod ?_
 rw [← pN_P, ← Int.natCast_emod, ← Int.natCast_emod, h]
theorem cast_pow (i : Nat) : ((2 ^ i : Nat) : Int) = (2 : Int) ^ i := by simp
theorem genPN : Gen pN 2 := genP
theorem some_pow {A : Int} (h0 : 0 < A) (h1 : A < Pm) : ∃ i : Nat, Cg A ((2 : Int) ^ i) := by
 have hlt : A.toNat < pN := by have := pN_P; omega
 obtain ⟨i, hi⟩ := genPN.all A.toNat (by omega) hlt
 refine ⟨i, ?_⟩
 have h : Cg ((A.toNat : Nat) : Int) ((2 ^ i : Nat) : Int) := cg_nat (by rw [Nat.mod_eq_of_lt hlt]; exact hi.symm)
 rw [cast_pow] at h
 rwa [show ((A.toNat : Nat) : Int) = A by omega] at h
theorem two_full : Cg ((2 : Int) ^ (pN - 1)) 1 := by
 have h : Cg ((2 ^ (pN - 1) : Nat) : Int) ((1 : Nat) : Int) := cg_nat (by rw [show (1 : Nat) % pN = 1 by decide]; exact genPN.per)
 rw [cast_pow] at h
 exact h
def hN : Nat := 14474011154664524427946373126085988481658748083205070504932198000989141204987
theorem two_half : Cg ((2 : Int) ^ (2 * hN)) (-1) := by
 have e : pmf pN 255 2 (2 * hN) = pN - 1 := by decide +kernel
 rw [pmf_eq pN 255 2 _ (by decide)] at e
 have h : Cg ((2 ^ (2 * hN) : Nat) : Int) ((pN - 1 : Nat) : Int) := cg_nat (by rw [e]; decide)
 rw [cast_pow] at h
 refine h.trans ⟨1, ?_⟩
 decide
theorem Cg.pow_one {x : Int} (h : Cg x 1) (k : Nat) : Cg (x ^ k) 1 := by
 have := h.pow k
 rwa [Int.one_pow] at this
theorem fermat {A : Int} {i : Nat} (h : Cg A ((2 : Int) ^ i)) : Cg (A ^ (pN - 1)) 1 := by
 refine (h.pow _).trans ?_
 rw [← Int.pow_mul, Nat.mul_comm, Int.pow_mul]
 exact two_full.pow_one i
theorem neg_one_pow : ∀ k : Nat, ((-1 : Int) ^ k = 1 ∧ k % 2 = 0) ∨ ((-1 : Int) ^ k = -1 ∧ k % 2 = 1)
 | 0 => .inl ⟨rfl, rfl⟩
 | k + 1 => by
  rw [Int.pow_succ]
  rcases neg_one_pow k with ⟨h1, h2⟩ | ⟨h1, h2⟩
  ·exact .inr ⟨by rw [h1]; rfl, by omega⟩
  ·exact .inl ⟨by rw [h1]; rfl, by omega⟩
theorem quarter {A : Int} {i : Nat} (h : Cg A ((2 : Int) ^ i)) : (i % 2 = 0 ∧ (Cg (A ^ hN) 1 ∨ Cg (A ^ hN) (-1))) ∨ (i % 2 = 1 ∧ Cg (A ^ (2 * hN)) (-1)) := by
 by_cases hi : i % 2 = 0
 ·left
  refine ⟨hi, ?_⟩
  obtain ⟨k, rfl⟩ : ∃ k, i = 2 * k := ⟨i / 2, by omega⟩
  have e : Cg (A ^ hN) ((-1) ^ k) := by
   refine (h.pow _).trans ?_
   rw [← Int.pow_mul, show 2 * k * hN = 2 * hN * k by rw [Nat.mul_assoc, Nat.mul_assoc, Nat.mul_comm k hN], Int.pow_mul]
   exact two_half.pow k
  rcases neg_one_pow k with ⟨h1, _⟩ | ⟨h1, _⟩
  ·rw [h1] at e; exact .inl e
  ·rw [h1] at e; exact .inr e
 ·right
  refine ⟨by omega, ?_⟩
  have e : Cg (A ^ (2 * hN)) ((-1) ^ i) := by
   refine (h.pow _).trans ?_
   rw [← Int.pow_mul, Nat.mul_comm, Int.pow_mul]
   exact two_half.pow i
  rcases neg_one_pow i with ⟨_, h2⟩ | ⟨h1, _⟩
  ·omega
  ·rw [h1] at e; exact e
theorem sq_pow {A U : Int} (h : Cg U (A ^ (2 ^ 252 - 2))) : Cg (U * U) (A * A ^ hN) := by
 refine (h.mul h).trans (Cg.of_eq ?_)
 rw [← Int.pow_add, Int.mul_comm, ← Int.pow_succ]
 congr 1
theorem half_no {A U : Int} {i : Nat} (hA : Cg A ((2 : Int) ^ i)) (hU : Cg (U * U) (A * A ^ hN)) (hh : Cg (A ^ (2 * hN)) (-1)) (h : Cg ((U * U) * (U * U)) (A * A)) : False := by
 have e1 : Cg ((U * U) * (U * U)) (A * A * A ^ (2 * hN)) := by
  refine (hU.mul hU).trans (Cg.of_eq ?_)
  rw [Nat.two_mul, Int.pow_add, Int.mul_assoc, Int.mul_left_comm (A ^ hN) A, ← Int.mul_assoc]
 have e2 : Cg (A * A * A ^ (2 * hN)) (A * A * (-1)) := (Cg.refl _).mul hh
 have e3 : Cg (A * A) (A * A * (-1)) := h.symm.trans (e1.trans e2)
 have hf := fermat hA
 have e4 : A ^ (pN - 1) = A * A * A ^ (pN - 3) := by
  rw [show pN - 1 = pN - 3 + 1 + 1 by decide, Int.pow_succ, Int.pow_succ, Int.mul_assoc, Int.mul_comm]
 have e5 : Cg (A * A * A ^ (pN - 3)) (A * A * (-1) * A ^ (pN - 3)) := e3.mul (Cg.refl _)
 rw [show A * A * (-1) * A ^ (pN - 3) = - (A * A * A ^ (pN - 3)) by rw [Int.mul_neg, Int.mul_one, Int.neg_mul], ← e4] at e5
 have e6 : Cg 1 (-1) := hf.symm.trans (e5.trans hf.neg)
 have := e6.emod
 revert this
 decide
theorem rrF_has {A : Int} {i : Nat} (h0 : 0 ≤ A) (h1 : A < Pm) (h : Cg A ((2 : Int) ^ i)) : (rrF A).2 = decide (i % 2 = 0) := by
 have hU : Cg (pwm A (xbit 252 2) 252) (A ^ (2 ^ 252 - 2)) := by
  rw [← ex252]
  exact pwm_pow A _ 252
 have hUU := sq_pow hU
 unfold rrF
 generalize pwm A (xbit 252 2) 252 = U at *
 simp only
 have hVV : Cg ((U * rmo.n % Pm) * (U * rmo.n % Pm)) (- (U * U)) := by
  refine ((cg_emod _).mul (cg_emod _)).trans ?_
  have e : U * rmo.n * (U * rmo.n) = U * U * (rmo.n * rmo.n) := by rw [Int.mul_assoc, Int.mul_assoc, Int.mul_left_comm rmo.n U]
  rw [e]
  have := (Cg.refl (U * U)).mul rmo_sq
  rw [show U * U * -1 = -(U * U) by omega] at this
  exact this
 generalize U * rmo.n % Pm = V at *
 have hs : ∀ {B : Int}, Cg B A → B % Pm = A := fun hB => by rw [hB.emod, em_self ⟨h0, h1⟩]
 have hs2 : ∀ {B : Int}, B % Pm = A → Cg B A := fun hB => Cg.of_emod (by rw [hB, em_self ⟨h0, h1⟩])
 rcases quarter h with ⟨hi, hq | hq⟩ | ⟨hi, hq⟩
 ·rw [if_pos (hs (hUU.trans (by have := (Cg.refl A).mul hq; rwa [Int.mul_one] at this)))]
  simp [hi]
 ·rw [decide_eq_true hi]
  split
  ·rfl
  ·rw [if_pos (hs (hVV.trans (by
    have := (hUU.trans ((Cg.refl A).mul hq)).neg
    rwa [show -(A * -1) = A by omega] at this)))]
 ·rw [decide_eq_false (by omega)]
  rw [if_neg (fun e => half_no h hUU hq ((hs2 e).mul (hs2 e))), if_neg (fun e => half_no h hUU hq (by
   have := (hVV.symm.trans (hs2 e)).neg
   rw [Int.neg_neg] at this
   have := this.mul this
   rwa [show -A * -A = A * A by rw [Int.neg_mul_neg]] at this))]
theorem rrF_zero : rrF 0 = (0, true) := by
 have hU : pwm 0 (xbit 252 2) 252 = 0 := by
  have h := (pwm_pow 0 (xbit 252 2) 252).emod
  rw [em_self (pwm_bd _ _ _), ex252, Int.zero_pow (by decide)] at h
  exact h
 unfold rrF
 simp only [hU]
 decide
end Go.Proofs.YtmhfmhmpoobmlaaGreatDoor
