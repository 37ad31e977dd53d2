/- Part 4 of the walks and facts. -/
import Derived.Test.YtmhfmhmpoobmlaaGreatDoorCxDef
import Derived.Test.YtmhfmhmpoobmlaaGreatDoorCx1
import Derived.Test.YtmhfmhmpoobmlaaGreatDoorCx2
import Derived.Test.YtmhfmhmpoobmlaaGreatDoorCx3
import Derived.Deep.LoopGhost
import Derived.Laws.IdiomStrings
import Derived.Laws.StructEq
import Derived.LoopN
import Derived.Test.YtmhfmhmpoobmlaaGreatDoorRows
set_option maxHeartbeats 4000000
set_option maxRecDepth 100000
namespace Go.Proofs.YtmhfmhmpoobmlaaGreatDoor
open Go.RowKit
def pt (s : ByteArray) (k : Nat) : Nat → Int := fun i => (if 2 * i < k then bt s (2 * i) else 0) + (if 2 * i + 1 < k then bt s (2 * i + 1) * 256 else 0)
theorem ptor0 (s : ByteArray) (i : Nat) : bits BinOp.or IntKind.u64 0 (bt s i) = bt s i := by
 have hb := bt_bd s i
 rw [or_join 8 256 (by decide) ⟨by decide, by decide⟩ ⟨hb.1, by omega⟩ (by decide) (by omega)]
 omega
theorem ptor1 (s : ByteArray) (i j : Nat) : bits BinOp.or IntKind.u64 (bt s i) (bt s j * 256) = bt s i + bt s j * 256 := by
 have hb := bt_bd s i
 have hc := bt_bd s j
 exact or_join' 8 256 (by decide) ⟨hb.1, by omega⟩ ⟨by omega, by omega⟩ (by omega) (by omega)
theorem pt_dig (s : ByteArray) (k : Nat) : Dig (pt s k) 16 := fun i _ => by
 have hb := bt_bd s (2 * i)
 have hc := bt_bd s (2 * i + 1)
 unfold pt
 split <;> split <;> omega
theorem pt_even (s : ByteArray) (j i : Nat) : upd (pt s (2 * j)) j (bt s (2 * j)) i = pt s (2 * j + 1) i := by
 unfold upd pt
 by_cases h : i = j
 ·subst h
  simp
 ·rw [if_neg h]
  congr 1
  ·by_cases h2 : 2 * i < 2 * j
   ·rw [if_pos h2, if_pos (by omega)]
   ·rw [if_neg h2, if_neg (by omega)]
  ·by_cases h2 : 2 * i + 1 < 2 * j
   ·rw [if_pos h2, if_pos (by omega)]
   ·rw [if_neg h2, if_neg (by omega)]
theorem pt_odd (s : ByteArray) (j i : Nat) : upd (pt s (2 * j + 1)) j (bt s (2 * j) + bt s (2 * j + 1) * 256) i = pt s (2 * j + 1 + 1) i := by
 unfold upd pt
 by_cases h : i = j
 ·subst h
  simp
  intro h
  omega
 ·rw [if_neg h]
  congr 1
  ·by_cases h2 : 2 * i < 2 * j + 1
   ·rw [if_pos h2, if_pos (by omega)]
   ·rw [if_neg h2, if_neg (by omega)]
  ·by_cases h2 : 2 * i + 1 < 2 * j + 1
   ·rw [if_pos h2, if_pos (by omega)]
   ·rw [if_neg h2, if_neg (by omega)]
theorem pt_S (s : ByteArray) : S (pt s 32) 16 = val s := by
 simp [S, pt, val, sw]
 omega
theorem parts_any (s : ByteArray) (w : World) (hs : s.size = 32) :
  Cs 14 #[.string s] w (.agg (arr 16 (pt s 32))) := by
 go_enter Tryz.func14, Tryz.ntmps14
 go_wp2
 rw [show #[Value.int .u64 0, Value.int .u64 0, Value.int .u64 0, Value.int .u64 0, Value.int .u64 0, Value.int .u64 0, Value.int .u64 0, Value.int .u64 0, Value.int .u64 0, Value.int .u64 0, Value.int .u64 0, Value.int .u64 0, Value.int .u64 0, Value.int .u64 0, Value.int .u64 0, Value.int .u64 0] = arr 16 (fun _ => 0) from rfl]
 have R1 : Row ((w.alloc (.cells (arr 16 fun _ => 0) 36)).alloc (.cells (arr 16 fun _ => 0) 36)) w.heap.size 36 16 (fun _ => 0) := (Row.new w 36 16 _).alloc _
 have R2 : Row ((w.alloc (.cells (arr 16 fun _ => 0) 36)).alloc (.cells (arr 16 fun _ => 0) 36)) (w.heap.size + 1) 36 16 (pt s 0) := (Row.new' _ 36 16 _ (by simp)).congr (fun i _ => by simp [pt])
 have O : Below w.heap.size w ((w.alloc (.cells (arr 16 fun _ => 0) 36)).alloc (.cells (arr 16 fun _ => 0) 36)) := ((Below.refl _ _).alloc (Nat.le_refl _) _).alloc (by simp) _
 generalize (w.alloc (.cells (arr 16 fun _ => 0) 36)).alloc (.cells (arr 16 fun _ => 0) 36) = W at R1 R2 O ⊢
 go_loopw [4] (fun i wr => ∃ k : Nat, k ≤ 32 ∧ i = .int .i64 k ∧ Row wr w.heap.size 36 16 (fun _ => 0) ∧ Row wr (w.heap.size + 1) 36 16 (pt s k) ∧ Below w.heap.size w wr) (fun i _ => 32 - (intOf i).toNat)
 case atStart => exact ⟨0, by omega, rfl, R1, R2, O⟩
 case round =>
  clear R1 R2 O
  obtain ⟨k, hk, rfl, R1, R2, O⟩ := hrel
  by_cases hlt : k < 32
  ·have hc : k = 0 ∨ k = 1 ∨ k = 2 ∨ k = 3 ∨ k = 4 ∨ k = 5 ∨ k = 6 ∨ k = 7 ∨ k = 8 ∨ k = 9 ∨ k = 10 ∨ k = 11 ∨ k = 12 ∨ k = 13 ∨ k = 14 ∨ k = 15 ∨ k = 16 ∨ k = 17 ∨ k = 18 ∨ k = 19 ∨ k = 20 ∨ k = 21 ∨ k = 22 ∨ k = 23 ∨ k = 24 ∨ k = 25 ∨ k = 26 ∨ k = 27 ∨ k = 28 ∨ k = 29 ∨ k = 30 ∨ k = 31 := by omega
   clear hlt hk
   rcases hc with rfl | rfl | rfl | rfl | rfl | rfl | rfl | rfl | rfl | rfl | rfl | rfl | rfl | rfl | rfl | rfl | rfl | rfl | rfl | rfl | rfl | rfl | rfl | rfl | rfl | rfl | rfl | rfl | rfl | rfl | rfl | rfl
   ·have hb := bt_at s 0 (by omega)
    obtain ⟨p, q⟩ := bt_bd s 0
    have e := ptor0 s 0
    have c := R2.cell (i := 0) (by omega)
    rw [show pt s 0 0 = 0 by simp [pt]] at c
    have f := R2.free 0
    have RR := hide ((R2.set 0 (bt s 0)).congr (fun i _ => pt_even s 0 i))
    have R1' := hide (R1.other (a := ⟨w.heap.size + 1, 0, none⟩) (by simp) (.int .u64 (bt s 0)))
    have O' := hide (O.setCell (p := ⟨w.heap.size + 1, 0, none⟩) (by simp) (.int .u64 (bt s 0)))
    clear R1 R2 O
    go_wp2_with fail
    go_region
    go_wp2
    first | exact ⟨⟨1, by omega, rfl, R1'.out, RR.out, O'.out.drew⟩, by simp [intOf]⟩ | (go_roundw; (case rel => exact ⟨1, by omega, rfl, R1'.out, RR.out, O'.out.drew⟩); (case measure => simp [intOf]))
   ·have hb := bt_at s 1 (by omega)
    obtain ⟨p, q⟩ := bt_bd s 1
    have e := ptor1 s 0 1
    have c := R2.cell (i := 0) (by omega)
    rw [show pt s 1 0 = bt s 0 by simp [pt]] at c
    have f := R2.free 0
    have RR := hide ((R2.set 0 (bt s 0 + bt s 1 * 256)).congr (fun i _ => pt_odd s 0 i))
    have R1' := hide (R1.other (a := ⟨w.heap.size + 1, 0, none⟩) (by simp) (.int .u64 (bt s 0 + bt s 1 * 256)))
    have O' := hide (O.setCell (p := ⟨w.heap.size + 1, 0, none⟩) (by simp) (.int .u64 (bt s 0 + bt s 1 * 256)))
    clear R1 R2 O
    go_wp2_with fail
    go_region
    go_wp2
    first | exact ⟨⟨2, by omega, rfl, R1'.out, RR.out, O'.out.drew⟩, by simp [intOf]⟩ | (go_roundw; (case rel => exact ⟨2, by omega, rfl, R1'.out, RR.out, O'.out.drew⟩); (case measure => simp [intOf]))
   ·have hb := bt_at s 2 (by omega)
    obtain ⟨p, q⟩ := bt_bd s 2
    have e := ptor0 s 2
    have c := R2.cell (i := 1) (by omega)
    rw [show pt s 2 1 = 0 by simp [pt]] at c
    have f := R2.free 1
    have RR := hide ((R2.set 1 (bt s 2)).congr (fun i _ => pt_even s 1 i))
    have R1' := hide (R1.other (a := ⟨w.heap.size + 1, 1, none⟩) (by simp) (.int .u64 (bt s 2)))
    have O' := hide (O.setCell (p := ⟨w.heap.size + 1, 1, none⟩) (by simp) (.int .u64 (bt s 2)))
    clear R1 R2 O
    go_wp2_with fail
    go_region
    go_wp2
    first | exact ⟨⟨3, by omega, rfl, R1'.out, RR.out, O'.out.drew⟩, by simp [intOf]⟩ | (go_roundw; (case rel => exact ⟨3, by omega, rfl, R1'.out, RR.out, O'.out.drew⟩); (case measure => simp [intOf]))
   ·have hb := bt_at s 3 (by omega)
    obtain ⟨p, q⟩ := bt_bd s 3
    have e := ptor1 s 2 3
    have c := R2.cell (i := 1) (by omega)
    rw [show pt s 3 1 = bt s 2 by simp [pt]] at c
    have f := R2.free 1
    have RR := hide ((R2.set 1 (bt s 2 + bt s 3 * 256)).congr (fun i _ => pt_odd s 1 i))
    have R1' := hide (R1.other (a := ⟨w.heap.size + 1, 1, none⟩) (by simp) (.int .u64 (bt s 2 + bt s 3 * 256)))
    have O' := hide (O.setCell (p := ⟨w.heap.size + 1, 1, none⟩) (by simp) (.int .u64 (bt s 2 + bt s 3 * 256)))
    clear R1 R2 O
    go_wp2_with fail
    go_region
    go_wp2
    first | exact ⟨⟨4, by omega, rfl, R1'.out, RR.out, O'.out.drew⟩, by simp [intOf]⟩ | (go_roundw; (case rel => exact ⟨4, by omega, rfl, R1'.out, RR.out, O'.out.drew⟩); (case measure => simp [intOf]))
   ·have hb := bt_at s 4 (by omega)
    obtain ⟨p, q⟩ := bt_bd s 4
    have e := ptor0 s 4
    have c := R2.cell (i := 2) (by omega)
    rw [show pt s 4 2 = 0 by simp [pt]] at c
    have f := R2.free 2
    have RR := hide ((R2.set 2 (bt s 4)).congr (fun i _ => pt_even s 2 i))
    have R1' := hide (R1.other (a := ⟨w.heap.size + 1, 2, none⟩) (by simp) (.int .u64 (bt s 4)))
    have O' := hide (O.setCell (p := ⟨w.heap.size + 1, 2, none⟩) (by simp) (.int .u64 (bt s 4)))
    clear R1 R2 O
    go_wp2_with fail
    go_region
    go_wp2
    first | exact ⟨⟨5, by omega, rfl, R1'.out, RR.out, O'.out.drew⟩, by simp [intOf]⟩ | (go_roundw; (case rel => exact ⟨5, by omega, rfl, R1'.out, RR.out, O'.out.drew⟩); (case measure => simp [intOf]))
   ·have hb := bt_at s 5 (by omega)
    obtain ⟨p, q⟩ := bt_bd s 5
    have e := ptor1 s 4 5
    have c := R2.cell (i := 2) (by omega)
    rw [show pt s 5 2 = bt s 4 by simp [pt]] at c
    have f := R2.free 2
    have RR := hide ((R2.set 2 (bt s 4 + bt s 5 * 256)).congr (fun i _ => pt_odd s 2 i))
    have R1' := hide (R1.other (a := ⟨w.heap.size + 1, 2, none⟩) (by simp) (.int .u64 (bt s 4 + bt s 5 * 256)))
    have O' := hide (O.setCell (p := ⟨w.heap.size + 1, 2, none⟩) (by simp) (.int .u64 (bt s 4 + bt s 5 * 256)))
    clear R1 R2 O
    go_wp2_with fail
    go_region
    go_wp2
    first | exact ⟨⟨6, by omega, rfl, R1'.out, RR.out, O'.out.drew⟩, by simp [intOf]⟩ | (go_roundw; (case rel => exact ⟨6, by omega, rfl, R1'.out, RR.out, O'.out.drew⟩); (case measure => simp [intOf]))
   ·have hb := bt_at s 6 (by omega)
    obtain ⟨p, q⟩ := bt_bd s 6
    have e := ptor0 s 6
    have c := R2.cell (i := 3) (by omega)
    rw [show pt s 6 3 = 0 by simp [pt]] at c
    have f := R2.free 3
    have RR := hide ((R2.set 3 (bt s 6)).congr (fun i _ => pt_even s 3 i))
    have R1' := hide (R1.other (a := ⟨w.heap.size + 1, 3, none⟩) (by simp) (.int .u64 (bt s 6)))
    have O' := hide (O.setCell (p := ⟨w.heap.size + 1, 3, none⟩) (by simp) (.int .u64 (bt s 6)))
    clear R1 R2 O
    go_wp2_with fail
    go_region
    go_wp2
    first | exact ⟨⟨7, by omega, rfl, R1'.out, RR.out, O'.out.drew⟩, by simp [intOf]⟩ | (go_roundw; (case rel => exact ⟨7, by omega, rfl, R1'.out, RR.out, O'.out.drew⟩); (case measure => simp [intOf]))
   ·have hb := bt_at s 7 (by omega)
    obtain ⟨p, q⟩ := bt_bd s 7
    have e := ptor1 s 6 7
    have c := R2.cell (i := 3) (by omega)
    rw [show pt s 7 3 = bt s 6 by simp [pt]] at c
    have f := R2.free 3
    have RR := hide ((R2.set 3 (bt s 6 + bt s 7 * 256)).congr (fun i _ => pt_odd s 3 i))
    have R1' := hide (R1.other (a := ⟨w.heap.size + 1, 3, none⟩) (by simp) (.int .u64 (bt s 6 + bt s 7 * 256)))
    have O' := hide (O.setCell (p := ⟨w.heap.size + 1, 3, none⟩) (by simp) (.int .u64 (bt s 6 + bt s 7 * 256)))
    clear R1 R2 O
    go_wp2_with fail
    go_region
    go_wp2
    first | exact ⟨⟨8, by omega, rfl, R1'.out, RR.out, O'.out.drew⟩, by simp [intOf]⟩ | (go_roundw; (case rel => exact ⟨8, by omega, rfl, R1'.out, RR.out, O'.out.drew⟩); (case measure => simp [intOf]))
   ·have hb := bt_at s 8 (by omega)
    obtain ⟨p, q⟩ := bt_bd s 8
    have e := ptor0 s 8
    have c := R2.cell (i := 4) (by omega)
    rw [show pt s 8 4 = 0 by simp [pt]] at c
    have f := R2.free 4
    have RR := hide ((R2.set 4 (bt s 8)).congr (fun i _ => pt_even s 4 i))
    have R1' := hide (R1.other (a := ⟨w.heap.size + 1, 4, none⟩) (by simp) (.int .u64 (bt s 8)))
    have O' := hide (O.setCell (p := ⟨w.heap.size + 1, 4, none⟩) (by simp) (.int .u64 (bt s 8)))
    clear R1 R2 O
    go_wp2_with fail
    go_region
    go_wp2
    first | exact ⟨⟨9, by omega, rfl, R1'.out, RR.out, O'.out.drew⟩, by simp [intOf]⟩ | (go_roundw; (case rel => exact ⟨9, by omega, rfl, R1'.out, RR.out, O'.out.drew⟩); (case measure => simp [intOf]))
   ·have hb := bt_at s 9 (by omega)
    obtain ⟨p, q⟩ := bt_bd s 9
    have e := ptor1 s 8 9
    have c := R2.cell (i := 4) (by omega)
    rw [show pt s 9 4 = bt s 8 by simp [pt]] at c
    have f := R2.free 4
    have RR := hide ((R2.set 4 (bt s 8 + bt s 9 * 256)).congr (fun i _ => pt_odd s 4 i))
    have R1' := hide (R1.other (a := ⟨w.heap.size + 1, 4, none⟩) (by simp) (.int .u64 (bt s 8 + bt s 9 * 256)))
    have O' := hide (O.setCell (p := ⟨w.heap.size + 1, 4, none⟩) (by simp) (.int .u64 (bt s 8 + bt s 9 * 256)))
    clear R1 R2 O
    go_wp2_with fail
    go_region
    go_wp2
    first | exact ⟨⟨10, by omega, rfl, R1'.out, RR.out, O'.out.drew⟩, by simp [intOf]⟩ | (go_roundw; (case rel => exact ⟨10, by omega, rfl, R1'.out, RR.out, O'.out.drew⟩); (case measure => simp [intOf]))
   ·have hb := bt_at s 10 (by omega)
    obtain ⟨p, q⟩ := bt_bd s 10
    have e := ptor0 s 10
    have c := R2.cell (i := 5) (by omega)
    rw [show pt s 10 5 = 0 by simp [pt]] at c
    have f := R2.free 5
    have RR := hide ((R2.set 5 (bt s 10)).congr (fun i _ => pt_even s 5 i))
    have R1' := hide (R1.other (a := ⟨w.heap.size + 1, 5, none⟩) (by simp) (.int .u64 (bt s 10)))
    have O' := hide (O.setCell (p := ⟨w.heap.size + 1, 5, none⟩) (by simp) (.int .u64 (bt s 10)))
    clear R1 R2 O
    go_wp2_with fail
    go_region
    go_wp2
    first | exact ⟨⟨11, by omega, rfl, R1'.out, RR.out, O'.out.drew⟩, by simp [intOf]⟩ | (go_roundw; (case rel => exact ⟨11, by omega, rfl, R1'.out, RR.out, O'.out.drew⟩); (case measure => simp [intOf]))
   ·have hb := bt_at s 11 (by omega)
    obtain ⟨p, q⟩ := bt_bd s 11
    have e := ptor1 s 10 11
    have c := R2.cell (i := 5) (by omega)
    rw [show pt s 11 5 = bt s 10 by simp [pt]] at c
    have f := R2.free 5
    have RR := hide ((R2.set 5 (bt s 10 + bt s 11 * 256)).congr (fun i _ => pt_odd s 5 i))
    have R1' := hide (R1.other (a := ⟨w.heap.size + 1, 5, none⟩) (by simp) (.int .u64 (bt s 10 + bt s 11 * 256)))
    have O' := hide (O.setCell (p := ⟨w.heap.size + 1, 5, none⟩) (by simp) (.int .u64 (bt s 10 + bt s 11 * 256)))
    clear R1 R2 O
    go_wp2_with fail
    go_region
    go_wp2
    first | exact ⟨⟨12, by omega, rfl, R1'.out, RR.out, O'.out.drew⟩, by simp [intOf]⟩ | (go_roundw; (case rel => exact ⟨12, by omega, rfl, R1'.out, RR.out, O'.out.drew⟩); (case measure => simp [intOf]))
   ·have hb := bt_at s 12 (by omega)
    obtain ⟨p, q⟩ := bt_bd s 12
    have e := ptor0 s 12
    have c := R2.cell (i := 6) (by omega)
    rw [show pt s 12 6 = 0 by simp [pt]] at c
    have f := R2.free 6
    have RR := hide ((R2.set 6 (bt s 12)).congr (fun i _ => pt_even s 6 i))
    have R1' := hide (R1.other (a := ⟨w.heap.size + 1, 6, none⟩) (by simp) (.int .u64 (bt s 12)))
    have O' := hide (O.setCell (p := ⟨w.heap.size + 1, 6, none⟩) (by simp) (.int .u64 (bt s 12)))
    clear R1 R2 O
    go_wp2_with fail
    go_region
    go_wp2
    first | exact ⟨⟨13, by omega, rfl, R1'.out, RR.out, O'.out.drew⟩, by simp [intOf]⟩ | (go_roundw; (case rel => exact ⟨13, by omega, rfl, R1'.out, RR.out, O'.out.drew⟩); (case measure => simp [intOf]))
   ·have hb := bt_at s 13 (by omega)
    obtain ⟨p, q⟩ := bt_bd s 13
    have e := ptor1 s 12 13
    have c := R2.cell (i := 6) (by omega)
    rw [show pt s 13 6 = bt s 12 by simp [pt]] at c
    have f := R2.free 6
    have RR := hide ((R2.set 6 (bt s 12 + bt s 13 * 256)).congr (fun i _ => pt_odd s 6 i))
    have R1' := hide (R1.other (a := ⟨w.heap.size + 1, 6, none⟩) (by simp) (.int .u64 (bt s 12 + bt s 13 * 256)))
    have O' := hide (O.setCell (p := ⟨w.heap.size + 1, 6, none⟩) (by simp) (.int .u64 (bt s 12 + bt s 13 * 256)))
    clear R1 R2 O
    go_wp2_with fail
    go_region
    go_wp2
    first | exact ⟨⟨14, by omega, rfl, R1'.out, RR.out, O'.out.drew⟩, by simp [intOf]⟩ | (go_roundw; (case rel => exact ⟨14, by omega, rfl, R1'.out, RR.out, O'.out.drew⟩); (case measure => simp [intOf]))
   ·have hb := bt_at s 14 (by omega)
    obtain ⟨p, q⟩ := bt_bd s 14
    have e := ptor0 s 14
    have c := R2.cell (i := 7) (by omega)
    rw [show pt s 14 7 = 0 by simp [pt]] at c
    have f := R2.free 7
    have RR := hide ((R2.set 7 (bt s 14)).congr (fun i _ => pt_even s 7 i))
    have R1' := hide (R1.other (a := ⟨w.heap.size + 1, 7, none⟩) (by simp) (.int .u64 (bt s 14)))
    have O' := hide (O.setCell (p := ⟨w.heap.size + 1, 7, none⟩) (by simp) (.int .u64 (bt s 14)))
    clear R1 R2 O
    go_wp2_with fail
    go_region
    go_wp2
    first | exact ⟨⟨15, by omega, rfl, R1'.out, RR.out, O'.out.drew⟩, by simp [intOf]⟩ | (go_roundw; (case rel => exact ⟨15, by omega, rfl, R1'.out, RR.out, O'.out.drew⟩); (case measure => simp [intOf]))
   ·have hb := bt_at s 15 (by omega)
    obtain ⟨p, q⟩ := bt_bd s 15
    have e := ptor1 s 14 15
    have c := R2.cell (i := 7) (by omega)
    rw [show pt s 15 7 = bt s 14 by simp [pt]] at c
    have f := R2.free 7
    have RR := hide ((R2.set 7 (bt s 14 + bt s 15 * 256)).congr (fun i _ => pt_odd s 7 i))
    have R1' := hide (R1.other (a := ⟨w.heap.size + 1, 7, none⟩) (by simp) (.int .u64 (bt s 14 + bt s 15 * 256)))
    have O' := hide (O.setCell (p := ⟨w.heap.size + 1, 7, none⟩) (by simp) (.int .u64 (bt s 14 + bt s 15 * 256)))
    clear R1 R2 O
    go_wp2_with fail
    go_region
    go_wp2
    first | exact ⟨⟨16, by omega, rfl, R1'.out, RR.out, O'.out.drew⟩, by simp [intOf]⟩ | (go_roundw; (case rel => exact ⟨16, by omega, rfl, R1'.out, RR.out, O'.out.drew⟩); (case measure => simp [intOf]))
   ·have hb := bt_at s 16 (by omega)
    obtain ⟨p, q⟩ := bt_bd s 16
    have e := ptor0 s 16
    have c := R2.cell (i := 8) (by omega)
    rw [show pt s 16 8 = 0 by simp [pt]] at c
    have f := R2.free 8
    have RR := hide ((R2.set 8 (bt s 16)).congr (fun i _ => pt_even s 8 i))
    have R1' := hide (R1.other (a := ⟨w.heap.size + 1, 8, none⟩) (by simp) (.int .u64 (bt s 16)))
    have O' := hide (O.setCell (p := ⟨w.heap.size + 1, 8, none⟩) (by simp) (.int .u64 (bt s 16)))
    clear R1 R2 O
    go_wp2_with fail
    go_region
    go_wp2
    first | exact ⟨⟨17, by omega, rfl, R1'.out, RR.out, O'.out.drew⟩, by simp [intOf]⟩ | (go_roundw; (case rel => exact ⟨17, by omega, rfl, R1'.out, RR.out, O'.out.drew⟩); (case measure => simp [intOf]))
   ·have hb := bt_at s 17 (by omega)
    obtain ⟨p, q⟩ := bt_bd s 17
    have e := ptor1 s 16 17
    have c := R2.cell (i := 8) (by omega)
    rw [show pt s 17 8 = bt s 16 by simp [pt]] at c
    have f := R2.free 8
    have RR := hide ((R2.set 8 (bt s 16 + bt s 17 * 256)).congr (fun i _ => pt_odd s 8 i))
    have R1' := hide (R1.other (a := ⟨w.heap.size + 1, 8, none⟩) (by simp) (.int .u64 (bt s 16 + bt s 17 * 256)))
    have O' := hide (O.setCell (p := ⟨w.heap.size + 1, 8, none⟩) (by simp) (.int .u64 (bt s 16 + bt s 17 * 256)))
    clear R1 R2 O
    go_wp2_with fail
    go_region
    go_wp2
    first | exact ⟨⟨18, by omega, rfl, R1'.out, RR.out, O'.out.drew⟩, by simp [intOf]⟩ | (go_roundw; (case rel => exact ⟨18, by omega, rfl, R1'.out, RR.out, O'.out.drew⟩); (case measure => simp [intOf]))
   ·have hb := bt_at s 18 (by omega)
    obtain ⟨p, q⟩ := bt_bd s 18
    have e := ptor0 s 18
    have c := R2.cell (i := 9) (by omega)
    rw [show pt s 18 9 = 0 by simp [pt]] at c
    have f := R2.free 9
    have RR := hide ((R2.set 9 (bt s 18)).congr (fun i _ => pt_even s 9 i))
    have R1' := hide (R1.other (a := ⟨w.heap.size + 1, 9, none⟩) (by simp) (.int .u64 (bt s 18)))
    have O' := hide (O.setCell (p := ⟨w.heap.size + 1, 9, none⟩) (by simp) (.int .u64 (bt s 18)))
    clear R1 R2 O
    go_wp2_with fail
    go_region
    go_wp2
    first | exact ⟨⟨19, by omega, rfl, R1'.out, RR.out, O'.out.drew⟩, by simp [intOf]⟩ | (go_roundw; (case rel => exact ⟨19, by omega, rfl, R1'.out, RR.out, O'.out.drew⟩); (case measure => simp [intOf]))
   ·have hb := bt_at s 19 (by omega)
    obtain ⟨p, q⟩ := bt_bd s 19
    have e := ptor1 s 18 19
    have c := R2.cell (i := 9) (by omega)
    rw [show pt s 19 9 = bt s 18 by simp [pt]] at c
    have f := R2.free 9
    have RR := hide ((R2.set 9 (bt s 18 + bt s 19 * 256)).congr (fun i _ => pt_odd s 9 i))
    have R1' := hide (R1.other (a := ⟨w.heap.size + 1, 9, none⟩) (by simp) (.int .u64 (bt s 18 + bt s 19 * 256)))
    have O' := hide (O.setCell (p := ⟨w.heap.size + 1, 9, none⟩) (by simp) (.int .u64 (bt s 18 + bt s 19 * 256)))
    clear R1 R2 O
    go_wp2_with fail
    go_region
    go_wp2
    first | exact ⟨⟨20, by omega, rfl, R1'.out, RR.out, O'.out.drew⟩, by simp [intOf]⟩ | (go_roundw; (case rel => exact ⟨20, by omega, rfl, R1'.out, RR.out, O'.out.drew⟩); (case measure => simp [intOf]))
   ·have hb := bt_at s 20 (by omega)
    obtain ⟨p, q⟩ := bt_bd s 20
    have e := ptor0 s 20
    have c := R2.cell (i := 10) (by omega)
    rw [show pt s 20 10 = 0 by simp [pt]] at c
    have f := R2.free 10
    have RR := hide ((R2.set 10 (bt s 20)).congr (fun i _ => pt_even s 10 i))
    have R1' := hide (R1.other (a := ⟨w.heap.size + 1, 10, none⟩) (by simp) (.int .u64 (bt s 20)))
    have O' := hide (O.setCell (p := ⟨w.heap.size + 1, 10, none⟩) (by simp) (.int .u64 (bt s 20)))
    clear R1 R2 O
    go_wp2_with fail
    go_region
    go_wp2
    first | exact ⟨⟨21, by omega, rfl, R1'.out, RR.out, O'.out.drew⟩, by simp [intOf]⟩ | (go_roundw; (case rel => exact ⟨21, by omega, rfl, R1'.out, RR.out, O'.out.drew⟩); (case measure => simp [intOf]))
   ·have hb := bt_at s 21 (by omega)
    obtain ⟨p, q⟩ := bt_bd s 21
    have e := ptor1 s 20 21
    have c := R2.cell (i := 10) (by omega)
    rw [show pt s 21 10 = bt s 20 by simp [pt]] at c
    have f := R2.free 10
    have RR := hide ((R2.set 10 (bt s 20 + bt s 21 * 256)).congr (fun i _ => pt_odd s 10 i))
    have R1' := hide (R1.other (a := ⟨w.heap.size + 1, 10, none⟩) (by simp) (.int .u64 (bt s 20 + bt s 21 * 256)))
    have O' := hide (O.setCell (p := ⟨w.heap.size + 1, 10, none⟩) (by simp) (.int .u64 (bt s 20 + bt s 21 * 256)))
    clear R1 R2 O
    go_wp2_with fail
    go_region
    go_wp2
    first | exact ⟨⟨22, by omega, rfl, R1'.out, RR.out, O'.out.drew⟩, by simp [intOf]⟩ | (go_roundw; (case rel => exact ⟨22, by omega, rfl, R1'.out, RR.out, O'.out.drew⟩); (case measure => simp [intOf]))
   ·have hb := bt_at s 22 (by omega)
    obtain ⟨p, q⟩ := bt_bd s 22
    have e := ptor0 s 22
    have c := R2.cell (i := 11) (by omega)
    rw [show pt s 22 11 = 0 by simp [pt]] at c
    have f := R2.free 11
    have RR := hide ((R2.set 11 (bt s 22)).congr (fun i _ => pt_even s 11 i))
    have R1' := hide (R1.other (a := ⟨w.heap.size + 1, 11, none⟩) (by simp) (.int .u64 (bt s 22)))
    have O' := hide (O.setCell (p := ⟨w.heap.size + 1, 11, none⟩) (by simp) (.int .u64 (bt s 22)))
    clear R1 R2 O
    go_wp2_with fail
    go_region
    go_wp2
    first | exact ⟨⟨23, by omega, rfl, R1'.out, RR.out, O'.out.drew⟩, by simp [intOf]⟩ | (go_roundw; (case rel => exact ⟨23, by omega, rfl, R1'.out, RR.out, O'.out.drew⟩); (case measure => simp [intOf]))
   ·have hb := bt_at s 23 (by omega)
    obtain ⟨p, q⟩ := bt_bd s 23
    have e := ptor1 s 22 23
    have c := R2.cell (i := 11) (by omega)
    rw [show pt s 23 11 = bt s 22 by simp [pt]] at c
    have f := R2.free 11
    have RR := hide ((R2.set 11 (bt s 22 + bt s 23 * 256)).congr (fun i _ => pt_odd s 11 i))
    have R1' := hide (R1.other (a := ⟨w.heap.size + 1, 11, none⟩) (by simp) (.int .u64 (bt s 22 + bt s 23 * 256)))
    have O' := hide (O.setCell (p := ⟨w.heap.size + 1, 11, none⟩) (by simp) (.int .u64 (bt s 22 + bt s 23 * 256)))
    clear R1 R2 O
    go_wp2_with fail
    go_region
    go_wp2
    first | exact ⟨⟨24, by omega, rfl, R1'.out, RR.out, O'.out.drew⟩, by simp [intOf]⟩ | (go_roundw; (case rel => exact ⟨24, by omega, rfl, R1'.out, RR.out, O'.out.drew⟩); (case measure => simp [intOf]))
   ·have hb := bt_at s 24 (by omega)
    obtain ⟨p, q⟩ := bt_bd s 24
    have e := ptor0 s 24
    have c := R2.cell (i := 12) (by omega)
    rw [show pt s 24 12 = 0 by simp [pt]] at c
    have f := R2.free 12
    have RR := hide ((R2.set 12 (bt s 24)).congr (fun i _ => pt_even s 12 i))
    have R1' := hide (R1.other (a := ⟨w.heap.size + 1, 12, none⟩) (by simp) (.int .u64 (bt s 24)))
    have O' := hide (O.setCell (p := ⟨w.heap.size + 1, 12, none⟩) (by simp) (.int .u64 (bt s 24)))
    clear R1 R2 O
    go_wp2_with fail
    go_region
    go_wp2
    first | exact ⟨⟨25, by omega, rfl, R1'.out, RR.out, O'.out.drew⟩, by simp [intOf]⟩ | (go_roundw; (case rel => exact ⟨25, by omega, rfl, R1'.out, RR.out, O'.out.drew⟩); (case measure => simp [intOf]))
   ·have hb := bt_at s 25 (by omega)
    obtain ⟨p, q⟩ := bt_bd s 25
    have e := ptor1 s 24 25
    have c := R2.cell (i := 12) (by omega)
    rw [show pt s 25 12 = bt s 24 by simp [pt]] at c
    have f := R2.free 12
    have RR := hide ((R2.set 12 (bt s 24 + bt s 25 * 256)).congr (fun i _ => pt_odd s 12 i))
    have R1' := hide (R1.other (a := ⟨w.heap.size + 1, 12, none⟩) (by simp) (.int .u64 (bt s 24 + bt s 25 * 256)))
    have O' := hide (O.setCell (p := ⟨w.heap.size + 1, 12, none⟩) (by simp) (.int .u64 (bt s 24 + bt s 25 * 256)))
    clear R1 R2 O
    go_wp2_with fail
    go_region
    go_wp2
    first | exact ⟨⟨26, by omega, rfl, R1'.out, RR.out, O'.out.drew⟩, by simp [intOf]⟩ | (go_roundw; (case rel => exact ⟨26, by omega, rfl, R1'.out, RR.out, O'.out.drew⟩); (case measure => simp [intOf]))
   ·have hb := bt_at s 26 (by omega)
    obtain ⟨p, q⟩ := bt_bd s 26
    have e := ptor0 s 26
    have c := R2.cell (i := 13) (by omega)
    rw [show pt s 26 13 = 0 by simp [pt]] at c
    have f := R2.free 13
    have RR := hide ((R2.set 13 (bt s 26)).congr (fun i _ => pt_even s 13 i))
    have R1' := hide (R1.other (a := ⟨w.heap.size + 1, 13, none⟩) (by simp) (.int .u64 (bt s 26)))
    have O' := hide (O.setCell (p := ⟨w.heap.size + 1, 13, none⟩) (by simp) (.int .u64 (bt s 26)))
    clear R1 R2 O
    go_wp2_with fail
    go_region
    go_wp2
    first | exact ⟨⟨27, by omega, rfl, R1'.out, RR.out, O'.out.drew⟩, by simp [intOf]⟩ | (go_roundw; (case rel => exact ⟨27, by omega, rfl, R1'.out, RR.out, O'.out.drew⟩); (case measure => simp [intOf]))
   ·have hb := bt_at s 27 (by omega)
    obtain ⟨p, q⟩ := bt_bd s 27
    have e := ptor1 s 26 27
    have c := R2.cell (i := 13) (by omega)
    rw [show pt s 27 13 = bt s 26 by simp [pt]] at c
    have f := R2.free 13
    have RR := hide ((R2.set 13 (bt s 26 + bt s 27 * 256)).congr (fun i _ => pt_odd s 13 i))
    have R1' := hide (R1.other (a := ⟨w.heap.size + 1, 13, none⟩) (by simp) (.int .u64 (bt s 26 + bt s 27 * 256)))
    have O' := hide (O.setCell (p := ⟨w.heap.size + 1, 13, none⟩) (by simp) (.int .u64 (bt s 26 + bt s 27 * 256)))
    clear R1 R2 O
    go_wp2_with fail
    go_region
    go_wp2
    first | exact ⟨⟨28, by omega, rfl, R1'.out, RR.out, O'.out.drew⟩, by simp [intOf]⟩ | (go_roundw; (case rel => exact ⟨28, by omega, rfl, R1'.out, RR.out, O'.out.drew⟩); (case measure => simp [intOf]))
   ·have hb := bt_at s 28 (by omega)
    obtain ⟨p, q⟩ := bt_bd s 28
    have e := ptor0 s 28
    have c := R2.cell (i := 14) (by omega)
    rw [show pt s 28 14 = 0 by simp [pt]] at c
    have f := R2.free 14
    have RR := hide ((R2.set 14 (bt s 28)).congr (fun i _ => pt_even s 14 i))
    have R1' := hide (R1.other (a := ⟨w.heap.size + 1, 14, none⟩) (by simp) (.int .u64 (bt s 28)))
    have O' := hide (O.setCell (p := ⟨w.heap.size + 1, 14, none⟩) (by simp) (.int .u64 (bt s 28)))
    clear R1 R2 O
    go_wp2_with fail
    go_region
    go_wp2
    first | exact ⟨⟨29, by omega, rfl, R1'.out, RR.out, O'.out.drew⟩, by simp [intOf]⟩ | (go_roundw; (case rel => exact ⟨29, by omega, rfl, R1'.out, RR.out, O'.out.drew⟩); (case measure => simp [intOf]))
   ·have hb := bt_at s 29 (by omega)
    obtain ⟨p, q⟩ := bt_bd s 29
    have e := ptor1 s 28 29
    have c := R2.cell (i := 14) (by omega)
    rw [show pt s 29 14 = bt s 28 by simp [pt]] at c
    have f := R2.free 14
    have RR := hide ((R2.set 14 (bt s 28 + bt s 29 * 256)).congr (fun i _ => pt_odd s 14 i))
    have R1' := hide (R1.other (a := ⟨w.heap.size + 1, 14, none⟩) (by simp) (.int .u64 (bt s 28 + bt s 29 * 256)))
    have O' := hide (O.setCell (p := ⟨w.heap.size + 1, 14, none⟩) (by simp) (.int .u64 (bt s 28 + bt s 29 * 256)))
    clear R1 R2 O
    go_wp2_with fail
    go_region
    go_wp2
    first | exact ⟨⟨30, by omega, rfl, R1'.out, RR.out, O'.out.drew⟩, by simp [intOf]⟩ | (go_roundw; (case rel => exact ⟨30, by omega, rfl, R1'.out, RR.out, O'.out.drew⟩); (case measure => simp [intOf]))
   ·have hb := bt_at s 30 (by omega)
    obtain ⟨p, q⟩ := bt_bd s 30
    have e := ptor0 s 30
    have c := R2.cell (i := 15) (by omega)
    rw [show pt s 30 15 = 0 by simp [pt]] at c
    have f := R2.free 15
    have RR := hide ((R2.set 15 (bt s 30)).congr (fun i _ => pt_even s 15 i))
    have R1' := hide (R1.other (a := ⟨w.heap.size + 1, 15, none⟩) (by simp) (.int .u64 (bt s 30)))
    have O' := hide (O.setCell (p := ⟨w.heap.size + 1, 15, none⟩) (by simp) (.int .u64 (bt s 30)))
    clear R1 R2 O
    go_wp2_with fail
    go_region
    go_wp2
    first | exact ⟨⟨31, by omega, rfl, R1'.out, RR.out, O'.out.drew⟩, by simp [intOf]⟩ | (go_roundw; (case rel => exact ⟨31, by omega, rfl, R1'.out, RR.out, O'.out.drew⟩); (case measure => simp [intOf]))
   ·have hb := bt_at s 31 (by omega)
    obtain ⟨p, q⟩ := bt_bd s 31
    have e := ptor1 s 30 31
    have c := R2.cell (i := 15) (by omega)
    rw [show pt s 31 15 = bt s 30 by simp [pt]] at c
    have f := R2.free 15
    have RR := hide ((R2.set 15 (bt s 30 + bt s 31 * 256)).congr (fun i _ => pt_odd s 15 i))
    have R1' := hide (R1.other (a := ⟨w.heap.size + 1, 15, none⟩) (by simp) (.int .u64 (bt s 30 + bt s 31 * 256)))
    have O' := hide (O.setCell (p := ⟨w.heap.size + 1, 15, none⟩) (by simp) (.int .u64 (bt s 30 + bt s 31 * 256)))
    clear R1 R2 O
    go_wp2_with fail
    go_region
    go_wp2
    first | exact ⟨⟨32, by omega, rfl, R1'.out, RR.out, O'.out.drew⟩, by simp [intOf]⟩ | (go_roundw; (case rel => exact ⟨32, by omega, rfl, R1'.out, RR.out, O'.out.drew⟩); (case measure => simp [intOf]))
  ·have e : k = 32 := by omega
   subst e
   have RR := hide (R1.setAll (pt s 32))
   have OO := hide (below_setCells (g := w.heap.size) (Nat.le_refl _) (arr 16 (pt s 32)).toList 0 O)
   go_wp2_with (first | (refine wpList_load_row rfl 36 _ rfl (w.heap.size + 1) rfl 36 (arr 16 (pt s 32)) (0, 0) _ R2 Tryz.underlying36 rfl (info36 _) ?_) | (refine wpList_store_mid rfl 36 _ _ rfl w.heap.size 0 (arr 16 (pt s 32)) rfl rfl (by rw [arr_size]; exact R1.there) (info36 _) (arr_one _ _) ?_))
   exact bodyPost_ret (v := .agg (arr 16 (pt s 32))) (results_cell_row Tryz.results14 _ _ w.heap.size 36 (arr 16 (pt s 32)) (0, 0) _ rfl RR.out Tryz.underlying36 rfl (info36 _)) rfl ⟨rfl, OO.out⟩
theorem wid_S (f : Nat → Int) : S (wid f 16) 32 = S f 16 := by
 rw [S_upper_zero (wid f 16) fun i h _ => by unfold wid; rw [if_neg (by omega)]]
 exact S_congr fun i hi => by unfold wid; rw [if_pos hi]
theorem wid_48 {f : Nat → Int} (h : Dig f 16) : B48 (wid f 16) := ⟨fun i _ => by
 unfold wid
 by_cases hi : i < 16
 ·rw [if_pos hi]
  have := h i hi
  omega
 ·rw [if_neg hi]
  omega⟩
theorem rof_any (s : ByteArray) (w : World) (hs : s.size = 32) :
  Cs 87 #[.string s] w (.agg (arr 16 (d16 (val s % Pm)))) := by
 go_enter Tryz.func87, Tryz.ntmps87
 go_wp2_with fail
 rw [show #[Value.int .u64 0, Value.int .u64 0, Value.int .u64 0, Value.int .u64 0, Value.int .u64 0, Value.int .u64 0, Value.int .u64 0, Value.int .u64 0, Value.int .u64 0, Value.int .u64 0, Value.int .u64 0, Value.int .u64 0, Value.int .u64 0, Value.int .u64 0, Value.int .u64 0, Value.int .u64 0] = arr 16 (fun _ => 0) from rfl]
 have R := Row.new w 36 16 (fun _ => 0)
 have O := new_below w (.cells (arr 16 (fun _ => 0)) 36)
 refine (parts_any s _ hs).mono ?_
 rintro _ w1 ⟨rfl, hb⟩
 replace R := R.keep hb
 replace O := O.trans (hb.mono O.size)
 clear hb
 go_wp2_with fail
 refine (wide_any (pt s 32) _).mono ?_
 rintro _ w2 ⟨rfl, hb⟩
 replace R := R.keep hb
 replace O := O.trans (hb.mono O.size)
 clear hb
 go_wp2_with fail
 refine (reduce_any (wid (pt s 32) 16) _ (wid_48 (pt_dig s 32))).mono ?_
 rintro _ w3 ⟨rfl, hb⟩
 replace R := R.keep hb
 replace O := O.trans (hb.mono O.size)
 clear hb
 rw [wid_S, pt_S]
 have RR := hide (R.setAll (d16 (val s % Pm)))
 have OO := hide (below_setCells (g := w.heap.size) (Nat.le_refl _) (arr 16 (d16 (val s % Pm))).toList 0 O)
 go_wp2_with (refine wpList_store_mid rfl 36 _ _ rfl w.heap.size 0 (arr 16 (d16 (val s % Pm))) rfl rfl (by rw [arr_size]; exact R.there) (info36 _) (arr_one _ _) ?_)
 exact bodyPost_ret (v := .agg (arr 16 (d16 (val s % Pm)))) (results_cell_row Tryz.results87 _ _ w.heap.size 36 (arr 16 (d16 (val s % Pm))) (0, 0) _ rfl RR.out Tryz.underlying36 rfl (info36 _)) rfl ⟨rfl, OO.out⟩
theorem and16u {x : Int} (h0 : 0 ≤ x) (h1 : x < 4294967296) : bits .and .u32 x 65535 = x % 65536 := by
 rw [u32_and x _ h0 h1 (by decide) (by decide)]
 have e : (65535 : Int).toNat = 65535 := by decide
 rw [e, nat_mask16]
 omega
theorem small_arr {n : Int} (h0 : 0 ≤ n) (h1 : n < 4294967296) : arr 16 (d16 n) = #[.int .u64 (n % 65536), .int .u64 (n / 65536), .int .u64 0, .int .u64 0, .int .u64 0, .int .u64 0, .int .u64 0, .int .u64 0, .int .u64 0, .int .u64 0, .int .u64 0, .int .u64 0, .int .u64 0, .int .u64 0, .int .u64 0, .int .u64 0] := by
 have e : arr 16 (d16 n) = arr 16 (fun i => if i = 0 then n % 65536 else if i = 1 then n / 65536 else 0) := by
  refine arr_congr fun i hi => ?_
  unfold d16
  by_cases i0 : i = 0
  ·subst i0; simp
  ·by_cases i1 : i = 1
   ·subst i1; simp; omega
   ·rw [if_neg i0, if_neg i1]
    have hp : (4294967296 : Int) ≤ 65536 ^ i := by
     obtain ⟨j, rfl⟩ : ∃ j, i = j + 2 := ⟨i - 2, by omega⟩
     rw [Int.pow_add]
     have := p16 j
     have e2 : (65536 : Int) ^ 2 = 4294967296 := by decide
     rw [e2]
     omega
    rw [Int.ediv_eq_zero_of_lt h0 (by omega)]
    decide
 rw [e]
 rfl
theorem rsmall_any (n : Int) (w : World) (h0 : 0 ≤ n) (h1 : n < 4294967296) :
  Cs 89 #[.int .u32 n] w (.agg (arr 16 (d16 n))) := by
 have e := and16u h0 h1
 have HA := hide (small_arr h0 h1)
 go_enter Tryz.func89, Tryz.ntmps89
 go_wp2
 refine bodyPost_ret (v := .agg (arr 16 (d16 n))) ?_ rfl ⟨rfl, (Below.refl _ _).alloc (Nat.le_refl _) _⟩
 rw [HA.out]
 simp [results, Tryz.results89, go_sem]
theorem rcanon_yes (s : ByteArray) (w : World) (hs : s.size = 32) :
  Cs 86 #[.string s] w (.bool (decide (val s < Pm))) := by
 have n0 : ((s.size : Int) == 32) = true := by simp [hs]
 go_enter Tryz.func86, Tryz.ntmps86
 go_wp2_with fail
 refine (parts_any s _ hs).mono ?_
 rintro _ w1 ⟨rfl, hb1⟩
 go_wp2_with fail
 refine (prime_any _).mono ?_
 rintro _ w2 ⟨rfl, hb2⟩
 go_wp2_with fail
 refine (less_any (pt s 32) pF _ (pt_dig s 32) pF_dig).mono ?_
 rintro _ w3 ⟨rfl, hb3⟩
 rw [pF_S, pt_S]
 have O := hide ((hb1.trans (hb2.mono hb1.size)).trans (hb3.mono (by have := hb1.size; have := hb2.size; omega)))
 clear hb1 hb2 hb3
 generalize hd : decide (val s < Pm) = d
 have HD := hide hd
 clear hd
 go_wp2
 go_ret
 exact ⟨by rw [HD.out]; rfl, O.out⟩
def eqw (f g : Nat → Int) : Nat → Nat → Bool
 | _, 0 => true
 | k, m + 1 => (f k == g k) && eqw f g (k + 1) m
theorem run_eqs_from (d n : Nat) (f g : Nat → Int) (w : World) : ∀ (m k : Nat), k + m ≤ n →
  Sem.run Tryz.prog (forIn (List.range' k m 1) ((none, ()) : Option Bool × Unit) fun i _ => do
   let a ← part 34 (arr n f) i
   let b ← part 34 (arr n g) i
   let r ← Op.equalIn (d + 1) 34 a b
   if (!r) = true then pure (ForInStep.done (some false, ())) else pure (ForInStep.yield (none, ()))) w = .ok (if eqw f g k m = true then none else some false, ()) w := by
 intro m
 induction m with
 | zero => intro k _; simp [eqw, Sem.run_pure]
 | succ m ih =>
  intro k hk
  have hp : ∀ h : Nat → Int, (part 34 (arr n h) k).run Tryz.prog w = .ok (.int .u64 (h k)) w := fun h => by
   have ha : (isAgg 34).run Tryz.prog w = .ok false w := by kernel_rfl
   simp [part, Sem.run_bind, ha, arr_get n h k (by omega)]
  simp only [List.range'_succ, List.forIn_cons, Sem.run_bind, hp, Result.andThen_ok, run_equalIn_int w d 34 .u64 .u64 (f k) (g k) Tryz.underlying34]
  cases hc : (f k == g k)
  ·simp [eqw, hc, Sem.run_pure]
  ·simp only [Bool.not_true, Bool.false_eq_true, if_false, Sem.run_pure, Result.andThen_ok, eqw, hc, Bool.true_and]
   exact ih (k + 1) (by omega)
theorem run_equalIn_words (d : Nat) (t : TypeId) (n : Nat) (f g : Nat → Int) (w : World) (ht : Tryz.prog.underlying t = some (.array n 34)) :
  (Op.equalIn (d + 1 + 1) t (.agg (arr n f)) (.agg (arr n g))).run Tryz.prog w = .ok (eqw f g 0 n) w := by
 have hz : (sizeOf 34).run Tryz.prog w = .ok 1 w := by kernel_rfl
 rw [Op.equalIn]
 simp only [Sem.run_bind, run_underlying ht, Result.andThen_ok, hz, Nat.mul_one]
 rw [Std.Legacy.Range.forIn_eq_forIn_range']
 have e : ([:n] : Std.Legacy.Range).size = n := by simp [Std.Legacy.Range.size]
 rw [e]
 have h := run_eqs_from d n f g w n 0 (by omega)
 rw [h]
 cases hc : eqw f g 0 n <;> simp [Sem.run_pure]
theorem run_eql_words (t : TypeId) (n : Nat) (f g : Nat → Int) (w : World) (ht : Tryz.prog.underlying t = some (.array n 34)) :
  (binOp .eql t (.agg (arr n f)) (.agg (arr n g))).run Tryz.prog w = .ok (.bool (eqw f g 0 n)) w := by
 rw [run_eql_struct, run_equalIn_words 9998 t n f g w ht]
 rfl
def E5.fn (x : E5) (i : Nat) : Int := [x.a, x.b, x.c, x.d, x.e].getD i 0
def eq5 (x y : E5) : Bool := eqw x.fn y.fn 0 5
theorem run_eql_e5 (x y : E5) (w : World) : (binOp .eql 56 x.v y.v).run Tryz.prog w = .ok (.bool (eq5 x y)) w :=
 run_eql_words 56 5 x.fn y.fn w Tryz.underlying56
theorem eq5_iff (x y : E5) : eq5 x y = true ↔ x = y := by
 obtain ⟨a, b, c, d, e⟩ := x
 obtain ⟨f, g, h, i, j⟩ := y
 simp only [eq5, eqw, E5.fn, E5.mk.injEq]
 simp
theorem eqw_iff (f g : Nat → Int) : ∀ (m k : Nat), eqw f g k m = true ↔ ∀ i, k ≤ i → i < k + m → f i = g i := by
 intro m
 induction m with
 | zero => intro k; simp only [eqw]; exact ⟨fun _ i h1 h2 => by omega, fun _ => trivial⟩
 | succ m ih =>
  intro k
  simp only [eqw, Bool.and_eq_true, beq_iff_eq, ih (k + 1)]
  constructor
  ·intro h i h1 h2
   by_cases e : i = k
   ·rw [e]; exact h.1
   ·exact h.2 i (by omega) (by omega)
  ·intro h
   exact ⟨h k (by omega) (by omega), fun i h1 h2 => h i (by omega) (by omega)⟩
theorem oddR {y : E5} {n : Int} (h : y.Low) (e : y.n = n) : (bits BinOp.and IntKind.u64 y.a 1 == 1) = (n % 2 == 1) := by
 obtain ⟨a0, a1, b0, b1, c0, c1, d0, d1, e0, e1⟩ := h
 rw [u64_and y.a 1 a0 (by omega) (by decide) (by decide), show (1 : Int).toNat = 1 from rfl, nat_mask1, ← e]
 have : ((y.a.toNat % 2 : Nat) : Int) = y.n % 2 := by simp only [E5.n]; omega
 rw [this]
theorem odd_any (x : E5) (w : World) (hx : x.Ok) :
  Cs 66 #[x.v] w (.bool (x.n % Pm % 2 == 1)) := by
 have HN := hide (leastF_n hx)
 go_enter Tryz.func66, Tryz.ntmps66
 go_wp2_with fail
 refine (least_any x _ hx).mono ?_
 rintro _ w1 ⟨rfl, hb⟩
 have hl := leastF_low x
 generalize leastF x = y at *
 have i0 : ∀ w, (Instr.index 56 (.agg #[.int .u64 y.a, .int .u64 y.b, .int .u64 y.c, .int .u64 y.d, .int .u64 y.e]) (.int .i64 0)).run Tryz.prog w = .ok (.int .u64 y.a) w := fun _ => by kernel_rfl
 have H3 := hide (below1 hb)
 clear hb
 go_wp2
 go_ret
 exact ⟨by rw [← oddR hl HN.out]; rfl, H3.out⟩
theorem low_inj {x y : E5} (hx : x.Low) (hy : y.Low) (h : x.n = y.n) : x = y := by
 obtain ⟨a, b, c, d, e⟩ := x
 obtain ⟨f, g, i, j, k⟩ := y
 obtain ⟨a0, a1, b0, b1, c0, c1, d0, d1, e0, e1⟩ := hx
 obtain ⟨f0, f1, g0, g1, h0, h1, i0, i1, j0, j1⟩ := hy
 simp only [E5.n] at *
 have h1 : a = f := by omega
 have h2 : b = g := by omega
 have h3 : c = i := by omega
 have h4 : d = j := by omega
 have h5 : e = k := by omega
 rw [h1, h2, h3, h4, h5]
theorem sameR {x y : E5} (hx : x.Ok) (hy : y.Ok) : eq5 (leastF x) (leastF y) = (x.n % Pm == y.n % Pm) := by
 rw [Bool.eq_iff_iff, eq5_iff, beq_iff_eq, ← leastF_n hx, ← leastF_n hy]
 exact ⟨fun h => by rw [h], fun h => low_inj (leastF_low x) (leastF_low y) h⟩
theorem same_any (x y : E5) (w : World) (hx : x.Ok) (hy : y.Ok) :
  Cs 85 #[x.v, y.v] w (.bool (x.n % Pm == y.n % Pm)) := by
 have hg : Tryz.prog.eqGuardType Tryz.prog.depth 56 = false := by kernel_rfl
 have he := run_eql_e5 (leastF x) (leastF y)
 go_enter Tryz.func85, Tryz.ntmps85
 go_wp2_with fail
 have A := (EAt.new w x 58).alloc (.cells #[.int .u64 y.a, .int .u64 y.b, .int .u64 y.c, .int .u64 y.d, .int .u64 y.e] 58)
 have B := EAt.new (w.alloc (.cells #[.int .u64 x.a, .int .u64 x.b, .int .u64 x.c, .int .u64 x.d, .int .u64 x.e] 58)) y 58
 rw [World.size_alloc] at B
 have O := hide (((Below.refl w.heap.size w).alloc (Nat.le_refl _) (.cells #[.int .u64 x.a, .int .u64 x.b, .int .u64 x.c, .int .u64 x.d, .int .u64 x.e] 58)).alloc (by simp) (.cells #[.int .u64 y.a, .int .u64 y.b, .int .u64 y.c, .int .u64 y.d, .int .u64 y.e] 58))
 generalize (w.alloc (.cells #[.int .u64 x.a, .int .u64 x.b, .int .u64 x.c, .int .u64 x.d, .int .u64 x.e] 58)).alloc (.cells #[.int .u64 y.a, .int .u64 y.b, .int .u64 y.c, .int .u64 y.d, .int .u64 y.e] 58) = W at A B O ⊢
 have hne := KW.some W
 have c0 := A.k0
 have d0 := B.k0
 have c1 := A.k1
 have d1 := B.k1
 have c2 := A.k2
 have d2 := B.k2
 have c3 := A.k3
 have d3 := B.k3
 have c4 := A.k4
 have d4 := B.k4
 clear A B
 refine wp_region_keep (by kernel_rfl) (by kernel_rfl) ?_
 repeat (go_big_quiet_step ((go_at_call 123; exact keep_of (least_any _ _ (by first | exact hx | exact hy)))))
 refine wpQuiet_nil ?_
 intro s
 have hw := O.out.trans (s.keep.mono O.out.size)
 have HR := hide (sameR hx hy)
 clear he hg c0 c1 c2 c3 c4 d0 d1 d2 d3 d4 O hne
 go_wp2
 go_ret
 exact ⟨by rw [← HR.out]; rfl, hw⟩
theorem digs4 {a b c d : Int} (ha : 0 ≤ a ∧ a < 65536) (hb : 0 ≤ b ∧ b < 65536) (hc : 0 ≤ c ∧ c < 65536) (_hd : 0 ≤ d ∧ d < 65536) :
  digs (a + 65536 * b + 4294967296 * c + 281474976710656 * d) = [a % 256, a / 256 % 256, b % 256, b / 256 % 256, c % 256, c / 256 % 256, d % 256, d / 256 % 256] := by
 unfold digs
 have h1 : (a + 65536 * b + 4294967296 * c + 281474976710656 * d) % 256 = a % 256 := by omega
 have h2 : (a + 65536 * b + 4294967296 * c + 281474976710656 * d) / 256 % 256 = a / 256 % 256 := by omega
 have h3 : (a + 65536 * b + 4294967296 * c + 281474976710656 * d) / 65536 % 256 = b % 256 := by omega
 have h4 : (a + 65536 * b + 4294967296 * c + 281474976710656 * d) / 16777216 % 256 = b / 256 % 256 := by omega
 have h5 : (a + 65536 * b + 4294967296 * c + 281474976710656 * d) / 4294967296 % 256 = c % 256 := by omega
 have h6 : (a + 65536 * b + 4294967296 * c + 281474976710656 * d) / 1099511627776 % 256 = c / 256 % 256 := by omega
 have h7 : (a + 65536 * b + 4294967296 * c + 281474976710656 * d) / 281474976710656 % 256 = d % 256 := by omega
 have h8 : (a + 65536 * b + 4294967296 * c + 281474976710656 * d) / 72057594037927936 % 256 = d / 256 % 256 := by omega
 rw [h1, h2, h3, h4, h5, h6, h7, h8]
theorem S16 (f : Nat → Int) : S f 16 = f 0 + f 1 * 65536 + f 2 * 4294967296 + f 3 * 281474976710656 + f 4 * 18446744073709551616 + f 5 * 1208925819614629174706176 + f 6 * 79228162514264337593543950336 + f 7 * 5192296858534827628530496329220096 + f 8 * 340282366920938463463374607431768211456 + f 9 * 22300745198530623141535718272648361505980416 + f 10 * 1461501637330902918203684832716283019655932542976 + f 11 * 95780971304118053647396689196894323976171195136475136 + f 12 * 6277101735386680763835789423207666416102355444464034512896 + f 13 * 411376139330301510538742295639337626245683966408394965837152256 + f 14 * 26959946667150639794667015087019630673637144422540572481103610249216 + f 15 * 1766847064778384329583297500742918515827483896875618958121606201292619776 := by
 simp [S]
theorem lebytes_S {f : Nat → Int} (hf : Dig f 16) : lebytes (S f 16) = bs (rb f 32) := by
 have h0 := hf 0 (by omega)
 have h1 := hf 1 (by omega)
 have h2 := hf 2 (by omega)
 have h3 := hf 3 (by omega)
 have h4 := hf 4 (by omega)
 have h5 := hf 5 (by omega)
 have h6 := hf 6 (by omega)
 have h7 := hf 7 (by omega)
 have h8 := hf 8 (by omega)
 have h9 := hf 9 (by omega)
 have h10 := hf 10 (by omega)
 have h11 := hf 11 (by omega)
 have h12 := hf 12 (by omega)
 have h13 := hf 13 (by omega)
 have h14 := hf 14 (by omega)
 have h15 := hf 15 (by omega)
 have e := S16 f
 have w0 : S f 16 % 18446744073709551616 = f 0 + 65536 * f 1 + 4294967296 * f 2 + 281474976710656 * f 3 := by rw [e]; omega
 have w1 : S f 16 / 18446744073709551616 % 18446744073709551616 = f 4 + 65536 * f 5 + 4294967296 * f 6 + 281474976710656 * f 7 := by rw [e]; omega
 have w2 : S f 16 / 340282366920938463463374607431768211456 % 18446744073709551616 = f 8 + 65536 * f 9 + 4294967296 * f 10 + 281474976710656 * f 11 := by rw [e]; omega
 have w3 : S f 16 / 6277101735386680763835789423207666416102355444464034512896 % 18446744073709551616 = f 12 + 65536 * f 13 + 4294967296 * f 14 + 281474976710656 * f 15 := by rw [e]; omega
 unfold lebytes
 rw [w0, w1, w2, w3, digs4 h0 h1 h2 h3, digs4 h4 h5 h6 h7, digs4 h8 h9 h10 h11, digs4 h12 h13 h14 h15]
 congr 1
 simp [rb, by16, List.range, List.range.loop]
theorem Pm_pos : (0 : Int) < Pm := by decide
theorem Pm_16 : Pm < 65536 ^ 16 := by decide
theorem dS (M : Int) : S (d16 (M % Pm)) 16 = M % Pm := by
 have h0 := Int.emod_nonneg M (show Pm ≠ 0 by decide)
 have h1 := Int.emod_lt_of_pos M Pm_pos
 have h2 := Pm_16
 rw [d16_S _ h0, Int.emod_eq_of_lt h0 (by omega)]
theorem run_eq16 (f g : Nat → Int) {a : Act} {o : Oper} (x y : Operand) {rt : TypeId} (ho : o.op = .binOp .eql 36 x y rt) (hx : a.eval x = .agg (arr 16 f)) (hy : a.eval y = .agg (arr 16 g)) (hgu : ∀ w, (eqGuard .eql 36 x y (.agg (arr 16 f)) (.agg (arr 16 g))).run Tryz.prog w = .ok () w) (w : World) :
  (execOp a.eval o).run Tryz.prog w = .ok (.value (.bool (eqw f g 0 16))) w := by
 unfold execOp
 simp only [ho, hx, hy, hgu, run_eql_words 36 16 f g w Tryz.underlying36, Sem.run_bind, Result.andThen_ok, Sem.run_pure]
structure rofF (x y r1 r2 : Nat → Int) : Prop where
 h1 : ∀ w, Cs 89 #[.int .u32 1] w (.agg (arr 16 r1))
 h2 : ∀ w, Cs 53 #[.agg (arr 16 x), .agg (arr 16 y)] w (.agg (arr 16 r2))
theorem rof_gen (x y r1 r2 : Nat → Int) (w : World) (F : rofF x y r1 r2)  :
  Cs 94 #[.agg (arr 16 x), .agg (arr 16 y)] w (.agg (arr 64 (p4 16 x y r1 r2))) := by
 go_enter Tryz.func94, Tryz.ntmps94
 have M := Mem.start w
 refine sr ?_
 refine zN M 2 (.cells (arr 16 x) 36) fun g1 w1 M => ?_
 replace M : Mem w [⟨g1, .cells (arr 16 x) 36⟩] w1 := M
 refine zN M 3 (.cells (arr 16 y) 36) fun g2 w2 M => ?_
 replace M : Mem w [⟨g1, .cells (arr 16 x) 36⟩, ⟨g2, .cells (arr 16 y) 36⟩] w2 := M
 refine zN M 4 (.cells (arr 64 (fun _ => 0)) 52) fun g3 w3 M => ?_
 replace M : Mem w [⟨g1, .cells (arr 16 x) 36⟩, ⟨g2, .cells (arr 16 y) 36⟩, ⟨g3, .cells (arr 64 (fun _ => 0)) 52⟩] w3 := M
 refine nt ?_
 refine wp_seq ?_
 refine rg_tail M 7 (by kernel_rfl) (by kernel_rfl) ?_
 simp only [List.take_succ_cons, List.take_zero]
 refine wA M 5 0 rfl ?_
 refine wA M 6 1 rfl ?_
 refine wC 7 F.h1 ?_
 refine wA M 8 0 rfl ?_
 refine wA M 9 1 rfl ?_
 refine wC 10 F.h2 ?_
 refine kv 11 (.agg (arr 64 (p4 16 x y r1 r2))) ?_
 refine kl_nil fun w4 M => ?_
 replace M : Mem w [⟨g1, .cells (arr 16 x) 36⟩, ⟨g2, .cells (arr 16 y) 36⟩, ⟨g3, .cells (arr 64 (fun _ => 0)) 52⟩] w4 := M
 refine zW M 2 rfl (p4 16 x y r1 r2) fun w5 M => ?_
 replace M : Mem w [⟨g1, .cells (arr 16 x) 36⟩, ⟨g2, .cells (arr 16 y) 36⟩, ⟨g3, .cells (arr 64 (p4 16 x y r1 r2)) 52⟩] w5 := M
 refine nt ?_
 refine wp_ret ?_
 exact bodyPost_ret (v := .agg (arr 64 (p4 16 x y r1 r2))) (results_cell_row Tryz.results94 _ _ g3 52 (arr 64 (p4 16 x y r1 r2)) (0, 0) _ (by kernel_rfl) (M.get 2 rfl) Tryz.underlying52 rfl (by rw [arr_size]; exact inz52)) (by kernel_rfl) ⟨rfl, M.old⟩
structure rzeroF (r1 : Nat → Int) : Prop where
 h1 : ∀ w, Cs 89 #[.int .u32 1] w (.agg (arr 16 r1))
theorem rzero_gen (r1 : Nat → Int) (w : World) (F : rzeroF r1)  :
  Cs 48 #[] w (.agg (arr 64 (p4 16 (fun _ => 0) r1 r1 (fun _ => 0)))) := by
 go_enter Tryz.func48, Tryz.ntmps48
 have M := Mem.start w
 refine sr ?_
 refine zN M 0 (.cells (arr 64 (fun _ => 0)) 52) fun g1 w1 M => ?_
 replace M : Mem w [⟨g1, .cells (arr 64 (fun _ => 0)) 52⟩] w1 := M
 refine nt <| sr ?_
 refine zC M 1 F.h1 fun w2 M => ?_
 refine zC M 2 F.h1 fun w3 M => ?_
 refine pv 3 (.agg (arr 64 (p4 16 (fun _ => 0) r1 r1 (fun _ => 0)))) ?_
 refine zW M 0 rfl (p4 16 (fun _ => 0) r1 r1 (fun _ => 0)) fun w4 M => ?_
 replace M : Mem w [⟨g1, .cells (arr 64 (p4 16 (fun _ => 0) r1 r1 (fun _ => 0))) 52⟩] w4 := M
 refine nt ?_
 refine wp_ret ?_
 exact bodyPost_ret (v := .agg (arr 64 (p4 16 (fun _ => 0) r1 r1 (fun _ => 0)))) (results_cell_row Tryz.results48 _ _ g1 52 (arr 64 (p4 16 (fun _ => 0) r1 r1 (fun _ => 0))) (0, 0) _ (by kernel_rfl) (M.get 0 rfl) Tryz.underlying52 rfl (by rw [arr_size]; exact inz52)) (by kernel_rfl) ⟨rfl, M.old⟩
structure rgivenF (r1 : Nat → Int) : Prop where
 h1 : ∀ w, Cs 87 #[.string ⟨#[163, 120, 89, 19, 202, 77, 235, 117, 171, 216, 65, 65, 77, 10, 112, 0, 152, 232, 121, 119, 121, 64, 199, 140, 115, 254, 111, 43, 238, 108, 3, 82]⟩] w (.agg (arr 16 r1))
theorem rgiven_gen (r1 : Nat → Int) (w : World) (F : rgivenF r1)  :
  Cs 137 #[] w (.agg (arr 16 r1)) := by
 go_enter Tryz.func137, Tryz.ntmps137
 have M := Mem.start w
 refine sr ?_
 refine zN M 0 (.cells (arr 16 (fun _ => 0)) 36) fun g1 w1 M => ?_
 replace M : Mem w [⟨g1, .cells (arr 16 (fun _ => 0)) 36⟩] w1 := M
 refine nt <| sr ?_
 refine zC M 1 F.h1 fun w2 M => ?_
 refine zW M 0 rfl r1 fun w3 M => ?_
 replace M : Mem w [⟨g1, .cells (arr 16 r1) 36⟩] w3 := M
 refine nt ?_
 refine wp_ret ?_
 exact bodyPost_ret (v := .agg (arr 16 r1)) (results_cell_row Tryz.results137 _ _ g1 36 (arr 16 r1) (0, 0) _ (by kernel_rfl) (M.get 0 rfl) Tryz.underlying36 rfl (by rw [arr_size]; exact inz36)) (by kernel_rfl) ⟨rfl, M.old⟩
structure rDF (r1 r2 r3 r4 r5 : Nat → Int) : Prop where
 h1 : ∀ w, Cs 89 #[.int .u32 121665] w (.agg (arr 16 r1))
 h2 : ∀ w, Cs 93 #[.agg (arr 16 r1)] w (.agg (arr 16 r2))
 h3 : ∀ w, Cs 89 #[.int .u32 121666] w (.agg (arr 16 r3))
 h4 : ∀ w, Cs 52 #[.agg (arr 16 r3)] w (.agg (arr 16 r4))
 h5 : ∀ w, Cs 53 #[.agg (arr 16 r2), .agg (arr 16 r4)] w (.agg (arr 16 r5))
theorem rD_gen (r1 r2 r3 r4 r5 : Nat → Int) (w : World) (F : rDF r1 r2 r3 r4 r5)  :
  Cs 90 #[] w (.agg (arr 16 r5)) := by
 go_enter Tryz.func90, Tryz.ntmps90
 have M := Mem.start w
 refine sr ?_
 refine zN M 0 (.cells (arr 16 (fun _ => 0)) 36) fun g1 w1 M => ?_
 replace M : Mem w [⟨g1, .cells (arr 16 (fun _ => 0)) 36⟩] w1 := M
 refine nt <| sr ?_
 refine zC M 1 F.h1 fun w2 M => ?_
 refine zC M 2 F.h2 fun w3 M => ?_
 refine zC M 3 F.h3 fun w4 M => ?_
 refine zC M 4 F.h4 fun w5 M => ?_
 refine zC M 5 F.h5 fun w6 M => ?_
 refine zW M 0 rfl r5 fun w7 M => ?_
 replace M : Mem w [⟨g1, .cells (arr 16 r5) 36⟩] w7 := M
 refine nt ?_
 refine wp_ret ?_
 exact bodyPost_ret (v := .agg (arr 16 r5)) (results_cell_row Tryz.results90 _ _ g1 36 (arr 16 r5) (0, 0) _ (by kernel_rfl) (M.get 0 rfl) Tryz.underlying36 rfl (by rw [arr_size]; exact inz36)) (by kernel_rfl) ⟨rfl, M.old⟩
structure rteesF (px py pz pt qx qy qz qt r1 r2 r3 : Nat → Int) : Prop where
 h1 : ∀ w, Cs 137 #[] w (.agg (arr 16 r1))
 h2 : ∀ w, Cs 53 #[.agg (arr 16 r1), .agg (arr 16 pt)] w (.agg (arr 16 r2))
 h3 : ∀ w, Cs 53 #[.agg (arr 16 r2), .agg (arr 16 qt)] w (.agg (arr 16 r3))
theorem rtees_gen (px py pz pt qx qy qz qt r1 r2 r3 : Nat → Int) (w : World) (F : rteesF px py pz pt qx qy qz qt r1 r2 r3)  :
  Cs 95 #[.agg (arr 64 (p4 16 px py pz pt)), .agg (arr 64 (p4 16 qx qy qz qt))] w (.agg (arr 16 r3)) := by
 go_enter Tryz.func95, Tryz.ntmps95
 have M := Mem.start w
 refine sr ?_
 refine zN M 2 (.cells (arr 64 (p4 16 px py pz pt)) 52) fun g1 w1 M => ?_
 replace M : Mem w [⟨g1, .cells (arr 64 (p4 16 px py pz pt)) 52⟩] w1 := M
 refine zN M 3 (.cells (arr 64 (p4 16 qx qy qz qt)) 52) fun g2 w2 M => ?_
 replace M : Mem w [⟨g1, .cells (arr 64 (p4 16 px py pz pt)) 52⟩, ⟨g2, .cells (arr 64 (p4 16 qx qy qz qt)) 52⟩] w2 := M
 refine zN M 4 (.cells (arr 16 (fun _ => 0)) 36) fun g3 w3 M => ?_
 replace M : Mem w [⟨g1, .cells (arr 64 (p4 16 px py pz pt)) 52⟩, ⟨g2, .cells (arr 64 (p4 16 qx qy qz qt)) 52⟩, ⟨g3, .cells (arr 16 (fun _ => 0)) 36⟩] w3 := M
 refine nt ?_
 refine wp_seq ?_
 refine rg_tail M 7 (by kernel_rfl) (by kernel_rfl) ?_
 simp only [List.take_succ_cons, List.take_zero]
 refine wC 5 F.h1 ?_
 refine kv 6 (.pointer (some ⟨g1, 48, none⟩)) ?_
 refine wL M 7 0 rfl 48 16 (p4_3 16 px py pz pt 48 rfl) ?_
 refine wC 8 F.h2 ?_
 refine kv 9 (.pointer (some ⟨g2, 48, none⟩)) ?_
 refine wL M 10 1 rfl 48 16 (p4_3 16 qx qy qz qt 48 rfl) ?_
 refine wC 11 F.h3 ?_
 refine kl_nil fun w4 M => ?_
 replace M : Mem w [⟨g1, .cells (arr 64 (p4 16 px py pz pt)) 52⟩, ⟨g2, .cells (arr 64 (p4 16 qx qy qz qt)) 52⟩, ⟨g3, .cells (arr 16 (fun _ => 0)) 36⟩] w4 := M
 refine zW M 2 rfl r3 fun w5 M => ?_
 replace M : Mem w [⟨g1, .cells (arr 64 (p4 16 px py pz pt)) 52⟩, ⟨g2, .cells (arr 64 (p4 16 qx qy qz qt)) 52⟩, ⟨g3, .cells (arr 16 r3) 36⟩] w5 := M
 refine nt ?_
 refine wp_ret ?_
 exact bodyPost_ret (v := .agg (arr 16 r3)) (results_cell_row Tryz.results95 _ _ g3 36 (arr 16 r3) (0, 0) _ (by kernel_rfl) (M.get 2 rfl) Tryz.underlying36 rfl (by rw [arr_size]; exact inz36)) (by kernel_rfl) ⟨rfl, M.old⟩
structure raddF (px py pz pt qx qy qz qt r1 r2 r3 r4 r5 r6 r7 r8 r9 r10 r11 r12 r13 r14 : Nat → Int) : Prop where
 h1 : ∀ w, Cs 53 #[.agg (arr 16 px), .agg (arr 16 qy)] w (.agg (arr 16 r1))
 h2 : ∀ w, Cs 53 #[.agg (arr 16 py), .agg (arr 16 qx)] w (.agg (arr 16 r2))
 h3 : ∀ w, Cs 91 #[.agg (arr 16 r1), .agg (arr 16 r2)] w (.agg (arr 16 r3))
 h4 : ∀ w, Cs 53 #[.agg (arr 16 py), .agg (arr 16 qy)] w (.agg (arr 16 r4))
 h5 : ∀ w, Cs 53 #[.agg (arr 16 px), .agg (arr 16 qx)] w (.agg (arr 16 r5))
 h6 : ∀ w, Cs 91 #[.agg (arr 16 r4), .agg (arr 16 r5)] w (.agg (arr 16 r6))
 h7 : ∀ w, Cs 95 #[.agg (arr 64 (p4 16 px py pz pt)), .agg (arr 64 (p4 16 qx qy qz qt))] w (.agg (arr 16 r7))
 h8 : ∀ w, Cs 53 #[.agg (arr 16 pz), .agg (arr 16 qz)] w (.agg (arr 16 r8))
 h9 : ∀ w, Cs 88 #[.agg (arr 16 r8), .agg (arr 16 r7)] w (.agg (arr 16 r9))
 h10 : ∀ w, Cs 91 #[.agg (arr 16 r8), .agg (arr 16 r7)] w (.agg (arr 16 r10))
 h11 : ∀ w, Cs 53 #[.agg (arr 16 r3), .agg (arr 16 r9)] w (.agg (arr 16 r11))
 h12 : ∀ w, Cs 53 #[.agg (arr 16 r10), .agg (arr 16 r6)] w (.agg (arr 16 r12))
 h13 : ∀ w, Cs 53 #[.agg (arr 16 r9), .agg (arr 16 r10)] w (.agg (arr 16 r13))
 h14 : ∀ w, Cs 53 #[.agg (arr 16 r3), .agg (arr 16 r6)] w (.agg (arr 16 r14))
theorem radd_gen (px py pz pt qx qy qz qt r1 r2 r3 r4 r5 r6 r7 r8 r9 r10 r11 r12 r13 r14 : Nat → Int) (w : World) (F : raddF px py pz pt qx qy qz qt r1 r2 r3 r4 r5 r6 r7 r8 r9 r10 r11 r12 r13 r14)  :
  Cs 44 #[.agg (arr 64 (p4 16 px py pz pt)), .agg (arr 64 (p4 16 qx qy qz qt))] w (.agg (arr 64 (p4 16 r11 r12 r13 r14))) := by
 go_enter Tryz.func44, Tryz.ntmps44
 have M := Mem.start w
 refine sr ?_
 refine zN M 2 (.cells (arr 64 (p4 16 px py pz pt)) 52) fun g1 w1 M => ?_
 replace M : Mem w [⟨g1, .cells (arr 64 (p4 16 px py pz pt)) 52⟩] w1 := M
 refine zN M 3 (.cells (arr 64 (p4 16 qx qy qz qt)) 52) fun g2 w2 M => ?_
 replace M : Mem w [⟨g1, .cells (arr 64 (p4 16 px py pz pt)) 52⟩, ⟨g2, .cells (arr 64 (p4 16 qx qy qz qt)) 52⟩] w2 := M
 refine zN M 4 (.cells (arr 64 (fun _ => 0)) 52) fun g3 w3 M => ?_
 replace M : Mem w [⟨g1, .cells (arr 64 (p4 16 px py pz pt)) 52⟩, ⟨g2, .cells (arr 64 (p4 16 qx qy qz qt)) 52⟩, ⟨g3, .cells (arr 64 (fun _ => 0)) 52⟩] w3 := M
 refine nt ?_
 refine wp_seq ?_
 refine rg_allocs M 11 [(5, 36, 16)] (by kernel_rfl) (by kernel_rfl) ⟨rfl, rfl, fun _ _ => by kernel_rfl, trivial⟩ (by decide) ?_
 simp only [List.take_succ_cons, List.take_zero]
 refine kv 11 (.pointer (some ⟨g1, 0, none⟩)) ?_
 refine wL M 12 0 rfl 0 16 (p4_0 16 px py pz pt 0 rfl) ?_
 refine kv 13 (.pointer (some ⟨g2, 16, none⟩)) ?_
 refine wL M 14 1 rfl 16 16 (p4_1 16 qx qy qz qt 16 rfl) ?_
 refine wC 15 F.h1 ?_
 refine kv 16 (.pointer (some ⟨g1, 16, none⟩)) ?_
 refine wL M 17 0 rfl 16 16 (p4_1 16 px py pz pt 16 rfl) ?_
 refine kv 18 (.pointer (some ⟨g2, 0, none⟩)) ?_
 refine wL M 19 1 rfl 0 16 (p4_0 16 qx qy qz qt 0 rfl) ?_
 refine wC 20 F.h2 ?_
 refine wC 21 F.h3 ?_
 refine kl_nil fun w4 g4 M => ?_
 replace M : Mem w [⟨g1, .cells (arr 64 (p4 16 px py pz pt)) 52⟩, ⟨g2, .cells (arr 64 (p4 16 qx qy qz qt)) 52⟩, ⟨g3, .cells (arr 64 (fun _ => 0)) 52⟩, ⟨g4, .cells (arr 16 (fun _ => 0)) 36⟩] w4 := M
 refine zW M 3 rfl r3 fun w5 M => ?_
 replace M : Mem w [⟨g1, .cells (arr 64 (p4 16 px py pz pt)) 52⟩, ⟨g2, .cells (arr 64 (p4 16 qx qy qz qt)) 52⟩, ⟨g3, .cells (arr 64 (fun _ => 0)) 52⟩, ⟨g4, .cells (arr 16 r3) 36⟩] w5 := M
 refine nt ?_
 refine wp_seq ?_
 refine rg_allocs M 11 [(6, 36, 16)] (by kernel_rfl) (by kernel_rfl) ⟨rfl, rfl, fun _ _ => by kernel_rfl, trivial⟩ (by decide) ?_
 simp only [List.take_succ_cons, List.take_zero]
 refine kv 22 (.pointer (some ⟨g1, 16, none⟩)) ?_
 refine wL M 23 0 rfl 16 16 (p4_1 16 px py pz pt 16 rfl) ?_
 refine kv 24 (.pointer (some ⟨g2, 16, none⟩)) ?_
 refine wL M 25 1 rfl 16 16 (p4_1 16 qx qy qz qt 16 rfl) ?_
 refine wC 26 F.h4 ?_
 refine kv 27 (.pointer (some ⟨g1, 0, none⟩)) ?_
 refine wL M 28 0 rfl 0 16 (p4_0 16 px py pz pt 0 rfl) ?_
 refine kv 29 (.pointer (some ⟨g2, 0, none⟩)) ?_
 refine wL M 30 1 rfl 0 16 (p4_0 16 qx qy qz qt 0 rfl) ?_
 refine wC 31 F.h5 ?_
 refine wC 32 F.h6 ?_
 refine kl_nil fun w6 g5 M => ?_
 replace M : Mem w [⟨g1, .cells (arr 64 (p4 16 px py pz pt)) 52⟩, ⟨g2, .cells (arr 64 (p4 16 qx qy qz qt)) 52⟩, ⟨g3, .cells (arr 64 (fun _ => 0)) 52⟩, ⟨g4, .cells (arr 16 r3) 36⟩, ⟨g5, .cells (arr 16 (fun _ => 0)) 36⟩] w6 := M
 refine zW M 4 rfl r6 fun w7 M => ?_
 replace M : Mem w [⟨g1, .cells (arr 64 (p4 16 px py pz pt)) 52⟩, ⟨g2, .cells (arr 64 (p4 16 qx qy qz qt)) 52⟩, ⟨g3, .cells (arr 64 (fun _ => 0)) 52⟩, ⟨g4, .cells (arr 16 r3) 36⟩, ⟨g5, .cells (arr 16 r6) 36⟩] w7 := M
 refine nt <| sr ?_
 refine zA M 33 0 rfl ?_
 refine zA M 34 1 rfl ?_
 refine zC M 35 F.h7 fun w8 M => ?_
 refine zN M 7 (.cells (arr 16 (fun _ => 0)) 36) fun g6 w9 M => ?_
 replace M : Mem w [⟨g1, .cells (arr 64 (p4 16 px py pz pt)) 52⟩, ⟨g2, .cells (arr 64 (p4 16 qx qy qz qt)) 52⟩, ⟨g3, .cells (arr 64 (fun _ => 0)) 52⟩, ⟨g4, .cells (arr 16 r3) 36⟩, ⟨g5, .cells (arr 16 r6) 36⟩, ⟨g6, .cells (arr 16 (fun _ => 0)) 36⟩] w9 := M
 refine zW M 5 rfl r7 fun w10 M => ?_
 replace M : Mem w [⟨g1, .cells (arr 64 (p4 16 px py pz pt)) 52⟩, ⟨g2, .cells (arr 64 (p4 16 qx qy qz qt)) 52⟩, ⟨g3, .cells (arr 64 (fun _ => 0)) 52⟩, ⟨g4, .cells (arr 16 r3) 36⟩, ⟨g5, .cells (arr 16 r6) 36⟩, ⟨g6, .cells (arr 16 r7) 36⟩] w10 := M
 refine nt <| sr <| pv 36 (.pointer (some ⟨g1, 32, none⟩)) ?_
 refine zL M 37 0 rfl 32 16 (p4_2 16 px py pz pt 32 rfl) ?_
 refine pv 38 (.pointer (some ⟨g2, 32, none⟩)) ?_
 refine zL M 39 1 rfl 32 16 (p4_2 16 qx qy qz qt 32 rfl) ?_
 refine zC M 40 F.h8 fun w11 M => ?_
 refine zN M 8 (.cells (arr 16 (fun _ => 0)) 36) fun g7 w12 M => ?_
 replace M : Mem w [⟨g1, .cells (arr 64 (p4 16 px py pz pt)) 52⟩, ⟨g2, .cells (arr 64 (p4 16 qx qy qz qt)) 52⟩, ⟨g3, .cells (arr 64 (fun _ => 0)) 52⟩, ⟨g4, .cells (arr 16 r3) 36⟩, ⟨g5, .cells (arr 16 r6) 36⟩, ⟨g6, .cells (arr 16 r7) 36⟩, ⟨g7, .cells (arr 16 (fun _ => 0)) 36⟩] w12 := M
 refine zW M 6 rfl r8 fun w13 M => ?_
 replace M : Mem w [⟨g1, .cells (arr 64 (p4 16 px py pz pt)) 52⟩, ⟨g2, .cells (arr 64 (p4 16 qx qy qz qt)) 52⟩, ⟨g3, .cells (arr 64 (fun _ => 0)) 52⟩, ⟨g4, .cells (arr 16 r3) 36⟩, ⟨g5, .cells (arr 16 r6) 36⟩, ⟨g6, .cells (arr 16 r7) 36⟩, ⟨g7, .cells (arr 16 r8) 36⟩] w13 := M
 refine nt <| sr ?_
 refine zA M 41 6 rfl ?_
 refine zA M 42 5 rfl ?_
 refine zC M 43 F.h9 fun w14 M => ?_
 refine zN M 9 (.cells (arr 16 (fun _ => 0)) 36) fun g8 w15 M => ?_
 replace M : Mem w [⟨g1, .cells (arr 64 (p4 16 px py pz pt)) 52⟩, ⟨g2, .cells (arr 64 (p4 16 qx qy qz qt)) 52⟩, ⟨g3, .cells (arr 64 (fun _ => 0)) 52⟩, ⟨g4, .cells (arr 16 r3) 36⟩, ⟨g5, .cells (arr 16 r6) 36⟩, ⟨g6, .cells (arr 16 r7) 36⟩, ⟨g7, .cells (arr 16 r8) 36⟩, ⟨g8, .cells (arr 16 (fun _ => 0)) 36⟩] w15 := M
 refine zW M 7 rfl r9 fun w16 M => ?_
 replace M : Mem w [⟨g1, .cells (arr 64 (p4 16 px py pz pt)) 52⟩, ⟨g2, .cells (arr 64 (p4 16 qx qy qz qt)) 52⟩, ⟨g3, .cells (arr 64 (fun _ => 0)) 52⟩, ⟨g4, .cells (arr 16 r3) 36⟩, ⟨g5, .cells (arr 16 r6) 36⟩, ⟨g6, .cells (arr 16 r7) 36⟩, ⟨g7, .cells (arr 16 r8) 36⟩, ⟨g8, .cells (arr 16 r9) 36⟩] w16 := M
 refine nt <| sr ?_
 refine zA M 44 6 rfl ?_
 refine zA M 45 5 rfl ?_
 refine zC M 46 F.h10 fun w17 M => ?_
 refine zN M 10 (.cells (arr 16 (fun _ => 0)) 36) fun g9 w18 M => ?_
 replace M : Mem w [⟨g1, .cells (arr 64 (p4 16 px py pz pt)) 52⟩, ⟨g2, .cells (arr 64 (p4 16 qx qy qz qt)) 52⟩, ⟨g3, .cells (arr 64 (fun _ => 0)) 52⟩, ⟨g4, .cells (arr 16 r3) 36⟩, ⟨g5, .cells (arr 16 r6) 36⟩, ⟨g6, .cells (arr 16 r7) 36⟩, ⟨g7, .cells (arr 16 r8) 36⟩, ⟨g8, .cells (arr 16 r9) 36⟩, ⟨g9, .cells (arr 16 (fun _ => 0)) 36⟩] w18 := M
 refine zW M 8 rfl r10 fun w19 M => ?_
 replace M : Mem w [⟨g1, .cells (arr 64 (p4 16 px py pz pt)) 52⟩, ⟨g2, .cells (arr 64 (p4 16 qx qy qz qt)) 52⟩, ⟨g3, .cells (arr 64 (fun _ => 0)) 52⟩, ⟨g4, .cells (arr 16 r3) 36⟩, ⟨g5, .cells (arr 16 r6) 36⟩, ⟨g6, .cells (arr 16 r7) 36⟩, ⟨g7, .cells (arr 16 r8) 36⟩, ⟨g8, .cells (arr 16 r9) 36⟩, ⟨g9, .cells (arr 16 r10) 36⟩] w19 := M
 refine nt ?_
 refine wp_seq ?_
 refine rg_tail M 13 (by kernel_rfl) (by kernel_rfl) ?_
 simp only [List.take_succ_cons, List.take_zero]
 refine wA M 47 3 rfl ?_
 refine wA M 48 7 rfl ?_
 refine wC 49 F.h11 ?_
 refine wA M 50 8 rfl ?_
 refine wA M 51 4 rfl ?_
 refine wC 52 F.h12 ?_
 refine wA M 53 7 rfl ?_
 refine wA M 54 8 rfl ?_
 refine wC 55 F.h13 ?_
 refine wA M 56 3 rfl ?_
 refine wA M 57 4 rfl ?_
 refine wC 58 F.h14 ?_
 refine kv 59 (.agg (arr 64 (p4 16 r11 r12 r13 r14))) ?_
 refine kl_nil fun w20 M => ?_
 replace M : Mem w [⟨g1, .cells (arr 64 (p4 16 px py pz pt)) 52⟩, ⟨g2, .cells (arr 64 (p4 16 qx qy qz qt)) 52⟩, ⟨g3, .cells (arr 64 (fun _ => 0)) 52⟩, ⟨g4, .cells (arr 16 r3) 36⟩, ⟨g5, .cells (arr 16 r6) 36⟩, ⟨g6, .cells (arr 16 r7) 36⟩, ⟨g7, .cells (arr 16 r8) 36⟩, ⟨g8, .cells (arr 16 r9) 36⟩, ⟨g9, .cells (arr 16 r10) 36⟩] w20 := M
 refine zW M 2 rfl (p4 16 r11 r12 r13 r14) fun w21 M => ?_
 replace M : Mem w [⟨g1, .cells (arr 64 (p4 16 px py pz pt)) 52⟩, ⟨g2, .cells (arr 64 (p4 16 qx qy qz qt)) 52⟩, ⟨g3, .cells (arr 64 (p4 16 r11 r12 r13 r14)) 52⟩, ⟨g4, .cells (arr 16 r3) 36⟩, ⟨g5, .cells (arr 16 r6) 36⟩, ⟨g6, .cells (arr 16 r7) 36⟩, ⟨g7, .cells (arr 16 r8) 36⟩, ⟨g8, .cells (arr 16 r9) 36⟩, ⟨g9, .cells (arr 16 r10) 36⟩] w21 := M
 refine nt ?_
 refine wp_ret ?_
 exact bodyPost_ret (v := .agg (arr 64 (p4 16 r11 r12 r13 r14))) (results_cell_row Tryz.results44 _ _ g3 52 (arr 64 (p4 16 r11 r12 r13 r14)) (0, 0) _ (by kernel_rfl) (M.get 2 rfl) Tryz.underlying52 rfl (by rw [arr_size]; exact inz52)) (by kernel_rfl) ⟨rfl, M.old⟩
structure rsameFF (px py pz pt qx qy qz qt r1 r2 : Nat → Int) : Prop where
 h1 : ∀ w, Cs 53 #[.agg (arr 16 px), .agg (arr 16 qz)] w (.agg (arr 16 r1))
 h2 : ∀ w, Cs 53 #[.agg (arr 16 qx), .agg (arr 16 pz)] w (.agg (arr 16 r2))
theorem rsameF_gen (px py pz pt qx qy qz qt r1 r2 : Nat → Int) (w : World) (F : rsameFF px py pz pt qx qy qz qt r1 r2) (he : eqw r1 r2 0 16 = false) :
  Cs 43 #[.agg (arr 64 (p4 16 px py pz pt)), .agg (arr 64 (p4 16 qx qy qz qt))] w (.bool false) := by
 go_enter Tryz.func43, Tryz.ntmps43
 have M := Mem.start w
 refine sr ?_
 refine zN M 2 (.cells (arr 64 (p4 16 px py pz pt)) 52) fun g1 w1 M => ?_
 replace M : Mem w [⟨g1, .cells (arr 64 (p4 16 px py pz pt)) 52⟩] w1 := M
 refine zN M 3 (.cells (arr 64 (p4 16 qx qy qz qt)) 52) fun g2 w2 M => ?_
 replace M : Mem w [⟨g1, .cells (arr 64 (p4 16 px py pz pt)) 52⟩, ⟨g2, .cells (arr 64 (p4 16 qx qy qz qt)) 52⟩] w2 := M
 refine pv 4 (.bool false) <| nt ?_
 refine wp_seq ?_
 refine rg_tail M 24 (by kernel_rfl) (by kernel_rfl) ?_
 simp only [List.take_succ_cons, List.take_zero]
 refine kv 5 (.pointer (some ⟨g1, 0, none⟩)) ?_
 refine wL M 6 0 rfl 0 16 (p4_0 16 px py pz pt 0 rfl) ?_
 refine kv 7 (.pointer (some ⟨g2, 32, none⟩)) ?_
 refine wL M 8 1 rfl 32 16 (p4_2 16 qx qy qz qt 32 rfl) ?_
 refine wC 9 F.h1 ?_
 refine kv 10 (.pointer (some ⟨g2, 0, none⟩)) ?_
 refine wL M 11 1 rfl 0 16 (p4_0 16 qx qy qz qt 0 rfl) ?_
 refine kv 12 (.pointer (some ⟨g1, 32, none⟩)) ?_
 refine wL M 13 0 rfl 32 16 (p4_2 16 px py pz pt 32 rfl) ?_
 refine wC 14 F.h2 ?_
 refine k_val (want_no rfl) (some 15) rfl (.bool false) (fun w => (run_eq16 r1 r2 _ _ rfl (by kernel_rfl) (by kernel_rfl) (fun _ => by kernel_rfl) w).trans (by rw [he])) ?_
 refine kv 16 (.bool false) ?_
 refine k_skip (want_off 11 true rfl 16 rfl (by kernel_rfl)) (some 17) rfl ?_
 refine k_skip (want_off 11 true rfl 16 rfl (by kernel_rfl)) (some 18) rfl ?_
 refine k_skip (want_off 11 true rfl 16 rfl (by kernel_rfl)) (some 19) rfl ?_
 refine k_skip (want_off 11 true rfl 16 rfl (by kernel_rfl)) (some 20) rfl ?_
 refine k_skip (want_off 11 true rfl 16 rfl (by kernel_rfl)) (some 21) rfl ?_
 refine k_skip (want_off 11 true rfl 16 rfl (by kernel_rfl)) (some 22) rfl ?_
 refine k_skip (want_off 11 true rfl 16 rfl (by kernel_rfl)) (some 23) rfl ?_
 refine k_skip (want_off 11 true rfl 16 rfl (by kernel_rfl)) (some 24) rfl ?_
 refine k_skip (want_off 11 true rfl 16 rfl (by kernel_rfl)) (some 25) rfl ?_
 refine k_skip (want_off 11 true rfl 16 rfl (by kernel_rfl)) (some 26) rfl ?_
 refine k_skip (want_off 11 true rfl 16 rfl (by kernel_rfl)) (some 27) rfl ?_
 refine kv 28 (.bool false) ?_
 refine kl_nil fun w3 M => ?_
 replace M : Mem w [⟨g1, .cells (arr 64 (p4 16 px py pz pt)) 52⟩, ⟨g2, .cells (arr 64 (p4 16 qx qy qz qt)) 52⟩] w3 := M
 refine pv 4 (.bool false) <| nt ?_
 refine wp_ret ?_
 exact bodyPost_ret (v := .bool false) (results_tmp1 Tryz.results43 _ _ _ (by kernel_rfl)) (by kernel_rfl) ⟨rfl, M.old⟩
structure rsameTF (px py pz pt qx qy qz qt r1 r2 r3 r4 : Nat → Int) : Prop where
 h1 : ∀ w, Cs 53 #[.agg (arr 16 px), .agg (arr 16 qz)] w (.agg (arr 16 r1))
 h2 : ∀ w, Cs 53 #[.agg (arr 16 qx), .agg (arr 16 pz)] w (.agg (arr 16 r2))
 h3 : ∀ w, Cs 53 #[.agg (arr 16 py), .agg (arr 16 qz)] w (.agg (arr 16 r3))
 h4 : ∀ w, Cs 53 #[.agg (arr 16 qy), .agg (arr 16 pz)] w (.agg (arr 16 r4))
theorem rsameT_gen (px py pz pt qx qy qz qt r1 r2 r3 r4 : Nat → Int) (w : World) (F : rsameTF px py pz pt qx qy qz qt r1 r2 r3 r4) (he : eqw r1 r2 0 16 = true) :
  Cs 43 #[.agg (arr 64 (p4 16 px py pz pt)), .agg (arr 64 (p4 16 qx qy qz qt))] w (.bool (eqw r3 r4 0 16)) := by
 go_enter Tryz.func43, Tryz.ntmps43
 have M := Mem.start w
 refine sr ?_
 refine zN M 2 (.cells (arr 64 (p4 16 px py pz pt)) 52) fun g1 w1 M => ?_
 replace M : Mem w [⟨g1, .cells (arr 64 (p4 16 px py pz pt)) 52⟩] w1 := M
 refine zN M 3 (.cells (arr 64 (p4 16 qx qy qz qt)) 52) fun g2 w2 M => ?_
 replace M : Mem w [⟨g1, .cells (arr 64 (p4 16 px py pz pt)) 52⟩, ⟨g2, .cells (arr 64 (p4 16 qx qy qz qt)) 52⟩] w2 := M
 refine pv 4 (.bool false) <| nt ?_
 refine wp_seq ?_
 refine rg_tail M 24 (by kernel_rfl) (by kernel_rfl) ?_
 simp only [List.take_succ_cons, List.take_zero]
 refine kv 5 (.pointer (some ⟨g1, 0, none⟩)) ?_
 refine wL M 6 0 rfl 0 16 (p4_0 16 px py pz pt 0 rfl) ?_
 refine kv 7 (.pointer (some ⟨g2, 32, none⟩)) ?_
 refine wL M 8 1 rfl 32 16 (p4_2 16 qx qy qz qt 32 rfl) ?_
 refine wC 9 F.h1 ?_
 refine kv 10 (.pointer (some ⟨g2, 0, none⟩)) ?_
 refine wL M 11 1 rfl 0 16 (p4_0 16 qx qy qz qt 0 rfl) ?_
 refine kv 12 (.pointer (some ⟨g1, 32, none⟩)) ?_
 refine wL M 13 0 rfl 32 16 (p4_2 16 px py pz pt 32 rfl) ?_
 refine wC 14 F.h2 ?_
 refine k_val (want_no rfl) (some 15) rfl (.bool true) (fun w => (run_eq16 r1 r2 _ _ rfl (by kernel_rfl) (by kernel_rfl) (fun _ => by kernel_rfl) w).trans (by rw [he])) ?_
 refine kv 16 (.bool true) ?_
 refine k_val (want_on 11 true rfl 16 rfl (by kernel_rfl)) (some 17) rfl (.pointer (some ⟨g1, 16, none⟩)) (fun _ => by kernel_rfl) ?_
 refine k_load M (want_on 11 true rfl 16 rfl (by kernel_rfl)) (some 18) rfl 36 _ rfl 0 g1 16 (by kernel_rfl) 64 52 (p4 16 px py pz pt) rfl 16 py (p4_1 16 px py pz pt 16 rfl) (by decide) _ Tryz.underlying36 rfl inz36 ?_
 refine k_val (want_on 11 true rfl 16 rfl (by kernel_rfl)) (some 19) rfl (.pointer (some ⟨g2, 32, none⟩)) (fun _ => by kernel_rfl) ?_
 refine k_load M (want_on 11 true rfl 16 rfl (by kernel_rfl)) (some 20) rfl 36 _ rfl 1 g2 32 (by kernel_rfl) 64 52 (p4 16 qx qy qz qt) rfl 16 qz (p4_2 16 qx qy qz qt 32 rfl) (by decide) _ Tryz.underlying36 rfl inz36 ?_
 refine k_call (want_on 11 true rfl 16 rfl (by kernel_rfl)) (some 21) rfl 53 #[.agg (arr 16 py), .agg (arr 16 qz)] (.agg (arr 16 r3)) (fun _ => by kernel_rfl) F.h3 ?_
 refine k_val (want_on 11 true rfl 16 rfl (by kernel_rfl)) (some 22) rfl (.pointer (some ⟨g2, 16, none⟩)) (fun _ => by kernel_rfl) ?_
 refine k_load M (want_on 11 true rfl 16 rfl (by kernel_rfl)) (some 23) rfl 36 _ rfl 1 g2 16 (by kernel_rfl) 64 52 (p4 16 qx qy qz qt) rfl 16 qy (p4_1 16 qx qy qz qt 16 rfl) (by decide) _ Tryz.underlying36 rfl inz36 ?_
 refine k_val (want_on 11 true rfl 16 rfl (by kernel_rfl)) (some 24) rfl (.pointer (some ⟨g1, 32, none⟩)) (fun _ => by kernel_rfl) ?_
 refine k_load M (want_on 11 true rfl 16 rfl (by kernel_rfl)) (some 25) rfl 36 _ rfl 0 g1 32 (by kernel_rfl) 64 52 (p4 16 px py pz pt) rfl 16 pz (p4_2 16 px py pz pt 32 rfl) (by decide) _ Tryz.underlying36 rfl inz36 ?_
 refine k_call (want_on 11 true rfl 16 rfl (by kernel_rfl)) (some 26) rfl 53 #[.agg (arr 16 qy), .agg (arr 16 pz)] (.agg (arr 16 r4)) (fun _ => by kernel_rfl) F.h4 ?_
 refine k_val (want_on 11 true rfl 16 rfl (by kernel_rfl)) (some 27) rfl (.bool (eqw r3 r4 0 16)) (fun w => run_eq16 r3 r4 _ _ rfl (by kernel_rfl) (by kernel_rfl) (fun _ => by kernel_rfl) w) ?_
 refine kv 28 (.bool (eqw r3 r4 0 16)) ?_
 refine kl_nil fun w3 M => ?_
 replace M : Mem w [⟨g1, .cells (arr 64 (p4 16 px py pz pt)) 52⟩, ⟨g2, .cells (arr 64 (p4 16 qx qy qz qt)) 52⟩] w3 := M
 refine pv 4 (.bool (eqw r3 r4 0 16)) <| nt ?_
 refine wp_ret ?_
 exact bodyPost_ret (v := .bool (eqw r3 r4 0 16)) (results_tmp1 Tryz.results43 _ _ _ (by kernel_rfl)) (by kernel_rfl) ⟨rfl, M.old⟩
theorem bs_size (l : List Int) : (bs l).size = l.length := by simp [bs, ByteArray.size]
theorem bt_bs (l : List Int) (i : Nat) (x : Int) (hl : l[i]? = some x) (h0 : 0 ≤ x) (h1 : x < 256) : bt (bs l) i = x := by
 unfold bt bs
 simp only [List.getElem?_toArray, List.getElem?_map, hl, Option.map_some, Option.getD_some]
 simp only [UInt8.toNat_ofNat']
 omega
structure BC (W : World) (g : Nat) (f : Nat → Int) (n : Nat) : Prop where
 lt : g < W.heap.size
 c : ∀ i, i < n → W.cell? ⟨g, i, none⟩ = some (.int .u8 (f i))
 fz : ∀ i, i < n → W.frozen? ⟨g, i, none⟩ = false
theorem conv_back {W : World} {g n : Nat} {f : Nat → Int} (h : BC W g f n) (cap : Nat) (hf : ∀ i, i < n → 0 ≤ f i ∧ f i < 256) :
  (convert 32 9 (.slice (some ⟨g, 0, none⟩) n cap)).run Tryz.prog W = .ok (.string (bs ((List.range n).map f))) W := by
 have hl : ((List.range n).map fun i => UInt8.ofNat (f i).toNat).length = n := by simp
 have h2 := run_convert_bytes_back (P := Tryz.prog) W 32 9 5 ⟨g, 0, none⟩ cap ((List.range n).map fun i => UInt8.ofNat (f i).toNat) Tryz.underlying32 Tryz.underlying5 Tryz.underlying9 (fun j hj => by
  rw [hl] at hj
  have hadd : (⟨g, 0, none⟩ : Addr).add j = ⟨g, j, none⟩ := by unfold Addr.add; split <;> simp_all
  rw [hadd, h.c j hj]
  have := hf j hj
  simp
  omega)
 rw [hl] at h2
 rw [h2]
 unfold bs
 congr 3
 simp [List.map_map]
structure ByZ (Z : Obj) (n : Nat) (f : Nat → Int) : Prop where
 ex : ∃ cs T fr, Z = .cells cs T fr ∧ (∀ i, i < n → cs[i]? = some (.int .u8 (f i))) ∧ ∀ i, i < n → (decide (fr.1 ≤ i) && decide (i < fr.2)) = false
theorem ByZ.bc {Z : Obj} {n : Nat} {f : Nat → Int} (h : ByZ Z n f) {W : World} {g : Nat} (hz : W.heap[g]? = some Z) : BC W g f n := by
 obtain ⟨cs, T, fr, rfl, h1, h2⟩ := h.ex
 refine ⟨(Array.getElem?_eq_some_iff.1 hz).1, fun i hi => ?_, fun i hi => ?_⟩
 ·unfold World.cell?
  rw [hz]
  simpa using h1 i hi
 ·unfold World.frozen?
  rw [hz]
  exact h2 i hi
theorem ByZ.congr {Z : Obj} {n : Nat} {f f' : Nat → Int} (h : ByZ Z n f) (e : ∀ i, i < n → f i = f' i) : ByZ Z n f' := by
 obtain ⟨cs, T, fr, rfl, h1, h2⟩ := h.ex
 exact ⟨cs, T, fr, rfl, fun i hi => by rw [h1 i hi, e i hi], h2⟩
theorem ByZ.set {Z : Obj} {n : Nat} {f : Nat → Int} (h : ByZ Z n f) {k : Nat} (hk : k < n) (v : Int) {W : World} {g : Nat} (hz : W.heap[g]? = some Z) : ∃ Z', (W.setCell ⟨g, k, none⟩ (.int .u8 v)).heap[g]? = some Z' ∧ ByZ Z' n (upd f k v) := by
 obtain ⟨cs, T, fr, rfl, h1, h2⟩ := h.ex
 refine ⟨.cells (cs.setIfInBounds k (.int .u8 v)) T fr, ?_, ⟨_, T, fr, rfl, fun i hi => ?_, h2⟩⟩
 ·simp [World.setCell, Array.getElem?_modify, hz]
 ·have hs := (Array.getElem?_eq_some_iff.1 (h1 k hk)).1
  rw [Array.getElem?_setIfInBounds]
  by_cases e : k = i
  ·subst e
   simp [hs, upd]
  ·rw [if_neg e, h1 i hi]
   simp [upd, Ne.symm e]
theorem ByZ.setAll {Z : Obj} {n : Nat} {f : Nat → Int} (h : ByZ Z n f) (f' : Nat → Int) {W : World} {g : Nat} (hz : W.heap[g]? = some Z) (l : List Value) (hl : l.length = n) (hv : ∀ i, i < n → l[i]? = some (.int .u8 (f' i))) : ∃ Z', (W.setCells g 0 l).heap[g]? = some Z' ∧ ByZ Z' n f' := by
 have key : ∀ (l : List Value) (o : Nat) (W : World) (Z : Obj) (f : Nat → Int) (fn : Nat → Int), W.heap[g]? = some Z → ByZ Z n f → o + l.length ≤ n → (∀ i, i < l.length → l[i]? = some (.int .u8 (fn i))) → ∃ Z', (W.setCells g o l).heap[g]? = some Z' ∧ ByZ Z' n (fun i => if o ≤ i ∧ i < o + l.length then fn (i - o) else f i) := by
  intro l
  induction l with
  | nil =>
   intro o W Z f fn hz h _ _
   exact ⟨Z, hz, h.congr fun i _ => by rw [if_neg (by simp only [List.length_nil]; omega)]⟩
  | cons v l ih =>
   intro o W Z f fn hz h ho hv
   have h0 := hv 0 (by simp)
   simp only [List.getElem?_cons_zero, Option.some.injEq] at h0
   subst h0
   simp only [List.length_cons] at ho
   obtain ⟨Z1, hz1, hb1⟩ := h.set (k := o) (by omega) (fn 0) hz
   obtain ⟨Z2, hz2, hb2⟩ := ih (o + 1) _ Z1 _ (fun i => fn (i + 1)) hz1 hb1 (by omega) (fun i hi => by
    have := hv (i + 1) (by simp; omega)
    simpa using this)
   refine ⟨Z2, hz2, hb2.congr fun i _ => ?_⟩
   simp only [List.length_cons]
   by_cases e1 : o + 1 ≤ i ∧ i < o + 1 + l.length
   ·rw [if_pos e1, if_pos (by omega), show i - (o + 1) + 1 = i - o by omega]
   ·rw [if_neg e1]
    by_cases e2 : i = o
    ·subst e2
     rw [if_pos (by omega), show i - i = 0 by omega]
     simp [upd]
    ·rw [if_neg (by omega)]
     simp [upd, e2]
 obtain ⟨Z', h1, h2⟩ := key l 0 W Z f f' hz h (by omega) (fun i hi => hv i (by omega))
 exact ⟨Z', h1, h2.congr fun i hi => by rw [if_pos (by omega), Nat.sub_zero]⟩
def bz (n : Nat) : Array Value := ((List.range n).map fun _ => Value.int .u8 0).toArray
theorem ByZ.zero (n : Nat) (T : TypeId) : ByZ (.cells (bz n) T) n (fun _ => 0) :=
 ⟨bz n, T, (0, 0), rfl, fun i hi => by simp [bz, hi], fun i _ => by simp⟩
section
variable {P : Program} {ops : Array Oper} {rest : List Oper} {o : Oper} {a : Act} {w w0 : World} {L : List Blk} {Q : Exit → Act → World → Prop}
theorem run_byte {w : World} {g k : Nat} {v : Value} (hc : w.cell? ⟨g, k, none⟩ = some v) (ty : TypeId) (hag : ∀ w, (isAgg ty).run P w = .ok false w) : (Instr.loadAt ty (.pointer (some ⟨g, k, none⟩))).run P w = .ok v w := by
 simp [Instr.loadAt, Instr.sureAddr, loadVar, hag, hc]
theorem pl_loadb (M : Mem w0 L w) (hw : Region.wanted o (yielded ops a.tmps) = true) (d : Option Tmp) (hd : o.dst = d) (ty : TypeId) (x : Operand) (ho : o.op = .load ty x) (i g k : Nat) (hx : a.eval x = .pointer (some ⟨g, k, none⟩)) (Z : Obj) (hi : L[i]? = some ⟨g, Z⟩) (n : Nat) (f : Nat → Int) (hz : ByZ Z n f) (hk : k < n) (hag : ∀ w, (isAgg ty).run P w = .ok false w)
  (h : PL P ops Q rest (a.put d (.int .u8 (f k))) w) : PL P ops Q (o :: rest) a w := by
 refine pl_to hw d hd (.int .u8 (f k)) w ?_ h
 have hc := run_byte (P := P) ((hz.bc (M.get i hi)).c k hk) ty hag
 unfold execOp
 simp only [ho, hx, Sem.run_bind, hc, Result.andThen_ok, Sem.run_pure]
theorem k_loadb {W : World} {K : Act → Prop} (M : Mem w0 L W) (hw : Region.wanted o (yielded ops a.tmps) = true) (d : Option Tmp) (hd : o.dst = d) (ty : TypeId) (x : Operand) (ho : o.op = .load ty x) (i g k : Nat) (hx : a.eval x = .pointer (some ⟨g, k, none⟩)) (Z : Obj) (hi : L[i]? = some ⟨g, Z⟩) (n : Nat) (f : Nat → Int) (hz : ByZ Z n f) (hk : k < n) (hag : ∀ w, (isAgg ty).run P w = .ok false w)
  (h : KL P ops W K rest (a.put d (.int .u8 (f k)))) : KL P ops W K (o :: rest) a := by
 refine k_any hw d hd (.int .u8 (f k)) (fun s => ?_) h
 have hc := run_byte (P := P) ((hz.bc ((M.keep s.keep).get i hi)).c k hk) ty hag
 unfold execOp
 simp only [ho, hx, Sem.run_bind, hc, Result.andThen_ok, Sem.run_pure]
theorem k_loadw {W : World} {K : Act → Prop} (M : Mem w0 L W) (hw : Region.wanted o (yielded ops a.tmps) = true) (d : Option Tmp) (hd : o.dst = d) (ty : TypeId) (x : Operand) (ho : o.op = .load ty x) (i g k : Nat) (hx : a.eval x = .pointer (some ⟨g, k, none⟩)) (n T : Nat) (f : Nat → Int) (hi : L[i]? = some ⟨g, .cells (arr n f) T⟩) (hk : k < n) (hag : ∀ w, (isAgg ty).run P w = .ok false w)
  (h : KL P ops W K rest (a.put d (.int .u64 (f k)))) : KL P ops W K (o :: rest) a := by
 refine k_any hw d hd (.int .u64 (f k)) (fun s => ?_) h
 have hc := run_byte (P := P) (((M.keep s.keep).row i hi).cell hk) ty hag
 unfold execOp
 simp only [ho, hx, Sem.run_bind, hc, Result.andThen_ok, Sem.run_pure]
theorem pl_storeb (M : Mem w0 L w) (hw : Region.wanted o (yielded ops a.tmps) = true) (hd : o.dst = none) (ty : TypeId) (x y : Operand) (ho : o.op = .store ty x y) (i g k : Nat) (hx : a.eval x = .pointer (some ⟨g, k, none⟩)) (v : Int) (hy : a.eval y = .int .u8 v) (Z : Obj) (hi : L[i]? = some ⟨g, Z⟩) (n : Nat) (f : Nat → Int) (hz : ByZ Z n f) (hk : k < n) (hs : (P.info? ty).map (·.size) = some 1)
  (h : ∀ Z' w', ByZ Z' n (upd f k v) → Mem w0 (L.set i ⟨g, Z'⟩) w' → PL P ops Q rest a w') : PL P ops Q (o :: rest) a w := by
 have hB := hz.bc (M.get i hi)
 obtain ⟨Z', h1, h2⟩ := hz.set hk v (M.get i hi)
 have h3 := h Z' _ h2 (M.put i ⟨g, Z⟩ hi Z' h1 (fun j hj => Below.heap_setCell _ _ _ _ hj) (fun B u hB hu => hu.setCell hB _))
 have hrun : (Instr.storeAt ty (.pointer (some ⟨g, k, none⟩)) (.int .u8 v)).run P w = .ok () (w.setCell ⟨g, k, none⟩ (.int .u8 v)) := by
  cases hq : P.info? ty with
  | none => simp [hq] at hs
  | some t =>
   have ht : t.size = 1 := by simpa [hq] using hs
   have hc := run_storeCells_cells (P := P) g k [.int .u8 v] 0 w (by intro j hj; simp at hj; subst hj; simp [hB.c k hk]) (by intro j hj; simp at hj; subst hj; simpa using hB.fz k hk) (by simp [Value.oneCell'])
   simp only [Nat.add_zero, World.setCells] at hc
   simp [Instr.storeAt, Instr.sureAddr, storeVar, sizeOf, typeInfo, hq, ht, Value.cells, hc]
 refine ⟨Go.BigFrame.wpList_want hw fun K hK => ?_⟩
 unfold Oper.wp execOp
 simp only [ho, hx, hy, Sem.run_bind, hrun, Result.andThen_ok, Sem.run_pure]
 show K (a.put o.dst undef) _
 rw [hd]
 exact hK _ _ h3.out
theorem run_copy_str (w : World) (dT sT ty elem : TypeId) (g n cap : Nat) (s : ByteArray) (f : Nat → Int) (hB : BC w g f n) (hs : s.size = n)
  (hu : P.underlying dT = some (.slice elem)) (hi : (P.info? elem).map (·.size) = some 1) :
  (Builtin.copy_ #[dT, sT] ty #[.slice (some ⟨g, 0, none⟩) n cap, .string s]).run P w = .ok (goInt n) (w.setCells g 0 ((List.range n).map fun i => Value.int .u8 (bt s i))) := by
 have e : ((s.extract 0 n).data.map fun b => Value.int .u8 b.toNat).toList = (List.range n).map fun i => Value.int .u8 (bt s i) := by
  apply List.ext_getElem?
  intro i
  have hsd : s.data.size = n := hs
  by_cases hi : i < n
  ·simp only [Array.toList_map, List.getElem?_map, List.getElem?_range hi, Option.map_some]
   have : (s.extract 0 n).data.toList[i]? = some (s.data[i]'(by omega)) := by
    simp [ByteArray.data_extract, hi, hsd]
   rw [this]
   unfold bt
   rw [Array.getElem?_eq_getElem (by omega)]
   rfl
  ·rw [List.getElem?_eq_none (by simp [ByteArray.data_extract]; omega), List.getElem?_eq_none (by simp; omega)]
 have hst := run_storeCells_cells (P := P) g 0 ((List.range n).map fun i => Value.int .u8 (bt s i)) 0 w (by intro j hj; simp at hj; simp [hB.c j hj]) (by intro j hj; simp at hj; simpa using hB.fz j hj) (by simp [Value.oneCell'])
 have e3 : List.take n (List.map (fun b => Value.int .u8 b.toNat) s.data.toList) = (List.range n).map fun i => Value.int .u8 (bt s i) := by
  rw [← e]
  simp [ByteArray.data_extract]
 cases hq : P.info? elem with
 | none => simp [hq] at hi
 | some t =>
  simp only [Nat.add_zero] at hst
  simp [Builtin.copy_, run_underlying hu, Builtin.lenOf, Builtin.firstCells, sizeOf, typeInfo, hq, hs, e3, hst]
theorem pl_copy (M : Mem w0 L w) (hw : Region.wanted o (yielded ops a.tmps) = true) (d : Option Tmp) (hd : o.dst = d) (dT sT ty elem : TypeId) (i g n cap : Nat) (s : ByteArray) (hs : s.size = n) (Z : Obj) (hi : L[i]? = some ⟨g, Z⟩) (f : Nat → Int) (hz : ByZ Z n f)
  (hu : P.underlying dT = some (.slice elem)) (hz1 : (P.info? elem).map (·.size) = some 1)
  (hrun : ∀ w, (execOp a.eval o).run P w = (do pure (Next.value (← Builtin.copy_ #[dT, sT] ty #[.slice (some ⟨g, 0, none⟩) n cap, .string s]))).run P w)
  (h : ∀ Z' w', ByZ Z' n (bt s) → Mem w0 (L.set i ⟨g, Z'⟩) w' → PL P ops Q rest (a.put d (goInt n)) w') : PL P ops Q (o :: rest) a w := by
 have hB := hz.bc (M.get i hi)
 obtain ⟨Z', h1, h2⟩ := hz.setAll (bt s) (M.get i hi) ((List.range n).map fun i => Value.int .u8 (bt s i)) (by simp) (fun j hj => by simp [hj])
 refine pl_to hw d hd (goInt n) _ ?_ (h Z' _ h2 (M.put i ⟨g, Z⟩ hi Z' h1 (fun j hj => heap_setCells_other g j hj _ _ _) (fun B u hB hu => below_setCells hB _ 0 hu)))
 rw [hrun]
 simp only [Sem.run_bind, run_copy_str w dT sT ty elem g n cap s f hB hs hu hz1, Result.andThen_ok, Sem.run_pure]
end
section
variable {P : Program} {ops : Array Oper} {rest : List Oper} {o : Oper} {a : Act} {w w0 : World} {L : List Blk} {Q : Exit → Act → World → Prop}
theorem au_loop {c : Code} (I : Nat → Act → World → Prop) (N : Nat) (h0 : I 0 a w) (round : ∀ j a w, j < N → I j a w → c.wp P (Exit.then (I (j + 1)) Q) a w) (last : ∀ a w, I N a w → c.wp P (Exit.then (fun _ _ => False) Q) a w) : (Code.loop c).wp P Q a w := by
 refine wp_loop_ghost (fun n a w => n ≤ N ∧ I (N - n) a w) N ⟨Nat.le_refl _, by rw [Nat.sub_self]; exact h0⟩ fun n a w ⟨hn, hI⟩ => ?_
 cases n with
 | zero =>
  rw [Nat.sub_zero] at hI
  refine wp_mono (last a w hI) fun e a' w' hq => ?_
  cases e <;> first | exact hq | exact hq.elim
 | succ n =>
  refine wp_mono (round (N - (n + 1)) a w (by omega) hI) fun e a' w' hq => ?_
  rw [show N - (n + 1) + 1 = N - n by omega] at hq
  cases e <;> first | exact hq | exact ⟨n, by omega, by omega, hq⟩
theorem rounds_go {c : Code} {n : Nat} (h : c.wp P (Exit.then (Code.rounds P c Q n) Q) a w) : Code.rounds P c Q (n + 1) a w := h
theorem run_ix (t : TypeId) (len sz : Nat) (elem : TypeId) (hu : P.underlying t = some (.array len elem)) (hs : (P.info? elem).map (·.size) = some sz) (x ix : Operand) (ho : o.op = .indexAddr t x ix) (g : Nat) (hx : a.eval x = .pointer (some ⟨g, 0, none⟩)) (k : IntKind) (i : Nat) (hi : a.eval ix = .int k (i : Int)) (hlt : i < len) (w : World) :
  (execOp a.eval o).run P w = .ok (.value (.pointer (some ⟨g, i * sz, none⟩))) w := by
 have hadd : (⟨g, 0, none⟩ : Addr).add (i * sz) = ⟨g, i * sz, none⟩ := by unfold Addr.add; split <;> simp_all
 cases hq : P.info? elem with
 | none => simp [hq] at hs
 | some u =>
  have hsz : u.size = sz := by simpa [hq] using hs
  unfold execOp
  simp [ho, hx, hi, Instr.indexAt, Instr.sureAddr, asIntOf, run_underlying hu, sizeOf, typeInfo, hq, hsz, hadd, hlt]
theorem run_ixS (t : TypeId) (hu : P.underlying t = some .string) (x ix : Operand) (ho : o.op = .index t x ix) (s : ByteArray) (hx : a.eval x = .string s) (k : IntKind) (i : Nat) (hi : a.eval ix = .int k (i : Int)) (hlt : i < s.size) (w : World) :
  (execOp a.eval o).run P w = .ok (.value (.int .u8 (bt s i))) w := by
 have hb : s[i]? = some (s[i]'hlt) := getElem?_pos s i hlt
 have hv : bt s i = ((s[i]'hlt).toNat : Int) := by
  unfold bt
  rw [Array.getElem?_eq_getElem hlt]
  rfl
 unfold execOp
 simp [ho, hx, hi, Instr.index, asIntOf, run_underlying hu, hb, hv]
theorem run_bin (op : BinOp) (t : TypeId) (x y : Operand) {rt : TypeId} (ho : o.op = .binOp op t x y rt) {vx vy v : Value} (hx : a.eval x = vx) (hy : a.eval y = vy) (hg : ∀ w, (eqGuard op t x y vx vy).run P w = .ok () w) (hb : ∀ w, (binOp op t vx vy).run P w = .ok v w) (w : World) :
  (execOp a.eval o).run P w = .ok (.value v) w := by
 unfold execOp
 simp only [ho, hx, hy, Sem.run_bind, hg, hb, Result.andThen_ok, Sem.run_pure]
theorem run_shr7 (x : Int) (w : World) : (binOp .shr 5 (.int .u8 x) (.int .u64 7)).run Tryz.prog w = .ok (.int .u8 (x / 128)) w := by
 simp [binOp, go_sem]
theorem run_shr4 (x : Int) (w : World) : (binOp .shr 5 (.int .u8 x) (.int .u64 4)).run Tryz.prog w = .ok (.int .u8 (x / 16)) w := by
 simp [binOp, go_sem]
theorem wrap64 {x : Int} (h0 : -9223372036854775808 ≤ x) (h1 : x < 9223372036854775808) : IntKind.wrap .i64 x = x := by
 simp [IntKind.wrap, IntKind.signed, IntKind.bits, go_sem]
 omega
theorem setAll_part (n : Nat) (f f' fn : Nat → Int) (off k : Nat) (hk : off + k ≤ n) (hfn : ∀ j, j < n → (if off ≤ j ∧ j < off + k then f' (j - off) else f j) = fn j) : setAll (arr n f) off (arr k f').toList = arr n fn := by
 have hlen : (arr k f').toList.length = k := by simp [arr_size]
 have hsz : ∀ (vs : List Value) (cs : Array Value) (o : Nat), (setAll cs o vs).size = cs.size := by
  intro vs
  induction vs with
  | nil => intro cs o; rfl
  | cons v vs ih => intro cs o; simp [setAll, ih]
 apply Array.ext_getElem?
 intro i
 rw [setAll_get _ _ _ _ (by rw [hlen, arr_size]; exact hk), hlen]
 by_cases hi : i < n
 ·rw [arr_get n fn i hi, ← hfn i hi]
  by_cases h : off ≤ i ∧ i < off + k
  ·rw [if_pos h, if_pos h, Array.getElem?_toList, arr_get k f' _ (by omega)]
  ·rw [if_neg h, if_neg h, arr_get n f i hi]
 ·rw [if_neg (by omega), Array.getElem?_eq_none (by rw [arr_size]; omega), Array.getElem?_eq_none (by rw [arr_size]; omega)]
theorem Row.setPart {W : World} {g : Nat} {T : TypeId} {n : Nat} {f : Nat → Int} (h : Row W g T n f) (f' fn : Nat → Int) (off k : Nat) (hk : off + k ≤ n) (hfn : ∀ j, j < n → (if off ≤ j ∧ j < off + k then f' (j - off) else f j) = fn j) : Row (W.setCells g off (arr k f').toList) g T n fn := by
 unfold Row
 rw [heap_setCells g T _ W _ off h, setAll_part n f f' fn off k hk hfn]
theorem Row.thereP {W : World} {g : Nat} {T : TypeId} {n : Nat} {f : Nat → Int} (h : Row W g T n f) (off k : Nat) (hk : off + k ≤ n) : W.there g off k := fun j hj => by
 have := h.there (off + j) (by omega)
 simpa using this
theorem pl_putm (M : Mem w0 L w) (hw : Region.wanted o (yielded ops a.tmps) = true) (hd : o.dst = none) (ty : TypeId) (x y : Operand) (ho : o.op = .store ty x y) (i g off : Nat) (hx : a.eval x = .pointer (some ⟨g, off, none⟩)) (n T : Nat) (f : Nat → Int) (hi : L[i]? = some ⟨g, .cells (arr n f) T⟩) (k : Nat) (f' fn : Nat → Int)
  (hy : a.eval y = .agg (arr k f')) (hz : (P.info? ty).map (·.size) = some k) (hk : off + k ≤ n) (hfn : ∀ j, j < n → (if off ≤ j ∧ j < off + k then f' (j - off) else f j) = fn j)
  (h : ∀ w', Mem w0 (L.set i ⟨g, .cells (arr n fn) T⟩) w' → PL P ops Q rest a w') : PL P ops Q (o :: rest) a w := by
 have R := M.row i hi
 refine ⟨Go.BigFrame.wpList_want hw fun K hK => wp_store_mid ty x y ho g off (arr k f') hx hy (by rw [arr_size]; exact R.thereP off k hk) (by rw [hz, arr_size]) (arr_one _ _) (hK _ _ ?_)⟩
 rw [hd]
 refine PL.out ?_
 exact h _ (M.put i ⟨g, _⟩ hi _ (R.setPart f' fn off k hk hfn) (fun k hk => heap_setCells_other g k hk _ _ _) (fun B u hB hu => below_setCells hB _ _ hu))
end
section
variable {ops : Array Oper} {rest : List Oper} {o : Oper} {a : Act} {w w0 : World} {L : List Blk} {Q : Exit → Act → World → Prop}
theorem conv_strZ (W : World) (s : ByteArray) : ∃ (cap : Nat) (W1 : World) (Z : Obj), (convert 9 32 (.string s)).run Tryz.prog W = .ok (.slice (some ⟨W.heap.size, 0, none⟩) s.size cap) W1 ∧ W1.heap[W.heap.size]? = some Z ∧ ByZ Z s.size (bt s) ∧ Below W.heap.size W W1 := by
 have h := run_bytes_of_string (P := Tryz.prog) W 9 32 5 s Tryz.underlying9 Tryz.underlying32 Tryz.underlying5
 generalize grownCap W s.size 0 5 = cap at h
 have hsz : s.size ≤ (bytesRow s cap).size := by
  simp [bytesRow]
 refine ⟨cap, _, .cells (bytesRow s cap) 5 ((bytesRow s cap).size, (bytesRow s cap).size + 1), h, heap_alloc_new W.drew _, ⟨_, _, _, rfl, fun i hi => ?_, fun i hi => ?_⟩, ((Below.refl _ _).drew).alloc (Nat.le_refl _) _⟩
 ·have hi' : i < s.data.size := hi
  unfold bytesRow bt
  rw [Array.getElem?_append_left (by simpa using hi'), Array.getElem?_map, Array.getElem?_eq_getElem hi']
  rfl
 ·simp
  omega
theorem pl_conv (M : Mem w0 L w) (hw : Region.wanted o (yielded ops a.tmps) = true) (d : Option Tmp) (hd : o.dst = d) (x : Operand) (ho : o.op = .convert 9 32 x) (s : ByteArray) (hx : a.eval x = .string s) (n : Nat) (hn : s.size = n)
  (h : ∀ g cap Z w', ByZ Z n (bt s) → Mem w0 (L ++ [⟨g, Z⟩]) w' → PL Tryz.prog ops Q rest (a.put d (.slice (some ⟨g, 0, none⟩) n cap)) w') : PL Tryz.prog ops Q (o :: rest) a w := by
 obtain ⟨cap, W1, Z, h1, h2, h3, h4⟩ := conv_strZ w s
 rw [hn] at h1 h3
 refine pl_to hw d hd (.slice (some ⟨w.heap.size, 0, none⟩) n cap) W1 ?_ (h w.heap.size cap Z W1 h3 (M.new _ Z h4 h2 (Nat.le_refl _)))
 unfold execOp
 simp only [ho, hx, Sem.run_bind, h1, Result.andThen_ok, Sem.run_pure]
theorem pl_back (M : Mem w0 L w) (hw : Region.wanted o (yielded ops a.tmps) = true) (d : Option Tmp) (hd : o.dst = d) (x : Operand) (ho : o.op = .convert 32 9 x) (i g n cap : Nat) (hx : a.eval x = .slice (some ⟨g, 0, none⟩) n cap) (Z : Obj) (hi : L[i]? = some ⟨g, Z⟩) (f : Nat → Int) (hz : ByZ Z n f) (hf : ∀ i, i < n → 0 ≤ f i ∧ f i < 256)
  (h : PL Tryz.prog ops Q rest (a.put d (.string (bs ((List.range n).map f)))) w) : PL Tryz.prog ops Q (o :: rest) a w := by
 refine pl_to hw d hd _ w ?_ h
 have hb := conv_back (hz.bc (M.get i hi)) cap hf
 unfold execOp
 simp only [ho, hx, Sem.run_bind, hb, Result.andThen_ok, Sem.run_pure]
end
section
variable {ops : Array Oper} {rest : List Oper} {o : Oper} {a : Act} {w w0 : World} {L : List Blk} {Q : Exit → Act → World → Prop}
end
section
variable {P : Program} {ops : Array Oper} {md : Region.Mode} {Q : Exit → Act → World → Prop} {fuel : Nat} {listed : Array Bool} {a : Act} {w w0 : World} {L : List Blk} {i : Nat} {o : Oper} {rs : List Nat}
end
section
variable {P : Program} {ops : Array Oper} {md : Region.Mode} {Q : Exit → Act → World → Prop} {fuel : Nat} {listed : Array Bool} {a : Act} {w : World}
end
theorem inzb : (Tryz.prog.info? 5).map (·.size) = some 1 := by kernel_rfl
structure partedF (s : ByteArray)  : Prop where
 h0 : True
theorem parted_gen (s : ByteArray)  (w : World) (_F : partedF s ) (hs : s.size = 32) (hf : ∀ i, i < 32 → 0 ≤ (upd (bt s) 31 (bits .andNot .u8 (bt s 31) 128)) i ∧ (upd (bt s) 31 (bits .andNot .u8 (bt s 31) 128)) i < 256) :
  Cs 76 #[.string s] w (.tuple #[.string (bs ((List.range 32).map (upd (bt (s)) 31 (bits .andNot .u8 ((bt (s)) 31) 128)))), .bool (!(decide (bits .and .u8 (bt (s) 31) 128 = 0)))]) := by
 go_enter Tryz.func76, Tryz.ntmps76
 have M := Mem.start w
 refine sr <| pv 2 (.string ⟨#[]⟩) <| pv 3 (.bool false) <| nt ?_
 refine sr ?_
 refine zN M 4 (.cells (bz 32) 89) fun g1 w1 M => ?_
 refine nt <| sr <| pv 6 (.slice (some ⟨g1, 0, none⟩) 32 32) <| pv 7 (.string s) ?_
 refine pl_copy M (want_no rfl) (some 8) rfl 32 9 3 5 0 g1 32 32 (s) hs (.cells (bz 32) 89) rfl (fun _ => 0) (ByZ.zero 32 89) Tryz.underlying32 inzb (fun _ => by kernel_rfl) ?_
 intro Z1 w2 z1 M
 refine nt <| sr <| pv 9 (.pointer (some ⟨g1, 31, none⟩)) ?_
 refine pl_loadb M (want_no rfl) (some 10) rfl 5 _ rfl 0 g1 31 (by kernel_rfl) (Z1) rfl 32 (bt (s)) z1 (by decide) (fun _ => by kernel_rfl) ?_
 refine pv 11 (.int .u8 (bits .and .u8 ((bt (s)) 31) 128)) <| pv 12 (.bool (!(decide (bits .and .u8 (bt (s) 31) 128 = 0)))) <| pv 5 (.bool (!(decide (bits .and .u8 (bt (s) 31) 128 = 0)))) <| nt ?_
 refine sr <| pv 13 (.pointer (some ⟨g1, 31, none⟩)) ?_
 refine pl_loadb M (want_no rfl) (some 14) rfl 5 _ rfl 0 g1 31 (by kernel_rfl) (Z1) rfl 32 (bt (s)) z1 (by decide) (fun _ => by kernel_rfl) ?_
 refine pv 15 (.int .u8 (bits .andNot .u8 ((bt (s)) 31) 128)) <| pv 16 (.pointer (some ⟨g1, 31, none⟩)) ?_
 refine pl_storeb M (want_no rfl) rfl 5 _ _ rfl 0 g1 31 (by kernel_rfl) (bits .andNot .u8 ((bt (s)) 31) 128) (by kernel_rfl) (Z1) rfl 32 (bt (s)) z1 (by decide) inzb ?_
 intro Z2 w3 z2 M
 refine nt <| sr <| pv 17 (.slice (some ⟨g1, 0, none⟩) 32 32) ?_
 refine pl_back M (want_no rfl) (some 18) rfl _ rfl 0 g1 32 32 (by kernel_rfl) (Z2) rfl (upd (bt (s)) 31 (bits .andNot .u8 ((bt (s)) 31) 128)) z2 hf ?_
 refine pv 19 (.bool (!(decide (bits .and .u8 (bt (s) 31) 128 = 0)))) <| pv 2 (.string (bs ((List.range 32).map (upd (bt (s)) 31 (bits .andNot .u8 ((bt (s)) 31) 128))))) <| pv 3 (.bool (!(decide (bits .and .u8 (bt (s) 31) 128 = 0)))) <| nt ?_
 refine wp_ret ?_
 exact bodyPost_ret (v := .tuple #[.string (bs ((List.range 32).map (upd (bt (s)) 31 (bits .andNot .u8 ((bt (s)) 31) 128)))), .bool (!(decide (bits .and .u8 (bt (s) 31) 128 = 0)))]) (results_tmp2 Tryz.results76 _ _ _ _ (by kernel_rfl) (by kernel_rfl)) (by kernel_rfl) ⟨rfl, M.old⟩
structure bytesNF (px py pz pt : Nat → Int) : Prop where
 h1 : ∀ w, Cs 58 #[.agg (arr 20 (p4 5 px py pz pt))] w (.bool true)
theorem bytesN_gen (px py pz pt : Nat → Int) (w : World) (F : bytesNF px py pz pt)  :
  Cs 27 #[.agg (arr 20 (p4 5 px py pz pt))] w (.string ⟨#[]⟩) := by
 go_enter Tryz.func27, Tryz.ntmps27
 have M := Mem.start w
 refine sr ?_
 refine zN M 1 (.cells (arr 20 (p4 5 px py pz pt)) 60) fun g1 w1 M => ?_
 refine pv 2 (.string ⟨#[]⟩) <| nt ?_
 refine wp_seq ?_
 refine sr ?_
 refine zA M 5 0 rfl ?_
 refine zC M 6 F.h1 fun w2 M => ?_
 refine nt ?_
 refine cT ?_
 refine sr <| pv 2 (.string ⟨#[]⟩) <| nt ?_
 refine wp_ret ?_
 refine au_then_ret ?_
 exact bodyPost_ret (v := .string ⟨#[]⟩) (results_tmp1 Tryz.results27 _ _ _ (by kernel_rfl)) (by kernel_rfl) ⟨rfl, M.old⟩
structure bytesFF (px py pz pt r1 r2 r4 : Nat → Int) (s3 : ByteArray) : Prop where
 h1 : ∀ w, Cs 58 #[.agg (arr 20 (p4 5 px py pz pt))] w (.bool false)
 h2 : ∀ w, Cs 63 #[.agg (arr 5 pz)] w (.agg (arr 5 r1))
 h3 : ∀ w, Cs 64 #[.agg (arr 5 py), .agg (arr 5 r1)] w (.agg (arr 5 r2))
 h4 : ∀ w, Cs 65 #[.agg (arr 5 r2)] w (.string s3)
 h5 : ∀ w, Cs 64 #[.agg (arr 5 px), .agg (arr 5 r1)] w (.agg (arr 5 r4))
 h6 : ∀ w, Cs 66 #[.agg (arr 5 r4)] w (.bool false)
theorem bytesF_gen (px py pz pt r1 r2 r4 : Nat → Int) (s3 : ByteArray) (w : World) (F : bytesFF px py pz pt r1 r2 r4 s3) (hs : s3.size = 32) (hf : ∀ i, i < 32 → 0 ≤ bt s3 i ∧ bt s3 i < 256) :
  Cs 27 #[.agg (arr 20 (p4 5 px py pz pt))] w (.string (bs ((List.range 32).map (bt (s3))))) := by
 go_enter Tryz.func27, Tryz.ntmps27
 have M := Mem.start w
 refine sr ?_
 refine zN M 1 (.cells (arr 20 (p4 5 px py pz pt)) 60) fun g1 w1 M => ?_
 refine pv 2 (.string ⟨#[]⟩) <| nt ?_
 refine wp_seq ?_
 refine sr ?_
 refine zA M 5 0 rfl ?_
 refine zC M 6 F.h1 fun w2 M => ?_
 refine nt ?_
 refine cF ?_
 refine wp_skip ?_
 refine au_then ?_
 refine sr <| pv 7 (.pointer (some ⟨g1, 10, none⟩)) ?_
 refine zL M 8 0 rfl 10 5 (p4_2 5 px py pz pt 10 rfl) ?_
 refine zC M 9 F.h2 fun w3 M => ?_
 refine zN M 3 (.cells (arr 5 (fun _ => 0)) 58) fun g2 w4 M => ?_
 refine zW M 1 rfl r1 fun w5 M => ?_
 refine nt <| sr ?_
 refine zN M 4 (.cells (bz 32) 89) fun g3 w6 M => ?_
 refine nt ?_
 refine wp_seq ?_
 refine rg_tail M 6 (by kernel_rfl) (by kernel_rfl) ?_
 simp only [List.take_succ_cons, List.take_zero]
 refine kv 10 (.slice (some ⟨g3, 0, none⟩) 32 32) <| kv 11 (.pointer (some ⟨g1, 5, none⟩)) ?_
 refine wL M 12 0 rfl 5 5 (p4_1 5 px py pz pt 5 rfl) ?_
 refine wA M 13 1 rfl ?_
 refine wC 14 F.h3 ?_
 refine wC 15 F.h4 ?_
 refine kl_nil fun w7 M => ?_
 refine pl_copy M (want_no rfl) (some 16) rfl 32 9 3 5 2 g3 32 32 (s3) hs (.cells (bz 32) 89) rfl (fun _ => 0) (ByZ.zero 32 89) Tryz.underlying32 inzb (fun _ => by kernel_rfl) ?_
 intro Z1 w8 z1 M
 refine nt ?_
 refine wp_seq ?_
 refine sr <| pv 17 (.pointer (some ⟨g1, 0, none⟩)) ?_
 refine zL M 18 0 rfl 0 5 (p4_0 5 px py pz pt 0 rfl) ?_
 refine zA M 19 1 rfl ?_
 refine zC M 20 F.h5 fun w9 M => ?_
 refine zC M 21 F.h6 fun w10 M => ?_
 refine nt ?_
 refine cF ?_
 refine wp_skip ?_
 refine au_then ?_
 refine sr <| pv 26 (.slice (some ⟨g3, 0, none⟩) 32 32) ?_
 refine pl_back M (want_no rfl) (some 27) rfl _ rfl 2 g3 32 32 (by kernel_rfl) (Z1) rfl (bt (s3)) z1 hf ?_
 refine pv 2 (.string (bs ((List.range 32).map (bt (s3))))) <| nt ?_
 refine wp_ret ?_
 exact bodyPost_ret (v := .string (bs ((List.range 32).map (bt (s3))))) (results_tmp1 Tryz.results27 _ _ _ (by kernel_rfl)) (by kernel_rfl) ⟨rfl, M.old⟩
structure bytesTF (px py pz pt r1 r2 r4 : Nat → Int) (s3 : ByteArray) : Prop where
 h1 : ∀ w, Cs 58 #[.agg (arr 20 (p4 5 px py pz pt))] w (.bool false)
 h2 : ∀ w, Cs 63 #[.agg (arr 5 pz)] w (.agg (arr 5 r1))
 h3 : ∀ w, Cs 64 #[.agg (arr 5 py), .agg (arr 5 r1)] w (.agg (arr 5 r2))
 h4 : ∀ w, Cs 65 #[.agg (arr 5 r2)] w (.string s3)
 h5 : ∀ w, Cs 64 #[.agg (arr 5 px), .agg (arr 5 r1)] w (.agg (arr 5 r4))
 h6 : ∀ w, Cs 66 #[.agg (arr 5 r4)] w (.bool true)
theorem bytesT_gen (px py pz pt r1 r2 r4 : Nat → Int) (s3 : ByteArray) (w : World) (F : bytesTF px py pz pt r1 r2 r4 s3) (hs : s3.size = 32) (hf : ∀ i, i < 32 → 0 ≤ (upd (bt s3) 31 (bits .or .u8 (bt s3 31) 128)) i ∧ (upd (bt s3) 31 (bits .or .u8 (bt s3 31) 128)) i < 256) :
  Cs 27 #[.agg (arr 20 (p4 5 px py pz pt))] w (.string (bs ((List.range 32).map (upd (bt (s3)) 31 (bits .or .u8 ((bt (s3)) 31) 128))))) := by
 go_enter Tryz.func27, Tryz.ntmps27
 have M := Mem.start w
 refine sr ?_
 refine zN M 1 (.cells (arr 20 (p4 5 px py pz pt)) 60) fun g1 w1 M => ?_
 refine pv 2 (.string ⟨#[]⟩) <| nt ?_
 refine wp_seq ?_
 refine sr ?_
 refine zA M 5 0 rfl ?_
 refine zC M 6 F.h1 fun w2 M => ?_
 refine nt ?_
 refine cF ?_
 refine wp_skip ?_
 refine au_then ?_
 refine sr <| pv 7 (.pointer (some ⟨g1, 10, none⟩)) ?_
 refine zL M 8 0 rfl 10 5 (p4_2 5 px py pz pt 10 rfl) ?_
 refine zC M 9 F.h2 fun w3 M => ?_
 refine zN M 3 (.cells (arr 5 (fun _ => 0)) 58) fun g2 w4 M => ?_
 refine zW M 1 rfl r1 fun w5 M => ?_
 refine nt <| sr ?_
 refine zN M 4 (.cells (bz 32) 89) fun g3 w6 M => ?_
 refine nt ?_
 refine wp_seq ?_
 refine rg_tail M 6 (by kernel_rfl) (by kernel_rfl) ?_
 simp only [List.take_succ_cons, List.take_zero]
 refine kv 10 (.slice (some ⟨g3, 0, none⟩) 32 32) <| kv 11 (.pointer (some ⟨g1, 5, none⟩)) ?_
 refine wL M 12 0 rfl 5 5 (p4_1 5 px py pz pt 5 rfl) ?_
 refine wA M 13 1 rfl ?_
 refine wC 14 F.h3 ?_
 refine wC 15 F.h4 ?_
 refine kl_nil fun w7 M => ?_
 refine pl_copy M (want_no rfl) (some 16) rfl 32 9 3 5 2 g3 32 32 (s3) hs (.cells (bz 32) 89) rfl (fun _ => 0) (ByZ.zero 32 89) Tryz.underlying32 inzb (fun _ => by kernel_rfl) ?_
 intro Z1 w8 z1 M
 refine nt ?_
 refine wp_seq ?_
 refine sr <| pv 17 (.pointer (some ⟨g1, 0, none⟩)) ?_
 refine zL M 18 0 rfl 0 5 (p4_0 5 px py pz pt 0 rfl) ?_
 refine zA M 19 1 rfl ?_
 refine zC M 20 F.h5 fun w9 M => ?_
 refine zC M 21 F.h6 fun w10 M => ?_
 refine nt ?_
 refine cT ?_
 refine rg_lit ?_
 refine pv 22 (.pointer (some ⟨g3, 31, none⟩)) ?_
 refine pl_loadb M (want_no rfl) (some 23) rfl 5 _ rfl 2 g3 31 (by kernel_rfl) (Z1) rfl 32 (bt (s3)) z1 (by decide) (fun _ => by kernel_rfl) ?_
 refine pv 24 (.int .u8 (bits .or .u8 ((bt (s3)) 31) 128)) <| pv 25 (.pointer (some ⟨g3, 31, none⟩)) ?_
 refine pl_storeb M (want_no rfl) rfl 5 _ _ rfl 2 g3 31 (by kernel_rfl) (bits .or .u8 ((bt (s3)) 31) 128) (by kernel_rfl) (Z1) rfl 32 (bt (s3)) z1 (by decide) inzb ?_
 intro Z2 w11 z2 M
 refine nt <| sr <| pv 26 (.slice (some ⟨g3, 0, none⟩) 32 32) ?_
 refine pl_back M (want_no rfl) (some 27) rfl _ rfl 2 g3 32 32 (by kernel_rfl) (Z2) rfl (upd (bt (s3)) 31 (bits .or .u8 ((bt (s3)) 31) 128)) z2 hf ?_
 refine pv 2 (.string (bs ((List.range 32).map (upd (bt (s3)) 31 (bits .or .u8 ((bt (s3)) 31) 128))))) <| nt ?_
 refine wp_ret ?_
 exact bodyPost_ret (v := .string (bs ((List.range 32).map (upd (bt (s3)) 31 (bits .or .u8 ((bt (s3)) 31) 128))))) (results_tmp1 Tryz.results27 _ _ _ (by kernel_rfl)) (by kernel_rfl) ⟨rfl, M.old⟩
structure rbytesFF (px py pz pt r1 r2 r3 : Nat → Int) (s4 : ByteArray) : Prop where
 h1 : ∀ w, Cs 52 #[.agg (arr 16 pz)] w (.agg (arr 16 r1))
 h2 : ∀ w, Cs 53 #[.agg (arr 16 px), .agg (arr 16 r1)] w (.agg (arr 16 r2))
 h3 : ∀ w, Cs 53 #[.agg (arr 16 py), .agg (arr 16 r1)] w (.agg (arr 16 r3))
 h4 : ∀ w, Cs 16 #[.agg (arr 16 r3)] w (.string s4)
theorem rbytesF_gen (px py pz pt r1 r2 r3 : Nat → Int) (s4 : ByteArray) (w : World) (F : rbytesFF px py pz pt r1 r2 r3 s4) (hp : bits .and .u64 (r2 0) 1 = 0) (hs : s4.size = 32) (hf : ∀ i, i < 32 → 0 ≤ (upd (bt s4) 31 (bits .or .u8 (bt s4 31) 0)) i ∧ (upd (bt s4) 31 (bits .or .u8 (bt s4 31) 0)) i < 256) :
  Cs 23 #[.agg (arr 64 (p4 16 px py pz pt))] w (.string (bs ((List.range 32).map (upd (bt (s4)) 31 (bits .or .u8 ((bt (s4)) 31) 0))))) := by
 go_enter Tryz.func23, Tryz.ntmps23
 have M := Mem.start w
 refine sr ?_
 refine zN M 1 (.cells (arr 64 (p4 16 px py pz pt)) 52) fun g1 w1 M => ?_
 refine pv 2 (.string ⟨#[]⟩) <| nt <| sr <| pv 6 (.pointer (some ⟨g1, 32, none⟩)) ?_
 refine zL M 7 0 rfl 32 16 (p4_2 16 px py pz pt 32 rfl) ?_
 refine zC M 8 F.h1 fun w2 M => ?_
 refine zN M 3 (.cells (arr 16 (fun _ => 0)) 36) fun g2 w3 M => ?_
 refine zW M 1 rfl r1 fun w4 M => ?_
 refine nt <| sr <| pv 9 (.pointer (some ⟨g1, 0, none⟩)) ?_
 refine zL M 10 0 rfl 0 16 (p4_0 16 px py pz pt 0 rfl) ?_
 refine zA M 11 1 rfl ?_
 refine zC M 12 F.h2 fun w5 M => ?_
 refine zN M 4 (.cells (arr 16 (fun _ => 0)) 36) fun g3 w6 M => ?_
 refine zW M 2 rfl r2 fun w7 M => ?_
 refine nt <| sr <| pv 13 (.pointer (some ⟨g1, 16, none⟩)) ?_
 refine zL M 14 0 rfl 16 16 (p4_1 16 px py pz pt 16 rfl) ?_
 refine zA M 15 1 rfl ?_
 refine zC M 16 F.h3 fun w8 M => ?_
 refine zC M 17 F.h4 fun w9 M => ?_
 refine pl_conv M (want_no rfl) (some 18) rfl _ rfl (s4) (by kernel_rfl) 32 hs ?_
 intro g4 cg4 Z1 w10 z1 M
 refine pv 5 (.slice (some ⟨g4, 0, none⟩) 32 cg4) <| nt ?_
 refine wp_seq ?_
 refine rg_tail M 11 (by kernel_rfl) (by kernel_rfl) ?_
 simp only [List.take_succ_cons, List.take_zero]
 refine kv 19 (.slice (some ⟨g4, 0, none⟩) 32 cg4) <| kv 20 (.slice (some ⟨g4, 0, none⟩) 32 cg4) <| kv 21 (.pointer (some ⟨g4, 31, none⟩)) ?_
 refine k_loadb M (want_no rfl) (some 22) rfl 5 _ rfl 3 g4 31 (by kernel_rfl) (Z1) rfl 32 (bt (s4)) z1 (by decide) (fun _ => by kernel_rfl) ?_
 refine kv 23 (.pointer (some ⟨g3, 0, none⟩)) ?_
 refine k_loadw M (want_no rfl) (some 24) rfl 34 _ rfl 2 g3 0 (by kernel_rfl) 16 36 r2 rfl (by decide) (fun _ => by kernel_rfl) ?_
 refine k_val (want_no rfl) (some 25) rfl (.int .u64 0) (fun w => Eq.trans (b := .ok (.value (.int .u64 (bits .and .u64 (r2 0) 1))) w) (by kernel_rfl) (by rw [hp])) ?_
 refine kv 26 (.int .u8 0) <| kv 27 (.int .u8 0) <| kv 28 (.int .u8 (bits .or .u8 ((bt (s4)) 31) 0)) <| kv 29 (.pointer (some ⟨g4, 31, none⟩)) ?_
 refine kl_nil fun w11 M => ?_
 refine pl_storeb M (want_no rfl) rfl 5 _ _ rfl 3 g4 31 (by kernel_rfl) (bits .or .u8 ((bt (s4)) 31) 0) (by kernel_rfl) (Z1) rfl 32 (bt (s4)) z1 (by decide) inzb ?_
 intro Z2 w12 z2 M
 refine nt <| sr <| pv 30 (.slice (some ⟨g4, 0, none⟩) 32 cg4) ?_
 refine pl_back M (want_no rfl) (some 31) rfl _ rfl 3 g4 32 cg4 (by kernel_rfl) (Z2) rfl (upd (bt (s4)) 31 (bits .or .u8 ((bt (s4)) 31) 0)) z2 hf ?_
 refine pv 2 (.string (bs ((List.range 32).map (upd (bt (s4)) 31 (bits .or .u8 ((bt (s4)) 31) 0))))) <| nt ?_
 refine wp_ret ?_
 exact bodyPost_ret (v := .string (bs ((List.range 32).map (upd (bt (s4)) 31 (bits .or .u8 ((bt (s4)) 31) 0))))) (results_tmp1 Tryz.results23 _ _ _ (by kernel_rfl)) (by kernel_rfl) ⟨rfl, M.old⟩
structure rbytesTF (px py pz pt r1 r2 r3 : Nat → Int) (s4 : ByteArray) : Prop where
 h1 : ∀ w, Cs 52 #[.agg (arr 16 pz)] w (.agg (arr 16 r1))
 h2 : ∀ w, Cs 53 #[.agg (arr 16 px), .agg (arr 16 r1)] w (.agg (arr 16 r2))
 h3 : ∀ w, Cs 53 #[.agg (arr 16 py), .agg (arr 16 r1)] w (.agg (arr 16 r3))
 h4 : ∀ w, Cs 16 #[.agg (arr 16 r3)] w (.string s4)
theorem rbytesT_gen (px py pz pt r1 r2 r3 : Nat → Int) (s4 : ByteArray) (w : World) (F : rbytesTF px py pz pt r1 r2 r3 s4) (hp : bits .and .u64 (r2 0) 1 = 1) (hs : s4.size = 32) (hf : ∀ i, i < 32 → 0 ≤ (upd (bt s4) 31 (bits .or .u8 (bt s4 31) 128)) i ∧ (upd (bt s4) 31 (bits .or .u8 (bt s4 31) 128)) i < 256) :
  Cs 23 #[.agg (arr 64 (p4 16 px py pz pt))] w (.string (bs ((List.range 32).map (upd (bt (s4)) 31 (bits .or .u8 ((bt (s4)) 31) 128))))) := by
 go_enter Tryz.func23, Tryz.ntmps23
 have M := Mem.start w
 refine sr ?_
 refine zN M 1 (.cells (arr 64 (p4 16 px py pz pt)) 52) fun g1 w1 M => ?_
 refine pv 2 (.string ⟨#[]⟩) <| nt <| sr <| pv 6 (.pointer (some ⟨g1, 32, none⟩)) ?_
 refine zL M 7 0 rfl 32 16 (p4_2 16 px py pz pt 32 rfl) ?_
 refine zC M 8 F.h1 fun w2 M => ?_
 refine zN M 3 (.cells (arr 16 (fun _ => 0)) 36) fun g2 w3 M => ?_
 refine zW M 1 rfl r1 fun w4 M => ?_
 refine nt <| sr <| pv 9 (.pointer (some ⟨g1, 0, none⟩)) ?_
 refine zL M 10 0 rfl 0 16 (p4_0 16 px py pz pt 0 rfl) ?_
 refine zA M 11 1 rfl ?_
 refine zC M 12 F.h2 fun w5 M => ?_
 refine zN M 4 (.cells (arr 16 (fun _ => 0)) 36) fun g3 w6 M => ?_
 refine zW M 2 rfl r2 fun w7 M => ?_
 refine nt <| sr <| pv 13 (.pointer (some ⟨g1, 16, none⟩)) ?_
 refine zL M 14 0 rfl 16 16 (p4_1 16 px py pz pt 16 rfl) ?_
 refine zA M 15 1 rfl ?_
 refine zC M 16 F.h3 fun w8 M => ?_
 refine zC M 17 F.h4 fun w9 M => ?_
 refine pl_conv M (want_no rfl) (some 18) rfl _ rfl (s4) (by kernel_rfl) 32 hs ?_
 intro g4 cg4 Z1 w10 z1 M
 refine pv 5 (.slice (some ⟨g4, 0, none⟩) 32 cg4) <| nt ?_
 refine wp_seq ?_
 refine rg_tail M 11 (by kernel_rfl) (by kernel_rfl) ?_
 simp only [List.take_succ_cons, List.take_zero]
 refine kv 19 (.slice (some ⟨g4, 0, none⟩) 32 cg4) <| kv 20 (.slice (some ⟨g4, 0, none⟩) 32 cg4) <| kv 21 (.pointer (some ⟨g4, 31, none⟩)) ?_
 refine k_loadb M (want_no rfl) (some 22) rfl 5 _ rfl 3 g4 31 (by kernel_rfl) (Z1) rfl 32 (bt (s4)) z1 (by decide) (fun _ => by kernel_rfl) ?_
 refine kv 23 (.pointer (some ⟨g3, 0, none⟩)) ?_
 refine k_loadw M (want_no rfl) (some 24) rfl 34 _ rfl 2 g3 0 (by kernel_rfl) 16 36 r2 rfl (by decide) (fun _ => by kernel_rfl) ?_
 refine k_val (want_no rfl) (some 25) rfl (.int .u64 1) (fun w => Eq.trans (b := .ok (.value (.int .u64 (bits .and .u64 (r2 0) 1))) w) (by kernel_rfl) (by rw [hp])) ?_
 refine kv 26 (.int .u8 1) <| kv 27 (.int .u8 128) <| kv 28 (.int .u8 (bits .or .u8 ((bt (s4)) 31) 128)) <| kv 29 (.pointer (some ⟨g4, 31, none⟩)) ?_
 refine kl_nil fun w11 M => ?_
 refine pl_storeb M (want_no rfl) rfl 5 _ _ rfl 3 g4 31 (by kernel_rfl) (bits .or .u8 ((bt (s4)) 31) 128) (by kernel_rfl) (Z1) rfl 32 (bt (s4)) z1 (by decide) inzb ?_
 intro Z2 w12 z2 M
 refine nt <| sr <| pv 30 (.slice (some ⟨g4, 0, none⟩) 32 cg4) ?_
 refine pl_back M (want_no rfl) (some 31) rfl _ rfl 3 g4 32 cg4 (by kernel_rfl) (Z2) rfl (upd (bt (s4)) 31 (bits .or .u8 ((bt (s4)) 31) 128)) z2 hf ?_
 refine pv 2 (.string (bs ((List.range 32).map (upd (bt (s4)) 31 (bits .or .u8 ((bt (s4)) 31) 128))))) <| nt ?_
 refine wp_ret ?_
 exact bodyPost_ret (v := .string (bs ((List.range 32).map (upd (bt (s4)) 31 (bits .or .u8 ((bt (s4)) 31) 128))))) (results_tmp1 Tryz.results23 _ _ _ (by kernel_rfl)) (by kernel_rfl) ⟨rfl, M.old⟩
def dBy : ByteArray := ⟨#[163, 120, 89, 19, 202, 77, 235, 117, 171, 216, 65, 65, 77, 10, 112, 0, 152, 232, 121, 119, 121, 64, 199, 140, 115, 254, 111, 43, 238, 108, 3, 82]⟩
def s102 : ByteArray := ⟨#[102]⟩
def f31S : ByteArray := ⟨#[102, 102, 102, 102, 102, 102, 102, 102, 102, 102, 102, 102, 102, 102, 102, 102, 102, 102, 102, 102, 102, 102, 102, 102, 102, 102, 102, 102, 102, 102, 102]⟩
def baseS : ByteArray := ⟨#[88, 102, 102, 102, 102, 102, 102, 102, 102, 102, 102, 102, 102, 102, 102, 102, 102, 102, 102, 102, 102, 102, 102, 102, 102, 102, 102, 102, 102, 102, 102, 102]⟩
structure factorF (r1 : Nat → Int) : Prop where
 h1 : ∀ w, Cs 78 #[.string dBy] w (.tuple #[.agg (arr 5 r1), .int .i64 0])
theorem factor_gen (r1 : Nat → Int) (w : World) (F : factorF r1)  :
  Cs 113 #[] w (.agg (arr 5 r1)) := by
 go_enter Tryz.func113, Tryz.ntmps113
 have M := Mem.start w
 refine sr ?_
 refine zN M 0 (.cells (arr 5 (fun _ => 0)) 58) fun g1 w1 M => ?_
 refine nt <| sr ?_
 refine zC M 4 F.h1 fun w2 M => ?_
 refine pv 3 (.tuple #[.agg (arr 5 r1), .int .i64 0]) <| pv 5 (.agg (arr 5 r1)) <| pv 6 (.int .i64 0) ?_
 refine zN M 1 (.cells (arr 5 (fun _ => 0)) 58) fun g2 w3 M => ?_
 refine zW M 1 rfl r1 fun w4 M => ?_
 refine pv 2 (.int .i64 0) <| nt <| sr ?_
 refine zA M 7 1 rfl ?_
 refine zW M 0 rfl r1 fun w5 M => ?_
 refine nt ?_
 refine wp_ret ?_
 exact bodyPost_ret (v := .agg (arr 5 r1)) (results_cell_row Tryz.results113 _ _ g1 58 (arr 5 r1) (0, 0) _ (by kernel_rfl) (M.get 0 rfl) Tryz.underlying58 rfl (by rw [arr_size]; exact inz58)) (by kernel_rfl) ⟨rfl, M.old⟩
structure besidesF (y r1 r2 r3 r4 r5 r6 r7 r8 r9 : Nat → Int) (b10 : Bool) : Prop where
 h1 : ∀ w, Cs 109 #[.int .u32 1] w (.agg (arr 5 r1))
 h2 : ∀ w, Cs 64 #[.agg (arr 5 y), .agg (arr 5 y)] w (.agg (arr 5 r2))
 h3 : ∀ w, Cs 111 #[.agg (arr 5 r2), .agg (arr 5 r1)] w (.agg (arr 5 r3))
 h4 : ∀ w, Cs 113 #[] w (.agg (arr 5 r4))
 h5 : ∀ w, Cs 64 #[.agg (arr 5 r4), .agg (arr 5 r2)] w (.agg (arr 5 r5))
 h6 : ∀ w, Cs 112 #[.agg (arr 5 r5), .agg (arr 5 r1)] w (.agg (arr 5 r6))
 h7 : ∀ w, Cs 63 #[.agg (arr 5 r6)] w (.agg (arr 5 r7))
 h8 : ∀ w, Cs 64 #[.agg (arr 5 r3), .agg (arr 5 r7)] w (.agg (arr 5 r8))
 h9 : ∀ w, Cs 132 #[.agg (arr 5 r8)] w (.tuple #[.agg (arr 5 r9), .bool b10])
theorem besides_gen (y r1 r2 r3 r4 r5 r6 r7 r8 r9 : Nat → Int) (b10 : Bool) (w : World) (F : besidesF y r1 r2 r3 r4 r5 r6 r7 r8 r9 b10)  :
  Cs 79 #[.agg (arr 5 y)] w (.tuple #[.agg (arr 5 r9), .bool b10]) := by
 go_enter Tryz.func79, Tryz.ntmps79
 have M := Mem.start w
 refine sr ?_
 refine zN M 1 (.cells (arr 5 y) 58) fun g1 w1 M => ?_
 refine zN M 2 (.cells (arr 5 (fun _ => 0)) 58) fun g2 w2 M => ?_
 refine pv 3 (.bool false) <| nt ?_
 refine wp_seq ?_
 refine rg_allocs M 4 [(4, 58, 5), (5, 58, 5)] (by kernel_rfl) (by kernel_rfl) ⟨rfl, rfl, fun _ _ => by kernel_rfl, rfl, rfl, fun _ _ => by kernel_rfl, trivial⟩ (by decide) ?_
 simp only [List.take_succ_cons, List.take_zero]
 refine wC 6 F.h1 ?_
 refine wA M 7 0 rfl ?_
 refine wA M 8 0 rfl ?_
 refine wC 9 F.h2 ?_
 refine kl_nil fun w3 g3 g4 M => ?_
 refine zW M 2 rfl r1 fun w4 M => ?_
 refine zW M 3 rfl r2 fun w5 M => ?_
 refine nt ?_
 refine wp_seq ?_
 refine rg_tail M 13 (by kernel_rfl) (by kernel_rfl) ?_
 simp only [List.take_succ_cons, List.take_zero]
 refine wA M 10 3 rfl ?_
 refine wA M 11 2 rfl ?_
 refine wC 12 F.h3 ?_
 refine wC 13 F.h4 ?_
 refine wA M 14 3 rfl ?_
 refine wC 15 F.h5 ?_
 refine wA M 16 2 rfl ?_
 refine wC 17 F.h6 ?_
 refine wC 18 F.h7 ?_
 refine wC 19 F.h8 ?_
 refine wC 20 F.h9 ?_
 refine kv 21 (.agg (arr 5 r9)) <| kv 22 (.bool b10) ?_
 refine kl_nil fun w6 M => ?_
 refine zW M 1 rfl r9 fun w7 M => ?_
 refine pv 3 (.bool b10) <| nt ?_
 refine wp_ret ?_
 exact bodyPost_ret (v := .tuple #[.agg (arr 5 r9), .bool b10]) (results_cell_tmp Tryz.results79 _ _ g2 58 (arr 5 r9) (0, 0) _ (.bool b10) (by kernel_rfl) (by kernel_rfl) (M.get 1 rfl) Tryz.underlying58 rfl (by rw [arr_size]; exact inz58)) (by kernel_rfl) ⟨rfl, M.old⟩
structure decLF (s : ByteArray)  : Prop where
 h0 : True
theorem decL_gen (s : ByteArray)  (w : World) (_F : decLF s ) (hs : ¬ (s.size : Int) = 32) :
  Cs 34 #[.string s] w (.tuple #[.agg (arr 20 (fun _ => 0)), .int .i64 2]) := by
 go_enter Tryz.func34, Tryz.ntmps34
 have M := Mem.start w
 refine sr ?_
 refine zN M 2 (.cells (arr 20 (fun _ => 0)) 60) fun g1 w1 M => ?_
 refine pv 3 (.int .i64 0) <| nt ?_
 refine wp_seq ?_
 refine sr <| pv 10 (.string s) <| pv 11 (.int .i64 (s.size : Int)) ?_
 refine pl_val (want_no rfl) (some 12) rfl (.bool true) (fun w => Eq.trans (b := .ok (.value (.bool (!(decide ((s.size : Int) = 32))))) w) (by kernel_rfl) (by rw [decide_eq_false hs]; rfl)) ?_
 refine nt ?_
 refine cT ?_
 refine sr <| pv 13 (.agg (arr 20 (fun _ => 0))) ?_
 refine zW M 0 rfl (fun _ => 0) fun w2 M => ?_
 refine pv 3 (.int .i64 2) <| nt ?_
 refine wp_ret ?_
 refine au_then_ret ?_
 exact bodyPost_ret (v := .tuple #[.agg (arr 20 (fun _ => 0)), .int .i64 2]) (results_cell_tmp Tryz.results34 _ _ g1 60 (arr 20 (fun _ => 0)) (0, 0) _ (.int .i64 2) (by kernel_rfl) (by kernel_rfl) (M.get 0 rfl) Tryz.underlying60 rfl (by rw [arr_size]; exact inz60)) (by kernel_rfl) ⟨rfl, M.old⟩
structure decCF (s : ByteArray) (b2 : Bool) (s1 : ByteArray) : Prop where
 h1 : ∀ w, Cs 76 #[.string s] w (.tuple #[.string s1, .bool b2])
 h2 : ∀ w, Cs 77 #[.string s1] w (.bool false)
theorem decC_gen (s : ByteArray) (b2 : Bool) (s1 : ByteArray) (w : World) (F : decCF s b2 s1) (hs : s.size = 32) :
  Cs 34 #[.string s] w (.tuple #[.agg (arr 20 (fun _ => 0)), .int .i64 40]) := by
 go_enter Tryz.func34, Tryz.ntmps34
 have M := Mem.start w
 refine sr ?_
 refine zN M 2 (.cells (arr 20 (fun _ => 0)) 60) fun g1 w1 M => ?_
 refine pv 3 (.int .i64 0) <| nt ?_
 refine wp_seq ?_
 refine sr <| pv 10 (.string s) ?_
 refine pl_val (want_no rfl) (some 11) rfl (.int .i64 32) (fun w => Eq.trans (b := .ok (.value (.int .i64 (s.size : Int))) w) (by kernel_rfl) (by rw [hs]; rfl)) ?_
 refine pv 12 (.bool false) <| nt ?_
 refine cF ?_
 refine wp_skip ?_
 refine au_then ?_
 refine sr <| pv 15 (.string s) ?_
 refine zC M 16 F.h1 fun w2 M => ?_
 refine pv 14 (.tuple #[.string s1, .bool b2]) <| pv 17 (.string s1) <| pv 18 (.bool b2) <| pv 4 (.string s1) ?_
 refine pv 5 (.bool b2) <| nt ?_
 refine wp_seq ?_
 refine sr <| pv 19 (.string s1) ?_
 refine zC M 20 F.h2 fun w3 M => ?_
 refine pv 21 (.bool true) <| nt ?_
 refine cT ?_
 refine sr <| pv 22 (.agg (arr 20 (fun _ => 0))) ?_
 refine zW M 0 rfl (fun _ => 0) fun w4 M => ?_
 refine pv 3 (.int .i64 40) <| nt ?_
 refine wp_ret ?_
 refine au_then_ret ?_
 exact bodyPost_ret (v := .tuple #[.agg (arr 20 (fun _ => 0)), .int .i64 40]) (results_cell_tmp Tryz.results34 _ _ g1 60 (arr 20 (fun _ => 0)) (0, 0) _ (.int .i64 40) (by kernel_rfl) (by kernel_rfl) (M.get 0 rfl) Tryz.underlying60 rfl (by rw [arr_size]; exact inz60)) (by kernel_rfl) ⟨rfl, M.old⟩
structure decRFF (s : ByteArray) (r2 r3 : Nat → Int) (s1 : ByteArray) : Prop where
 h1 : ∀ w, Cs 76 #[.string s] w (.tuple #[.string s1, .bool false])
 h2 : ∀ w, Cs 77 #[.string s1] w (.bool true)
 h3 : ∀ w, Cs 78 #[.string s1] w (.tuple #[.agg (arr 5 r2), .int .i64 0])
 h4 : ∀ w, Cs 79 #[.agg (arr 5 r2)] w (.tuple #[.agg (arr 5 r3), .bool false])
theorem decRF_gen (s : ByteArray) (r2 r3 : Nat → Int) (s1 : ByteArray) (w : World) (F : decRFF s r2 r3 s1) (hs : s.size = 32) :
  Cs 34 #[.string s] w (.tuple #[.agg (arr 20 (fun _ => 0)), .int .i64 40]) := by
 go_enter Tryz.func34, Tryz.ntmps34
 have M := Mem.start w
 refine sr ?_
 refine zN M 2 (.cells (arr 20 (fun _ => 0)) 60) fun g1 w1 M => ?_
 refine pv 3 (.int .i64 0) <| nt ?_
 refine wp_seq ?_
 refine sr <| pv 10 (.string s) ?_
 refine pl_val (want_no rfl) (some 11) rfl (.int .i64 32) (fun w => Eq.trans (b := .ok (.value (.int .i64 (s.size : Int))) w) (by kernel_rfl) (by rw [hs]; rfl)) ?_
 refine pv 12 (.bool false) <| nt ?_
 refine cF ?_
 refine wp_skip ?_
 refine au_then ?_
 refine sr <| pv 15 (.string s) ?_
 refine zC M 16 F.h1 fun w2 M => ?_
 refine pv 14 (.tuple #[.string s1, .bool false]) <| pv 17 (.string s1) <| pv 18 (.bool false) <| pv 4 (.string s1) ?_
 refine pv 5 (.bool false) <| nt ?_
 refine wp_seq ?_
 refine sr <| pv 19 (.string s1) ?_
 refine zC M 20 F.h2 fun w3 M => ?_
 refine pv 21 (.bool false) <| nt ?_
 refine cF ?_
 refine wp_skip ?_
 refine au_then ?_
 refine sr <| pv 24 (.string s1) ?_
 refine zC M 25 F.h3 fun w4 M => ?_
 refine pv 23 (.tuple #[.agg (arr 5 r2), .int .i64 0]) <| pv 26 (.agg (arr 5 r2)) <| pv 27 (.int .i64 0) ?_
 refine zN M 6 (.cells (arr 5 (fun _ => 0)) 58) fun g2 w5 M => ?_
 refine zW M 1 rfl r2 fun w6 M => ?_
 refine pv 7 (.int .i64 0) <| nt <| sr ?_
 refine zA M 29 1 rfl ?_
 refine zC M 30 F.h4 fun w7 M => ?_
 refine pv 28 (.tuple #[.agg (arr 5 r3), .bool false]) <| pv 31 (.agg (arr 5 r3)) <| pv 32 (.bool false) ?_
 refine zN M 8 (.cells (arr 5 (fun _ => 0)) 58) fun g3 w8 M => ?_
 refine zW M 2 rfl r3 fun w9 M => ?_
 refine pv 9 (.bool false) <| nt ?_
 refine wp_seq ?_
 refine sr <| pv 33 (.bool false) <| nt ?_
 refine cF ?_
 refine wp_skip ?_
 refine au_then ?_
 refine wp_seq ?_
 refine sr <| pv 36 (.bool false) <| pv 37 (.bool true) <| pv 38 (.bool true) ?_
 refine pl_skip (want_off 2 false rfl 38 rfl (by kernel_rfl)) (some 39) rfl ?_
 refine pl_skip (want_off 2 false rfl 38 rfl (by kernel_rfl)) (some 40) rfl ?_
 refine pl_skip (want_off 2 false rfl 38 rfl (by kernel_rfl)) (some 41) rfl ?_
 refine pl_skip (want_off 2 false rfl 38 rfl (by kernel_rfl)) (some 42) rfl ?_
 refine pv 43 (.bool true) <| nt ?_
 refine cT ?_
 refine sr <| pv 44 (.agg (arr 20 (fun _ => 0))) ?_
 refine zW M 0 rfl (fun _ => 0) fun w10 M => ?_
 refine pv 3 (.int .i64 40) <| nt ?_
 refine wp_ret ?_
 refine au_then_ret ?_
 exact bodyPost_ret (v := .tuple #[.agg (arr 20 (fun _ => 0)), .int .i64 40]) (results_cell_tmp Tryz.results34 _ _ g1 60 (arr 20 (fun _ => 0)) (0, 0) _ (.int .i64 40) (by kernel_rfl) (by kernel_rfl) (M.get 0 rfl) Tryz.underlying60 rfl (by rw [arr_size]; exact inz60)) (by kernel_rfl) ⟨rfl, M.old⟩
structure decOFF (s : ByteArray) (r2 r3 : Nat → Int) (s1 : ByteArray) : Prop where
 h1 : ∀ w, Cs 76 #[.string s] w (.tuple #[.string s1, .bool false])
 h2 : ∀ w, Cs 77 #[.string s1] w (.bool true)
 h3 : ∀ w, Cs 78 #[.string s1] w (.tuple #[.agg (arr 5 r2), .int .i64 0])
 h4 : ∀ w, Cs 79 #[.agg (arr 5 r2)] w (.tuple #[.agg (arr 5 r3), .bool true])
 h5 : ∀ w, Cs 66 #[.agg (arr 5 r3)] w (.bool true)
theorem decOF_gen (s : ByteArray) (r2 r3 : Nat → Int) (s1 : ByteArray) (w : World) (F : decOFF s r2 r3 s1) (hs : s.size = 32) :
  Cs 34 #[.string s] w (.tuple #[.agg (arr 20 (fun _ => 0)), .int .i64 40]) := by
 go_enter Tryz.func34, Tryz.ntmps34
 have M := Mem.start w
 refine sr ?_
 refine zN M 2 (.cells (arr 20 (fun _ => 0)) 60) fun g1 w1 M => ?_
 refine pv 3 (.int .i64 0) <| nt ?_
 refine wp_seq ?_
 refine sr <| pv 10 (.string s) ?_
 refine pl_val (want_no rfl) (some 11) rfl (.int .i64 32) (fun w => Eq.trans (b := .ok (.value (.int .i64 (s.size : Int))) w) (by kernel_rfl) (by rw [hs]; rfl)) ?_
 refine pv 12 (.bool false) <| nt ?_
 refine cF ?_
 refine wp_skip ?_
 refine au_then ?_
 refine sr <| pv 15 (.string s) ?_
 refine zC M 16 F.h1 fun w2 M => ?_
 refine pv 14 (.tuple #[.string s1, .bool false]) <| pv 17 (.string s1) <| pv 18 (.bool false) <| pv 4 (.string s1) ?_
 refine pv 5 (.bool false) <| nt ?_
 refine wp_seq ?_
 refine sr <| pv 19 (.string s1) ?_
 refine zC M 20 F.h2 fun w3 M => ?_
 refine pv 21 (.bool false) <| nt ?_
 refine cF ?_
 refine wp_skip ?_
 refine au_then ?_
 refine sr <| pv 24 (.string s1) ?_
 refine zC M 25 F.h3 fun w4 M => ?_
 refine pv 23 (.tuple #[.agg (arr 5 r2), .int .i64 0]) <| pv 26 (.agg (arr 5 r2)) <| pv 27 (.int .i64 0) ?_
 refine zN M 6 (.cells (arr 5 (fun _ => 0)) 58) fun g2 w5 M => ?_
 refine zW M 1 rfl r2 fun w6 M => ?_
 refine pv 7 (.int .i64 0) <| nt <| sr ?_
 refine zA M 29 1 rfl ?_
 refine zC M 30 F.h4 fun w7 M => ?_
 refine pv 28 (.tuple #[.agg (arr 5 r3), .bool true]) <| pv 31 (.agg (arr 5 r3)) <| pv 32 (.bool true) ?_
 refine zN M 8 (.cells (arr 5 (fun _ => 0)) 58) fun g3 w8 M => ?_
 refine zW M 2 rfl r3 fun w9 M => ?_
 refine pv 9 (.bool true) <| nt ?_
 refine wp_seq ?_
 refine sr <| pv 33 (.bool false) <| nt ?_
 refine cF ?_
 refine wp_skip ?_
 refine au_then ?_
 refine wp_seq ?_
 refine sr <| pv 36 (.bool true) <| pv 37 (.bool false) <| pv 38 (.bool false) ?_
 refine pl_load M (want_on 2 false rfl 38 rfl (by kernel_rfl)) (some 39) rfl 58 _ rfl 2 g3 0 (by kernel_rfl) 5 58 r3 rfl 5 r3 (Part.all _ _) (by decide) _ Tryz.underlying58 rfl inz58 ?_
 refine pl_call M (want_on 2 false rfl 38 rfl (by kernel_rfl)) (some 40) rfl 66 #[.agg (arr 5 r3)] (.bool true) (fun _ => by kernel_rfl) F.h5 fun w10 M => ?_
 refine pl_val (want_on 2 false rfl 38 rfl (by kernel_rfl)) (some 41) rfl (.bool false) (fun _ => by kernel_rfl) ?_
 refine pl_val (want_on 2 false rfl 38 rfl (by kernel_rfl)) (some 42) rfl (.bool true) (fun _ => by kernel_rfl) ?_
 refine pv 43 (.bool true) <| nt ?_
 refine cT ?_
 refine sr <| pv 44 (.agg (arr 20 (fun _ => 0))) ?_
 refine zW M 0 rfl (fun _ => 0) fun w11 M => ?_
 refine pv 3 (.int .i64 40) <| nt ?_
 refine wp_ret ?_
 refine au_then_ret ?_
 exact bodyPost_ret (v := .tuple #[.agg (arr 20 (fun _ => 0)), .int .i64 40]) (results_cell_tmp Tryz.results34 _ _ g1 60 (arr 20 (fun _ => 0)) (0, 0) _ (.int .i64 40) (by kernel_rfl) (by kernel_rfl) (M.get 0 rfl) Tryz.underlying60 rfl (by rw [arr_size]; exact inz60)) (by kernel_rfl) ⟨rfl, M.old⟩
structure decYFF (s : ByteArray) (r2 r3 r4 : Nat → Int) (s1 : ByteArray) : Prop where
 h1 : ∀ w, Cs 76 #[.string s] w (.tuple #[.string s1, .bool false])
 h2 : ∀ w, Cs 77 #[.string s1] w (.bool true)
 h3 : ∀ w, Cs 78 #[.string s1] w (.tuple #[.agg (arr 5 r2), .int .i64 0])
 h4 : ∀ w, Cs 79 #[.agg (arr 5 r2)] w (.tuple #[.agg (arr 5 r3), .bool true])
 h5 : ∀ w, Cs 66 #[.agg (arr 5 r3)] w (.bool false)
 h6 : ∀ w, Cs 81 #[.agg (arr 5 r3), .agg (arr 5 r2)] w (.agg (arr 20 r4))
theorem decYF_gen (s : ByteArray) (r2 r3 r4 : Nat → Int) (s1 : ByteArray) (w : World) (F : decYFF s r2 r3 r4 s1) (hs : s.size = 32) :
  Cs 34 #[.string s] w (.tuple #[.agg (arr 20 r4), .int .i64 0]) := by
 go_enter Tryz.func34, Tryz.ntmps34
 have M := Mem.start w
 refine sr ?_
 refine zN M 2 (.cells (arr 20 (fun _ => 0)) 60) fun g1 w1 M => ?_
 refine pv 3 (.int .i64 0) <| nt ?_
 refine wp_seq ?_
 refine sr <| pv 10 (.string s) ?_
 refine pl_val (want_no rfl) (some 11) rfl (.int .i64 32) (fun w => Eq.trans (b := .ok (.value (.int .i64 (s.size : Int))) w) (by kernel_rfl) (by rw [hs]; rfl)) ?_
 refine pv 12 (.bool false) <| nt ?_
 refine cF ?_
 refine wp_skip ?_
 refine au_then ?_
 refine sr <| pv 15 (.string s) ?_
 refine zC M 16 F.h1 fun w2 M => ?_
 refine pv 14 (.tuple #[.string s1, .bool false]) <| pv 17 (.string s1) <| pv 18 (.bool false) <| pv 4 (.string s1) ?_
 refine pv 5 (.bool false) <| nt ?_
 refine wp_seq ?_
 refine sr <| pv 19 (.string s1) ?_
 refine zC M 20 F.h2 fun w3 M => ?_
 refine pv 21 (.bool false) <| nt ?_
 refine cF ?_
 refine wp_skip ?_
 refine au_then ?_
 refine sr <| pv 24 (.string s1) ?_
 refine zC M 25 F.h3 fun w4 M => ?_
 refine pv 23 (.tuple #[.agg (arr 5 r2), .int .i64 0]) <| pv 26 (.agg (arr 5 r2)) <| pv 27 (.int .i64 0) ?_
 refine zN M 6 (.cells (arr 5 (fun _ => 0)) 58) fun g2 w5 M => ?_
 refine zW M 1 rfl r2 fun w6 M => ?_
 refine pv 7 (.int .i64 0) <| nt <| sr ?_
 refine zA M 29 1 rfl ?_
 refine zC M 30 F.h4 fun w7 M => ?_
 refine pv 28 (.tuple #[.agg (arr 5 r3), .bool true]) <| pv 31 (.agg (arr 5 r3)) <| pv 32 (.bool true) ?_
 refine zN M 8 (.cells (arr 5 (fun _ => 0)) 58) fun g3 w8 M => ?_
 refine zW M 2 rfl r3 fun w9 M => ?_
 refine pv 9 (.bool true) <| nt ?_
 refine wp_seq ?_
 refine sr <| pv 33 (.bool false) <| nt ?_
 refine cF ?_
 refine wp_skip ?_
 refine au_then ?_
 refine wp_seq ?_
 refine sr <| pv 36 (.bool true) <| pv 37 (.bool false) <| pv 38 (.bool false) ?_
 refine pl_load M (want_on 2 false rfl 38 rfl (by kernel_rfl)) (some 39) rfl 58 _ rfl 2 g3 0 (by kernel_rfl) 5 58 r3 rfl 5 r3 (Part.all _ _) (by decide) _ Tryz.underlying58 rfl inz58 ?_
 refine pl_call M (want_on 2 false rfl 38 rfl (by kernel_rfl)) (some 40) rfl 66 #[.agg (arr 5 r3)] (.bool false) (fun _ => by kernel_rfl) F.h5 fun w10 M => ?_
 refine pl_val (want_on 2 false rfl 38 rfl (by kernel_rfl)) (some 41) rfl (.bool false) (fun _ => by kernel_rfl) ?_
 refine pl_val (want_on 2 false rfl 38 rfl (by kernel_rfl)) (some 42) rfl (.bool false) (fun _ => by kernel_rfl) ?_
 refine pv 43 (.bool false) <| nt ?_
 refine cF ?_
 refine wp_skip ?_
 refine au_then ?_
 refine sr ?_
 refine zA M 45 2 rfl ?_
 refine zA M 46 1 rfl ?_
 refine zC M 47 F.h6 fun w11 M => ?_
 refine zW M 0 rfl r4 fun w12 M => ?_
 refine pv 3 (.int .i64 0) <| nt ?_
 refine wp_ret ?_
 exact bodyPost_ret (v := .tuple #[.agg (arr 20 r4), .int .i64 0]) (results_cell_tmp Tryz.results34 _ _ g1 60 (arr 20 r4) (0, 0) _ (.int .i64 0) (by kernel_rfl) (by kernel_rfl) (M.get 0 rfl) Tryz.underlying60 rfl (by rw [arr_size]; exact inz60)) (by kernel_rfl) ⟨rfl, M.old⟩
structure decRTF (s : ByteArray) (r2 r3 r4 : Nat → Int) (s1 : ByteArray) : Prop where
 h1 : ∀ w, Cs 76 #[.string s] w (.tuple #[.string s1, .bool true])
 h2 : ∀ w, Cs 77 #[.string s1] w (.bool true)
 h3 : ∀ w, Cs 78 #[.string s1] w (.tuple #[.agg (arr 5 r2), .int .i64 0])
 h4 : ∀ w, Cs 79 #[.agg (arr 5 r2)] w (.tuple #[.agg (arr 5 r3), .bool false])
 h5 : ∀ w, Cs 80 #[.agg (arr 5 r3)] w (.agg (arr 5 r4))
theorem decRT_gen (s : ByteArray) (r2 r3 r4 : Nat → Int) (s1 : ByteArray) (w : World) (F : decRTF s r2 r3 r4 s1) (hs : s.size = 32) :
  Cs 34 #[.string s] w (.tuple #[.agg (arr 20 (fun _ => 0)), .int .i64 40]) := by
 go_enter Tryz.func34, Tryz.ntmps34
 have M := Mem.start w
 refine sr ?_
 refine zN M 2 (.cells (arr 20 (fun _ => 0)) 60) fun g1 w1 M => ?_
 refine pv 3 (.int .i64 0) <| nt ?_
 refine wp_seq ?_
 refine sr <| pv 10 (.string s) ?_
 refine pl_val (want_no rfl) (some 11) rfl (.int .i64 32) (fun w => Eq.trans (b := .ok (.value (.int .i64 (s.size : Int))) w) (by kernel_rfl) (by rw [hs]; rfl)) ?_
 refine pv 12 (.bool false) <| nt ?_
 refine cF ?_
 refine wp_skip ?_
 refine au_then ?_
 refine sr <| pv 15 (.string s) ?_
 refine zC M 16 F.h1 fun w2 M => ?_
 refine pv 14 (.tuple #[.string s1, .bool true]) <| pv 17 (.string s1) <| pv 18 (.bool true) <| pv 4 (.string s1) ?_
 refine pv 5 (.bool true) <| nt ?_
 refine wp_seq ?_
 refine sr <| pv 19 (.string s1) ?_
 refine zC M 20 F.h2 fun w3 M => ?_
 refine pv 21 (.bool false) <| nt ?_
 refine cF ?_
 refine wp_skip ?_
 refine au_then ?_
 refine sr <| pv 24 (.string s1) ?_
 refine zC M 25 F.h3 fun w4 M => ?_
 refine pv 23 (.tuple #[.agg (arr 5 r2), .int .i64 0]) <| pv 26 (.agg (arr 5 r2)) <| pv 27 (.int .i64 0) ?_
 refine zN M 6 (.cells (arr 5 (fun _ => 0)) 58) fun g2 w5 M => ?_
 refine zW M 1 rfl r2 fun w6 M => ?_
 refine pv 7 (.int .i64 0) <| nt <| sr ?_
 refine zA M 29 1 rfl ?_
 refine zC M 30 F.h4 fun w7 M => ?_
 refine pv 28 (.tuple #[.agg (arr 5 r3), .bool false]) <| pv 31 (.agg (arr 5 r3)) <| pv 32 (.bool false) ?_
 refine zN M 8 (.cells (arr 5 (fun _ => 0)) 58) fun g3 w8 M => ?_
 refine zW M 2 rfl r3 fun w9 M => ?_
 refine pv 9 (.bool false) <| nt ?_
 refine wp_seq ?_
 refine sr <| pv 33 (.bool true) <| nt ?_
 refine cT ?_
 refine rg_lit ?_
 refine zA M 34 2 rfl ?_
 refine zC M 35 F.h5 fun w10 M => ?_
 refine zW M 2 rfl r4 fun w11 M => ?_
 refine nt ?_
 refine wp_seq ?_
 refine sr <| pv 36 (.bool false) <| pv 37 (.bool true) <| pv 38 (.bool true) ?_
 refine pl_skip (want_off 2 false rfl 38 rfl (by kernel_rfl)) (some 39) rfl ?_
 refine pl_skip (want_off 2 false rfl 38 rfl (by kernel_rfl)) (some 40) rfl ?_
 refine pl_skip (want_off 2 false rfl 38 rfl (by kernel_rfl)) (some 41) rfl ?_
 refine pl_skip (want_off 2 false rfl 38 rfl (by kernel_rfl)) (some 42) rfl ?_
 refine pv 43 (.bool true) <| nt ?_
 refine cT ?_
 refine sr <| pv 44 (.agg (arr 20 (fun _ => 0))) ?_
 refine zW M 0 rfl (fun _ => 0) fun w12 M => ?_
 refine pv 3 (.int .i64 40) <| nt ?_
 refine wp_ret ?_
 refine au_then_ret ?_
 exact bodyPost_ret (v := .tuple #[.agg (arr 20 (fun _ => 0)), .int .i64 40]) (results_cell_tmp Tryz.results34 _ _ g1 60 (arr 20 (fun _ => 0)) (0, 0) _ (.int .i64 40) (by kernel_rfl) (by kernel_rfl) (M.get 0 rfl) Tryz.underlying60 rfl (by rw [arr_size]; exact inz60)) (by kernel_rfl) ⟨rfl, M.old⟩
structure decOTF (s : ByteArray) (r2 r3 r4 : Nat → Int) (s1 : ByteArray) : Prop where
 h1 : ∀ w, Cs 76 #[.string s] w (.tuple #[.string s1, .bool true])
 h2 : ∀ w, Cs 77 #[.string s1] w (.bool true)
 h3 : ∀ w, Cs 78 #[.string s1] w (.tuple #[.agg (arr 5 r2), .int .i64 0])
 h4 : ∀ w, Cs 79 #[.agg (arr 5 r2)] w (.tuple #[.agg (arr 5 r3), .bool true])
 h5 : ∀ w, Cs 80 #[.agg (arr 5 r3)] w (.agg (arr 5 r4))
 h6 : ∀ w, Cs 66 #[.agg (arr 5 r4)] w (.bool false)
theorem decOT_gen (s : ByteArray) (r2 r3 r4 : Nat → Int) (s1 : ByteArray) (w : World) (F : decOTF s r2 r3 r4 s1) (hs : s.size = 32) :
  Cs 34 #[.string s] w (.tuple #[.agg (arr 20 (fun _ => 0)), .int .i64 40]) := by
 go_enter Tryz.func34, Tryz.ntmps34
 have M := Mem.start w
 refine sr ?_
 refine zN M 2 (.cells (arr 20 (fun _ => 0)) 60) fun g1 w1 M => ?_
 refine pv 3 (.int .i64 0) <| nt ?_
 refine wp_seq ?_
 refine sr <| pv 10 (.string s) ?_
 refine pl_val (want_no rfl) (some 11) rfl (.int .i64 32) (fun w => Eq.trans (b := .ok (.value (.int .i64 (s.size : Int))) w) (by kernel_rfl) (by rw [hs]; rfl)) ?_
 refine pv 12 (.bool false) <| nt ?_
 refine cF ?_
 refine wp_skip ?_
 refine au_then ?_
 refine sr <| pv 15 (.string s) ?_
 refine zC M 16 F.h1 fun w2 M => ?_
 refine pv 14 (.tuple #[.string s1, .bool true]) <| pv 17 (.string s1) <| pv 18 (.bool true) <| pv 4 (.string s1) ?_
 refine pv 5 (.bool true) <| nt ?_
 refine wp_seq ?_
 refine sr <| pv 19 (.string s1) ?_
 refine zC M 20 F.h2 fun w3 M => ?_
 refine pv 21 (.bool false) <| nt ?_
 refine cF ?_
 refine wp_skip ?_
 refine au_then ?_
 refine sr <| pv 24 (.string s1) ?_
 refine zC M 25 F.h3 fun w4 M => ?_
 refine pv 23 (.tuple #[.agg (arr 5 r2), .int .i64 0]) <| pv 26 (.agg (arr 5 r2)) <| pv 27 (.int .i64 0) ?_
 refine zN M 6 (.cells (arr 5 (fun _ => 0)) 58) fun g2 w5 M => ?_
 refine zW M 1 rfl r2 fun w6 M => ?_
 refine pv 7 (.int .i64 0) <| nt <| sr ?_
 refine zA M 29 1 rfl ?_
 refine zC M 30 F.h4 fun w7 M => ?_
 refine pv 28 (.tuple #[.agg (arr 5 r3), .bool true]) <| pv 31 (.agg (arr 5 r3)) <| pv 32 (.bool true) ?_
 refine zN M 8 (.cells (arr 5 (fun _ => 0)) 58) fun g3 w8 M => ?_
 refine zW M 2 rfl r3 fun w9 M => ?_
 refine pv 9 (.bool true) <| nt ?_
 refine wp_seq ?_
 refine sr <| pv 33 (.bool true) <| nt ?_
 refine cT ?_
 refine rg_lit ?_
 refine zA M 34 2 rfl ?_
 refine zC M 35 F.h5 fun w10 M => ?_
 refine zW M 2 rfl r4 fun w11 M => ?_
 refine nt ?_
 refine wp_seq ?_
 refine sr <| pv 36 (.bool true) <| pv 37 (.bool false) <| pv 38 (.bool false) ?_
 refine pl_load M (want_on 2 false rfl 38 rfl (by kernel_rfl)) (some 39) rfl 58 _ rfl 2 g3 0 (by kernel_rfl) 5 58 r4 rfl 5 r4 (Part.all _ _) (by decide) _ Tryz.underlying58 rfl inz58 ?_
 refine pl_call M (want_on 2 false rfl 38 rfl (by kernel_rfl)) (some 40) rfl 66 #[.agg (arr 5 r4)] (.bool false) (fun _ => by kernel_rfl) F.h6 fun w12 M => ?_
 refine pl_val (want_on 2 false rfl 38 rfl (by kernel_rfl)) (some 41) rfl (.bool true) (fun _ => by kernel_rfl) ?_
 refine pl_val (want_on 2 false rfl 38 rfl (by kernel_rfl)) (some 42) rfl (.bool true) (fun _ => by kernel_rfl) ?_
 refine pv 43 (.bool true) <| nt ?_
 refine cT ?_
 refine sr <| pv 44 (.agg (arr 20 (fun _ => 0))) ?_
 refine zW M 0 rfl (fun _ => 0) fun w13 M => ?_
 refine pv 3 (.int .i64 40) <| nt ?_
 refine wp_ret ?_
 refine au_then_ret ?_
 exact bodyPost_ret (v := .tuple #[.agg (arr 20 (fun _ => 0)), .int .i64 40]) (results_cell_tmp Tryz.results34 _ _ g1 60 (arr 20 (fun _ => 0)) (0, 0) _ (.int .i64 40) (by kernel_rfl) (by kernel_rfl) (M.get 0 rfl) Tryz.underlying60 rfl (by rw [arr_size]; exact inz60)) (by kernel_rfl) ⟨rfl, M.old⟩
structure decYTF (s : ByteArray) (r2 r3 r4 r5 : Nat → Int) (s1 : ByteArray) : Prop where
 h1 : ∀ w, Cs 76 #[.string s] w (.tuple #[.string s1, .bool true])
 h2 : ∀ w, Cs 77 #[.string s1] w (.bool true)
 h3 : ∀ w, Cs 78 #[.string s1] w (.tuple #[.agg (arr 5 r2), .int .i64 0])
 h4 : ∀ w, Cs 79 #[.agg (arr 5 r2)] w (.tuple #[.agg (arr 5 r3), .bool true])
 h5 : ∀ w, Cs 80 #[.agg (arr 5 r3)] w (.agg (arr 5 r4))
 h6 : ∀ w, Cs 66 #[.agg (arr 5 r4)] w (.bool true)
 h7 : ∀ w, Cs 81 #[.agg (arr 5 r4), .agg (arr 5 r2)] w (.agg (arr 20 r5))
theorem decYT_gen (s : ByteArray) (r2 r3 r4 r5 : Nat → Int) (s1 : ByteArray) (w : World) (F : decYTF s r2 r3 r4 r5 s1) (hs : s.size = 32) :
  Cs 34 #[.string s] w (.tuple #[.agg (arr 20 r5), .int .i64 0]) := by
 go_enter Tryz.func34, Tryz.ntmps34
 have M := Mem.start w
 refine sr ?_
 refine zN M 2 (.cells (arr 20 (fun _ => 0)) 60) fun g1 w1 M => ?_
 refine pv 3 (.int .i64 0) <| nt ?_
 refine wp_seq ?_
 refine sr <| pv 10 (.string s) ?_
 refine pl_val (want_no rfl) (some 11) rfl (.int .i64 32) (fun w => Eq.trans (b := .ok (.value (.int .i64 (s.size : Int))) w) (by kernel_rfl) (by rw [hs]; rfl)) ?_
 refine pv 12 (.bool false) <| nt ?_
 refine cF ?_
 refine wp_skip ?_
 refine au_then ?_
 refine sr <| pv 15 (.string s) ?_
 refine zC M 16 F.h1 fun w2 M => ?_
 refine pv 14 (.tuple #[.string s1, .bool true]) <| pv 17 (.string s1) <| pv 18 (.bool true) <| pv 4 (.string s1) ?_
 refine pv 5 (.bool true) <| nt ?_
 refine wp_seq ?_
 refine sr <| pv 19 (.string s1) ?_
 refine zC M 20 F.h2 fun w3 M => ?_
 refine pv 21 (.bool false) <| nt ?_
 refine cF ?_
 refine wp_skip ?_
 refine au_then ?_
 refine sr <| pv 24 (.string s1) ?_
 refine zC M 25 F.h3 fun w4 M => ?_
 refine pv 23 (.tuple #[.agg (arr 5 r2), .int .i64 0]) <| pv 26 (.agg (arr 5 r2)) <| pv 27 (.int .i64 0) ?_
 refine zN M 6 (.cells (arr 5 (fun _ => 0)) 58) fun g2 w5 M => ?_
 refine zW M 1 rfl r2 fun w6 M => ?_
 refine pv 7 (.int .i64 0) <| nt <| sr ?_
 refine zA M 29 1 rfl ?_
 refine zC M 30 F.h4 fun w7 M => ?_
 refine pv 28 (.tuple #[.agg (arr 5 r3), .bool true]) <| pv 31 (.agg (arr 5 r3)) <| pv 32 (.bool true) ?_
 refine zN M 8 (.cells (arr 5 (fun _ => 0)) 58) fun g3 w8 M => ?_
 refine zW M 2 rfl r3 fun w9 M => ?_
 refine pv 9 (.bool true) <| nt ?_
 refine wp_seq ?_
 refine sr <| pv 33 (.bool true) <| nt ?_
 refine cT ?_
 refine rg_lit ?_
 refine zA M 34 2 rfl ?_
 refine zC M 35 F.h5 fun w10 M => ?_
 refine zW M 2 rfl r4 fun w11 M => ?_
 refine nt ?_
 refine wp_seq ?_
 refine sr <| pv 36 (.bool true) <| pv 37 (.bool false) <| pv 38 (.bool false) ?_
 refine pl_load M (want_on 2 false rfl 38 rfl (by kernel_rfl)) (some 39) rfl 58 _ rfl 2 g3 0 (by kernel_rfl) 5 58 r4 rfl 5 r4 (Part.all _ _) (by decide) _ Tryz.underlying58 rfl inz58 ?_
 refine pl_call M (want_on 2 false rfl 38 rfl (by kernel_rfl)) (some 40) rfl 66 #[.agg (arr 5 r4)] (.bool true) (fun _ => by kernel_rfl) F.h6 fun w12 M => ?_
 refine pl_val (want_on 2 false rfl 38 rfl (by kernel_rfl)) (some 41) rfl (.bool true) (fun _ => by kernel_rfl) ?_
 refine pl_val (want_on 2 false rfl 38 rfl (by kernel_rfl)) (some 42) rfl (.bool false) (fun _ => by kernel_rfl) ?_
 refine pv 43 (.bool false) <| nt ?_
 refine cF ?_
 refine wp_skip ?_
 refine au_then ?_
 refine sr ?_
 refine zA M 45 2 rfl ?_
 refine zA M 46 1 rfl ?_
 refine zC M 47 F.h7 fun w13 M => ?_
 refine zW M 0 rfl r5 fun w14 M => ?_
 refine pv 3 (.int .i64 0) <| nt ?_
 refine wp_ret ?_
 exact bodyPost_ret (v := .tuple #[.agg (arr 20 r5), .int .i64 0]) (results_cell_tmp Tryz.results34 _ _ g1 60 (arr 20 r5) (0, 0) _ (.int .i64 0) (by kernel_rfl) (by kernel_rfl) (M.get 0 rfl) Tryz.underlying60 rfl (by rw [arr_size]; exact inz60)) (by kernel_rfl) ⟨rfl, M.old⟩
structure baseF (r1 : Nat → Int) : Prop where
 h1 : ∀ w, Cs 57 #[.string s102, .int .i64 31] w (.string f31S)
 h2 : ∀ w, Cs 34 #[.string baseS] w (.tuple #[.agg (arr 20 r1), .int .i64 0])
theorem base_gen (r1 : Nat → Int) (w : World) (F : baseF r1)  :
  Cs 25 #[] w (.agg (arr 20 r1)) := by
 go_enter Tryz.func25, Tryz.ntmps25
 have M := Mem.start w
 refine sr ?_
 refine zN M 0 (.cells (arr 20 (fun _ => 0)) 60) fun g1 w1 M => ?_
 refine nt <| sr ?_
 refine zC M 4 F.h1 fun w2 M => ?_
 refine pv 5 (.string baseS) ?_
 refine zC M 6 F.h2 fun w3 M => ?_
 refine pv 3 (.tuple #[.agg (arr 20 r1), .int .i64 0]) <| pv 7 (.agg (arr 20 r1)) <| pv 8 (.int .i64 0) ?_
 refine zN M 1 (.cells (arr 20 (fun _ => 0)) 60) fun g2 w4 M => ?_
 refine zW M 1 rfl r1 fun w5 M => ?_
 refine pv 2 (.int .i64 0) <| nt <| sr ?_
 refine zA M 9 1 rfl ?_
 refine zW M 0 rfl r1 fun w6 M => ?_
 refine nt ?_
 refine wp_ret ?_
 exact bodyPost_ret (v := .agg (arr 20 r1)) (results_cell_row Tryz.results25 _ _ g1 60 (arr 20 r1) (0, 0) _ (by kernel_rfl) (M.get 0 rfl) Tryz.underlying60 rfl (by rw [arr_size]; exact inz60)) (by kernel_rfl) ⟨rfl, M.old⟩
structure dbl3F (p r1 r2 r3 : Nat → Int) : Prop where
 h1 : ∀ w, Cs 110 #[.agg (arr 20 p)] w (.agg (arr 20 r1))
 h2 : ∀ w, Cs 110 #[.agg (arr 20 r1)] w (.agg (arr 20 r2))
 h3 : ∀ w, Cs 110 #[.agg (arr 20 r2)] w (.agg (arr 20 r3))
theorem dbl3_gen (p r1 r2 r3 : Nat → Int) (w : World) (F : dbl3F p r1 r2 r3)  :
  Cs 61 #[.agg (arr 20 p), .int .i64 3] w (.agg (arr 20 r3)) := by
 go_enter Tryz.func61, Tryz.ntmps61
 have M := Mem.start w
 refine sr ?_
 refine pl_new M (want_no rfl) (some 2) rfl (.cells (arr 20 p) 60) (fun _ => by kernel_rfl) ?_
 intro g1 w1 M
 replace M : Mem w [⟨g1, .cells (arr 20 p) 60⟩] w1 := M
 refine pl_new M (want_no rfl) (some 4) rfl (.cells (arr 20 (fun _ => 0)) 60) (fun _ => by kernel_rfl) ?_
 intro g2 w2 M
 replace M : Mem w [⟨g1, .cells (arr 20 p) 60⟩, ⟨g2, .cells (arr 20 (fun _ => 0)) 60⟩] w2 := M
 refine nt ?_
 refine wp_seq ?_
 refine sr <| pv 5 (.int .i64 3) <| pv 6 (.int .i64 0) <| nt ?_
 refine wp_block ?_
 refine wp_loop_rounds 4 ?_
 refine rounds_go ?_
 refine sr <| pv 7 (.bool true) <| nt ?_
 refine wp_seq ?_
 refine cT ?_
 refine wp_skip ?_
 refine au_then ?_
 refine wp_seq ?_
 refine wp_block ?_
 refine rg_lit ?_
 refine pl_load M (want_no rfl) (some 8) rfl 60 _ rfl 0 g1 0 (by kernel_rfl) 20 60 p rfl 20 p (Part.all _ _) (by decide) _ Tryz.underlying60 rfl inz60 ?_
 refine pl_call M (want_no rfl) (some 9) rfl 110 #[.agg (arr 20 p)] (.agg (arr 20 r1)) (fun _ => by kernel_rfl) F.h1 ?_
 intro w3 M
 refine pl_put M (want_no rfl) rfl 60 _ _ rfl 0 g1 (by kernel_rfl) 20 60 p r1 rfl (by kernel_rfl) inz60 ?_
 intro w4 M
 replace M : Mem w [⟨g1, .cells (arr 20 r1) 60⟩, ⟨g2, .cells (arr 20 (fun _ => 0)) 60⟩] w4 := M
 refine pl_nil ?_
 refine au_block ?_
 refine au_then ?_
 refine rg_lit ?_
 refine pv 10 (.int .i64 1) <| pv 6 (.int .i64 1) <| nt ?_
 refine rounds_go ?_
 refine sr <| pv 7 (.bool true) <| nt ?_
 refine wp_seq ?_
 refine cT ?_
 refine wp_skip ?_
 refine au_then ?_
 refine wp_seq ?_
 refine wp_block ?_
 refine rg_lit ?_
 refine pl_load M (want_no rfl) (some 8) rfl 60 _ rfl 0 g1 0 (by kernel_rfl) 20 60 r1 rfl 20 r1 (Part.all _ _) (by decide) _ Tryz.underlying60 rfl inz60 ?_
 refine pl_call M (want_no rfl) (some 9) rfl 110 #[.agg (arr 20 r1)] (.agg (arr 20 r2)) (fun _ => by kernel_rfl) F.h2 ?_
 intro w5 M
 refine pl_put M (want_no rfl) rfl 60 _ _ rfl 0 g1 (by kernel_rfl) 20 60 r1 r2 rfl (by kernel_rfl) inz60 ?_
 intro w6 M
 replace M : Mem w [⟨g1, .cells (arr 20 r2) 60⟩, ⟨g2, .cells (arr 20 (fun _ => 0)) 60⟩] w6 := M
 refine pl_nil ?_
 refine au_block ?_
 refine au_then ?_
 refine rg_lit ?_
 refine pv 10 (.int .i64 2) <| pv 6 (.int .i64 2) <| nt ?_
 refine rounds_go ?_
 refine sr <| pv 7 (.bool true) <| nt ?_
 refine wp_seq ?_
 refine cT ?_
 refine wp_skip ?_
 refine au_then ?_
 refine wp_seq ?_
 refine wp_block ?_
 refine rg_lit ?_
 refine pl_load M (want_no rfl) (some 8) rfl 60 _ rfl 0 g1 0 (by kernel_rfl) 20 60 r2 rfl 20 r2 (Part.all _ _) (by decide) _ Tryz.underlying60 rfl inz60 ?_
 refine pl_call M (want_no rfl) (some 9) rfl 110 #[.agg (arr 20 r2)] (.agg (arr 20 r3)) (fun _ => by kernel_rfl) F.h3 ?_
 intro w7 M
 refine pl_put M (want_no rfl) rfl 60 _ _ rfl 0 g1 (by kernel_rfl) 20 60 r2 r3 rfl (by kernel_rfl) inz60 ?_
 intro w8 M
 replace M : Mem w [⟨g1, .cells (arr 20 r3) 60⟩, ⟨g2, .cells (arr 20 (fun _ => 0)) 60⟩] w8 := M
 refine pl_nil ?_
 refine au_block ?_
 refine au_then ?_
 refine rg_lit ?_
 refine pv 10 (.int .i64 3) <| pv 6 (.int .i64 3) <| nt ?_
 refine rounds_go ?_
 refine sr <| pv 7 (.bool false) <| nt ?_
 refine wp_seq ?_
 refine cF ?_
 refine wp_exit ?_
 refine au_then_exit ?_
 refine au_then_exit ?_
 refine au_block_exit ?_
 refine au_then ?_
 refine sr ?_
 refine pl_load M (want_no rfl) (some 11) rfl 60 _ rfl 0 g1 0 (by kernel_rfl) 20 60 r3 rfl 20 r3 (Part.all _ _) (by decide) _ Tryz.underlying60 rfl inz60 ?_
 refine pl_put M (want_no rfl) rfl 60 _ _ rfl 1 g2 (by kernel_rfl) 20 60 (fun _ => 0) r3 rfl (by kernel_rfl) inz60 ?_
 intro w9 M
 replace M : Mem w [⟨g1, .cells (arr 20 r3) 60⟩, ⟨g2, .cells (arr 20 r3) 60⟩] w9 := M
 refine nt ?_
 refine wp_ret ?_
 exact bodyPost_ret (v := .agg (arr 20 r3)) (results_cell_row Tryz.results61 _ _ g2 60 (arr 20 r3) (0, 0) _ (by kernel_rfl) (M.get 1 rfl) Tryz.underlying60 rfl (by rw [arr_size]; exact inz60)) (by kernel_rfl) ⟨rfl, M.old⟩
def barr (n : Nat) (f : Nat → Bool) : Array Value := ((List.range n).map fun i => Value.bool (f i)).toArray
theorem barr_size (n : Nat) (f : Nat → Bool) : (barr n f).size = n := by simp [barr]
theorem barr_get (n : Nat) (f : Nat → Bool) (i : Nat) (h : i < n) : (barr n f)[i]? = some (.bool (f i)) := by simp [barr, h]
theorem barr_congr {n : Nat} {f g : Nat → Bool} (h : ∀ i, i < n → f i = g i) : barr n f = barr n g := by
 unfold barr
 congr 1
 exact List.map_congr_left fun i hi => by rw [h i (List.mem_range.1 hi)]
def bupd (f : Nat → Bool) (k : Nat) (v : Bool) : Nat → Bool := fun i => if i = k then v else f i
theorem barr_set (n : Nat) (f : Nat → Bool) (k : Nat) (v : Bool) : (barr n f).setIfInBounds k (.bool v) = barr n (bupd f k v) := by
 apply Array.ext_getElem?
 intro i
 by_cases hi : i < n
 ·rw [Array.getElem?_setIfInBounds, barr_get n (bupd f k v) i hi]
  by_cases hk : k = i
  ·subst hk
   rw [if_pos rfl, if_pos (by rw [barr_size]; exact hi)]
   simp [bupd]
  ·have : ¬ i = k := fun h => hk h.symm
   rw [if_neg hk, barr_get n f i hi]
   simp [bupd, this]
 ·rw [Array.getElem?_eq_none (by simp [barr_size]; omega), Array.getElem?_eq_none (by simp [barr_size]; omega)]
def Brow (w : World) (g : Nat) (n : Nat) (f : Nat → Bool) : Prop := w.heap[g]? = some (.cells (barr n f) 4 (0, 0))
theorem Brow.lt {w : World} {g n : Nat} {f : Nat → Bool} (h : Brow w g n f) : g < w.heap.size := by
 by_cases hlt : g < w.heap.size
 ·exact hlt
 ·have hn : w.heap[g]? = none := by simp; omega
  rw [Brow, hn] at h
  cases h
theorem Brow.cell {w : World} {g n : Nat} {f : Nat → Bool} (h : Brow w g n f) {i : Nat} (hi : i < n) : w.cell? ⟨g, i, none⟩ = some (.bool (f i)) := by
 rw [cell_of_row w g i (barr n f) 4 (0, 0) h, barr_get n f i hi]
theorem Brow.free {w : World} {g n : Nat} {f : Nat → Bool} (h : Brow w g n f) (i : Nat) : w.frozen? ⟨g, i, none⟩ = false := frozen_of_row w g i (barr n f) 4 h
theorem Brow.set {w : World} {g n : Nat} {f : Nat → Bool} (h : Brow w g n f) (k : Nat) (v : Bool) : Brow (w.setCell ⟨g, k, none⟩ (.bool v)) g n (bupd f k v) := by
 unfold Brow
 rw [heap_setCell_same w g k (barr n f) 4 _ h, barr_set]
theorem Brow.keep {w w' : World} {g n : Nat} {f : Nat → Bool} (h : Brow w g n f) (hb : Below w.heap.size w w') : Brow w' g n f := by
 unfold Brow
 rw [hb.block g h.lt]
 exact h
theorem Brow.congr {w : World} {g n : Nat} {f f' : Nat → Bool} (h : Brow w g n f) (e : ∀ i, i < n → f i = f' i) : Brow w g n f' := by
 unfold Brow
 rw [← barr_congr e]
 exact h
theorem Brow.new (w : World) (n : Nat) (f : Nat → Bool) : Brow (w.alloc (.cells (barr n f) 4)) w.heap.size n f := heap_alloc_new w _
def xbit (n k i : Nat) : Bool := decide (8 ≤ n - 1 - i) || Nat.testBit (256 - k) (n - 1 - i)
def xbw (n k j : Nat) : Nat → Bool := fun i => decide (i < j) && xbit n k i
theorem xbw_next (n k j i : Nat) {v : Bool} (hv : v = xbit n k j) : bupd (xbw n k j) j v i = xbw n k (j + 1) i := by
 unfold bupd xbw
 by_cases h : i = j
 ·subst h
  simp [hv]
 ·rw [if_neg h]
  by_cases h2 : i < j
  ·simp [h2, show i < j + 1 by omega]
  ·simp [h2, show ¬ i < j + 1 by omega]
theorem bits_255 (w : World) : Calls Tryz.prog 98 #[.int .i64 255, .int .i64 21] w fun r w' => ∃ b, r = .returned (.slice (some ⟨b, 0, none⟩) 255 255) ∧ w.heap.size ≤ b ∧ Brow w' b 255 (xbit 255 21) ∧ Below w.heap.size w w' := by
 have hmk : ∀ w, (Instr.makeSlice 120 (.int .i64 255) (.int .i64 255)).run Tryz.prog w = .ok (.slice (some ⟨w.heap.size, 0, none⟩) 255 255) (w.alloc (.cells (barr 255 fun _ => false) 4)) := fun _ => by kernel_rfl
 go_enter Tryz.func98, Tryz.ntmps98
 go_wp2
 clear hmk
 have R := Brow.new w 255 fun _ => false
 have O := new_below w (.cells (barr 255 fun _ => false) 4)
 generalize w.alloc (.cells (barr 255 fun _ => false) 4) = W at R O ⊢
 go_loopw [7] (fun i wr => ∃ j : Nat, j ≤ 255 ∧ i = .int .i64 j ∧ Brow wr w.heap.size 255 (xbw 255 21 j) ∧ Below w.heap.size w wr) (fun i _ => 255 - (intOf i).toNat)
 case atStart => exact ⟨0, by omega, rfl, R.congr (fun i _ => by simp [xbw]), O⟩
 case round =>
  clear R O
  obtain ⟨j, hj, rfl, R, O⟩ := hrel
  by_cases h1 : j < 247
  ·have c := R.cell (i := j) (by omega)
   have e := R.free j
   have i1 : (0 : Int) ≤ (j : Int) := by omega
   have i2 : (j : Int) < 247 := by omega
   have RR := hide ((R.set j true).congr (f' := xbw 255 21 (j + 1)) (fun i _ => xbw_next 255 21 j i (by unfold xbit; rw [decide_eq_true (by omega)]; rfl)))
   have O' := hide (O.setCell (p := ⟨w.heap.size, j, none⟩) (Nat.le_refl _) (.bool true))
   clear R O
   go_wp2
   go_roundw
   case rel => exact ⟨j + 1, by omega, by go_num, RR.out, O'.out⟩
   case measure => simp [intOf]; omega
  ·by_cases h2 : j < 255
   ·rcases (show j = 247 ∨ j = 248 ∨ j = 249 ∨ j = 250 ∨ j = 251 ∨ j = 252 ∨ j = 253 ∨ j = 254 by omega) with rfl | rfl | rfl | rfl | rfl | rfl | rfl | rfl
    ·have c := R.cell (i := 247) (by omega)
     have e := R.free 247
     have RR := hide ((R.set 247 true).congr (f' := xbw 255 21 (247 + 1)) (fun i _ => xbw_next 255 21 247 i (by decide)))
     have O' := hide (O.setCell (p := ⟨w.heap.size, 247, none⟩) (Nat.le_refl _) (.bool true))
     clear R O
     go_wp2
     go_roundw
     case rel => exact ⟨248, by omega, rfl, RR.out, O'.out⟩
     case measure => simp [intOf]
    ·have c := R.cell (i := 248) (by omega)
     have e := R.free 248
     have RR := hide ((R.set 248 true).congr (f' := xbw 255 21 (248 + 1)) (fun i _ => xbw_next 255 21 248 i (by decide)))
     have O' := hide (O.setCell (p := ⟨w.heap.size, 248, none⟩) (Nat.le_refl _) (.bool true))
     clear R O
     go_wp2
     go_roundw
     case rel => exact ⟨249, by omega, rfl, RR.out, O'.out⟩
     case measure => simp [intOf]
    ·have c := R.cell (i := 249) (by omega)
     have e := R.free 249
     have RR := hide ((R.set 249 true).congr (f' := xbw 255 21 (249 + 1)) (fun i _ => xbw_next 255 21 249 i (by decide)))
     have O' := hide (O.setCell (p := ⟨w.heap.size, 249, none⟩) (Nat.le_refl _) (.bool true))
     clear R O
     go_wp2
     go_roundw
     case rel => exact ⟨250, by omega, rfl, RR.out, O'.out⟩
     case measure => simp [intOf]
    ·have c := R.cell (i := 250) (by omega)
     have e := R.free 250
     have RR := hide ((R.set 250 false).congr (f' := xbw 255 21 (250 + 1)) (fun i _ => xbw_next 255 21 250 i (by decide)))
     have O' := hide (O.setCell (p := ⟨w.heap.size, 250, none⟩) (Nat.le_refl _) (.bool false))
     clear R O
     go_wp2
     go_roundw
     case rel => exact ⟨251, by omega, rfl, RR.out, O'.out⟩
     case measure => simp [intOf]
    ·have c := R.cell (i := 251) (by omega)
     have e := R.free 251
     have RR := hide ((R.set 251 true).congr (f' := xbw 255 21 (251 + 1)) (fun i _ => xbw_next 255 21 251 i (by decide)))
     have O' := hide (O.setCell (p := ⟨w.heap.size, 251, none⟩) (Nat.le_refl _) (.bool true))
     clear R O
     go_wp2
     go_roundw
     case rel => exact ⟨252, by omega, rfl, RR.out, O'.out⟩
     case measure => simp [intOf]
    ·have c := R.cell (i := 252) (by omega)
     have e := R.free 252
     have RR := hide ((R.set 252 false).congr (f' := xbw 255 21 (252 + 1)) (fun i _ => xbw_next 255 21 252 i (by decide)))
     have O' := hide (O.setCell (p := ⟨w.heap.size, 252, none⟩) (Nat.le_refl _) (.bool false))
     clear R O
     go_wp2
     go_roundw
     case rel => exact ⟨253, by omega, rfl, RR.out, O'.out⟩
     case measure => simp [intOf]
    ·have c := R.cell (i := 253) (by omega)
     have e := R.free 253
     have RR := hide ((R.set 253 true).congr (f' := xbw 255 21 (253 + 1)) (fun i _ => xbw_next 255 21 253 i (by decide)))
     have O' := hide (O.setCell (p := ⟨w.heap.size, 253, none⟩) (Nat.le_refl _) (.bool true))
     clear R O
     go_wp2
     go_roundw
     case rel => exact ⟨254, by omega, rfl, RR.out, O'.out⟩
     case measure => simp [intOf]
    ·have c := R.cell (i := 254) (by omega)
     have e := R.free 254
     have RR := hide ((R.set 254 true).congr (f' := xbw 255 21 (254 + 1)) (fun i _ => xbw_next 255 21 254 i (by decide)))
     have O' := hide (O.setCell (p := ⟨w.heap.size, 254, none⟩) (Nat.le_refl _) (.bool true))
     clear R O
     go_wp2
     go_roundw
     case rel => exact ⟨255, by omega, rfl, RR.out, O'.out⟩
     case measure => simp [intOf]
   ·have hj' : j = 255 := by omega
    subst hj'
    have RR := hide (R.congr (f' := xbit 255 21) (fun i hi => by unfold xbw; rw [decide_eq_true hi]; rfl))
    clear R
    go_wp2
    go_ret
    exact ⟨w.heap.size, rfl, Nat.le_refl _, RR.out, O⟩
theorem bits_252 (w : World) : Calls Tryz.prog 98 #[.int .i64 252, .int .i64 2] w fun r w' => ∃ b, r = .returned (.slice (some ⟨b, 0, none⟩) 252 252) ∧ w.heap.size ≤ b ∧ Brow w' b 252 (xbit 252 2) ∧ Below w.heap.size w w' := by
 have hmk : ∀ w, (Instr.makeSlice 120 (.int .i64 252) (.int .i64 252)).run Tryz.prog w = .ok (.slice (some ⟨w.heap.size, 0, none⟩) 252 252) (w.alloc (.cells (barr 252 fun _ => false) 4)) := fun _ => by kernel_rfl
 go_enter Tryz.func98, Tryz.ntmps98
 go_wp2
 clear hmk
 have R := Brow.new w 252 fun _ => false
 have O := new_below w (.cells (barr 252 fun _ => false) 4)
 generalize w.alloc (.cells (barr 252 fun _ => false) 4) = W at R O ⊢
 go_loopw [7] (fun i wr => ∃ j : Nat, j ≤ 252 ∧ i = .int .i64 j ∧ Brow wr w.heap.size 252 (xbw 252 2 j) ∧ Below w.heap.size w wr) (fun i _ => 252 - (intOf i).toNat)
 case atStart => exact ⟨0, by omega, rfl, R.congr (fun i _ => by simp [xbw]), O⟩
 case round =>
  clear R O
  obtain ⟨j, hj, rfl, R, O⟩ := hrel
  by_cases h1 : j < 244
  ·have c := R.cell (i := j) (by omega)
   have e := R.free j
   have i1 : (0 : Int) ≤ (j : Int) := by omega
   have i2 : (j : Int) < 244 := by omega
   have RR := hide ((R.set j true).congr (f' := xbw 252 2 (j + 1)) (fun i _ => xbw_next 252 2 j i (by unfold xbit; rw [decide_eq_true (by omega)]; rfl)))
   have O' := hide (O.setCell (p := ⟨w.heap.size, j, none⟩) (Nat.le_refl _) (.bool true))
   clear R O
   go_wp2
   go_roundw
   case rel => exact ⟨j + 1, by omega, by go_num, RR.out, O'.out⟩
   case measure => simp [intOf]; omega
  ·by_cases h2 : j < 252
   ·rcases (show j = 244 ∨ j = 245 ∨ j = 246 ∨ j = 247 ∨ j = 248 ∨ j = 249 ∨ j = 250 ∨ j = 251 by omega) with rfl | rfl | rfl | rfl | rfl | rfl | rfl | rfl
    ·have c := R.cell (i := 244) (by omega)
     have e := R.free 244
     have RR := hide ((R.set 244 true).congr (f' := xbw 252 2 (244 + 1)) (fun i _ => xbw_next 252 2 244 i (by decide)))
     have O' := hide (O.setCell (p := ⟨w.heap.size, 244, none⟩) (Nat.le_refl _) (.bool true))
     clear R O
     go_wp2
     go_roundw
     case rel => exact ⟨245, by omega, rfl, RR.out, O'.out⟩
     case measure => simp [intOf]
    ·have c := R.cell (i := 245) (by omega)
     have e := R.free 245
     have RR := hide ((R.set 245 true).congr (f' := xbw 252 2 (245 + 1)) (fun i _ => xbw_next 252 2 245 i (by decide)))
     have O' := hide (O.setCell (p := ⟨w.heap.size, 245, none⟩) (Nat.le_refl _) (.bool true))
     clear R O
     go_wp2
     go_roundw
     case rel => exact ⟨246, by omega, rfl, RR.out, O'.out⟩
     case measure => simp [intOf]
    ·have c := R.cell (i := 246) (by omega)
     have e := R.free 246
     have RR := hide ((R.set 246 true).congr (f' := xbw 252 2 (246 + 1)) (fun i _ => xbw_next 252 2 246 i (by decide)))
     have O' := hide (O.setCell (p := ⟨w.heap.size, 246, none⟩) (Nat.le_refl _) (.bool true))
     clear R O
     go_wp2
     go_roundw
     case rel => exact ⟨247, by omega, rfl, RR.out, O'.out⟩
     case measure => simp [intOf]
    ·have c := R.cell (i := 247) (by omega)
     have e := R.free 247
     have RR := hide ((R.set 247 true).congr (f' := xbw 252 2 (247 + 1)) (fun i _ => xbw_next 252 2 247 i (by decide)))
     have O' := hide (O.setCell (p := ⟨w.heap.size, 247, none⟩) (Nat.le_refl _) (.bool true))
     clear R O
     go_wp2
     go_roundw
     case rel => exact ⟨248, by omega, rfl, RR.out, O'.out⟩
     case measure => simp [intOf]
    ·have c := R.cell (i := 248) (by omega)
     have e := R.free 248
     have RR := hide ((R.set 248 true).congr (f' := xbw 252 2 (248 + 1)) (fun i _ => xbw_next 252 2 248 i (by decide)))
     have O' := hide (O.setCell (p := ⟨w.heap.size, 248, none⟩) (Nat.le_refl _) (.bool true))
     clear R O
     go_wp2
     go_roundw
     case rel => exact ⟨249, by omega, rfl, RR.out, O'.out⟩
     case measure => simp [intOf]
    ·have c := R.cell (i := 249) (by omega)
     have e := R.free 249
     have RR := hide ((R.set 249 true).congr (f' := xbw 252 2 (249 + 1)) (fun i _ => xbw_next 252 2 249 i (by decide)))
     have O' := hide (O.setCell (p := ⟨w.heap.size, 249, none⟩) (Nat.le_refl _) (.bool true))
     clear R O
     go_wp2
     go_roundw
     case rel => exact ⟨250, by omega, rfl, RR.out, O'.out⟩
     case measure => simp [intOf]
    ·have c := R.cell (i := 250) (by omega)
     have e := R.free 250
     have RR := hide ((R.set 250 true).congr (f' := xbw 252 2 (250 + 1)) (fun i _ => xbw_next 252 2 250 i (by decide)))
     have O' := hide (O.setCell (p := ⟨w.heap.size, 250, none⟩) (Nat.le_refl _) (.bool true))
     clear R O
     go_wp2
     go_roundw
     case rel => exact ⟨251, by omega, rfl, RR.out, O'.out⟩
     case measure => simp [intOf]
    ·have c := R.cell (i := 251) (by omega)
     have e := R.free 251
     have RR := hide ((R.set 251 false).congr (f' := xbw 252 2 (251 + 1)) (fun i _ => xbw_next 252 2 251 i (by decide)))
     have O' := hide (O.setCell (p := ⟨w.heap.size, 251, none⟩) (Nat.le_refl _) (.bool false))
     clear R O
     go_wp2
     go_roundw
     case rel => exact ⟨252, by omega, rfl, RR.out, O'.out⟩
     case measure => simp [intOf]
   ·have hj' : j = 252 := by omega
    subst hj'
    have RR := hide (R.congr (f' := xbit 252 2) (fun i hi => by unfold xbw; rw [decide_eq_true hi]; rfl))
    clear R
    go_wp2
    go_ret
    exact ⟨w.heap.size, rfl, Nat.le_refl _, RR.out, O⟩
theorem bits_253 (w : World) : Calls Tryz.prog 98 #[.int .i64 253, .int .i64 5] w fun r w' => ∃ b, r = .returned (.slice (some ⟨b, 0, none⟩) 253 253) ∧ w.heap.size ≤ b ∧ Brow w' b 253 (xbit 253 5) ∧ Below w.heap.size w w' := by
 have hmk : ∀ w, (Instr.makeSlice 120 (.int .i64 253) (.int .i64 253)).run Tryz.prog w = .ok (.slice (some ⟨w.heap.size, 0, none⟩) 253 253) (w.alloc (.cells (barr 253 fun _ => false) 4)) := fun _ => by kernel_rfl
 go_enter Tryz.func98, Tryz.ntmps98
 go_wp2
 clear hmk
 have R := Brow.new w 253 fun _ => false
 have O := new_below w (.cells (barr 253 fun _ => false) 4)
 generalize w.alloc (.cells (barr 253 fun _ => false) 4) = W at R O ⊢
 go_loopw [7] (fun i wr => ∃ j : Nat, j ≤ 253 ∧ i = .int .i64 j ∧ Brow wr w.heap.size 253 (xbw 253 5 j) ∧ Below w.heap.size w wr) (fun i _ => 253 - (intOf i).toNat)
 case atStart => exact ⟨0, by omega, rfl, R.congr (fun i _ => by simp [xbw]), O⟩
 case round =>
  clear R O
  obtain ⟨j, hj, rfl, R, O⟩ := hrel
  by_cases h1 : j < 245
  ·have c := R.cell (i := j) (by omega)
   have e := R.free j
   have i1 : (0 : Int) ≤ (j : Int) := by omega
   have i2 : (j : Int) < 245 := by omega
   have RR := hide ((R.set j true).congr (f' := xbw 253 5 (j + 1)) (fun i _ => xbw_next 253 5 j i (by unfold xbit; rw [decide_eq_true (by omega)]; rfl)))
   have O' := hide (O.setCell (p := ⟨w.heap.size, j, none⟩) (Nat.le_refl _) (.bool true))
   clear R O
   go_wp2
   go_roundw
   case rel => exact ⟨j + 1, by omega, by go_num, RR.out, O'.out⟩
   case measure => simp [intOf]; omega
  ·by_cases h2 : j < 253
   ·rcases (show j = 245 ∨ j = 246 ∨ j = 247 ∨ j = 248 ∨ j = 249 ∨ j = 250 ∨ j = 251 ∨ j = 252 by omega) with rfl | rfl | rfl | rfl | rfl | rfl | rfl | rfl
    ·have c := R.cell (i := 245) (by omega)
     have e := R.free 245
     have RR := hide ((R.set 245 true).congr (f' := xbw 253 5 (245 + 1)) (fun i _ => xbw_next 253 5 245 i (by decide)))
     have O' := hide (O.setCell (p := ⟨w.heap.size, 245, none⟩) (Nat.le_refl _) (.bool true))
     clear R O
     go_wp2
     go_roundw
     case rel => exact ⟨246, by omega, rfl, RR.out, O'.out⟩
     case measure => simp [intOf]
    ·have c := R.cell (i := 246) (by omega)
     have e := R.free 246
     have RR := hide ((R.set 246 true).congr (f' := xbw 253 5 (246 + 1)) (fun i _ => xbw_next 253 5 246 i (by decide)))
     have O' := hide (O.setCell (p := ⟨w.heap.size, 246, none⟩) (Nat.le_refl _) (.bool true))
     clear R O
     go_wp2
     go_roundw
     case rel => exact ⟨247, by omega, rfl, RR.out, O'.out⟩
     case measure => simp [intOf]
    ·have c := R.cell (i := 247) (by omega)
     have e := R.free 247
     have RR := hide ((R.set 247 true).congr (f' := xbw 253 5 (247 + 1)) (fun i _ => xbw_next 253 5 247 i (by decide)))
     have O' := hide (O.setCell (p := ⟨w.heap.size, 247, none⟩) (Nat.le_refl _) (.bool true))
     clear R O
     go_wp2
     go_roundw
     case rel => exact ⟨248, by omega, rfl, RR.out, O'.out⟩
     case measure => simp [intOf]
    ·have c := R.cell (i := 248) (by omega)
     have e := R.free 248
     have RR := hide ((R.set 248 true).congr (f' := xbw 253 5 (248 + 1)) (fun i _ => xbw_next 253 5 248 i (by decide)))
     have O' := hide (O.setCell (p := ⟨w.heap.size, 248, none⟩) (Nat.le_refl _) (.bool true))
     clear R O
     go_wp2
     go_roundw
     case rel => exact ⟨249, by omega, rfl, RR.out, O'.out⟩
     case measure => simp [intOf]
    ·have c := R.cell (i := 249) (by omega)
     have e := R.free 249
     have RR := hide ((R.set 249 true).congr (f' := xbw 253 5 (249 + 1)) (fun i _ => xbw_next 253 5 249 i (by decide)))
     have O' := hide (O.setCell (p := ⟨w.heap.size, 249, none⟩) (Nat.le_refl _) (.bool true))
     clear R O
     go_wp2
     go_roundw
     case rel => exact ⟨250, by omega, rfl, RR.out, O'.out⟩
     case measure => simp [intOf]
    ·have c := R.cell (i := 250) (by omega)
     have e := R.free 250
     have RR := hide ((R.set 250 false).congr (f' := xbw 253 5 (250 + 1)) (fun i _ => xbw_next 253 5 250 i (by decide)))
     have O' := hide (O.setCell (p := ⟨w.heap.size, 250, none⟩) (Nat.le_refl _) (.bool false))
     clear R O
     go_wp2
     go_roundw
     case rel => exact ⟨251, by omega, rfl, RR.out, O'.out⟩
     case measure => simp [intOf]
    ·have c := R.cell (i := 251) (by omega)
     have e := R.free 251
     have RR := hide ((R.set 251 true).congr (f' := xbw 253 5 (251 + 1)) (fun i _ => xbw_next 253 5 251 i (by decide)))
     have O' := hide (O.setCell (p := ⟨w.heap.size, 251, none⟩) (Nat.le_refl _) (.bool true))
     clear R O
     go_wp2
     go_roundw
     case rel => exact ⟨252, by omega, rfl, RR.out, O'.out⟩
     case measure => simp [intOf]
    ·have c := R.cell (i := 252) (by omega)
     have e := R.free 252
     have RR := hide ((R.set 252 true).congr (f' := xbw 253 5 (252 + 1)) (fun i _ => xbw_next 253 5 252 i (by decide)))
     have O' := hide (O.setCell (p := ⟨w.heap.size, 252, none⟩) (Nat.le_refl _) (.bool true))
     clear R O
     go_wp2
     go_roundw
     case rel => exact ⟨253, by omega, rfl, RR.out, O'.out⟩
     case measure => simp [intOf]
   ·have hj' : j = 253 := by omega
    subst hj'
    have RR := hide (R.congr (f' := xbit 253 5) (fun i hi => by unfold xbw; rw [decide_eq_true hi]; rfl))
    clear R
    go_wp2
    go_ret
    exact ⟨w.heap.size, rfl, Nat.le_refl _, RR.out, O⟩
def rw1 (a b : Nat → Int) (i k : Nat) : Nat → Int := fun j => if i ≤ j ∧ j < i + k then a i * b (j - i) else 0
def mp (a b : Nat → Int) : Nat → Nat → Int
 | 0, _ => 0
 | i + 1, j => mp a b i j + rw1 a b i 16 j
def mq (a b : Nat → Int) (i k : Nat) : Nat → Int := fun j => mp a b i j + rw1 a b i k j
theorem S_add' (f g : Nat → Int) : ∀ n, S (fun i => f i + g i) n = S f n + S g n
 | 0 => rfl
 | n + 1 => by
  have ih := S_add' f g n
  simp only [S]
  rw [ih, Int.add_mul]
  omega
theorem S_one (m : Nat) (v : Int) : ∀ n, S (fun j => if j = m then v else 0) n = if m < n then v * 65536 ^ m else 0
 | 0 => by simp [S]
 | n + 1 => by
  have ih := S_one m v n
  simp only [S]
  rw [ih]
  by_cases h1 : m < n
  ·rw [if_pos h1, if_neg (show ¬ n = m by omega), if_pos (show m < n + 1 by omega)]
   simp
  ·rw [if_neg h1]
   by_cases h2 : n = m
   ·subst h2
    rw [if_pos rfl, if_pos (by omega)]
    simp
   ·rw [if_neg h2, if_neg (show ¬ m < n + 1 by omega)]
    simp
theorem rw1_next (a b : Nat → Int) (i k j : Nat) : rw1 a b i (k + 1) j = rw1 a b i k j + if j = i + k then a i * b k else 0 := by
 unfold rw1
 by_cases h1 : j = i + k
 ·subst h1
  rw [if_pos (by omega), if_neg (by omega), if_pos rfl, show i + k - i = k by omega]
  omega
 ·rw [if_neg h1]
  by_cases h2 : i ≤ j ∧ j < i + k
  ·rw [if_pos h2, if_pos (by omega)]
   omega
  ·rw [if_neg h2, if_neg (by omega)]
   omega
theorem rw1_S (a b : Nat → Int) (i : Nat) : ∀ k, i + k ≤ 32 → S (rw1 a b i k) 32 = a i * 65536 ^ i * S b k
 | 0, _ => by
  rw [S_congr (g := fun _ => 0) fun j _ => by unfold rw1; rw [if_neg (by omega)], S_zero]
  simp [S]
 | k + 1, h => by
  have ih := rw1_S a b i k (by omega)
  rw [S_congr fun j _ => rw1_next a b i k j, S_add', ih, S_one, if_pos (by omega)]
  simp only [S]
  rw [Int.pow_add, Int.mul_add]
  congr 1
  rw [Int.mul_assoc, Int.mul_assoc, Int.mul_left_comm (65536 ^ i)]
theorem mp_S (a b : Nat → Int) : ∀ i, i ≤ 16 → S (mp a b i) 32 = S a i * S b 16
 | 0, _ => by
  show S (fun _ => 0) 32 = _
  rw [S_zero]
  simp [S]
 | i + 1, h => by
  have ih := mp_S a b i (by omega)
  have e : S (mp a b (i + 1)) 32 = S (fun j => mp a b i j + rw1 a b i 16 j) 32 := rfl
  rw [e, S_add', ih, rw1_S a b i 16 (by omega)]
  simp only [S]
  rw [Int.add_mul]
theorem dmul {x y : Int} (hx : 0 ≤ x ∧ x < 65536) (hy : 0 ≤ y ∧ y < 65536) : 0 ≤ x * y ∧ x * y ≤ 4294836225 := by
 refine ⟨Int.mul_nonneg hx.1 hy.1, ?_⟩
 have h1 : x * y ≤ 65535 * y := Int.mul_le_mul_of_nonneg_right (by omega) hy.1
 omega
theorem rw1_bd {a b : Nat → Int} (ha : Dig a 16) (hb : Dig b 16) {i k : Nat} (hi : i < 16) (hk : k ≤ 16) (j : Nat) : 0 ≤ rw1 a b i k j ∧ rw1 a b i k j ≤ 4294836225 := by
 unfold rw1
 by_cases h : i ≤ j ∧ j < i + k
 ·rw [if_pos h]
  exact dmul (ha i hi) (hb (j - i) (by omega))
 ·rw [if_neg h]
  omega
theorem mp_bd {a b : Nat → Int} (ha : Dig a 16) (hb : Dig b 16) (j : Nat) : ∀ i, i ≤ 16 → 0 ≤ mp a b i j ∧ mp a b i j ≤ 4294836225 * i
 | 0, _ => by simp [mp]
 | i + 1, h => by
  have ih := mp_bd ha hb j i (by omega)
  have h2 := rw1_bd ha hb (i := i) (k := 16) (by omega) (by omega) j
  simp only [mp]
  omega
theorem mp_48 {a b : Nat → Int} (ha : Dig a 16) (hb : Dig b 16) : B48 (mp a b 16) := ⟨fun j _ => by
 have := mp_bd ha hb j 16 (by omega)
 omega⟩
theorem mq_zero (a b : Nat → Int) (i j : Nat) : mq a b i 0 j = mp a b i j := by
 unfold mq rw1
 rw [if_neg (by omega)]
 omega
theorem mq_at (a b : Nat → Int) (i k : Nat) : mq a b i k (i + k) = mp a b i (i + k) := by
 unfold mq rw1
 rw [if_neg (by omega)]
 omega
theorem mq_next (a b : Nat → Int) (i k j : Nat) : upd (mq a b i k) (i + k) (mp a b i (i + k) + a i * b k) j = mq a b i (k + 1) j := by
 unfold upd
 by_cases h : j = i + k
 ·subst h
  rw [if_pos rfl]
  unfold mq
  rw [rw1_next, if_pos rfl]
  unfold rw1
  rw [if_neg (by omega)]
  omega
 ·rw [if_neg h]
  unfold mq
  rw [rw1_next, if_neg h]
  omega
theorem rmul_any (a b : Nat → Int) (w : World) (ha : Dig a 16) (hb : Dig b 16) :
  Cs 53 #[.agg (arr 16 a), .agg (arr 16 b)] w (.agg (arr 16 (d16 ((S a 16 * S b 16) % Pm)))) := by
 go_enter Tryz.func53, Tryz.ntmps53
 go_wp2
 rw [show #[Value.int .u64 0, Value.int .u64 0, Value.int .u64 0, Value.int .u64 0, Value.int .u64 0, Value.int .u64 0, Value.int .u64 0, Value.int .u64 0, Value.int .u64 0, Value.int .u64 0, Value.int .u64 0, Value.int .u64 0, Value.int .u64 0, Value.int .u64 0, Value.int .u64 0, Value.int .u64 0] = arr 16 (fun _ => 0) from rfl, show #[Value.int .u64 0, Value.int .u64 0, Value.int .u64 0, Value.int .u64 0, Value.int .u64 0, Value.int .u64 0, Value.int .u64 0, Value.int .u64 0, Value.int .u64 0, Value.int .u64 0, Value.int .u64 0, Value.int .u64 0, Value.int .u64 0, Value.int .u64 0, Value.int .u64 0, Value.int .u64 0, Value.int .u64 0, Value.int .u64 0, Value.int .u64 0, Value.int .u64 0, Value.int .u64 0, Value.int .u64 0, Value.int .u64 0, Value.int .u64 0, Value.int .u64 0, Value.int .u64 0, Value.int .u64 0, Value.int .u64 0, Value.int .u64 0, Value.int .u64 0, Value.int .u64 0, Value.int .u64 0] = arr 32 (fun _ => 0) from rfl]
 have R1 : Row ((((w.alloc (.cells (arr 16 a) 36)).alloc (.cells (arr 16 b) 36)).alloc (.cells (arr 16 fun _ => 0) 36)).alloc (.cells (arr 32 fun _ => 0) 101)) w.heap.size 36 16 a := (((Row.new w 36 16 a).alloc _).alloc _).alloc _
 have R2 : Row ((((w.alloc (.cells (arr 16 a) 36)).alloc (.cells (arr 16 b) 36)).alloc (.cells (arr 16 fun _ => 0) 36)).alloc (.cells (arr 32 fun _ => 0) 101)) (w.heap.size + 1) 36 16 b := ((Row.new' _ 36 16 _ (by simp)).alloc _).alloc _
 have R3 : Row ((((w.alloc (.cells (arr 16 a) 36)).alloc (.cells (arr 16 b) 36)).alloc (.cells (arr 16 fun _ => 0) 36)).alloc (.cells (arr 32 fun _ => 0) 101)) (w.heap.size + 1 + 1) 36 16 (fun _ => 0) := (Row.new' _ 36 16 _ (by simp)).alloc _
 have R4 : Row ((((w.alloc (.cells (arr 16 a) 36)).alloc (.cells (arr 16 b) 36)).alloc (.cells (arr 16 fun _ => 0) 36)).alloc (.cells (arr 32 fun _ => 0) 101)) (w.heap.size + 1 + 1 + 1) 101 32 (fun _ => 0) := Row.new' _ 101 32 _ (by simp)
 have O : Below w.heap.size w ((((w.alloc (.cells (arr 16 a) 36)).alloc (.cells (arr 16 b) 36)).alloc (.cells (arr 16 fun _ => 0) 36)).alloc (.cells (arr 32 fun _ => 0) 101)) := ((((Below.refl _ _).alloc (Nat.le_refl _) _).alloc (by simp) _).alloc (by simp; omega) _).alloc (by simp; omega) _
 generalize ((((w.alloc (.cells (arr 16 a) 36)).alloc (.cells (arr 16 b) 36)).alloc (.cells (arr 16 fun _ => 0) 36)).alloc (.cells (arr 32 fun _ => 0) 101)) = W at R1 R2 R3 R4 O ⊢
 go_loopw [6] (fun x wr => ∃ i : Nat, i ≤ 16 ∧ x = .int .i64 i ∧ Row wr w.heap.size 36 16 a ∧ Row wr (w.heap.size + 1) 36 16 b ∧ Row wr (w.heap.size + 1 + 1) 36 16 (fun _ => 0) ∧ Row wr (w.heap.size + 1 + 1 + 1) 101 32 (mp a b i) ∧ Below w.heap.size w wr) (fun x _ => 16 - (intOf x).toNat)
 case atStart => exact ⟨0, by omega, rfl, R1, R2, R3, R4, O⟩
 case round =>
  clear R1 R2 R3 R4 O
  obtain ⟨i, hi, rfl, R1, R2, R3, R4, O⟩ := hrel
  by_cases hlt : i < 16
  ·go_wp2
   go_loopw [7] (fun y wq => ∃ k : Nat, k ≤ 16 ∧ y = .int .i64 k ∧ Row wq w.heap.size 36 16 a ∧ Row wq (w.heap.size + 1) 36 16 b ∧ Row wq (w.heap.size + 1 + 1) 36 16 (fun _ => 0) ∧ Row wq (w.heap.size + 1 + 1 + 1) 101 32 (mq a b i k) ∧ Below w.heap.size w wq) (fun y _ => 16 - (intOf y).toNat)
   case atStart => exact ⟨0, by omega, rfl, R1, R2, R3, R4.congr (fun j _ => (mq_zero a b i j).symm), O⟩
   case round =>
    clear R1 R2 R3 R4 O
    obtain ⟨k, hk, rfl, R1, R2, R3, R4, O⟩ := hrel
    by_cases hkl : k < 16
    ·have c := R1.cell hlt
     have d := R2.cell hkl
     have e := R4.cell (i := i + k) (by omega)
     rw [mq_at] at e
     have f := R4.free
     have hp := dmul (ha i hlt) (hb k hkl)
     have hm := mp_bd ha hb (i + k) i hi
     have i1 : (0 : Int) ≤ (i : Int) := by omega
     have i2 : (i : Int) < 16 := by omega
     have k1 : (0 : Int) ≤ (k : Int) := by omega
     have k2 : (k : Int) < 16 := by omega
     obtain ⟨p0, p1⟩ := hp
     obtain ⟨m0, m1⟩ := hm
     have m2 : mp a b i (i + k) < 100000000000 := by omega
     clear m1
     go_wp2_with fail
     go_region
     go_wp2
     exact ⟨⟨k + 1, by omega, by go_num, rowD (R1.other (a := ⟨w.heap.size + 1 + 1 + 1, i + k, none⟩) (by simp <;> omega) _), rowD (R2.other (a := ⟨w.heap.size + 1 + 1 + 1, i + k, none⟩) (by simp <;> omega) _), rowD (R3.other (a := ⟨w.heap.size + 1 + 1 + 1, i + k, none⟩) (by simp) _), rowD ((R4.set (i + k) (mp a b i (i + k) + a i * b k)).congr (fun j _ => mq_next a b i k j)), (O.setCell (p := ⟨w.heap.size + 1 + 1 + 1, i + k, none⟩) (by simp <;> omega) _).drew⟩, by simp [intOf]; omega⟩
    ·have hk' : k = 16 := by omega
     subst hk'
     go_wp2
     exact ⟨⟨i + 1, by omega, by go_num, R1, R2, R3, R4, O⟩, by simp [intOf]; omega⟩
  ·have hi' : i = 16 := by omega
   subst hi'
   have HR := hide R4
   clear R4 R1 R2
   go_wp2_with (refine wpList_load_row rfl 101 _ rfl (w.heap.size + 1 + 1 + 1) rfl 101 (arr 32 (mp a b 16)) (0, 0) _ HR.out Tryz.underlying101 rfl (info101 _) ?_)
   try rw [show ∀ (a : Act) (v : Value), a.put none v = a from fun _ _ => rfl]
   refine (reduce_any (mp a b 16) _ (mp_48 ha hb)).mono ?_
   rintro _ w3 ⟨rfl, hb3⟩
   replace R3 := R3.keep hb3
   replace O := O.trans (hb3.mono O.size)
   clear hb3 HR
   rw [mp_S a b 16 (by omega)]
   have RR := hide (R3.setAll (d16 ((S a 16 * S b 16) % Pm)))
   have OO := hide (below_setCells (g := w.heap.size + 1 + 1) (by omega) (arr 16 (d16 ((S a 16 * S b 16) % Pm))).toList 0 O)
   go_wp2_with (refine wpList_store_mid rfl 36 _ _ rfl (w.heap.size + 1 + 1) 0 (arr 16 (d16 ((S a 16 * S b 16) % Pm))) rfl rfl (by rw [arr_size]; exact R3.there) (info36 _) (arr_one _ _) ?_)
   exact bodyPost_ret (v := .agg (arr 16 (d16 ((S a 16 * S b 16) % Pm)))) (results_cell_row Tryz.results53 _ _ (w.heap.size + 1 + 1) 36 (arr 16 (d16 ((S a 16 * S b 16) % Pm))) (0, 0) _ rfl RR.out Tryz.underlying36 rfl (info36 _)) rfl ⟨rfl, OO.out⟩
def pwm (x : Int) (f : Nat → Bool) : Nat → Int
 | 0 => 1
 | i + 1 => if f i = true then (pwm x f i * pwm x f i % Pm) * x % Pm else pwm x f i * pwm x f i % Pm
theorem pwm_bd (x : Int) (f : Nat → Bool) : ∀ i, 0 ≤ pwm x f i ∧ pwm x f i < Pm
 | 0 => by unfold pwm; exact ⟨by decide, by decide⟩
 | i + 1 => by
  unfold pwm
  have h : ∀ y : Int, 0 ≤ y % Pm ∧ y % Pm < Pm := fun y => ⟨Int.emod_nonneg y (by decide), Int.emod_lt_of_pos y Pm_pos⟩
  split
  ·exact h _
  ·exact h _
theorem bS {y : Int} (h : 0 ≤ y ∧ y < Pm) : S (d16 y) 16 = y := by
 have h2 := Pm_16
 rw [d16_S _ h.1, Int.emod_eq_of_lt h.1 (by omega)]
theorem power_any (a : Nat → Int) (n : Nat) (f : Nat → Bool) (b : Nat) (w : World) (ha : Dig a 16) (hB : Brow w b n f) (hn : n ≤ 300) :
  Cs 97 #[.agg (arr 16 a), .slice (some ⟨b, 0, none⟩) n n] w (.agg (arr 16 (d16 (pwm (S a 16) f n)))) := by
 have hb1 := hB.lt
 go_enter Tryz.func97, Tryz.ntmps97
 go_wp2_with fail
 rw [show #[Value.int .u64 0, Value.int .u64 0, Value.int .u64 0, Value.int .u64 0, Value.int .u64 0, Value.int .u64 0, Value.int .u64 0, Value.int .u64 0, Value.int .u64 0, Value.int .u64 0, Value.int .u64 0, Value.int .u64 0, Value.int .u64 0, Value.int .u64 0, Value.int .u64 0, Value.int .u64 0] = arr 16 (fun _ => 0) from rfl]
 have R1 : Row ((w.alloc (.cells (arr 16 a) 36)).alloc (.cells (arr 16 fun _ => 0) 36)) w.heap.size 36 16 a := (Row.new w 36 16 a).alloc _
 have R2 : Row ((w.alloc (.cells (arr 16 a) 36)).alloc (.cells (arr 16 fun _ => 0) 36)) (w.heap.size + 1) 36 16 (fun _ => 0) := Row.new' _ 36 16 _ (by simp)
 have O : Below w.heap.size w ((w.alloc (.cells (arr 16 a) 36)).alloc (.cells (arr 16 fun _ => 0) 36)) := ((Below.refl _ _).alloc (Nat.le_refl _) _).alloc (by simp) _
 have B := hB.keep O
 generalize (w.alloc (.cells (arr 16 a) 36)).alloc (.cells (arr 16 fun _ => 0) 36) = W at R1 R2 O B ⊢
 clear hB
 refine (rsmall_any 1 _ (by decide) (by decide)).mono ?_
 rintro _ w1 ⟨rfl, hb⟩
 replace R1 := R1.keep hb
 replace R2 := R2.keep hb
 replace B := B.keep hb
 replace O := O.trans (hb.mono O.size)
 clear hb
 have RX : Row (w1.alloc (.cells #[Value.int .u64 0, Value.int .u64 0, Value.int .u64 0, Value.int .u64 0, Value.int .u64 0, Value.int .u64 0, Value.int .u64 0, Value.int .u64 0, Value.int .u64 0, Value.int .u64 0, Value.int .u64 0, Value.int .u64 0, Value.int .u64 0, Value.int .u64 0, Value.int .u64 0, Value.int .u64 0] 36)) w1.heap.size 36 16 (fun _ => 0) := Row.new w1 36 16 (fun _ => 0)
 have RR := hide (RX.setAll (d16 1))
 have BB := below_setCells (g := w1.heap.size) (Nat.le_refl _) (arr 16 (d16 1)).toList 0 (new_below w1 (.cells #[Value.int .u64 0, Value.int .u64 0, Value.int .u64 0, Value.int .u64 0, Value.int .u64 0, Value.int .u64 0, Value.int .u64 0, Value.int .u64 0, Value.int .u64 0, Value.int .u64 0, Value.int .u64 0, Value.int .u64 0, Value.int .u64 0, Value.int .u64 0, Value.int .u64 0, Value.int .u64 0] 36))
 have gx := R2.lt
 have R1' := hide (R1.keep BB)
 have R2' := hide (R2.keep BB)
 have B' := hide (B.keep BB)
 have O' := hide (O.trans (BB.mono O.size))
 clear R1 R2 B O BB
 go_wp2_with (refine wpList_store_mid rfl 36 _ _ rfl w1.heap.size 0 (arr 16 (d16 1)) rfl rfl ?there (info36 _) (arr_one _ _) ?_)
 case there => rw [arr_size]; exact RX.there
 try rw [show ∀ (a : Act) (v : Value), a.put none v = a from fun _ _ => rfl]
 have R1 := R1'.out
 have R2 := R2'.out
 have B := B'.out
 have O := O'.out
 replace RX := RR.out
 clear R1' R2' B' O' RR
 generalize w1.heap.size = gX at *
 generalize (w1.alloc (.cells #[Value.int .u64 0, Value.int .u64 0, Value.int .u64 0, Value.int .u64 0, Value.int .u64 0, Value.int .u64 0, Value.int .u64 0, Value.int .u64 0, Value.int .u64 0, Value.int .u64 0, Value.int .u64 0, Value.int .u64 0, Value.int .u64 0, Value.int .u64 0, Value.int .u64 0, Value.int .u64 0] 36)).setCells gX 0 (arr 16 (d16 1)).toList = W2 at *
 go_loopw [6] (fun x wr => ∃ i : Nat, i ≤ n ∧ x = .int .i64 i ∧ Row wr w.heap.size 36 16 a ∧ Row wr (w.heap.size + 1) 36 16 (fun _ => 0) ∧ Row wr gX 36 16 (d16 (pwm (S a 16) f i)) ∧ Brow wr b n f ∧ Below w.heap.size w wr) (fun x _ => n - (intOf x).toNat)
 case atStart => exact ⟨0, by omega, rfl, R1, R2, RX, B, O⟩
 case round =>
  clear R1 R2 RX B O
  obtain ⟨i, hi, rfl, R1, R2, RX, B, O⟩ := hrel
  have hp := pwm_bd (S a 16) f i
  by_cases hlt : i < n
  ·have h1 : (i : Int) < (n : Int) := by omega
   have HP := hide hp
   have HX := hide RX
   clear hp RX
   go_wp2_with (refine wpList_load_row rfl 36 _ rfl gX rfl 36 (arr 16 (d16 (pwm (S a 16) f i))) (0, 0) _ HX.out Tryz.underlying36 rfl (info36 _) ?_)
   refine (rmul_any _ _ _ (d16_dig _ 16) (d16_dig _ 16)).mono ?_
   rintro _ w3 ⟨rfl, hb3⟩
   rw [bS HP.out]
   replace R1 := R1.keep hb3
   replace R2 := R2.keep hb3
   replace B := B.keep hb3
   have RX := HX.out.keep hb3
   replace O := O.trans (hb3.mono O.size)
   clear hb3 HX
   have hE : pwm (S a 16) f (i + 1) = if f i = true then (pwm (S a 16) f i * pwm (S a 16) f i % Pm) * S a 16 % Pm else pwm (S a 16) f i * pwm (S a 16) f i % Pm := rfl
   have HE := hide hE
   clear hE HP
   generalize pwm (S a 16) f i * pwm (S a 16) f i = Y at *
   have RR := hide (RX.setAll (d16 (Y % Pm)))
   have R1' := hide (R1.setOther (k := gX) (by omega) 0 (arr 16 (d16 (Y % Pm))).toList)
   have R2' := hide (R2.setOther (k := gX) (by omega) 0 (arr 16 (d16 (Y % Pm))).toList)
   have B' : Hid (Brow (w3.setCells gX 0 (arr 16 (d16 (Y % Pm))).toList) b n f) := hide (by
    unfold Brow
    rw [heap_setCells_other gX b (by omega)]
    exact B)
   have O' := hide (below_setCells (g := gX) (by omega) (arr 16 (d16 (Y % Pm))).toList 0 O)
   clear R1 R2 B O
   have BC := B'.out.cell hlt
   cases hf : f i
   ·rw [hf] at BC HE
    go_wp2_with (refine wpList_store_mid rfl 36 _ _ rfl gX 0 (arr 16 (d16 (Y % Pm))) rfl rfl ?there (info36 _) (arr_one _ _) ?_)
    case there => rw [arr_size]; exact RX.there
    go_roundw
    case rel => exact ⟨i + 1, by omega, by go_num, R1'.out, R2'.out, by rw [HE.out]; exact RR.out, B'.out, O'.out⟩
    case measure => simp [intOf]; omega
   ·rw [hf] at BC HE
    go_wp2_with (first | (refine wpList_store_mid rfl 36 _ _ rfl gX 0 (arr 16 (d16 (Y % Pm))) rfl rfl ?there (info36 _) (arr_one _ _) ?_) | (refine wpList_load_row rfl 36 _ rfl gX rfl 36 (arr 16 (d16 (Y % Pm))) (0, 0) _ RR.out Tryz.underlying36 rfl (info36 _) ?_) | (refine wpList_load_row rfl 36 _ rfl w.heap.size rfl 36 (arr 16 a) (0, 0) _ R1'.out Tryz.underlying36 rfl (info36 _) ?_))
    case there => rw [arr_size]; exact RX.there
    refine (rmul_any _ _ _ (d16_dig _ 16) ha).mono ?_
    rintro _ w5 ⟨rfl, hb5⟩
    rw [dS]
    rw [if_pos trivial] at HE
    have R1 := R1'.out.keep hb5
    have R2 := R2'.out.keep hb5
    have B := B'.out.keep hb5
    have RY := RR.out.keep hb5
    have O := O'.out.trans (hb5.mono O'.out.size)
    clear hb5 R1' R2' B' RR O' BC RX
    generalize Y % Pm * S a 16 = Y2 at *
    have RR := hide (RY.setAll (d16 (Y2 % Pm)))
    have R1' := hide (R1.setOther (k := gX) (by omega) 0 (arr 16 (d16 (Y2 % Pm))).toList)
    have R2' := hide (R2.setOther (k := gX) (by omega) 0 (arr 16 (d16 (Y2 % Pm))).toList)
    have B' : Hid (Brow (w5.setCells gX 0 (arr 16 (d16 (Y2 % Pm))).toList) b n f) := hide (by
     unfold Brow
     rw [heap_setCells_other gX b (by omega)]
     exact B)
    have O' := hide (below_setCells (g := gX) (by omega) (arr 16 (d16 (Y2 % Pm))).toList 0 O)
    clear R1 R2 B O
    go_wp2_with (refine wpList_store_mid rfl 36 _ _ rfl gX 0 (arr 16 (d16 (Y2 % Pm))) rfl rfl ?there (info36 _) (arr_one _ _) ?_)
    case there => rw [arr_size]; exact RY.there
    go_roundw
    case rel => exact ⟨i + 1, by omega, by go_num, R1'.out, R2'.out, by rw [HE.out]; exact RR.out, B'.out, O'.out⟩
    case measure => simp [intOf]; omega
  ·have hi' : i = n := by omega
   subst hi'
   have RR := hide (R2.setAll (d16 (pwm (S a 16) f i)))
   have OO := hide (below_setCells (g := w.heap.size + 1) (by omega) (arr 16 (d16 (pwm (S a 16) f i))).toList 0 O)
   clear hp R1 B O
   go_wp2_with (first | (refine wpList_load_row rfl 36 _ rfl gX rfl 36 (arr 16 (d16 (pwm (S a 16) f i))) (0, 0) _ RX Tryz.underlying36 rfl (info36 _) ?_) | (refine wpList_store_mid rfl 36 _ _ rfl (w.heap.size + 1) 0 (arr 16 (d16 (pwm (S a 16) f i))) rfl rfl ?there (info36 _) (arr_one _ _) ?_))
   case there => rw [arr_size]; exact R2.there
   exact bodyPost_ret (v := .agg (arr 16 (d16 (pwm (S a 16) f i)))) (results_cell_row Tryz.results97 _ _ (w.heap.size + 1) 36 (arr 16 (d16 (pwm (S a 16) f i))) (0, 0) _ rfl RR.out Tryz.underlying36 rfl (info36 _)) rfl ⟨rfl, OO.out⟩
theorem rinv_any (a : Nat → Int) (w : World) (ha : Dig a 16) :
  Cs 52 #[.agg (arr 16 a)] w (.agg (arr 16 (d16 (pwm (S a 16) (xbit 255 21) 255)))) := by
 go_enter Tryz.func52, Tryz.ntmps52
 go_wp2_with fail
 rw [show #[Value.int .u64 0, Value.int .u64 0, Value.int .u64 0, Value.int .u64 0, Value.int .u64 0, Value.int .u64 0, Value.int .u64 0, Value.int .u64 0, Value.int .u64 0, Value.int .u64 0, Value.int .u64 0, Value.int .u64 0, Value.int .u64 0, Value.int .u64 0, Value.int .u64 0, Value.int .u64 0] = arr 16 (fun _ => 0) from rfl]
 have R1 : Row ((w.alloc (.cells (arr 16 a) 36)).alloc (.cells (arr 16 fun _ => 0) 36)) w.heap.size 36 16 a := (Row.new w 36 16 a).alloc _
 have R2 : Row ((w.alloc (.cells (arr 16 a) 36)).alloc (.cells (arr 16 fun _ => 0) 36)) (w.heap.size + 1) 36 16 (fun _ => 0) := Row.new' _ 36 16 _ (by simp)
 have O : Below w.heap.size w ((w.alloc (.cells (arr 16 a) 36)).alloc (.cells (arr 16 fun _ => 0) 36)) := ((Below.refl _ _).alloc (Nat.le_refl _) _).alloc (by simp) _
 generalize ((w.alloc (.cells (arr 16 a) 36)).alloc (.cells (arr 16 fun _ => 0) 36)) = W at R1 R2 O ⊢
 refine region_cut (fun a0 a' w' => ∃ b : Nat, a' = ((a0.put (some 3) (.agg (arr 16 a))).put (some 4) (.slice (some ⟨b, 0, none⟩) 255 255)).put (some 5) (.agg (arr 16 (d16 (pwm (S a 16) (xbit 255 21) 255)))) ∧ Row w' (w.heap.size + 1) 36 16 (d16 (pwm (S a 16) (xbit 255 21) 255)) ∧ Below w.heap.size w w') (by kernel_rfl) ?_ ?_
 ·clear R1 R2 O
  rintro _ w' ⟨b, rfl, R, O⟩
  go_wp2
  exact bodyPost_ret (v := .agg (arr 16 (d16 (pwm (S a 16) (xbit 255 21) 255)))) (results_cell_row Tryz.results52 _ _ (w.heap.size + 1) 36 (arr 16 (d16 (pwm (S a 16) (xbit 255 21) 255))) (0, 0) _ rfl R Tryz.underlying36 rfl (info36 _)) rfl ⟨rfl, O⟩
 ·intro hrest
  replace R1 := rowD R1
  replace R2 := rowD R2
  replace O := O.drew
  refine wpAny_ready (rs := [0, 1]) (by kernel_rfl) (by simp) ?_
  refine ready_load rfl rfl 36 _ rfl w.heap.size (by kernel_rfl) 36 (arr 16 a) (0, 0) _ R1 Tryz.underlying36 rfl (info36 _) ?_ ?_
  ·skip
   refine wpAny_ready (rs := [1]) (by kernel_rfl) (by simp) ?_
   refine ready_call 98 #[.int .i64 255, .int .i64 21] rfl rfl (by kernel_rfl) ?_ ?_
   ·refine (bits_255 _).mono ?_
    rintro _ w2 ⟨b, rfl, _, HB, hb2⟩
    refine ⟨_, rfl, ?_⟩
    replace R1 := R1.keep hb2
    replace R2 := R2.keep hb2
    replace O := O.trans (hb2.mono O.size)
    clear hb2
    refine wpAny_ready (rs := [2]) (by kernel_rfl) (by simp) ?_
    refine ready_call 97 #[.agg (arr 16 a), .slice (some ⟨b, 0, none⟩) 255 255] rfl rfl (by kernel_rfl) ?_ ?_
    ·refine (power_any a 255 _ b _ ha HB (by decide)).mono ?_
     rintro _ w3 ⟨rfl, hb3⟩
     refine ⟨_, rfl, ?_⟩
     replace R1 := R1.keep hb3
     replace R2 := R2.keep hb3
     replace HB := HB.keep hb3
     replace O := O.trans (hb3.mono O.size)
     clear hb3
     refine wpAny_ready (rs := [3]) (by kernel_rfl) (by simp) ?_
     refine ready_store rfl rfl 36 _ _ rfl (w.heap.size + 1) 0 (arr 16 (d16 (pwm (S a 16) (xbit 255 21) 255))) (by kernel_rfl) (by kernel_rfl) (by rw [arr_size]; exact R2.there) (info36 _) (arr_one _ _) ?_ ?_
     ·skip
      exact wpAny_done (by kernel_rfl) (hrest _ _ ⟨b, by kernel_rfl, R2.setAll _, below_setCells (by omega) _ _ O⟩) _
     exact AllReady.nil
    exact AllReady.nil
   exact AllReady.nil
  refine ready_call 98 #[.int .i64 255, .int .i64 21] rfl rfl (by kernel_rfl) ?_ ?_
  ·refine (bits_255 _).mono ?_
   rintro _ w5 ⟨b, rfl, _, HB, hb5⟩
   refine ⟨_, rfl, ?_⟩
   replace R1 := R1.keep hb5
   replace R2 := R2.keep hb5
   replace O := O.trans (hb5.mono O.size)
   clear hb5
   refine wpAny_ready (rs := [0]) (by kernel_rfl) (by simp) ?_
   refine ready_load rfl rfl 36 _ rfl w.heap.size (by kernel_rfl) 36 (arr 16 a) (0, 0) _ R1 Tryz.underlying36 rfl (info36 _) ?_ ?_
   ·skip
    refine wpAny_ready (rs := [2]) (by kernel_rfl) (by simp) ?_
    refine ready_call 97 #[.agg (arr 16 a), .slice (some ⟨b, 0, none⟩) 255 255] rfl rfl (by kernel_rfl) ?_ ?_
    ·refine (power_any a 255 _ b _ ha HB (by decide)).mono ?_
     rintro _ w7 ⟨rfl, hb7⟩
     refine ⟨_, rfl, ?_⟩
     replace R1 := R1.keep hb7
     replace R2 := R2.keep hb7
     replace HB := HB.keep hb7
     replace O := O.trans (hb7.mono O.size)
     clear hb7
     refine wpAny_ready (rs := [3]) (by kernel_rfl) (by simp) ?_
     refine ready_store rfl rfl 36 _ _ rfl (w.heap.size + 1) 0 (arr 16 (d16 (pwm (S a 16) (xbit 255 21) 255))) (by kernel_rfl) (by kernel_rfl) (by rw [arr_size]; exact R2.there) (info36 _) (arr_one _ _) ?_ ?_
     ·skip
      exact wpAny_done (by kernel_rfl) (hrest _ _ ⟨b, by kernel_rfl, R2.setAll _, below_setCells (by omega) _ _ O⟩) _
     exact AllReady.nil
    exact AllReady.nil
   exact AllReady.nil
  exact AllReady.nil
def ad (a b : Nat → Int) (k : Nat) : Nat → Int := fun i => wid a 16 i + if i < k then b i else 0
theorem ad_48 {a b : Nat → Int} (ha : Dig a 16) (hb : Dig b 16) : B48 (ad a b 16) := ⟨fun i _ => by
 unfold ad wid
 by_cases hi : i < 16
 ·rw [if_pos hi, if_pos hi]
  have := ha i hi
  have := hb i hi
  omega
 ·rw [if_neg hi, if_neg hi]
  omega⟩
theorem S_add (f g : Nat → Int) : ∀ n, S (fun i => f i + g i) n = S f n + S g n
 | 0 => rfl
 | n + 1 => by
  have ih := S_add f g n
  simp only [S]
  rw [ih, Int.add_mul]
  omega
theorem ad_S (a b : Nat → Int) : S (ad a b 16) 32 = S a 16 + S b 16 := by
 have e : S (ad a b 16) 32 = S (wid a 16) 32 + S (wid b 16) 32 := by
  rw [← S_add]
  exact S_congr fun i _ => rfl
 rw [e, wid_S, wid_S]
theorem radd_any (a b : Nat → Int) (w : World) (ha : Dig a 16) (hb : Dig b 16) :
  Cs 91 #[.agg (arr 16 a), .agg (arr 16 b)] w (.agg (arr 16 (d16 ((S a 16 + S b 16) % Pm)))) := by
 go_enter Tryz.func91, Tryz.ntmps91
 have R1 : Row (((w.alloc (.cells (arr 16 a) 36)).alloc (.cells (arr 16 b) 36)).alloc (.cells (arr 16 fun _ => 0) 36)) w.heap.size 36 16 a := ((Row.new w 36 16 a).alloc _).alloc _
 have R2 : Row (((w.alloc (.cells (arr 16 a) 36)).alloc (.cells (arr 16 b) 36)).alloc (.cells (arr 16 fun _ => 0) 36)) (w.heap.size + 1) 36 16 b := (Row.new' _ 36 16 _ (by simp)).alloc _
 have R3 : Row (((w.alloc (.cells (arr 16 a) 36)).alloc (.cells (arr 16 b) 36)).alloc (.cells (arr 16 fun _ => 0) 36)) (w.heap.size + 1 + 1) 36 16 (fun _ => 0) := Row.new' _ 36 16 _ (by simp)
 have O : Below w.heap.size w (((w.alloc (.cells (arr 16 a) 36)).alloc (.cells (arr 16 b) 36)).alloc (.cells (arr 16 fun _ => 0) 36)) := (((Below.refl _ _).alloc (Nat.le_refl _) _).alloc (by simp) _).alloc (by simp; omega) _
 have HR := hide R1
 go_wp2_with (refine wpList_load_row rfl 36 _ rfl w.heap.size rfl 36 (arr 16 a) (0, 0) _ HR.out Tryz.underlying36 rfl (info36 _) ?_)
 clear HR R1
 rw [show #[Value.int .u64 0, Value.int .u64 0, Value.int .u64 0, Value.int .u64 0, Value.int .u64 0, Value.int .u64 0, Value.int .u64 0, Value.int .u64 0, Value.int .u64 0, Value.int .u64 0, Value.int .u64 0, Value.int .u64 0, Value.int .u64 0, Value.int .u64 0, Value.int .u64 0, Value.int .u64 0] = arr 16 (fun _ => 0) from rfl]
 refine (wide_any a _).mono ?_
 rintro _ w1 ⟨rfl, hb1⟩
 replace R2 := R2.keep hb1
 replace R3 := R3.keep hb1
 replace O := O.trans (hb1.mono O.size)
 clear hb1
 have gt1 := R3.lt
 have R : Row (w1.alloc (.cells #[Value.int .u64 0, Value.int .u64 0, Value.int .u64 0, Value.int .u64 0, Value.int .u64 0, Value.int .u64 0, Value.int .u64 0, Value.int .u64 0, Value.int .u64 0, Value.int .u64 0, Value.int .u64 0, Value.int .u64 0, Value.int .u64 0, Value.int .u64 0, Value.int .u64 0, Value.int .u64 0, Value.int .u64 0, Value.int .u64 0, Value.int .u64 0, Value.int .u64 0, Value.int .u64 0, Value.int .u64 0, Value.int .u64 0, Value.int .u64 0, Value.int .u64 0, Value.int .u64 0, Value.int .u64 0, Value.int .u64 0, Value.int .u64 0, Value.int .u64 0, Value.int .u64 0, Value.int .u64 0] 101)) w1.heap.size 101 32 (fun _ => 0) := Row.new w1 101 32 (fun _ => 0)
 have BB := below_setCells (g := w1.heap.size) (Nat.le_refl _) (arr 32 (wid a 16)).toList 0 (new_below w1 (.cells #[Value.int .u64 0, Value.int .u64 0, Value.int .u64 0, Value.int .u64 0, Value.int .u64 0, Value.int .u64 0, Value.int .u64 0, Value.int .u64 0, Value.int .u64 0, Value.int .u64 0, Value.int .u64 0, Value.int .u64 0, Value.int .u64 0, Value.int .u64 0, Value.int .u64 0, Value.int .u64 0, Value.int .u64 0, Value.int .u64 0, Value.int .u64 0, Value.int .u64 0, Value.int .u64 0, Value.int .u64 0, Value.int .u64 0, Value.int .u64 0, Value.int .u64 0, Value.int .u64 0, Value.int .u64 0, Value.int .u64 0, Value.int .u64 0, Value.int .u64 0, Value.int .u64 0, Value.int .u64 0] 101))
 have RR := hide (R.setAll (wid a 16))
 have R2' := hide (R2.keep BB)
 have R3' := hide (R3.keep BB)
 have O' := hide (O.trans (BB.mono O.size))
 clear R2 R3 O BB
 go_wp2_with (refine wpList_store_mid rfl 101 _ _ rfl w1.heap.size 0 (arr 32 (wid a 16)) rfl rfl (by rw [arr_size]; exact R.there) (info101 _) (arr_one _ _) ?_)
 try rw [show ∀ (a : Act) (v : Value), a.put none v = a from fun _ _ => rfl]
 replace R := RR.out
 have R2 := R2'.out
 have R3 := R3'.out
 have O := O'.out
 clear RR R2' R3' O'
 generalize w1.heap.size = gt at *
 generalize (w1.alloc (.cells #[Value.int .u64 0, Value.int .u64 0, Value.int .u64 0, Value.int .u64 0, Value.int .u64 0, Value.int .u64 0, Value.int .u64 0, Value.int .u64 0, Value.int .u64 0, Value.int .u64 0, Value.int .u64 0, Value.int .u64 0, Value.int .u64 0, Value.int .u64 0, Value.int .u64 0, Value.int .u64 0, Value.int .u64 0, Value.int .u64 0, Value.int .u64 0, Value.int .u64 0, Value.int .u64 0, Value.int .u64 0, Value.int .u64 0, Value.int .u64 0, Value.int .u64 0, Value.int .u64 0, Value.int .u64 0, Value.int .u64 0, Value.int .u64 0, Value.int .u64 0, Value.int .u64 0, Value.int .u64 0] 101)).setCells gt 0 (arr 32 (wid a 16)).toList = W2 at *
 go_loopw [6] (fun i wr => ∃ k : Nat, k ≤ 16 ∧ i = .int .i64 k ∧ Row wr gt 101 32 (ad a b k) ∧ Row wr (w.heap.size + 1) 36 16 b ∧ Row wr (w.heap.size + 1 + 1) 36 16 (fun _ => 0) ∧ Below w.heap.size w wr) (fun i _ => 16 - (intOf i).toNat)
 case atStart => exact ⟨0, by omega, rfl, R.congr (fun i _ => by unfold ad; rw [if_neg (by omega)]; omega), R2, R3, O⟩
 case round =>
  clear R R2 R3 O
  obtain ⟨k, hk, rfl, R, R2, R3, O⟩ := hrel
  by_cases hlt : k < 16
  ·have c := R.cell (i := k) (by omega)
   rw [show ad a b k k = a k by unfold ad wid; rw [if_pos hlt, if_neg (by omega)]; omega] at c
   have d := R2.cell hlt
   have e := R.free
   obtain ⟨a0, a1⟩ := ha k hlt
   obtain ⟨b0, b1⟩ := hb k hlt
   have i1 : (0 : Int) ≤ (k : Int) := by omega
   have i2 : (k : Int) < 16 := by omega
   go_wp2_with fail
   go_region
   go_wp2
   exact ⟨⟨k + 1, by omega, by go_num, rowD ((R.set k (a k + b k)).congr (fun i _ => by
    unfold upd ad
    by_cases h : i = k
    ·subst h
     rw [if_pos rfl, if_pos (by omega)]
     unfold wid
     rw [if_pos hlt]
    ·rw [if_neg h]
     by_cases h2 : i < k
     ·rw [if_pos h2, if_pos (by omega)]
     ·rw [if_neg h2, if_neg (by omega)])), rowD (R2.other (a := ⟨gt, k, none⟩) (by simp; omega) _), rowD (R3.other (a := ⟨gt, k, none⟩) (by simp; omega) _), (O.setCell (p := ⟨gt, k, none⟩) (by simp; omega) _).drew⟩, by simp [intOf]; omega⟩
  ·have hk' : k = 16 := by omega
   subst hk'
   have HR := hide R
   clear R R2
   go_wp2_with (refine wpList_load_row rfl 101 _ rfl gt rfl 101 (arr 32 (ad a b 16)) (0, 0) _ HR.out Tryz.underlying101 rfl (info101 _) ?_)
   try rw [show ∀ (a : Act) (v : Value), a.put none v = a from fun _ _ => rfl]
   refine (reduce_any (ad a b 16) _ (ad_48 ha hb)).mono ?_
   rintro _ w3 ⟨rfl, hb3⟩
   replace R3 := R3.keep hb3
   replace O := O.trans (hb3.mono O.size)
   clear hb3 HR
   rw [ad_S]
   have RR := hide (R3.setAll (d16 ((S a 16 + S b 16) % Pm)))
   have OO := hide (below_setCells (g := w.heap.size + 1 + 1) (by omega) (arr 16 (d16 ((S a 16 + S b 16) % Pm))).toList 0 O)
   go_wp2_with (refine wpList_store_mid rfl 36 _ _ rfl (w.heap.size + 1 + 1) 0 (arr 16 (d16 ((S a 16 + S b 16) % Pm))) rfl rfl (by rw [arr_size]; exact R3.there) (info36 _) (arr_one _ _) ?_)
   exact bodyPost_ret (v := .agg (arr 16 (d16 ((S a 16 + S b 16) % Pm)))) (results_cell_row Tryz.results91 _ _ (w.heap.size + 1 + 1) 36 (arr 16 (d16 ((S a 16 + S b 16) % Pm))) (0, 0) _ rfl RR.out Tryz.underlying36 rfl (info36 _)) rfl ⟨rfl, OO.out⟩
end Go.Proofs.YtmhfmhmpoobmlaaGreatDoor
