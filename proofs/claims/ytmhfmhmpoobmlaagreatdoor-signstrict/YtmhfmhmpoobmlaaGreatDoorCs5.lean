/- Part 5 of the walks and facts behind signStrict_holds. -/
import Derived.Test.YtmhfmhmpoobmlaaGreatDoorCs4
import Derived.Laws.IdiomStrings
/- The contracts of the document's Bytes and Small. -/
namespace Go.Proofs.YtmhfmhmpoobmlaaGreatDoor.Ord
open Go.RowKit

/-- Byte i of the digits. -/
def by16 (f : Nat → Int) (i : Nat) : Int := f (i / 2) / 256 ^ (i % 2) % 256
/-- The first k bytes, then none. -/
def rb (f : Nat → Int) (k : Nat) : List Int := (List.range 32).map fun i => if i < k then by16 f i else 0

/-- Block g holds these bytes. -/
def Byt (W : World) (g : Nat) (l : List Int) : Prop := W.heap[g]? = some (.cells (l.map (Value.int .u8)).toArray 5 (0, 0))

theorem Byt.cell {W : World} {g : Nat} {l : List Int} (h : Byt W g l) {i : Nat} (hi : i < l.length) : ∃ v, W.cell? ⟨g, i, none⟩ = some v := by
  rw [cell_of_row W g i _ 5 (0, 0) h]
  simp [hi]
theorem Byt.free {W : World} {g : Nat} {l : List Int} (h : Byt W g l) (i : Nat) : W.frozen? ⟨g, i, none⟩ = false := frozen_of_row W g i _ 5 h
theorem Byt.set {W : World} {g : Nat} {l : List Int} (h : Byt W g l) (k : Nat) (v : Int) : Byt (W.setCell ⟨g, k, none⟩ (.int .u8 v)) g (l.set k v) := by
  unfold Byt
  rw [heap_setCell_same W g k _ 5 _ h]
  simp [List.map_set]

theorem rb_len (f : Nat → Int) (k : Nat) : (rb f k).length = 32 := by simp [rb]
theorem rb_set (f : Nat → Int) (k : Nat) : (rb f k).set k (by16 f k) = rb f (k + 1) := by
  apply List.ext_getElem?
  intro i
  by_cases hi : i < 32
  · by_cases h : k = i
    · subst h
      rw [List.getElem?_set_self (by rw [rb_len]; exact hi)]
      simp [rb, hi]
    · rw [List.getElem?_set_ne h]
      simp only [rb, List.getElem?_map, List.getElem?_range hi, Option.map_some]
      congr 1
      by_cases h2 : i < k
      · rw [if_pos h2, if_pos (by omega)]
      · rw [if_neg h2, if_neg (by omega)]
  · rw [List.getElem?_eq_none (by simp [rb]; omega), List.getElem?_eq_none (by simp [rb]; omega)]

set_option maxRecDepth 100000 in
set_option maxHeartbeats 8000000 in
theorem rbytes_any (f : Nat → Int) (w : World) (hf : Dig f 16) :
    Calls Tryz.prog 16 #[.agg (arr 16 f)] w fun r w' => r = .returned (.string (bs (rb f 32))) ∧ Below w.heap.size w w' := by
  have hmk : ∀ w, (Instr.makeSlice 32 (.int .i64 32) (.int .i64 32)).run Tryz.prog w = .ok (.slice (some ⟨w.heap.size, 0, none⟩) 32 32) (w.alloc (.cells #[Value.int IntKind.u8 0, Value.int IntKind.u8 0, Value.int IntKind.u8 0, Value.int IntKind.u8 0, Value.int IntKind.u8 0, Value.int IntKind.u8 0, Value.int IntKind.u8 0, Value.int IntKind.u8 0, Value.int IntKind.u8 0, Value.int IntKind.u8 0, Value.int IntKind.u8 0, Value.int IntKind.u8 0, Value.int IntKind.u8 0, Value.int IntKind.u8 0, Value.int IntKind.u8 0, Value.int IntKind.u8 0, Value.int IntKind.u8 0, Value.int IntKind.u8 0, Value.int IntKind.u8 0, Value.int IntKind.u8 0, Value.int IntKind.u8 0, Value.int IntKind.u8 0, Value.int IntKind.u8 0, Value.int IntKind.u8 0, Value.int IntKind.u8 0, Value.int IntKind.u8 0, Value.int IntKind.u8 0, Value.int IntKind.u8 0, Value.int IntKind.u8 0, Value.int IntKind.u8 0, Value.int IntKind.u8 0, Value.int IntKind.u8 0] 5)) := fun _ => by kernel_rfl
  go_enter Tryz.func16, Tryz.ntmps16
  go_wp2
  clear hmk
  have R1 : Row ((w.alloc (.cells (arr 16 f) 36)).alloc (.cells #[Value.int IntKind.u8 0, Value.int IntKind.u8 0, Value.int IntKind.u8 0, Value.int IntKind.u8 0, Value.int IntKind.u8 0, Value.int IntKind.u8 0, Value.int IntKind.u8 0, Value.int IntKind.u8 0, Value.int IntKind.u8 0, Value.int IntKind.u8 0, Value.int IntKind.u8 0, Value.int IntKind.u8 0, Value.int IntKind.u8 0, Value.int IntKind.u8 0, Value.int IntKind.u8 0, Value.int IntKind.u8 0, Value.int IntKind.u8 0, Value.int IntKind.u8 0, Value.int IntKind.u8 0, Value.int IntKind.u8 0, Value.int IntKind.u8 0, Value.int IntKind.u8 0, Value.int IntKind.u8 0, Value.int IntKind.u8 0, Value.int IntKind.u8 0, Value.int IntKind.u8 0, Value.int IntKind.u8 0, Value.int IntKind.u8 0, Value.int IntKind.u8 0, Value.int IntKind.u8 0, Value.int IntKind.u8 0, Value.int IntKind.u8 0] 5)) w.heap.size 36 16 f := (Row.new w 36 16 f).alloc _
  have R2 : Byt ((w.alloc (.cells (arr 16 f) 36)).alloc (.cells #[Value.int IntKind.u8 0, Value.int IntKind.u8 0, Value.int IntKind.u8 0, Value.int IntKind.u8 0, Value.int IntKind.u8 0, Value.int IntKind.u8 0, Value.int IntKind.u8 0, Value.int IntKind.u8 0, Value.int IntKind.u8 0, Value.int IntKind.u8 0, Value.int IntKind.u8 0, Value.int IntKind.u8 0, Value.int IntKind.u8 0, Value.int IntKind.u8 0, Value.int IntKind.u8 0, Value.int IntKind.u8 0, Value.int IntKind.u8 0, Value.int IntKind.u8 0, Value.int IntKind.u8 0, Value.int IntKind.u8 0, Value.int IntKind.u8 0, Value.int IntKind.u8 0, Value.int IntKind.u8 0, Value.int IntKind.u8 0, Value.int IntKind.u8 0, Value.int IntKind.u8 0, Value.int IntKind.u8 0, Value.int IntKind.u8 0, Value.int IntKind.u8 0, Value.int IntKind.u8 0, Value.int IntKind.u8 0, Value.int IntKind.u8 0] 5)) (w.heap.size + 1) (rb f 0) := heap_alloc2_new w _ _
  have O : Below w.heap.size w ((w.alloc (.cells (arr 16 f) 36)).alloc (.cells #[Value.int IntKind.u8 0, Value.int IntKind.u8 0, Value.int IntKind.u8 0, Value.int IntKind.u8 0, Value.int IntKind.u8 0, Value.int IntKind.u8 0, Value.int IntKind.u8 0, Value.int IntKind.u8 0, Value.int IntKind.u8 0, Value.int IntKind.u8 0, Value.int IntKind.u8 0, Value.int IntKind.u8 0, Value.int IntKind.u8 0, Value.int IntKind.u8 0, Value.int IntKind.u8 0, Value.int IntKind.u8 0, Value.int IntKind.u8 0, Value.int IntKind.u8 0, Value.int IntKind.u8 0, Value.int IntKind.u8 0, Value.int IntKind.u8 0, Value.int IntKind.u8 0, Value.int IntKind.u8 0, Value.int IntKind.u8 0, Value.int IntKind.u8 0, Value.int IntKind.u8 0, Value.int IntKind.u8 0, Value.int IntKind.u8 0, Value.int IntKind.u8 0, Value.int IntKind.u8 0, Value.int IntKind.u8 0, Value.int IntKind.u8 0] 5)) := ((Below.refl _ _).alloc (Nat.le_refl _) _).alloc (by simp) _
  generalize (w.alloc (.cells (arr 16 f) 36)).alloc (.cells #[Value.int IntKind.u8 0, Value.int IntKind.u8 0, Value.int IntKind.u8 0, Value.int IntKind.u8 0, Value.int IntKind.u8 0, Value.int IntKind.u8 0, Value.int IntKind.u8 0, Value.int IntKind.u8 0, Value.int IntKind.u8 0, Value.int IntKind.u8 0, Value.int IntKind.u8 0, Value.int IntKind.u8 0, Value.int IntKind.u8 0, Value.int IntKind.u8 0, Value.int IntKind.u8 0, Value.int IntKind.u8 0, Value.int IntKind.u8 0, Value.int IntKind.u8 0, Value.int IntKind.u8 0, Value.int IntKind.u8 0, Value.int IntKind.u8 0, Value.int IntKind.u8 0, Value.int IntKind.u8 0, Value.int IntKind.u8 0, Value.int IntKind.u8 0, Value.int IntKind.u8 0, Value.int IntKind.u8 0, Value.int IntKind.u8 0, Value.int IntKind.u8 0, Value.int IntKind.u8 0, Value.int IntKind.u8 0, Value.int IntKind.u8 0] 5) = W at R1 R2 O ⊢
  go_loopw [4] (fun i wr => ∃ k : Nat, k ≤ 32 ∧ i = .int .i64 k ∧ Row wr w.heap.size 36 16 f ∧ Byt wr (w.heap.size + 1) (rb f k) ∧ Below w.heap.size w wr) (fun i _ => 32 - (intOf i).toNat)
  case atStart => exact ⟨0, by omega, rfl, R1, R2, O⟩
  case round =>
    clear R1 R2 O
    obtain ⟨k, hk, rfl, R1, R2, O⟩ := hrel
    by_cases hlt : k < 32
    · have hc : k = 0 ∨ k = 1 ∨ k = 2 ∨ k = 3 ∨ k = 4 ∨ k = 5 ∨ k = 6 ∨ k = 7 ∨ k = 8 ∨ k = 9 ∨ k = 10 ∨ k = 11 ∨ k = 12 ∨ k = 13 ∨ k = 14 ∨ k = 15 ∨ k = 16 ∨ k = 17 ∨ k = 18 ∨ k = 19 ∨ k = 20 ∨ k = 21 ∨ k = 22 ∨ k = 23 ∨ k = 24 ∨ k = 25 ∨ k = 26 ∨ k = 27 ∨ k = 28 ∨ k = 29 ∨ k = 30 ∨ k = 31 := by omega
      clear hlt hk
      rcases hc with rfl | rfl | rfl | rfl | rfl | rfl | rfl | rfl | rfl | rfl | rfl | rfl | rfl | rfl | rfl | rfl | rfl | rfl | rfl | rfl | rfl | rfl | rfl | rfl | rfl | rfl | rfl | rfl | rfl | rfl | rfl | rfl
      · have c := R1.cell (i := 0) (by omega)
        obtain ⟨a0, a1⟩ := hf 0 (by omega)
        obtain ⟨v, d⟩ := R2.cell (i := 0) (by rw [rb_len]; omega)
        have e := R2.free 0
        have HV := hide (show by16 f 0 = f 0 % 256 by simp [by16])
        have RR := hide (R2.set 0 (by16 f 0))
        have R1' := hide (R1.other (a := ⟨w.heap.size + 1, 0, none⟩) (by simp) (.int .u8 (by16 f 0)))
        have O' := hide (O.setCell (p := ⟨w.heap.size + 1, 0, none⟩) (by simp) (.int .u8 (by16 f 0)))
        clear R1 R2 O
        go_wp2
        rw [← HV.out]
        first | exact ⟨⟨1, by omega, rfl, R1'.out, by rw [← rb_set]; exact RR.out, O'.out⟩, by simp [intOf]⟩ | (go_roundw; (case rel => exact ⟨1, by omega, rfl, R1'.out, by rw [← rb_set]; exact RR.out, O'.out⟩); (case measure => simp [intOf]))
      · have c := R1.cell (i := 0) (by omega)
        obtain ⟨a0, a1⟩ := hf 0 (by omega)
        obtain ⟨v, d⟩ := R2.cell (i := 1) (by rw [rb_len]; omega)
        have e := R2.free 1
        have HV := hide (show by16 f 1 = f 0 / 256 by rw [show by16 f 1 = f 0 / 256 % 256 by simp [by16]]; omega)
        have RR := hide (R2.set 1 (by16 f 1))
        have R1' := hide (R1.other (a := ⟨w.heap.size + 1, 1, none⟩) (by simp) (.int .u8 (by16 f 1)))
        have O' := hide (O.setCell (p := ⟨w.heap.size + 1, 1, none⟩) (by simp) (.int .u8 (by16 f 1)))
        clear R1 R2 O
        go_wp2
        rw [← HV.out]
        first | exact ⟨⟨2, by omega, rfl, R1'.out, by rw [← rb_set]; exact RR.out, O'.out⟩, by simp [intOf]⟩ | (go_roundw; (case rel => exact ⟨2, by omega, rfl, R1'.out, by rw [← rb_set]; exact RR.out, O'.out⟩); (case measure => simp [intOf]))
      · have c := R1.cell (i := 1) (by omega)
        obtain ⟨a0, a1⟩ := hf 1 (by omega)
        obtain ⟨v, d⟩ := R2.cell (i := 2) (by rw [rb_len]; omega)
        have e := R2.free 2
        have HV := hide (show by16 f 2 = f 1 % 256 by simp [by16])
        have RR := hide (R2.set 2 (by16 f 2))
        have R1' := hide (R1.other (a := ⟨w.heap.size + 1, 2, none⟩) (by simp) (.int .u8 (by16 f 2)))
        have O' := hide (O.setCell (p := ⟨w.heap.size + 1, 2, none⟩) (by simp) (.int .u8 (by16 f 2)))
        clear R1 R2 O
        go_wp2
        rw [← HV.out]
        first | exact ⟨⟨3, by omega, rfl, R1'.out, by rw [← rb_set]; exact RR.out, O'.out⟩, by simp [intOf]⟩ | (go_roundw; (case rel => exact ⟨3, by omega, rfl, R1'.out, by rw [← rb_set]; exact RR.out, O'.out⟩); (case measure => simp [intOf]))
      · have c := R1.cell (i := 1) (by omega)
        obtain ⟨a0, a1⟩ := hf 1 (by omega)
        obtain ⟨v, d⟩ := R2.cell (i := 3) (by rw [rb_len]; omega)
        have e := R2.free 3
        have HV := hide (show by16 f 3 = f 1 / 256 by rw [show by16 f 3 = f 1 / 256 % 256 by simp [by16]]; omega)
        have RR := hide (R2.set 3 (by16 f 3))
        have R1' := hide (R1.other (a := ⟨w.heap.size + 1, 3, none⟩) (by simp) (.int .u8 (by16 f 3)))
        have O' := hide (O.setCell (p := ⟨w.heap.size + 1, 3, none⟩) (by simp) (.int .u8 (by16 f 3)))
        clear R1 R2 O
        go_wp2
        rw [← HV.out]
        first | exact ⟨⟨4, by omega, rfl, R1'.out, by rw [← rb_set]; exact RR.out, O'.out⟩, by simp [intOf]⟩ | (go_roundw; (case rel => exact ⟨4, by omega, rfl, R1'.out, by rw [← rb_set]; exact RR.out, O'.out⟩); (case measure => simp [intOf]))
      · have c := R1.cell (i := 2) (by omega)
        obtain ⟨a0, a1⟩ := hf 2 (by omega)
        obtain ⟨v, d⟩ := R2.cell (i := 4) (by rw [rb_len]; omega)
        have e := R2.free 4
        have HV := hide (show by16 f 4 = f 2 % 256 by simp [by16])
        have RR := hide (R2.set 4 (by16 f 4))
        have R1' := hide (R1.other (a := ⟨w.heap.size + 1, 4, none⟩) (by simp) (.int .u8 (by16 f 4)))
        have O' := hide (O.setCell (p := ⟨w.heap.size + 1, 4, none⟩) (by simp) (.int .u8 (by16 f 4)))
        clear R1 R2 O
        go_wp2
        rw [← HV.out]
        first | exact ⟨⟨5, by omega, rfl, R1'.out, by rw [← rb_set]; exact RR.out, O'.out⟩, by simp [intOf]⟩ | (go_roundw; (case rel => exact ⟨5, by omega, rfl, R1'.out, by rw [← rb_set]; exact RR.out, O'.out⟩); (case measure => simp [intOf]))
      · have c := R1.cell (i := 2) (by omega)
        obtain ⟨a0, a1⟩ := hf 2 (by omega)
        obtain ⟨v, d⟩ := R2.cell (i := 5) (by rw [rb_len]; omega)
        have e := R2.free 5
        have HV := hide (show by16 f 5 = f 2 / 256 by rw [show by16 f 5 = f 2 / 256 % 256 by simp [by16]]; omega)
        have RR := hide (R2.set 5 (by16 f 5))
        have R1' := hide (R1.other (a := ⟨w.heap.size + 1, 5, none⟩) (by simp) (.int .u8 (by16 f 5)))
        have O' := hide (O.setCell (p := ⟨w.heap.size + 1, 5, none⟩) (by simp) (.int .u8 (by16 f 5)))
        clear R1 R2 O
        go_wp2
        rw [← HV.out]
        first | exact ⟨⟨6, by omega, rfl, R1'.out, by rw [← rb_set]; exact RR.out, O'.out⟩, by simp [intOf]⟩ | (go_roundw; (case rel => exact ⟨6, by omega, rfl, R1'.out, by rw [← rb_set]; exact RR.out, O'.out⟩); (case measure => simp [intOf]))
      · have c := R1.cell (i := 3) (by omega)
        obtain ⟨a0, a1⟩ := hf 3 (by omega)
        obtain ⟨v, d⟩ := R2.cell (i := 6) (by rw [rb_len]; omega)
        have e := R2.free 6
        have HV := hide (show by16 f 6 = f 3 % 256 by simp [by16])
        have RR := hide (R2.set 6 (by16 f 6))
        have R1' := hide (R1.other (a := ⟨w.heap.size + 1, 6, none⟩) (by simp) (.int .u8 (by16 f 6)))
        have O' := hide (O.setCell (p := ⟨w.heap.size + 1, 6, none⟩) (by simp) (.int .u8 (by16 f 6)))
        clear R1 R2 O
        go_wp2
        rw [← HV.out]
        first | exact ⟨⟨7, by omega, rfl, R1'.out, by rw [← rb_set]; exact RR.out, O'.out⟩, by simp [intOf]⟩ | (go_roundw; (case rel => exact ⟨7, by omega, rfl, R1'.out, by rw [← rb_set]; exact RR.out, O'.out⟩); (case measure => simp [intOf]))
      · have c := R1.cell (i := 3) (by omega)
        obtain ⟨a0, a1⟩ := hf 3 (by omega)
        obtain ⟨v, d⟩ := R2.cell (i := 7) (by rw [rb_len]; omega)
        have e := R2.free 7
        have HV := hide (show by16 f 7 = f 3 / 256 by rw [show by16 f 7 = f 3 / 256 % 256 by simp [by16]]; omega)
        have RR := hide (R2.set 7 (by16 f 7))
        have R1' := hide (R1.other (a := ⟨w.heap.size + 1, 7, none⟩) (by simp) (.int .u8 (by16 f 7)))
        have O' := hide (O.setCell (p := ⟨w.heap.size + 1, 7, none⟩) (by simp) (.int .u8 (by16 f 7)))
        clear R1 R2 O
        go_wp2
        rw [← HV.out]
        first | exact ⟨⟨8, by omega, rfl, R1'.out, by rw [← rb_set]; exact RR.out, O'.out⟩, by simp [intOf]⟩ | (go_roundw; (case rel => exact ⟨8, by omega, rfl, R1'.out, by rw [← rb_set]; exact RR.out, O'.out⟩); (case measure => simp [intOf]))
      · have c := R1.cell (i := 4) (by omega)
        obtain ⟨a0, a1⟩ := hf 4 (by omega)
        obtain ⟨v, d⟩ := R2.cell (i := 8) (by rw [rb_len]; omega)
        have e := R2.free 8
        have HV := hide (show by16 f 8 = f 4 % 256 by simp [by16])
        have RR := hide (R2.set 8 (by16 f 8))
        have R1' := hide (R1.other (a := ⟨w.heap.size + 1, 8, none⟩) (by simp) (.int .u8 (by16 f 8)))
        have O' := hide (O.setCell (p := ⟨w.heap.size + 1, 8, none⟩) (by simp) (.int .u8 (by16 f 8)))
        clear R1 R2 O
        go_wp2
        rw [← HV.out]
        first | exact ⟨⟨9, by omega, rfl, R1'.out, by rw [← rb_set]; exact RR.out, O'.out⟩, by simp [intOf]⟩ | (go_roundw; (case rel => exact ⟨9, by omega, rfl, R1'.out, by rw [← rb_set]; exact RR.out, O'.out⟩); (case measure => simp [intOf]))
      · have c := R1.cell (i := 4) (by omega)
        obtain ⟨a0, a1⟩ := hf 4 (by omega)
        obtain ⟨v, d⟩ := R2.cell (i := 9) (by rw [rb_len]; omega)
        have e := R2.free 9
        have HV := hide (show by16 f 9 = f 4 / 256 by rw [show by16 f 9 = f 4 / 256 % 256 by simp [by16]]; omega)
        have RR := hide (R2.set 9 (by16 f 9))
        have R1' := hide (R1.other (a := ⟨w.heap.size + 1, 9, none⟩) (by simp) (.int .u8 (by16 f 9)))
        have O' := hide (O.setCell (p := ⟨w.heap.size + 1, 9, none⟩) (by simp) (.int .u8 (by16 f 9)))
        clear R1 R2 O
        go_wp2
        rw [← HV.out]
        first | exact ⟨⟨10, by omega, rfl, R1'.out, by rw [← rb_set]; exact RR.out, O'.out⟩, by simp [intOf]⟩ | (go_roundw; (case rel => exact ⟨10, by omega, rfl, R1'.out, by rw [← rb_set]; exact RR.out, O'.out⟩); (case measure => simp [intOf]))
      · have c := R1.cell (i := 5) (by omega)
        obtain ⟨a0, a1⟩ := hf 5 (by omega)
        obtain ⟨v, d⟩ := R2.cell (i := 10) (by rw [rb_len]; omega)
        have e := R2.free 10
        have HV := hide (show by16 f 10 = f 5 % 256 by simp [by16])
        have RR := hide (R2.set 10 (by16 f 10))
        have R1' := hide (R1.other (a := ⟨w.heap.size + 1, 10, none⟩) (by simp) (.int .u8 (by16 f 10)))
        have O' := hide (O.setCell (p := ⟨w.heap.size + 1, 10, none⟩) (by simp) (.int .u8 (by16 f 10)))
        clear R1 R2 O
        go_wp2
        rw [← HV.out]
        first | exact ⟨⟨11, by omega, rfl, R1'.out, by rw [← rb_set]; exact RR.out, O'.out⟩, by simp [intOf]⟩ | (go_roundw; (case rel => exact ⟨11, by omega, rfl, R1'.out, by rw [← rb_set]; exact RR.out, O'.out⟩); (case measure => simp [intOf]))
      · have c := R1.cell (i := 5) (by omega)
        obtain ⟨a0, a1⟩ := hf 5 (by omega)
        obtain ⟨v, d⟩ := R2.cell (i := 11) (by rw [rb_len]; omega)
        have e := R2.free 11
        have HV := hide (show by16 f 11 = f 5 / 256 by rw [show by16 f 11 = f 5 / 256 % 256 by simp [by16]]; omega)
        have RR := hide (R2.set 11 (by16 f 11))
        have R1' := hide (R1.other (a := ⟨w.heap.size + 1, 11, none⟩) (by simp) (.int .u8 (by16 f 11)))
        have O' := hide (O.setCell (p := ⟨w.heap.size + 1, 11, none⟩) (by simp) (.int .u8 (by16 f 11)))
        clear R1 R2 O
        go_wp2
        rw [← HV.out]
        first | exact ⟨⟨12, by omega, rfl, R1'.out, by rw [← rb_set]; exact RR.out, O'.out⟩, by simp [intOf]⟩ | (go_roundw; (case rel => exact ⟨12, by omega, rfl, R1'.out, by rw [← rb_set]; exact RR.out, O'.out⟩); (case measure => simp [intOf]))
      · have c := R1.cell (i := 6) (by omega)
        obtain ⟨a0, a1⟩ := hf 6 (by omega)
        obtain ⟨v, d⟩ := R2.cell (i := 12) (by rw [rb_len]; omega)
        have e := R2.free 12
        have HV := hide (show by16 f 12 = f 6 % 256 by simp [by16])
        have RR := hide (R2.set 12 (by16 f 12))
        have R1' := hide (R1.other (a := ⟨w.heap.size + 1, 12, none⟩) (by simp) (.int .u8 (by16 f 12)))
        have O' := hide (O.setCell (p := ⟨w.heap.size + 1, 12, none⟩) (by simp) (.int .u8 (by16 f 12)))
        clear R1 R2 O
        go_wp2
        rw [← HV.out]
        first | exact ⟨⟨13, by omega, rfl, R1'.out, by rw [← rb_set]; exact RR.out, O'.out⟩, by simp [intOf]⟩ | (go_roundw; (case rel => exact ⟨13, by omega, rfl, R1'.out, by rw [← rb_set]; exact RR.out, O'.out⟩); (case measure => simp [intOf]))
      · have c := R1.cell (i := 6) (by omega)
        obtain ⟨a0, a1⟩ := hf 6 (by omega)
        obtain ⟨v, d⟩ := R2.cell (i := 13) (by rw [rb_len]; omega)
        have e := R2.free 13
        have HV := hide (show by16 f 13 = f 6 / 256 by rw [show by16 f 13 = f 6 / 256 % 256 by simp [by16]]; omega)
        have RR := hide (R2.set 13 (by16 f 13))
        have R1' := hide (R1.other (a := ⟨w.heap.size + 1, 13, none⟩) (by simp) (.int .u8 (by16 f 13)))
        have O' := hide (O.setCell (p := ⟨w.heap.size + 1, 13, none⟩) (by simp) (.int .u8 (by16 f 13)))
        clear R1 R2 O
        go_wp2
        rw [← HV.out]
        first | exact ⟨⟨14, by omega, rfl, R1'.out, by rw [← rb_set]; exact RR.out, O'.out⟩, by simp [intOf]⟩ | (go_roundw; (case rel => exact ⟨14, by omega, rfl, R1'.out, by rw [← rb_set]; exact RR.out, O'.out⟩); (case measure => simp [intOf]))
      · have c := R1.cell (i := 7) (by omega)
        obtain ⟨a0, a1⟩ := hf 7 (by omega)
        obtain ⟨v, d⟩ := R2.cell (i := 14) (by rw [rb_len]; omega)
        have e := R2.free 14
        have HV := hide (show by16 f 14 = f 7 % 256 by simp [by16])
        have RR := hide (R2.set 14 (by16 f 14))
        have R1' := hide (R1.other (a := ⟨w.heap.size + 1, 14, none⟩) (by simp) (.int .u8 (by16 f 14)))
        have O' := hide (O.setCell (p := ⟨w.heap.size + 1, 14, none⟩) (by simp) (.int .u8 (by16 f 14)))
        clear R1 R2 O
        go_wp2
        rw [← HV.out]
        first | exact ⟨⟨15, by omega, rfl, R1'.out, by rw [← rb_set]; exact RR.out, O'.out⟩, by simp [intOf]⟩ | (go_roundw; (case rel => exact ⟨15, by omega, rfl, R1'.out, by rw [← rb_set]; exact RR.out, O'.out⟩); (case measure => simp [intOf]))
      · have c := R1.cell (i := 7) (by omega)
        obtain ⟨a0, a1⟩ := hf 7 (by omega)
        obtain ⟨v, d⟩ := R2.cell (i := 15) (by rw [rb_len]; omega)
        have e := R2.free 15
        have HV := hide (show by16 f 15 = f 7 / 256 by rw [show by16 f 15 = f 7 / 256 % 256 by simp [by16]]; omega)
        have RR := hide (R2.set 15 (by16 f 15))
        have R1' := hide (R1.other (a := ⟨w.heap.size + 1, 15, none⟩) (by simp) (.int .u8 (by16 f 15)))
        have O' := hide (O.setCell (p := ⟨w.heap.size + 1, 15, none⟩) (by simp) (.int .u8 (by16 f 15)))
        clear R1 R2 O
        go_wp2
        rw [← HV.out]
        first | exact ⟨⟨16, by omega, rfl, R1'.out, by rw [← rb_set]; exact RR.out, O'.out⟩, by simp [intOf]⟩ | (go_roundw; (case rel => exact ⟨16, by omega, rfl, R1'.out, by rw [← rb_set]; exact RR.out, O'.out⟩); (case measure => simp [intOf]))
      · have c := R1.cell (i := 8) (by omega)
        obtain ⟨a0, a1⟩ := hf 8 (by omega)
        obtain ⟨v, d⟩ := R2.cell (i := 16) (by rw [rb_len]; omega)
        have e := R2.free 16
        have HV := hide (show by16 f 16 = f 8 % 256 by simp [by16])
        have RR := hide (R2.set 16 (by16 f 16))
        have R1' := hide (R1.other (a := ⟨w.heap.size + 1, 16, none⟩) (by simp) (.int .u8 (by16 f 16)))
        have O' := hide (O.setCell (p := ⟨w.heap.size + 1, 16, none⟩) (by simp) (.int .u8 (by16 f 16)))
        clear R1 R2 O
        go_wp2
        rw [← HV.out]
        first | exact ⟨⟨17, by omega, rfl, R1'.out, by rw [← rb_set]; exact RR.out, O'.out⟩, by simp [intOf]⟩ | (go_roundw; (case rel => exact ⟨17, by omega, rfl, R1'.out, by rw [← rb_set]; exact RR.out, O'.out⟩); (case measure => simp [intOf]))
      · have c := R1.cell (i := 8) (by omega)
        obtain ⟨a0, a1⟩ := hf 8 (by omega)
        obtain ⟨v, d⟩ := R2.cell (i := 17) (by rw [rb_len]; omega)
        have e := R2.free 17
        have HV := hide (show by16 f 17 = f 8 / 256 by rw [show by16 f 17 = f 8 / 256 % 256 by simp [by16]]; omega)
        have RR := hide (R2.set 17 (by16 f 17))
        have R1' := hide (R1.other (a := ⟨w.heap.size + 1, 17, none⟩) (by simp) (.int .u8 (by16 f 17)))
        have O' := hide (O.setCell (p := ⟨w.heap.size + 1, 17, none⟩) (by simp) (.int .u8 (by16 f 17)))
        clear R1 R2 O
        go_wp2
        rw [← HV.out]
        first | exact ⟨⟨18, by omega, rfl, R1'.out, by rw [← rb_set]; exact RR.out, O'.out⟩, by simp [intOf]⟩ | (go_roundw; (case rel => exact ⟨18, by omega, rfl, R1'.out, by rw [← rb_set]; exact RR.out, O'.out⟩); (case measure => simp [intOf]))
      · have c := R1.cell (i := 9) (by omega)
        obtain ⟨a0, a1⟩ := hf 9 (by omega)
        obtain ⟨v, d⟩ := R2.cell (i := 18) (by rw [rb_len]; omega)
        have e := R2.free 18
        have HV := hide (show by16 f 18 = f 9 % 256 by simp [by16])
        have RR := hide (R2.set 18 (by16 f 18))
        have R1' := hide (R1.other (a := ⟨w.heap.size + 1, 18, none⟩) (by simp) (.int .u8 (by16 f 18)))
        have O' := hide (O.setCell (p := ⟨w.heap.size + 1, 18, none⟩) (by simp) (.int .u8 (by16 f 18)))
        clear R1 R2 O
        go_wp2
        rw [← HV.out]
        first | exact ⟨⟨19, by omega, rfl, R1'.out, by rw [← rb_set]; exact RR.out, O'.out⟩, by simp [intOf]⟩ | (go_roundw; (case rel => exact ⟨19, by omega, rfl, R1'.out, by rw [← rb_set]; exact RR.out, O'.out⟩); (case measure => simp [intOf]))
      · have c := R1.cell (i := 9) (by omega)
        obtain ⟨a0, a1⟩ := hf 9 (by omega)
        obtain ⟨v, d⟩ := R2.cell (i := 19) (by rw [rb_len]; omega)
        have e := R2.free 19
        have HV := hide (show by16 f 19 = f 9 / 256 by rw [show by16 f 19 = f 9 / 256 % 256 by simp [by16]]; omega)
        have RR := hide (R2.set 19 (by16 f 19))
        have R1' := hide (R1.other (a := ⟨w.heap.size + 1, 19, none⟩) (by simp) (.int .u8 (by16 f 19)))
        have O' := hide (O.setCell (p := ⟨w.heap.size + 1, 19, none⟩) (by simp) (.int .u8 (by16 f 19)))
        clear R1 R2 O
        go_wp2
        rw [← HV.out]
        first | exact ⟨⟨20, by omega, rfl, R1'.out, by rw [← rb_set]; exact RR.out, O'.out⟩, by simp [intOf]⟩ | (go_roundw; (case rel => exact ⟨20, by omega, rfl, R1'.out, by rw [← rb_set]; exact RR.out, O'.out⟩); (case measure => simp [intOf]))
      · have c := R1.cell (i := 10) (by omega)
        obtain ⟨a0, a1⟩ := hf 10 (by omega)
        obtain ⟨v, d⟩ := R2.cell (i := 20) (by rw [rb_len]; omega)
        have e := R2.free 20
        have HV := hide (show by16 f 20 = f 10 % 256 by simp [by16])
        have RR := hide (R2.set 20 (by16 f 20))
        have R1' := hide (R1.other (a := ⟨w.heap.size + 1, 20, none⟩) (by simp) (.int .u8 (by16 f 20)))
        have O' := hide (O.setCell (p := ⟨w.heap.size + 1, 20, none⟩) (by simp) (.int .u8 (by16 f 20)))
        clear R1 R2 O
        go_wp2
        rw [← HV.out]
        first | exact ⟨⟨21, by omega, rfl, R1'.out, by rw [← rb_set]; exact RR.out, O'.out⟩, by simp [intOf]⟩ | (go_roundw; (case rel => exact ⟨21, by omega, rfl, R1'.out, by rw [← rb_set]; exact RR.out, O'.out⟩); (case measure => simp [intOf]))
      · have c := R1.cell (i := 10) (by omega)
        obtain ⟨a0, a1⟩ := hf 10 (by omega)
        obtain ⟨v, d⟩ := R2.cell (i := 21) (by rw [rb_len]; omega)
        have e := R2.free 21
        have HV := hide (show by16 f 21 = f 10 / 256 by rw [show by16 f 21 = f 10 / 256 % 256 by simp [by16]]; omega)
        have RR := hide (R2.set 21 (by16 f 21))
        have R1' := hide (R1.other (a := ⟨w.heap.size + 1, 21, none⟩) (by simp) (.int .u8 (by16 f 21)))
        have O' := hide (O.setCell (p := ⟨w.heap.size + 1, 21, none⟩) (by simp) (.int .u8 (by16 f 21)))
        clear R1 R2 O
        go_wp2
        rw [← HV.out]
        first | exact ⟨⟨22, by omega, rfl, R1'.out, by rw [← rb_set]; exact RR.out, O'.out⟩, by simp [intOf]⟩ | (go_roundw; (case rel => exact ⟨22, by omega, rfl, R1'.out, by rw [← rb_set]; exact RR.out, O'.out⟩); (case measure => simp [intOf]))
      · have c := R1.cell (i := 11) (by omega)
        obtain ⟨a0, a1⟩ := hf 11 (by omega)
        obtain ⟨v, d⟩ := R2.cell (i := 22) (by rw [rb_len]; omega)
        have e := R2.free 22
        have HV := hide (show by16 f 22 = f 11 % 256 by simp [by16])
        have RR := hide (R2.set 22 (by16 f 22))
        have R1' := hide (R1.other (a := ⟨w.heap.size + 1, 22, none⟩) (by simp) (.int .u8 (by16 f 22)))
        have O' := hide (O.setCell (p := ⟨w.heap.size + 1, 22, none⟩) (by simp) (.int .u8 (by16 f 22)))
        clear R1 R2 O
        go_wp2
        rw [← HV.out]
        first | exact ⟨⟨23, by omega, rfl, R1'.out, by rw [← rb_set]; exact RR.out, O'.out⟩, by simp [intOf]⟩ | (go_roundw; (case rel => exact ⟨23, by omega, rfl, R1'.out, by rw [← rb_set]; exact RR.out, O'.out⟩); (case measure => simp [intOf]))
      · have c := R1.cell (i := 11) (by omega)
        obtain ⟨a0, a1⟩ := hf 11 (by omega)
        obtain ⟨v, d⟩ := R2.cell (i := 23) (by rw [rb_len]; omega)
        have e := R2.free 23
        have HV := hide (show by16 f 23 = f 11 / 256 by rw [show by16 f 23 = f 11 / 256 % 256 by simp [by16]]; omega)
        have RR := hide (R2.set 23 (by16 f 23))
        have R1' := hide (R1.other (a := ⟨w.heap.size + 1, 23, none⟩) (by simp) (.int .u8 (by16 f 23)))
        have O' := hide (O.setCell (p := ⟨w.heap.size + 1, 23, none⟩) (by simp) (.int .u8 (by16 f 23)))
        clear R1 R2 O
        go_wp2
        rw [← HV.out]
        first | exact ⟨⟨24, by omega, rfl, R1'.out, by rw [← rb_set]; exact RR.out, O'.out⟩, by simp [intOf]⟩ | (go_roundw; (case rel => exact ⟨24, by omega, rfl, R1'.out, by rw [← rb_set]; exact RR.out, O'.out⟩); (case measure => simp [intOf]))
      · have c := R1.cell (i := 12) (by omega)
        obtain ⟨a0, a1⟩ := hf 12 (by omega)
        obtain ⟨v, d⟩ := R2.cell (i := 24) (by rw [rb_len]; omega)
        have e := R2.free 24
        have HV := hide (show by16 f 24 = f 12 % 256 by simp [by16])
        have RR := hide (R2.set 24 (by16 f 24))
        have R1' := hide (R1.other (a := ⟨w.heap.size + 1, 24, none⟩) (by simp) (.int .u8 (by16 f 24)))
        have O' := hide (O.setCell (p := ⟨w.heap.size + 1, 24, none⟩) (by simp) (.int .u8 (by16 f 24)))
        clear R1 R2 O
        go_wp2
        rw [← HV.out]
        first | exact ⟨⟨25, by omega, rfl, R1'.out, by rw [← rb_set]; exact RR.out, O'.out⟩, by simp [intOf]⟩ | (go_roundw; (case rel => exact ⟨25, by omega, rfl, R1'.out, by rw [← rb_set]; exact RR.out, O'.out⟩); (case measure => simp [intOf]))
      · have c := R1.cell (i := 12) (by omega)
        obtain ⟨a0, a1⟩ := hf 12 (by omega)
        obtain ⟨v, d⟩ := R2.cell (i := 25) (by rw [rb_len]; omega)
        have e := R2.free 25
        have HV := hide (show by16 f 25 = f 12 / 256 by rw [show by16 f 25 = f 12 / 256 % 256 by simp [by16]]; omega)
        have RR := hide (R2.set 25 (by16 f 25))
        have R1' := hide (R1.other (a := ⟨w.heap.size + 1, 25, none⟩) (by simp) (.int .u8 (by16 f 25)))
        have O' := hide (O.setCell (p := ⟨w.heap.size + 1, 25, none⟩) (by simp) (.int .u8 (by16 f 25)))
        clear R1 R2 O
        go_wp2
        rw [← HV.out]
        first | exact ⟨⟨26, by omega, rfl, R1'.out, by rw [← rb_set]; exact RR.out, O'.out⟩, by simp [intOf]⟩ | (go_roundw; (case rel => exact ⟨26, by omega, rfl, R1'.out, by rw [← rb_set]; exact RR.out, O'.out⟩); (case measure => simp [intOf]))
      · have c := R1.cell (i := 13) (by omega)
        obtain ⟨a0, a1⟩ := hf 13 (by omega)
        obtain ⟨v, d⟩ := R2.cell (i := 26) (by rw [rb_len]; omega)
        have e := R2.free 26
        have HV := hide (show by16 f 26 = f 13 % 256 by simp [by16])
        have RR := hide (R2.set 26 (by16 f 26))
        have R1' := hide (R1.other (a := ⟨w.heap.size + 1, 26, none⟩) (by simp) (.int .u8 (by16 f 26)))
        have O' := hide (O.setCell (p := ⟨w.heap.size + 1, 26, none⟩) (by simp) (.int .u8 (by16 f 26)))
        clear R1 R2 O
        go_wp2
        rw [← HV.out]
        first | exact ⟨⟨27, by omega, rfl, R1'.out, by rw [← rb_set]; exact RR.out, O'.out⟩, by simp [intOf]⟩ | (go_roundw; (case rel => exact ⟨27, by omega, rfl, R1'.out, by rw [← rb_set]; exact RR.out, O'.out⟩); (case measure => simp [intOf]))
      · have c := R1.cell (i := 13) (by omega)
        obtain ⟨a0, a1⟩ := hf 13 (by omega)
        obtain ⟨v, d⟩ := R2.cell (i := 27) (by rw [rb_len]; omega)
        have e := R2.free 27
        have HV := hide (show by16 f 27 = f 13 / 256 by rw [show by16 f 27 = f 13 / 256 % 256 by simp [by16]]; omega)
        have RR := hide (R2.set 27 (by16 f 27))
        have R1' := hide (R1.other (a := ⟨w.heap.size + 1, 27, none⟩) (by simp) (.int .u8 (by16 f 27)))
        have O' := hide (O.setCell (p := ⟨w.heap.size + 1, 27, none⟩) (by simp) (.int .u8 (by16 f 27)))
        clear R1 R2 O
        go_wp2
        rw [← HV.out]
        first | exact ⟨⟨28, by omega, rfl, R1'.out, by rw [← rb_set]; exact RR.out, O'.out⟩, by simp [intOf]⟩ | (go_roundw; (case rel => exact ⟨28, by omega, rfl, R1'.out, by rw [← rb_set]; exact RR.out, O'.out⟩); (case measure => simp [intOf]))
      · have c := R1.cell (i := 14) (by omega)
        obtain ⟨a0, a1⟩ := hf 14 (by omega)
        obtain ⟨v, d⟩ := R2.cell (i := 28) (by rw [rb_len]; omega)
        have e := R2.free 28
        have HV := hide (show by16 f 28 = f 14 % 256 by simp [by16])
        have RR := hide (R2.set 28 (by16 f 28))
        have R1' := hide (R1.other (a := ⟨w.heap.size + 1, 28, none⟩) (by simp) (.int .u8 (by16 f 28)))
        have O' := hide (O.setCell (p := ⟨w.heap.size + 1, 28, none⟩) (by simp) (.int .u8 (by16 f 28)))
        clear R1 R2 O
        go_wp2
        rw [← HV.out]
        first | exact ⟨⟨29, by omega, rfl, R1'.out, by rw [← rb_set]; exact RR.out, O'.out⟩, by simp [intOf]⟩ | (go_roundw; (case rel => exact ⟨29, by omega, rfl, R1'.out, by rw [← rb_set]; exact RR.out, O'.out⟩); (case measure => simp [intOf]))
      · have c := R1.cell (i := 14) (by omega)
        obtain ⟨a0, a1⟩ := hf 14 (by omega)
        obtain ⟨v, d⟩ := R2.cell (i := 29) (by rw [rb_len]; omega)
        have e := R2.free 29
        have HV := hide (show by16 f 29 = f 14 / 256 by rw [show by16 f 29 = f 14 / 256 % 256 by simp [by16]]; omega)
        have RR := hide (R2.set 29 (by16 f 29))
        have R1' := hide (R1.other (a := ⟨w.heap.size + 1, 29, none⟩) (by simp) (.int .u8 (by16 f 29)))
        have O' := hide (O.setCell (p := ⟨w.heap.size + 1, 29, none⟩) (by simp) (.int .u8 (by16 f 29)))
        clear R1 R2 O
        go_wp2
        rw [← HV.out]
        first | exact ⟨⟨30, by omega, rfl, R1'.out, by rw [← rb_set]; exact RR.out, O'.out⟩, by simp [intOf]⟩ | (go_roundw; (case rel => exact ⟨30, by omega, rfl, R1'.out, by rw [← rb_set]; exact RR.out, O'.out⟩); (case measure => simp [intOf]))
      · have c := R1.cell (i := 15) (by omega)
        obtain ⟨a0, a1⟩ := hf 15 (by omega)
        obtain ⟨v, d⟩ := R2.cell (i := 30) (by rw [rb_len]; omega)
        have e := R2.free 30
        have HV := hide (show by16 f 30 = f 15 % 256 by simp [by16])
        have RR := hide (R2.set 30 (by16 f 30))
        have R1' := hide (R1.other (a := ⟨w.heap.size + 1, 30, none⟩) (by simp) (.int .u8 (by16 f 30)))
        have O' := hide (O.setCell (p := ⟨w.heap.size + 1, 30, none⟩) (by simp) (.int .u8 (by16 f 30)))
        clear R1 R2 O
        go_wp2
        rw [← HV.out]
        first | exact ⟨⟨31, by omega, rfl, R1'.out, by rw [← rb_set]; exact RR.out, O'.out⟩, by simp [intOf]⟩ | (go_roundw; (case rel => exact ⟨31, by omega, rfl, R1'.out, by rw [← rb_set]; exact RR.out, O'.out⟩); (case measure => simp [intOf]))
      · have c := R1.cell (i := 15) (by omega)
        obtain ⟨a0, a1⟩ := hf 15 (by omega)
        obtain ⟨v, d⟩ := R2.cell (i := 31) (by rw [rb_len]; omega)
        have e := R2.free 31
        have HV := hide (show by16 f 31 = f 15 / 256 by rw [show by16 f 31 = f 15 / 256 % 256 by simp [by16]]; omega)
        have RR := hide (R2.set 31 (by16 f 31))
        have R1' := hide (R1.other (a := ⟨w.heap.size + 1, 31, none⟩) (by simp) (.int .u8 (by16 f 31)))
        have O' := hide (O.setCell (p := ⟨w.heap.size + 1, 31, none⟩) (by simp) (.int .u8 (by16 f 31)))
        clear R1 R2 O
        go_wp2
        rw [← HV.out]
        first | exact ⟨⟨32, by omega, rfl, R1'.out, by rw [← rb_set]; exact RR.out, O'.out⟩, by simp [intOf]⟩ | (go_roundw; (case rel => exact ⟨32, by omega, rfl, R1'.out, by rw [← rb_set]; exact RR.out, O'.out⟩); (case measure => simp [intOf]))
    · have e : k = 32 := by omega
      subst e
      have hcv := conv_bytes wr (w.heap.size + 1) 5 (rb f 32) 32 32 (0, 0) R2 (rb_len f 32)
      generalize hB : bs (rb f 32) = B at hcv
      have HB := hide hB
      clear hB R1 R2
      go_wp2
      go_ret
      exact ⟨by rw [HB.out]; rfl, O⟩

end Go.Proofs.YtmhfmhmpoobmlaaGreatDoor.Ord

/- When an answer is the document's; the document's order and twice. -/
namespace Go.Proofs.YtmhfmhmpoobmlaaGreatDoor.Ord
open Go.RowKit

set_option maxHeartbeats 2000000 in
theorem digs4 {a b c d : Int} (ha : 0 ≤ a ∧ a < 65536) (hb : 0 ≤ b ∧ b < 65536) (hc : 0 ≤ c ∧ c < 65536) (_hd : 0 ≤ d ∧ d < 65536) :
    digs (a + 65536 * b + 4294967296 * c + 281474976710656 * d) = [a % 256, a / 256 % 256, b % 256, b / 256 % 256, c % 256, c / 256 % 256, d % 256, d / 256 % 256] := by
  unfold digs
  have h1 : (a + 65536 * b + 4294967296 * c + 281474976710656 * d) % 256 = a % 256 := by omega
  have h2 : (a + 65536 * b + 4294967296 * c + 281474976710656 * d) / 256 % 256 = a / 256 % 256 := by omega
  have h3 : (a + 65536 * b + 4294967296 * c + 281474976710656 * d) / 65536 % 256 = b % 256 := by omega
  have h4 : (a + 65536 * b + 4294967296 * c + 281474976710656 * d) / 16777216 % 256 = b / 256 % 256 := by omega
  have h5 : (a + 65536 * b + 4294967296 * c + 281474976710656 * d) / 4294967296 % 256 = c % 256 := by omega
  have h6 : (a + 65536 * b + 4294967296 * c + 281474976710656 * d) / 1099511627776 % 256 = c / 256 % 256 := by omega
  have h7 : (a + 65536 * b + 4294967296 * c + 281474976710656 * d) / 281474976710656 % 256 = d % 256 := by omega
  have h8 : (a + 65536 * b + 4294967296 * c + 281474976710656 * d) / 72057594037927936 % 256 = d / 256 % 256 := by omega
  rw [h1, h2, h3, h4, h5, h6, h7, h8]

theorem S16 (f : Nat → Int) : S f 16 = f 0 + f 1 * 65536 + f 2 * 4294967296 + f 3 * 281474976710656 + f 4 * 18446744073709551616 + f 5 * 1208925819614629174706176 + f 6 * 79228162514264337593543950336 + f 7 * 5192296858534827628530496329220096 + f 8 * 340282366920938463463374607431768211456 + f 9 * 22300745198530623141535718272648361505980416 + f 10 * 1461501637330902918203684832716283019655932542976 + f 11 * 95780971304118053647396689196894323976171195136475136 + f 12 * 6277101735386680763835789423207666416102355444464034512896 + f 13 * 411376139330301510538742295639337626245683966408394965837152256 + f 14 * 26959946667150639794667015087019630673637144422540572481103610249216 + f 15 * 1766847064778384329583297500742918515827483896875618958121606201292619776 := by
  simp [S]

set_option maxHeartbeats 2000000 in
theorem lebytes_S {f : Nat → Int} (hf : Dig f 16) : lebytes (S f 16) = bs (rb f 32) := by
  have h0 := hf 0 (by omega)
  have h1 := hf 1 (by omega)
  have h2 := hf 2 (by omega)
  have h3 := hf 3 (by omega)
  have h4 := hf 4 (by omega)
  have h5 := hf 5 (by omega)
  have h6 := hf 6 (by omega)
  have h7 := hf 7 (by omega)
  have h8 := hf 8 (by omega)
  have h9 := hf 9 (by omega)
  have h10 := hf 10 (by omega)
  have h11 := hf 11 (by omega)
  have h12 := hf 12 (by omega)
  have h13 := hf 13 (by omega)
  have h14 := hf 14 (by omega)
  have h15 := hf 15 (by omega)
  have e := S16 f
  have w0 : S f 16 % 18446744073709551616 = f 0 + 65536 * f 1 + 4294967296 * f 2 + 281474976710656 * f 3 := by rw [e]; omega
  have w1 : S f 16 / 18446744073709551616 % 18446744073709551616 = f 4 + 65536 * f 5 + 4294967296 * f 6 + 281474976710656 * f 7 := by rw [e]; omega
  have w2 : S f 16 / 340282366920938463463374607431768211456 % 18446744073709551616 = f 8 + 65536 * f 9 + 4294967296 * f 10 + 281474976710656 * f 11 := by rw [e]; omega
  have w3 : S f 16 / 6277101735386680763835789423207666416102355444464034512896 % 18446744073709551616 = f 12 + 65536 * f 13 + 4294967296 * f 14 + 281474976710656 * f 15 := by rw [e]; omega
  unfold lebytes
  rw [w0, w1, w2, w3, digs4 h0 h1 h2 h3, digs4 h4 h5 h6 h7, digs4 h8 h9 h10 h11, digs4 h12 h13 h14 h15]
  congr 1
  simp [rb, by16, List.range, List.range.loop]

/-- The digits of the order. -/
def oF : Nat → Int := fun i => [54253, 23797, 25370, 22546, 40150, 41719, 63966, 5342, 0, 0, 0, 0, 0, 0, 0, 4096].getD i 0
theorem oF_S : S oF 16 = Lm := by decide +kernel
theorem oF_dig : Dig oF 16 := by
  have h : ∀ i : Fin 16, 0 ≤ oF i ∧ oF i < 65536 := by decide
  exact fun i hi => h ⟨i, hi⟩

set_option maxRecDepth 100000 in
set_option maxHeartbeats 1000000 in
theorem order_any (w : World) : Calls Tryz.prog 15 #[] w fun r w' => r = .returned (.agg (arr 16 oF)) ∧ Below w.heap.size w w' := by
  go_enter Tryz.func15, Tryz.ntmps15
  go_wp2
  exact bodyPost_ret (v := .agg (arr 16 oF)) (by simp [results, Tryz.results15, go_sem]; rfl) rfl ⟨rfl, (Below.refl _ _).alloc (Nat.le_refl _) _⟩

end Go.Proofs.YtmhfmhmpoobmlaaGreatDoor.Ord

/- The contract of the document's twice. -/
namespace Go.Proofs.YtmhfmhmpoobmlaaGreatDoor.Ord
open Go.RowKit

theorem dSL {N : Int} (h0 : 0 ≤ N) (h1 : N < 65536 ^ 16) : S (d16 N) 16 = N := by rw [d16_S _ h0, Int.emod_eq_of_lt h0 h1]

end Go.Proofs.YtmhfmhmpoobmlaaGreatDoor.Ord

/- The contract of low. -/
namespace Go.Proofs.YtmhfmhmpoobmlaaGreatDoor.Ord
open Go.RowKit
set_option maxRecDepth 100000 in
set_option maxHeartbeats 1000000 in
theorem low_any (f : Nat → Int) (w : World) :
    Calls Tryz.prog 83 #[.agg (arr 8 f)] w fun x w' => x = .returned (.agg (arr 4 f)) ∧ Below w.heap.size w w' := by
  have R1 : Row ((w.alloc (.cells (arr 8 f) 96)).alloc (.cells #[Value.int IntKind.u64 0, Value.int IntKind.u64 0, Value.int IntKind.u64 0, Value.int IntKind.u64 0] 42)) w.heap.size 96 8 f := (Row.new w 96 8 f).alloc _
  have c0 := R1.cell (i := 0) (by omega)
  have c1 := R1.cell (i := 1) (by omega)
  have c2 := R1.cell (i := 2) (by omega)
  have c3 := R1.cell (i := 3) (by omega)
  clear R1
  have har : ∀ w', (Instr.arrayAt 42 (.slice (some ⟨w.heap.size, 0, none⟩) 4 8)).run Tryz.prog w' = .ok (.pointer (some ⟨w.heap.size, 0, none⟩)) w' := fun _ => by kernel_rfl
  go_enter Tryz.func83, Tryz.ntmps83
  go_wp2
  exact bodyPost_ret (v := .agg (arr 4 f)) (by simp [results, Tryz.results83, go_sem]; rfl) rfl ⟨rfl, ((Below.refl _ _).alloc (Nat.le_refl _) _).alloc (by simp) _⟩
end Go.Proofs.YtmhfmhmpoobmlaaGreatDoor.Ord

/- The contracts of wordsOf, number and Of: which number 32 bytes are. -/
namespace Go.Proofs.YtmhfmhmpoobmlaaGreatDoor.Ord
open Go.RowKit

/-- Byte i of a string, as a number. -/
def bt (s : ByteArray) (i : Nat) : Int := ((s.data[i]?.getD 0).toNat : Int)

theorem bt_bd (s : ByteArray) (i : Nat) : 0 ≤ bt s i ∧ bt s i < 256 := by
  unfold bt
  have := (s.data[i]?.getD 0).toNat_lt
  omega

theorem bt_at (s : ByteArray) (i : Nat) (h : i < s.size) : ((s[i]'h).toNat : Int) = bt s i := by
  unfold bt
  have h' : i < s.data.size := h
  rw [Array.getElem?_eq_getElem h']
  rfl

/-- The first r bytes of word j. -/
def sw (s : ByteArray) (j : Nat) : Nat → Int
  | 0 => 0
  | r + 1 => sw s j r + bt s (8 * j + r) * 256 ^ r

theorem sw_bd (s : ByteArray) (j r : Nat) : 0 ≤ sw s j r ∧ sw s j r < 256 ^ r := by
  induction r with
  | zero => simp [sw]
  | succ r ih =>
    have hb := bt_bd s (8 * j + r)
    have hp : (0 : Int) < 256 ^ r := Int.pow_pos (by decide)
    have h1 : bt s (8 * j + r) * 256 ^ r ≤ 255 * 256 ^ r := Int.mul_le_mul_of_nonneg_right (by omega) (by omega)
    have h2 : 0 ≤ bt s (8 * j + r) * 256 ^ r := Int.mul_nonneg hb.1 (by omega)
    have h3 : (256 : Int) ^ (r + 1) = 256 * 256 ^ r := by rw [Int.pow_succ, Int.mul_comm]
    simp only [sw]
    omega

theorem swor0 (s : ByteArray) (j i : Nat) (hi : i = 8 * j + 0) : bits BinOp.or IntKind.u64 0 (bt s i) = sw s j 1 := by
  have hb := bt_bd s i
  rw [or_join 8 256 (by decide) ⟨by decide, by decide⟩ ⟨hb.1, by omega⟩ (by decide) (by omega)]
  simp [sw, hi]

theorem swor1 (s : ByteArray) (j i : Nat) (hi : i = 8 * j + 1) : bits BinOp.or IntKind.u64 (sw s j 1) (bt s i * 256) = sw s j 2 := by
  have hb := bt_bd s i
  have hs := sw_bd s j 1
  have e : (256 : Int) ^ 1 = 256 := by decide
  rw [e] at hs
  rw [or_join' 8 256 (by decide) ⟨hs.1, by omega⟩ ⟨by omega, by omega⟩ (by omega) (by omega)]
  show _ = sw s j 1 + bt s (8 * j + 1) * 256 ^ 1
  rw [e, hi]

theorem swor2 (s : ByteArray) (j i : Nat) (hi : i = 8 * j + 2) : bits BinOp.or IntKind.u64 (sw s j 2) (bt s i * 65536) = sw s j 3 := by
  have hb := bt_bd s i
  have hs := sw_bd s j 2
  have e : (256 : Int) ^ 2 = 65536 := by decide
  rw [e] at hs
  rw [or_join' 16 65536 (by decide) ⟨hs.1, by omega⟩ ⟨by omega, by omega⟩ (by omega) (by omega)]
  show _ = sw s j 2 + bt s (8 * j + 2) * 256 ^ 2
  rw [e, hi]

theorem swor3 (s : ByteArray) (j i : Nat) (hi : i = 8 * j + 3) : bits BinOp.or IntKind.u64 (sw s j 3) (bt s i * 16777216) = sw s j 4 := by
  have hb := bt_bd s i
  have hs := sw_bd s j 3
  have e : (256 : Int) ^ 3 = 16777216 := by decide
  rw [e] at hs
  rw [or_join' 24 16777216 (by decide) ⟨hs.1, by omega⟩ ⟨by omega, by omega⟩ (by omega) (by omega)]
  show _ = sw s j 3 + bt s (8 * j + 3) * 256 ^ 3
  rw [e, hi]

theorem swor4 (s : ByteArray) (j i : Nat) (hi : i = 8 * j + 4) : bits BinOp.or IntKind.u64 (sw s j 4) (bt s i * 4294967296) = sw s j 5 := by
  have hb := bt_bd s i
  have hs := sw_bd s j 4
  have e : (256 : Int) ^ 4 = 4294967296 := by decide
  rw [e] at hs
  rw [or_join' 32 4294967296 (by decide) ⟨hs.1, by omega⟩ ⟨by omega, by omega⟩ (by omega) (by omega)]
  show _ = sw s j 4 + bt s (8 * j + 4) * 256 ^ 4
  rw [e, hi]

theorem swor5 (s : ByteArray) (j i : Nat) (hi : i = 8 * j + 5) : bits BinOp.or IntKind.u64 (sw s j 5) (bt s i * 1099511627776) = sw s j 6 := by
  have hb := bt_bd s i
  have hs := sw_bd s j 5
  have e : (256 : Int) ^ 5 = 1099511627776 := by decide
  rw [e] at hs
  rw [or_join' 40 1099511627776 (by decide) ⟨hs.1, by omega⟩ ⟨by omega, by omega⟩ (by omega) (by omega)]
  show _ = sw s j 5 + bt s (8 * j + 5) * 256 ^ 5
  rw [e, hi]

theorem swor6 (s : ByteArray) (j i : Nat) (hi : i = 8 * j + 6) : bits BinOp.or IntKind.u64 (sw s j 6) (bt s i * 281474976710656) = sw s j 7 := by
  have hb := bt_bd s i
  have hs := sw_bd s j 6
  have e : (256 : Int) ^ 6 = 281474976710656 := by decide
  rw [e] at hs
  rw [or_join' 48 281474976710656 (by decide) ⟨hs.1, by omega⟩ ⟨by omega, by omega⟩ (by omega) (by omega)]
  show _ = sw s j 6 + bt s (8 * j + 6) * 256 ^ 6
  rw [e, hi]

theorem swor7 (s : ByteArray) (j i : Nat) (hi : i = 8 * j + 7) : bits BinOp.or IntKind.u64 (sw s j 7) (bt s i * 72057594037927936) = sw s j 8 := by
  have hb := bt_bd s i
  have hs := sw_bd s j 7
  have e : (256 : Int) ^ 7 = 72057594037927936 := by decide
  rw [e] at hs
  rw [or_join' 56 72057594037927936 (by decide) ⟨hs.1, by omega⟩ ⟨by omega, by omega⟩ (by omega) (by omega)]
  show _ = sw s j 7 + bt s (8 * j + 7) * 256 ^ 7
  rw [e, hi]

/-- The number that 32 bytes are. -/
def val (s : ByteArray) : Int := sw s 0 8 + 18446744073709551616 * sw s 1 8 + 340282366920938463463374607431768211456 * sw s 2 8 + 6277101735386680763835789423207666416102355444464034512896 * sw s 3 8

end Go.Proofs.YtmhfmhmpoobmlaaGreatDoor.Ord

/- Bytes and their number: what the document's Of makes of them is that number modulo the order. -/
namespace Go.Proofs.YtmhfmhmpoobmlaaGreatDoor.Ord
open Go.RowKit

/-- The number of the first k bytes. -/
def bv (s : ByteArray) : Nat → Int
  | 0 => 0
  | k + 1 => bv s k + bt s k * 256 ^ k

theorem p8 (n : Nat) : (0 : Int) < 256 ^ n := Int.pow_pos (by decide)
theorem p8s (n : Nat) : (256 : Int) ^ (n + 1) = 256 * 256 ^ n := by rw [Int.pow_succ, Int.mul_comm]

theorem bv_bd (s : ByteArray) : ∀ k, 0 ≤ bv s k ∧ bv s k < 256 ^ k
  | 0 => by simp [bv]
  | k + 1 => by
    have ih := bv_bd s k
    have hb := bt_bd s k
    have hp := p8 k
    have h1 : bt s k * 256 ^ k ≤ 255 * 256 ^ k := Int.mul_le_mul_of_nonneg_right (by omega) (by omega)
    have h2 : 0 ≤ bt s k * 256 ^ k := Int.mul_nonneg hb.1 (by omega)
    rw [p8s]
    simp only [bv]
    omega

theorem bv_split (s : ByteArray) (j : Nat) : ∀ k, ∃ q : Int, bv s (j + 1 + k) = bv s j + 256 ^ j * (bt s j + 256 * q)
  | 0 => ⟨0, by show bv s j + bt s j * 256 ^ j = _; rw [Int.mul_zero, Int.add_zero, Int.mul_comm]⟩
  | k + 1 => by
    obtain ⟨q, hq⟩ := bv_split s j k
    refine ⟨q + bt s (j + 1 + k) * 256 ^ k, ?_⟩
    show bv s (j + 1 + k) + bt s (j + 1 + k) * 256 ^ (j + 1 + k) = _
    rw [hq, Int.pow_add, Int.pow_succ, Int.mul_add 256 q, ← Int.add_assoc (bt s j), Int.mul_add (256 ^ j) (bt s j + 256 * q), ← Int.add_assoc]
    congr 1
    generalize (256 : Int) ^ j = X
    generalize (256 : Int) ^ k = Y
    rw [Int.mul_comm (bt s (j + 1 + k)), Int.mul_assoc X 256 Y, Int.mul_assoc X, Int.mul_assoc 256 Y, Int.mul_comm Y]

theorem bv_at (s : ByteArray) {j m : Nat} (h : j < m) : bv s m / 256 ^ j % 256 = bt s j := by
  obtain ⟨q, hq⟩ := bv_split s j (m - (j + 1))
  rw [show j + 1 + (m - (j + 1)) = m by omega] at hq
  have hp := p8 j
  have hb := bv_bd s j
  have ht := bt_bd s j
  rw [hq, Int.add_mul_ediv_left _ _ (by omega), Int.ediv_eq_zero_of_lt hb.1 hb.2]
  omega

theorem bt_out (s : ByteArray) (i : Nat) (h : s.size ≤ i) : bt s i = 0 := by
  unfold bt
  have h' : s.data.size ≤ i := h
  rw [Array.getElem?_eq_none h']
  rfl

theorem bv_out (s : ByteArray) : ∀ k, bv s (s.size + k) = bv s s.size
  | 0 => rfl
  | k + 1 => by
    show bv s (s.size + k) + bt s (s.size + k) * 256 ^ (s.size + k) = _
    rw [bt_out s _ (by omega), bv_out s k]
    omega

theorem bv_64 (s : ByteArray) (h : s.size ≤ 64) : bv s 64 = bv s s.size := by
  have := bv_out s (64 - s.size)
  rwa [show s.size + (64 - s.size) = 64 by omega] at this

theorem sw_bv (s : ByteArray) (j : Nat) : ∀ r, bv s (8 * j + r) = bv s (8 * j) + 256 ^ (8 * j) * sw s j r
  | 0 => by simp [sw]
  | r + 1 => by
    have ih := sw_bv s j r
    show bv s (8 * j + r) + bt s (8 * j + r) * 256 ^ (8 * j + r) = bv s (8 * j) + 256 ^ (8 * j) * (sw s j r + bt s (8 * j + r) * 256 ^ r)
    rw [ih, Int.pow_add, Int.mul_add, ← Int.add_assoc]
    congr 1
    rw [Int.mul_left_comm]

theorem Q_bv (s : ByteArray) : ∀ n, Q (fun j => sw s j 8) n = bv s (8 * n)
  | 0 => rfl
  | n + 1 => by
    have ih := Q_bv s n
    have e := sw_bv s n 8
    have e2 : (256 : Int) ^ (8 * n) = 18446744073709551616 ^ n := by rw [Int.pow_mul]; rfl
    rw [show 8 * (n + 1) = 8 * n + 8 by omega, e, e2]
    simp only [Q]
    rw [ih, Int.mul_comm]

theorem sw_wds (s : ByteArray) (n : Nat) : Wds (fun j => sw s j 8) n := fun j _ => by
  have := sw_bd s j 8
  have e : (256 : Int) ^ 8 = 18446744073709551616 := by decide
  rw [e] at this
  exact this

theorem val_bv (s : ByteArray) : val s = bv s 32 := by
  have e := Q_bv s 4
  rw [Q4] at e
  rw [show 32 = 8 * 4 from rfl, ← e]
  unfold val
  omega

/-- The n bytes of a number. -/
def le (N : Int) (n : Nat) : List Int := (List.range n).map fun i => N / 256 ^ i % 256

theorem le_get (N : Int) {n i : Nat} (h : i < n) : (le N n)[i]? = some (N / 256 ^ i % 256) := by simp [le, h]

theorem bs_size (l : List Int) : (bs l).size = l.length := by simp [bs, ByteArray.size]
theorem bt_bs (l : List Int) (i : Nat) (x : Int) (hl : l[i]? = some x) (h0 : 0 ≤ x) (h1 : x < 256) : bt (bs l) i = x := by
  unfold bt bs
  simp only [List.getElem?_toArray, List.getElem?_map, hl, Option.map_some, Option.getD_some]
  simp only [UInt8.toNat_ofNat']
  omega

theorem bt_le (N : Int) {n i : Nat} (h : i < n) : bt (bs (le N n)) i = N / 256 ^ i % 256 := bt_bs _ _ _ (le_get N h) (by omega) (by omega)

theorem bv_le (N : Int) (h0 : 0 ≤ N) (n : Nat) : ∀ k, k ≤ n → bv (bs (le N n)) k = N % 256 ^ k
  | 0, _ => by simp [bv, Int.emod_one]
  | k + 1, h => by
    have ih := bv_le N h0 n k (by omega)
    have hp := p8 k
    show bv (bs (le N n)) k + bt (bs (le N n)) k * 256 ^ k = _
    rw [ih, bt_le N (by omega), Int.pow_succ]
    have e1 := Int.emod_add_mul_ediv N (256 ^ k)
    rw [Int.emod_def N (256 ^ k * 256), ← Int.ediv_ediv_of_nonneg (by omega)]
    generalize N / 256 ^ k = A at *
    have e3 : A % 256 * 256 ^ k = A * 256 ^ k - 256 * (A / 256) * 256 ^ k := by
      rw [← Int.sub_mul]
      congr 1
      omega
    rw [e3]
    generalize A / 256 = B at *
    generalize (256 : Int) ^ k = X at *
    rw [Int.mul_comm A X, show 256 * B * X = X * 256 * B by rw [Int.mul_comm (256 * B) X, ← Int.mul_assoc]]
    omega

end Go.Proofs.YtmhfmhmpoobmlaaGreatDoor.Ord

/- Bytes of a string in memory of their own; the contract of doubleOf. -/
namespace Go.Proofs.YtmhfmhmpoobmlaaGreatDoor.Ord
open Go.RowKit

/-- Block g holds the bytes f 0 .. f (n - 1), and may be written. -/
structure BC (W : World) (g : Nat) (f : Nat → Int) (n : Nat) : Prop where
  lt : g < W.heap.size
  c : ∀ i, i < n → W.cell? ⟨g, i, none⟩ = some (.int .u8 (f i))
  fz : ∀ i, i < n → W.frozen? ⟨g, i, none⟩ = false

theorem BC.keep {W W' : World} {g n : Nat} {f : Nat → Int} (h : BC W g f n) (hb : Below W.heap.size W W') : BC W' g f n where
  lt := Nat.lt_of_lt_of_le h.lt hb.size
  c := fun i hi => by
    rw [← h.c i hi]
    unfold World.cell?
    rw [hb.block g h.lt]
  fz := fun i hi => by
    rw [← h.fz i hi]
    unfold World.frozen?
    rw [hb.block g h.lt]

theorem BC.alloc {W : World} {g n : Nat} {f : Nat → Int} (h : BC W g f n) (o : Obj) : BC (W.alloc o) g f n := h.keep (new_below W o)

theorem heap_setCell_size (W : World) (a : Addr) (v : Value) : (W.setCell a v).heap.size = W.heap.size := by
  simp

theorem BC.set {W : World} {g n : Nat} {f : Nat → Int} (h : BC W g f n) {k : Nat} (hk : k < n) (v : Int) : BC (W.setCell ⟨g, k, none⟩ (.int .u8 v)) g (upd f k v) n where
  lt := by rw [heap_setCell_size]; exact h.lt
  c := fun i hi => by
    by_cases e : i = k
    · subst e
      rw [World.cell?_setCell_same _ _ _ (h.c i hk)]
      simp [upd]
    · rw [World.cell?_setCell_other _ _ _ _ (by simp <;> omega), h.c i hi]
      simp [upd, e]
  fz := fun i hi => by
    rw [World.frozen?_setCell]
    exact h.fz i hi

theorem BC.other {W : World} {g n : Nat} {f : Nat → Int} (h : BC W g f n) {a : Addr} (ha : g ≠ a.block) (v : Value) : BC (W.setCell a v) g f n where
  lt := by rw [heap_setCell_size]; exact h.lt
  c := fun i hi => by
    rw [World.cell?_setCell_other _ _ _ _ (by intro e; rw [e] at ha; exact ha rfl), h.c i hi]
  fz := fun i hi => by
    rw [World.frozen?_setCell]
    exact h.fz i hi

theorem BC.drew {W : World} {g n : Nat} {f : Nat → Int} (h : BC W g f n) : BC W.drew g f n := ⟨h.lt, h.c, h.fz⟩
theorem row_frozen (w : World) (g j : Nat) (cs : Array Value) (t : TypeId) (hg : w.heap[g]? = some (.cells cs t (cs.size, cs.size + 1))) (hj : j < cs.size) : w.frozen? ⟨g, j, none⟩ = false := by
  unfold World.frozen?
  rw [hg]
  simp
  omega

/-- A string's bytes in memory of their own. -/
theorem conv_str (W : World) (s : ByteArray) : ∃ (cap : Nat) (W1 : World), (convert 9 32 (.string s)).run Tryz.prog W = .ok (.slice (some ⟨W.heap.size, 0, none⟩) s.size cap) W1 ∧ BC W1 W.heap.size (bt s) s.size ∧ Below W.heap.size W W1 := by
  have h := run_bytes_of_string (P := Tryz.prog) W 9 32 5 s Tryz.underlying9 Tryz.underlying32 Tryz.underlying5
  generalize grownCap W s.size 0 5 = cap at h
  refine ⟨cap, _, h, ?_, ((Below.refl _ _).drew).alloc (Nat.le_refl _) _⟩
  have hg : (W.drew.alloc (.cells (bytesRow s cap) 5 ((bytesRow s cap).size, (bytesRow s cap).size + 1))).heap[W.heap.size]? = some (.cells (bytesRow s cap) 5 ((bytesRow s cap).size, (bytesRow s cap).size + 1)) := heap_alloc_new W.drew _
  have hsz : s.size ≤ (bytesRow s cap).size := by
    simp [bytesRow]
  refine ⟨by simp, fun i hi => ?_, fun i hi => row_frozen _ _ _ _ _ hg (by omega)⟩
  rw [cell_of_row _ _ _ _ _ _ hg]
  have hi' : i < s.data.size := hi
  unfold bytesRow bt
  rw [Array.getElem?_append_left (by simpa using hi'), Array.getElem?_map, Array.getElem?_eq_getElem hi']
  rfl

set_option maxRecDepth 100000 in
/-- Bytes in memory as a string. -/
theorem conv_back {W : World} {g n : Nat} {f : Nat → Int} (h : BC W g f n) (cap : Nat) (hf : ∀ i, i < n → 0 ≤ f i ∧ f i < 256) :
    (convert 32 9 (.slice (some ⟨g, 0, none⟩) n cap)).run Tryz.prog W = .ok (.string (bs ((List.range n).map f))) W := by
  have hl : ((List.range n).map fun i => UInt8.ofNat (f i).toNat).length = n := by simp
  have h2 := run_convert_bytes_back (P := Tryz.prog) W 32 9 5 ⟨g, 0, none⟩ cap ((List.range n).map fun i => UInt8.ofNat (f i).toNat) Tryz.underlying32 Tryz.underlying5 Tryz.underlying9 (fun j hj => by
    rw [hl] at hj
    have hadd : (⟨g, 0, none⟩ : Addr).add j = ⟨g, j, none⟩ := by unfold Addr.add; split <;> simp_all
    rw [hadd, h.c j hj]
    have := hf j hj
    simp
    omega)
  rw [hl] at h2
  rw [h2]
  unfold bs
  congr 3
  simp [List.map_map]

/-- Of the words the first k bytes. -/
def swk (s : ByteArray) (k : Nat) : Nat → Int := fun j => sw s j (min (k - 8 * j) 8)

theorem swk_at (s : ByteArray) (k : Nat) : swk s k (k / 8) = sw s (k / 8) (k % 8) := by
  unfold swk
  congr 1
  omega

theorem swk_next (s : ByteArray) (k : Nat) (i : Nat) : upd (swk s k) (k / 8) (sw s (k / 8) (k % 8 + 1)) i = swk s (k + 1) i := by
  unfold upd swk
  by_cases h : i = k / 8
  · subst h
    rw [if_pos rfl]
    congr 1
    omega
  · rw [if_neg h]
    congr 1
    omega

theorem sw_stop (s : ByteArray) (j r : Nat) (h : s.size ≤ 8 * j + r) : ∀ d, sw s j (r + d) = sw s j r
  | 0 => rfl
  | d + 1 => by
    show sw s j (r + d) + bt s (8 * j + (r + d)) * 256 ^ (r + d) = _
    rw [bt_out s _ (by omega), sw_stop s j r h d]
    omega

theorem swk_end (s : ByteArray) (j : Nat) : swk s s.size j = sw s j 8 := by
  unfold swk
  by_cases h : s.size ≤ 8 * j + 8
  · have e := sw_stop s j (min (s.size - 8 * j) 8) (by omega) (8 - min (s.size - 8 * j) 8)
    rw [← e]
    congr 1
    omega
  · congr 1
    omega

set_option maxRecDepth 100000 in
set_option maxHeartbeats 4000000 in
theorem dbl_any (s : ByteArray) (g cap : Nat) (w : World) (hs : s.size ≤ 64) (hB : BC w g (bt s) s.size) :
    Calls Tryz.prog 82 #[.slice (some ⟨g, 0, none⟩) s.size cap] w fun r w' => r = .returned (.agg (arr 8 fun j => sw s j 8)) ∧ Below w.heap.size w w' := by
  have hgl := hB.lt
  go_enter Tryz.func82, Tryz.ntmps82
  go_wp2
  rw [show #[Value.int IntKind.u64 0, Value.int IntKind.u64 0, Value.int IntKind.u64 0, Value.int IntKind.u64 0, Value.int IntKind.u64 0, Value.int IntKind.u64 0, Value.int IntKind.u64 0, Value.int IntKind.u64 0] = arr 8 (fun _ => 0) from rfl]
  have R1 : Row ((w.alloc (.cells (arr 8 fun _ => 0) 96)).alloc (.cells (arr 8 fun _ => 0) 96)) w.heap.size 96 8 (fun _ => 0) := (Row.new w 96 8 _).alloc _
  have R2 : Row ((w.alloc (.cells (arr 8 fun _ => 0) 96)).alloc (.cells (arr 8 fun _ => 0) 96)) (w.heap.size + 1) 96 8 (fun _ => 0) := Row.new' _ 96 8 _ (by simp)
  have B : BC ((w.alloc (.cells (arr 8 fun _ => 0) 96)).alloc (.cells (arr 8 fun _ => 0) 96)) g (bt s) s.size := (hB.alloc _).alloc _
  have O : Below w.heap.size w ((w.alloc (.cells (arr 8 fun _ => 0) 96)).alloc (.cells (arr 8 fun _ => 0) 96)) := ((Below.refl _ _).alloc (Nat.le_refl _) _).alloc (by simp) _
  generalize (w.alloc (.cells (arr 8 fun _ => 0) 96)).alloc (.cells (arr 8 fun _ => 0) 96) = W at R1 R2 B O ⊢
  clear hB
  go_loopw [8] (fun x wr => ∃ k : Nat, k ≤ s.size ∧ x = .int .i64 k ∧ Row wr w.heap.size 96 8 (fun _ => 0) ∧ Row wr (w.heap.size + 1) 96 8 (swk s k) ∧ BC wr g (bt s) s.size ∧ Below w.heap.size w wr) (fun x _ => s.size - (intOf x).toNat)
  case atStart => exact ⟨0, by omega, rfl, R1, R2.congr (fun i _ => by unfold swk; rw [show min (0 - 8 * i) 8 = 0 by omega]; rfl), B, O⟩
  case round =>
    clear R1 R2 B O
    obtain ⟨k, hk, rfl, R1, R2, B, O⟩ := hrel
    by_cases hlt : k < s.size
    · have c := B.c k hlt
      have d := R2.cell (i := k / 8) (by omega)
      have e := R2.free (k / 8)
      have b0 := bt_bd s k
      obtain ⟨b0, b1⟩ := b0
      have i1 : (0 : Int) ≤ (k : Int) := by omega
      have i2 : (k : Int) < (s.size : Int) := by omega
      have i3 : (0 : Int) ≤ (k : Int) / 8 := by omega
      have i4 : (k : Int) / 8 < 8 := by omega
      have i5 : ((k : Int) / 8).toNat = k / 8 := by omega
      rcases (show k % 8 = 0 ∨ k % 8 = 1 ∨ k % 8 = 2 ∨ k % 8 = 3 ∨ k % 8 = 4 ∨ k % 8 = 5 ∨ k % 8 = 6 ∨ k % 8 = 7 by omega) with h8 | h8 | h8 | h8 | h8 | h8 | h8 | h8
      · have a3 : (k : Int) % 8 = 0 := by omega
        have hor : bits BinOp.or IntKind.u64 (swk s k (k / 8)) (bt s k * 1) = sw s (k / 8) 1 := by
          rw [swk_at, h8]
          simp only [Int.mul_one]
          exact swor0 s (k / 8) k (by omega)
        rw [Int.mul_one] at hor
        have RR := hide (R2.set (k / 8) (sw s (k / 8) 1))
        have R1' := hide (R1.other (a := ⟨w.heap.size + 1, k / 8, none⟩) (by simp) (.int .u64 (sw s (k / 8) 1)))
        have B' := hide (B.other (a := ⟨w.heap.size + 1, k / 8, none⟩) (by simp; omega) (.int .u64 (sw s (k / 8) 1)))
        have O' := hide (O.setCell (p := ⟨w.heap.size + 1, k / 8, none⟩) (by simp) (.int .u64 (sw s (k / 8) 1)))
        have HN := hide (fun i => swk_next s k i)
        rw [h8] at HN
        clear R1 R2 B O
        go_wp2_with fail
        go_region
        go_wp2
        exact ⟨⟨k + 1, by omega, by go_num, rowD R1'.out, rowD (RR.out.congr (fun i _ => HN.out i)), B'.out.drew, O'.out.drew⟩, by simp [intOf]; omega⟩
      · have a3 : (k : Int) % 8 = 1 := by omega
        have hor : bits BinOp.or IntKind.u64 (swk s k (k / 8)) (bt s k * 256) = sw s (k / 8) 2 := by
          rw [swk_at, h8]
          exact swor1 s (k / 8) k (by omega)
        have RR := hide (R2.set (k / 8) (sw s (k / 8) 2))
        have R1' := hide (R1.other (a := ⟨w.heap.size + 1, k / 8, none⟩) (by simp) (.int .u64 (sw s (k / 8) 2)))
        have B' := hide (B.other (a := ⟨w.heap.size + 1, k / 8, none⟩) (by simp; omega) (.int .u64 (sw s (k / 8) 2)))
        have O' := hide (O.setCell (p := ⟨w.heap.size + 1, k / 8, none⟩) (by simp) (.int .u64 (sw s (k / 8) 2)))
        have HN := hide (fun i => swk_next s k i)
        rw [h8] at HN
        clear R1 R2 B O
        go_wp2_with fail
        go_region
        go_wp2
        exact ⟨⟨k + 1, by omega, by go_num, rowD R1'.out, rowD (RR.out.congr (fun i _ => HN.out i)), B'.out.drew, O'.out.drew⟩, by simp [intOf]; omega⟩
      · have a3 : (k : Int) % 8 = 2 := by omega
        have hor : bits BinOp.or IntKind.u64 (swk s k (k / 8)) (bt s k * 65536) = sw s (k / 8) 3 := by
          rw [swk_at, h8]
          exact swor2 s (k / 8) k (by omega)
        have RR := hide (R2.set (k / 8) (sw s (k / 8) 3))
        have R1' := hide (R1.other (a := ⟨w.heap.size + 1, k / 8, none⟩) (by simp) (.int .u64 (sw s (k / 8) 3)))
        have B' := hide (B.other (a := ⟨w.heap.size + 1, k / 8, none⟩) (by simp; omega) (.int .u64 (sw s (k / 8) 3)))
        have O' := hide (O.setCell (p := ⟨w.heap.size + 1, k / 8, none⟩) (by simp) (.int .u64 (sw s (k / 8) 3)))
        have HN := hide (fun i => swk_next s k i)
        rw [h8] at HN
        clear R1 R2 B O
        go_wp2_with fail
        go_region
        go_wp2
        exact ⟨⟨k + 1, by omega, by go_num, rowD R1'.out, rowD (RR.out.congr (fun i _ => HN.out i)), B'.out.drew, O'.out.drew⟩, by simp [intOf]; omega⟩
      · have a3 : (k : Int) % 8 = 3 := by omega
        have hor : bits BinOp.or IntKind.u64 (swk s k (k / 8)) (bt s k * 16777216) = sw s (k / 8) 4 := by
          rw [swk_at, h8]
          exact swor3 s (k / 8) k (by omega)
        have RR := hide (R2.set (k / 8) (sw s (k / 8) 4))
        have R1' := hide (R1.other (a := ⟨w.heap.size + 1, k / 8, none⟩) (by simp) (.int .u64 (sw s (k / 8) 4)))
        have B' := hide (B.other (a := ⟨w.heap.size + 1, k / 8, none⟩) (by simp; omega) (.int .u64 (sw s (k / 8) 4)))
        have O' := hide (O.setCell (p := ⟨w.heap.size + 1, k / 8, none⟩) (by simp) (.int .u64 (sw s (k / 8) 4)))
        have HN := hide (fun i => swk_next s k i)
        rw [h8] at HN
        clear R1 R2 B O
        go_wp2_with fail
        go_region
        go_wp2
        exact ⟨⟨k + 1, by omega, by go_num, rowD R1'.out, rowD (RR.out.congr (fun i _ => HN.out i)), B'.out.drew, O'.out.drew⟩, by simp [intOf]; omega⟩
      · have a3 : (k : Int) % 8 = 4 := by omega
        have hor : bits BinOp.or IntKind.u64 (swk s k (k / 8)) (bt s k * 4294967296) = sw s (k / 8) 5 := by
          rw [swk_at, h8]
          exact swor4 s (k / 8) k (by omega)
        have RR := hide (R2.set (k / 8) (sw s (k / 8) 5))
        have R1' := hide (R1.other (a := ⟨w.heap.size + 1, k / 8, none⟩) (by simp) (.int .u64 (sw s (k / 8) 5)))
        have B' := hide (B.other (a := ⟨w.heap.size + 1, k / 8, none⟩) (by simp; omega) (.int .u64 (sw s (k / 8) 5)))
        have O' := hide (O.setCell (p := ⟨w.heap.size + 1, k / 8, none⟩) (by simp) (.int .u64 (sw s (k / 8) 5)))
        have HN := hide (fun i => swk_next s k i)
        rw [h8] at HN
        clear R1 R2 B O
        go_wp2_with fail
        go_region
        go_wp2
        exact ⟨⟨k + 1, by omega, by go_num, rowD R1'.out, rowD (RR.out.congr (fun i _ => HN.out i)), B'.out.drew, O'.out.drew⟩, by simp [intOf]; omega⟩
      · have a3 : (k : Int) % 8 = 5 := by omega
        have hor : bits BinOp.or IntKind.u64 (swk s k (k / 8)) (bt s k * 1099511627776) = sw s (k / 8) 6 := by
          rw [swk_at, h8]
          exact swor5 s (k / 8) k (by omega)
        have RR := hide (R2.set (k / 8) (sw s (k / 8) 6))
        have R1' := hide (R1.other (a := ⟨w.heap.size + 1, k / 8, none⟩) (by simp) (.int .u64 (sw s (k / 8) 6)))
        have B' := hide (B.other (a := ⟨w.heap.size + 1, k / 8, none⟩) (by simp; omega) (.int .u64 (sw s (k / 8) 6)))
        have O' := hide (O.setCell (p := ⟨w.heap.size + 1, k / 8, none⟩) (by simp) (.int .u64 (sw s (k / 8) 6)))
        have HN := hide (fun i => swk_next s k i)
        rw [h8] at HN
        clear R1 R2 B O
        go_wp2_with fail
        go_region
        go_wp2
        exact ⟨⟨k + 1, by omega, by go_num, rowD R1'.out, rowD (RR.out.congr (fun i _ => HN.out i)), B'.out.drew, O'.out.drew⟩, by simp [intOf]; omega⟩
      · have a3 : (k : Int) % 8 = 6 := by omega
        have hor : bits BinOp.or IntKind.u64 (swk s k (k / 8)) (bt s k * 281474976710656) = sw s (k / 8) 7 := by
          rw [swk_at, h8]
          exact swor6 s (k / 8) k (by omega)
        have RR := hide (R2.set (k / 8) (sw s (k / 8) 7))
        have R1' := hide (R1.other (a := ⟨w.heap.size + 1, k / 8, none⟩) (by simp) (.int .u64 (sw s (k / 8) 7)))
        have B' := hide (B.other (a := ⟨w.heap.size + 1, k / 8, none⟩) (by simp; omega) (.int .u64 (sw s (k / 8) 7)))
        have O' := hide (O.setCell (p := ⟨w.heap.size + 1, k / 8, none⟩) (by simp) (.int .u64 (sw s (k / 8) 7)))
        have HN := hide (fun i => swk_next s k i)
        rw [h8] at HN
        clear R1 R2 B O
        go_wp2_with fail
        go_region
        go_wp2
        exact ⟨⟨k + 1, by omega, by go_num, rowD R1'.out, rowD (RR.out.congr (fun i _ => HN.out i)), B'.out.drew, O'.out.drew⟩, by simp [intOf]; omega⟩
      · have a3 : (k : Int) % 8 = 7 := by omega
        have hor : bits BinOp.or IntKind.u64 (swk s k (k / 8)) (bt s k * 72057594037927936) = sw s (k / 8) 8 := by
          rw [swk_at, h8]
          exact swor7 s (k / 8) k (by omega)
        have RR := hide (R2.set (k / 8) (sw s (k / 8) 8))
        have R1' := hide (R1.other (a := ⟨w.heap.size + 1, k / 8, none⟩) (by simp) (.int .u64 (sw s (k / 8) 8)))
        have B' := hide (B.other (a := ⟨w.heap.size + 1, k / 8, none⟩) (by simp; omega) (.int .u64 (sw s (k / 8) 8)))
        have O' := hide (O.setCell (p := ⟨w.heap.size + 1, k / 8, none⟩) (by simp) (.int .u64 (sw s (k / 8) 8)))
        have HN := hide (fun i => swk_next s k i)
        rw [h8] at HN
        clear R1 R2 B O
        go_wp2_with fail
        go_region
        go_wp2
        exact ⟨⟨k + 1, by omega, by go_num, rowD R1'.out, rowD (RR.out.congr (fun i _ => HN.out i)), B'.out.drew, O'.out.drew⟩, by simp [intOf]; omega⟩

    · have hk' : k = s.size := by omega
      subst hk'
      have HR := hide (R2.congr (f' := fun j => sw s j 8) (fun i _ => swk_end s i))
      have RR := hide (R1.setAll (fun j => sw s j 8))
      have OO := hide (below_setCells (g := w.heap.size) (Nat.le_refl _) (arr 8 fun j => sw s j 8).toList 0 O)
      clear R2 O B
      generalize hff : (fun j => sw s j 8) = f at HR RR OO
      have HF := hide hff
      clear hff
      go_wp2_with (first | (refine wpList_load_row rfl 96 _ rfl (w.heap.size + 1) rfl 96 (arr 8 f) (0, 0) _ HR.out Tryz.underlying96 rfl (info96 _) ?_) | (refine wpList_store_mid rfl 96 _ _ rfl w.heap.size 0 (arr 8 f) rfl rfl ?tho (info96 _) (arr_one _ _) ?_))
      case tho => rw [arr_size]; exact R1.there
      exact bodyPost_ret (v := .agg (arr 8 f)) (results_cell_row Tryz.results82 _ _ w.heap.size 96 (arr 8 f) (0, 0) _ rfl RR.out Tryz.underlying96 rfl (info96 _)) rfl ⟨by rw [HF.out], OO.out⟩

end Go.Proofs.YtmhfmhmpoobmlaaGreatDoor.Ord

/- The contract of the document's Parts: 32 bytes as 16 digits. -/
namespace Go.Proofs.YtmhfmhmpoobmlaaGreatDoor.Ord
open Go.RowKit

/-- Digit i when k bytes have been read. -/
def pt (s : ByteArray) (k : Nat) : Nat → Int := fun i => (if 2 * i < k then bt s (2 * i) else 0) + (if 2 * i + 1 < k then bt s (2 * i + 1) * 256 else 0)

theorem ptor0 (s : ByteArray) (i : Nat) : bits BinOp.or IntKind.u64 0 (bt s i) = bt s i := by
  have hb := bt_bd s i
  rw [or_join 8 256 (by decide) ⟨by decide, by decide⟩ ⟨hb.1, by omega⟩ (by decide) (by omega)]
  omega
theorem ptor1 (s : ByteArray) (i j : Nat) : bits BinOp.or IntKind.u64 (bt s i) (bt s j * 256) = bt s i + bt s j * 256 := by
  have hb := bt_bd s i
  have hc := bt_bd s j
  exact or_join' 8 256 (by decide) ⟨hb.1, by omega⟩ ⟨by omega, by omega⟩ (by omega) (by omega)

theorem pt_dig (s : ByteArray) (k : Nat) : Dig (pt s k) 16 := fun i _ => by
  have hb := bt_bd s (2 * i)
  have hc := bt_bd s (2 * i + 1)
  unfold pt
  split <;> split <;> omega

theorem pt_even (s : ByteArray) (j i : Nat) : upd (pt s (2 * j)) j (bt s (2 * j)) i = pt s (2 * j + 1) i := by
  unfold upd pt
  by_cases h : i = j
  · subst h
    simp
  · rw [if_neg h]
    congr 1
    · by_cases h2 : 2 * i < 2 * j
      · rw [if_pos h2, if_pos (by omega)]
      · rw [if_neg h2, if_neg (by omega)]
    · by_cases h2 : 2 * i + 1 < 2 * j
      · rw [if_pos h2, if_pos (by omega)]
      · rw [if_neg h2, if_neg (by omega)]

theorem pt_odd (s : ByteArray) (j i : Nat) : upd (pt s (2 * j + 1)) j (bt s (2 * j) + bt s (2 * j + 1) * 256) i = pt s (2 * j + 1 + 1) i := by
  unfold upd pt
  by_cases h : i = j
  · subst h
    simp
    intro h
    omega
  · rw [if_neg h]
    congr 1
    · by_cases h2 : 2 * i < 2 * j + 1
      · rw [if_pos h2, if_pos (by omega)]
      · rw [if_neg h2, if_neg (by omega)]
    · by_cases h2 : 2 * i + 1 < 2 * j + 1
      · rw [if_pos h2, if_pos (by omega)]
      · rw [if_neg h2, if_neg (by omega)]

theorem pt_S (s : ByteArray) : S (pt s 32) 16 = val s := by
  simp [S, pt, val, sw]
  omega

set_option maxRecDepth 100000 in
set_option maxHeartbeats 8000000 in
theorem parts_any (s : ByteArray) (w : World) (hs : s.size = 32) :
    Calls Tryz.prog 14 #[.string s] w fun r w' => r = .returned (.agg (arr 16 (pt s 32))) ∧ Below w.heap.size w w' := by
  go_enter Tryz.func14, Tryz.ntmps14
  go_wp2
  rw [show #[Value.int IntKind.u64 0, Value.int IntKind.u64 0, Value.int IntKind.u64 0, Value.int IntKind.u64 0, Value.int IntKind.u64 0, Value.int IntKind.u64 0, Value.int IntKind.u64 0, Value.int IntKind.u64 0, Value.int IntKind.u64 0, Value.int IntKind.u64 0, Value.int IntKind.u64 0, Value.int IntKind.u64 0, Value.int IntKind.u64 0, Value.int IntKind.u64 0, Value.int IntKind.u64 0, Value.int IntKind.u64 0] = arr 16 (fun _ => 0) from rfl]
  have R1 : Row ((w.alloc (.cells (arr 16 fun _ => 0) 36)).alloc (.cells (arr 16 fun _ => 0) 36)) w.heap.size 36 16 (fun _ => 0) := (Row.new w 36 16 _).alloc _
  have R2 : Row ((w.alloc (.cells (arr 16 fun _ => 0) 36)).alloc (.cells (arr 16 fun _ => 0) 36)) (w.heap.size + 1) 36 16 (pt s 0) := (Row.new' _ 36 16 _ (by simp)).congr (fun i _ => by simp [pt])
  have O : Below w.heap.size w ((w.alloc (.cells (arr 16 fun _ => 0) 36)).alloc (.cells (arr 16 fun _ => 0) 36)) := ((Below.refl _ _).alloc (Nat.le_refl _) _).alloc (by simp) _
  generalize (w.alloc (.cells (arr 16 fun _ => 0) 36)).alloc (.cells (arr 16 fun _ => 0) 36) = W at R1 R2 O ⊢
  go_loopw [4] (fun i wr => ∃ k : Nat, k ≤ 32 ∧ i = .int .i64 k ∧ Row wr w.heap.size 36 16 (fun _ => 0) ∧ Row wr (w.heap.size + 1) 36 16 (pt s k) ∧ Below w.heap.size w wr) (fun i _ => 32 - (intOf i).toNat)
  case atStart => exact ⟨0, by omega, rfl, R1, R2, O⟩
  case round =>
    clear R1 R2 O
    obtain ⟨k, hk, rfl, R1, R2, O⟩ := hrel
    by_cases hlt : k < 32
    · have hc : k = 0 ∨ k = 1 ∨ k = 2 ∨ k = 3 ∨ k = 4 ∨ k = 5 ∨ k = 6 ∨ k = 7 ∨ k = 8 ∨ k = 9 ∨ k = 10 ∨ k = 11 ∨ k = 12 ∨ k = 13 ∨ k = 14 ∨ k = 15 ∨ k = 16 ∨ k = 17 ∨ k = 18 ∨ k = 19 ∨ k = 20 ∨ k = 21 ∨ k = 22 ∨ k = 23 ∨ k = 24 ∨ k = 25 ∨ k = 26 ∨ k = 27 ∨ k = 28 ∨ k = 29 ∨ k = 30 ∨ k = 31 := by omega
      clear hlt hk
      rcases hc with rfl | rfl | rfl | rfl | rfl | rfl | rfl | rfl | rfl | rfl | rfl | rfl | rfl | rfl | rfl | rfl | rfl | rfl | rfl | rfl | rfl | rfl | rfl | rfl | rfl | rfl | rfl | rfl | rfl | rfl | rfl | rfl
      · have hb := bt_at s 0 (by omega)
        obtain ⟨p, q⟩ := bt_bd s 0
        have e := ptor0 s 0
        have c := R2.cell (i := 0) (by omega)
        rw [show pt s 0 0 = 0 by simp [pt]] at c
        have f := R2.free 0
        have RR := hide ((R2.set 0 (bt s 0)).congr (fun i _ => pt_even s 0 i))
        have R1' := hide (R1.other (a := ⟨w.heap.size + 1, 0, none⟩) (by simp) (.int .u64 (bt s 0)))
        have O' := hide (O.setCell (p := ⟨w.heap.size + 1, 0, none⟩) (by simp) (.int .u64 (bt s 0)))
        clear R1 R2 O
        go_wp2_with fail
        go_region
        go_wp2
        first | exact ⟨⟨1, by omega, rfl, R1'.out, RR.out, O'.out.drew⟩, by simp [intOf]⟩ | (go_roundw; (case rel => exact ⟨1, by omega, rfl, R1'.out, RR.out, O'.out.drew⟩); (case measure => simp [intOf]))
      · have hb := bt_at s 1 (by omega)
        obtain ⟨p, q⟩ := bt_bd s 1
        have e := ptor1 s 0 1
        have c := R2.cell (i := 0) (by omega)
        rw [show pt s 1 0 = bt s 0 by simp [pt]] at c
        have f := R2.free 0
        have RR := hide ((R2.set 0 (bt s 0 + bt s 1 * 256)).congr (fun i _ => pt_odd s 0 i))
        have R1' := hide (R1.other (a := ⟨w.heap.size + 1, 0, none⟩) (by simp) (.int .u64 (bt s 0 + bt s 1 * 256)))
        have O' := hide (O.setCell (p := ⟨w.heap.size + 1, 0, none⟩) (by simp) (.int .u64 (bt s 0 + bt s 1 * 256)))
        clear R1 R2 O
        go_wp2_with fail
        go_region
        go_wp2
        first | exact ⟨⟨2, by omega, rfl, R1'.out, RR.out, O'.out.drew⟩, by simp [intOf]⟩ | (go_roundw; (case rel => exact ⟨2, by omega, rfl, R1'.out, RR.out, O'.out.drew⟩); (case measure => simp [intOf]))
      · have hb := bt_at s 2 (by omega)
        obtain ⟨p, q⟩ := bt_bd s 2
        have e := ptor0 s 2
        have c := R2.cell (i := 1) (by omega)
        rw [show pt s 2 1 = 0 by simp [pt]] at c
        have f := R2.free 1
        have RR := hide ((R2.set 1 (bt s 2)).congr (fun i _ => pt_even s 1 i))
        have R1' := hide (R1.other (a := ⟨w.heap.size + 1, 1, none⟩) (by simp) (.int .u64 (bt s 2)))
        have O' := hide (O.setCell (p := ⟨w.heap.size + 1, 1, none⟩) (by simp) (.int .u64 (bt s 2)))
        clear R1 R2 O
        go_wp2_with fail
        go_region
        go_wp2
        first | exact ⟨⟨3, by omega, rfl, R1'.out, RR.out, O'.out.drew⟩, by simp [intOf]⟩ | (go_roundw; (case rel => exact ⟨3, by omega, rfl, R1'.out, RR.out, O'.out.drew⟩); (case measure => simp [intOf]))
      · have hb := bt_at s 3 (by omega)
        obtain ⟨p, q⟩ := bt_bd s 3
        have e := ptor1 s 2 3
        have c := R2.cell (i := 1) (by omega)
        rw [show pt s 3 1 = bt s 2 by simp [pt]] at c
        have f := R2.free 1
        have RR := hide ((R2.set 1 (bt s 2 + bt s 3 * 256)).congr (fun i _ => pt_odd s 1 i))
        have R1' := hide (R1.other (a := ⟨w.heap.size + 1, 1, none⟩) (by simp) (.int .u64 (bt s 2 + bt s 3 * 256)))
        have O' := hide (O.setCell (p := ⟨w.heap.size + 1, 1, none⟩) (by simp) (.int .u64 (bt s 2 + bt s 3 * 256)))
        clear R1 R2 O
        go_wp2_with fail
        go_region
        go_wp2
        first | exact ⟨⟨4, by omega, rfl, R1'.out, RR.out, O'.out.drew⟩, by simp [intOf]⟩ | (go_roundw; (case rel => exact ⟨4, by omega, rfl, R1'.out, RR.out, O'.out.drew⟩); (case measure => simp [intOf]))
      · have hb := bt_at s 4 (by omega)
        obtain ⟨p, q⟩ := bt_bd s 4
        have e := ptor0 s 4
        have c := R2.cell (i := 2) (by omega)
        rw [show pt s 4 2 = 0 by simp [pt]] at c
        have f := R2.free 2
        have RR := hide ((R2.set 2 (bt s 4)).congr (fun i _ => pt_even s 2 i))
        have R1' := hide (R1.other (a := ⟨w.heap.size + 1, 2, none⟩) (by simp) (.int .u64 (bt s 4)))
        have O' := hide (O.setCell (p := ⟨w.heap.size + 1, 2, none⟩) (by simp) (.int .u64 (bt s 4)))
        clear R1 R2 O
        go_wp2_with fail
        go_region
        go_wp2
        first | exact ⟨⟨5, by omega, rfl, R1'.out, RR.out, O'.out.drew⟩, by simp [intOf]⟩ | (go_roundw; (case rel => exact ⟨5, by omega, rfl, R1'.out, RR.out, O'.out.drew⟩); (case measure => simp [intOf]))
      · have hb := bt_at s 5 (by omega)
        obtain ⟨p, q⟩ := bt_bd s 5
        have e := ptor1 s 4 5
        have c := R2.cell (i := 2) (by omega)
        rw [show pt s 5 2 = bt s 4 by simp [pt]] at c
        have f := R2.free 2
        have RR := hide ((R2.set 2 (bt s 4 + bt s 5 * 256)).congr (fun i _ => pt_odd s 2 i))
        have R1' := hide (R1.other (a := ⟨w.heap.size + 1, 2, none⟩) (by simp) (.int .u64 (bt s 4 + bt s 5 * 256)))
        have O' := hide (O.setCell (p := ⟨w.heap.size + 1, 2, none⟩) (by simp) (.int .u64 (bt s 4 + bt s 5 * 256)))
        clear R1 R2 O
        go_wp2_with fail
        go_region
        go_wp2
        first | exact ⟨⟨6, by omega, rfl, R1'.out, RR.out, O'.out.drew⟩, by simp [intOf]⟩ | (go_roundw; (case rel => exact ⟨6, by omega, rfl, R1'.out, RR.out, O'.out.drew⟩); (case measure => simp [intOf]))
      · have hb := bt_at s 6 (by omega)
        obtain ⟨p, q⟩ := bt_bd s 6
        have e := ptor0 s 6
        have c := R2.cell (i := 3) (by omega)
        rw [show pt s 6 3 = 0 by simp [pt]] at c
        have f := R2.free 3
        have RR := hide ((R2.set 3 (bt s 6)).congr (fun i _ => pt_even s 3 i))
        have R1' := hide (R1.other (a := ⟨w.heap.size + 1, 3, none⟩) (by simp) (.int .u64 (bt s 6)))
        have O' := hide (O.setCell (p := ⟨w.heap.size + 1, 3, none⟩) (by simp) (.int .u64 (bt s 6)))
        clear R1 R2 O
        go_wp2_with fail
        go_region
        go_wp2
        first | exact ⟨⟨7, by omega, rfl, R1'.out, RR.out, O'.out.drew⟩, by simp [intOf]⟩ | (go_roundw; (case rel => exact ⟨7, by omega, rfl, R1'.out, RR.out, O'.out.drew⟩); (case measure => simp [intOf]))
      · have hb := bt_at s 7 (by omega)
        obtain ⟨p, q⟩ := bt_bd s 7
        have e := ptor1 s 6 7
        have c := R2.cell (i := 3) (by omega)
        rw [show pt s 7 3 = bt s 6 by simp [pt]] at c
        have f := R2.free 3
        have RR := hide ((R2.set 3 (bt s 6 + bt s 7 * 256)).congr (fun i _ => pt_odd s 3 i))
        have R1' := hide (R1.other (a := ⟨w.heap.size + 1, 3, none⟩) (by simp) (.int .u64 (bt s 6 + bt s 7 * 256)))
        have O' := hide (O.setCell (p := ⟨w.heap.size + 1, 3, none⟩) (by simp) (.int .u64 (bt s 6 + bt s 7 * 256)))
        clear R1 R2 O
        go_wp2_with fail
        go_region
        go_wp2
        first | exact ⟨⟨8, by omega, rfl, R1'.out, RR.out, O'.out.drew⟩, by simp [intOf]⟩ | (go_roundw; (case rel => exact ⟨8, by omega, rfl, R1'.out, RR.out, O'.out.drew⟩); (case measure => simp [intOf]))
      · have hb := bt_at s 8 (by omega)
        obtain ⟨p, q⟩ := bt_bd s 8
        have e := ptor0 s 8
        have c := R2.cell (i := 4) (by omega)
        rw [show pt s 8 4 = 0 by simp [pt]] at c
        have f := R2.free 4
        have RR := hide ((R2.set 4 (bt s 8)).congr (fun i _ => pt_even s 4 i))
        have R1' := hide (R1.other (a := ⟨w.heap.size + 1, 4, none⟩) (by simp) (.int .u64 (bt s 8)))
        have O' := hide (O.setCell (p := ⟨w.heap.size + 1, 4, none⟩) (by simp) (.int .u64 (bt s 8)))
        clear R1 R2 O
        go_wp2_with fail
        go_region
        go_wp2
        first | exact ⟨⟨9, by omega, rfl, R1'.out, RR.out, O'.out.drew⟩, by simp [intOf]⟩ | (go_roundw; (case rel => exact ⟨9, by omega, rfl, R1'.out, RR.out, O'.out.drew⟩); (case measure => simp [intOf]))
      · have hb := bt_at s 9 (by omega)
        obtain ⟨p, q⟩ := bt_bd s 9
        have e := ptor1 s 8 9
        have c := R2.cell (i := 4) (by omega)
        rw [show pt s 9 4 = bt s 8 by simp [pt]] at c
        have f := R2.free 4
        have RR := hide ((R2.set 4 (bt s 8 + bt s 9 * 256)).congr (fun i _ => pt_odd s 4 i))
        have R1' := hide (R1.other (a := ⟨w.heap.size + 1, 4, none⟩) (by simp) (.int .u64 (bt s 8 + bt s 9 * 256)))
        have O' := hide (O.setCell (p := ⟨w.heap.size + 1, 4, none⟩) (by simp) (.int .u64 (bt s 8 + bt s 9 * 256)))
        clear R1 R2 O
        go_wp2_with fail
        go_region
        go_wp2
        first | exact ⟨⟨10, by omega, rfl, R1'.out, RR.out, O'.out.drew⟩, by simp [intOf]⟩ | (go_roundw; (case rel => exact ⟨10, by omega, rfl, R1'.out, RR.out, O'.out.drew⟩); (case measure => simp [intOf]))
      · have hb := bt_at s 10 (by omega)
        obtain ⟨p, q⟩ := bt_bd s 10
        have e := ptor0 s 10
        have c := R2.cell (i := 5) (by omega)
        rw [show pt s 10 5 = 0 by simp [pt]] at c
        have f := R2.free 5
        have RR := hide ((R2.set 5 (bt s 10)).congr (fun i _ => pt_even s 5 i))
        have R1' := hide (R1.other (a := ⟨w.heap.size + 1, 5, none⟩) (by simp) (.int .u64 (bt s 10)))
        have O' := hide (O.setCell (p := ⟨w.heap.size + 1, 5, none⟩) (by simp) (.int .u64 (bt s 10)))
        clear R1 R2 O
        go_wp2_with fail
        go_region
        go_wp2
        first | exact ⟨⟨11, by omega, rfl, R1'.out, RR.out, O'.out.drew⟩, by simp [intOf]⟩ | (go_roundw; (case rel => exact ⟨11, by omega, rfl, R1'.out, RR.out, O'.out.drew⟩); (case measure => simp [intOf]))
      · have hb := bt_at s 11 (by omega)
        obtain ⟨p, q⟩ := bt_bd s 11
        have e := ptor1 s 10 11
        have c := R2.cell (i := 5) (by omega)
        rw [show pt s 11 5 = bt s 10 by simp [pt]] at c
        have f := R2.free 5
        have RR := hide ((R2.set 5 (bt s 10 + bt s 11 * 256)).congr (fun i _ => pt_odd s 5 i))
        have R1' := hide (R1.other (a := ⟨w.heap.size + 1, 5, none⟩) (by simp) (.int .u64 (bt s 10 + bt s 11 * 256)))
        have O' := hide (O.setCell (p := ⟨w.heap.size + 1, 5, none⟩) (by simp) (.int .u64 (bt s 10 + bt s 11 * 256)))
        clear R1 R2 O
        go_wp2_with fail
        go_region
        go_wp2
        first | exact ⟨⟨12, by omega, rfl, R1'.out, RR.out, O'.out.drew⟩, by simp [intOf]⟩ | (go_roundw; (case rel => exact ⟨12, by omega, rfl, R1'.out, RR.out, O'.out.drew⟩); (case measure => simp [intOf]))
      · have hb := bt_at s 12 (by omega)
        obtain ⟨p, q⟩ := bt_bd s 12
        have e := ptor0 s 12
        have c := R2.cell (i := 6) (by omega)
        rw [show pt s 12 6 = 0 by simp [pt]] at c
        have f := R2.free 6
        have RR := hide ((R2.set 6 (bt s 12)).congr (fun i _ => pt_even s 6 i))
        have R1' := hide (R1.other (a := ⟨w.heap.size + 1, 6, none⟩) (by simp) (.int .u64 (bt s 12)))
        have O' := hide (O.setCell (p := ⟨w.heap.size + 1, 6, none⟩) (by simp) (.int .u64 (bt s 12)))
        clear R1 R2 O
        go_wp2_with fail
        go_region
        go_wp2
        first | exact ⟨⟨13, by omega, rfl, R1'.out, RR.out, O'.out.drew⟩, by simp [intOf]⟩ | (go_roundw; (case rel => exact ⟨13, by omega, rfl, R1'.out, RR.out, O'.out.drew⟩); (case measure => simp [intOf]))
      · have hb := bt_at s 13 (by omega)
        obtain ⟨p, q⟩ := bt_bd s 13
        have e := ptor1 s 12 13
        have c := R2.cell (i := 6) (by omega)
        rw [show pt s 13 6 = bt s 12 by simp [pt]] at c
        have f := R2.free 6
        have RR := hide ((R2.set 6 (bt s 12 + bt s 13 * 256)).congr (fun i _ => pt_odd s 6 i))
        have R1' := hide (R1.other (a := ⟨w.heap.size + 1, 6, none⟩) (by simp) (.int .u64 (bt s 12 + bt s 13 * 256)))
        have O' := hide (O.setCell (p := ⟨w.heap.size + 1, 6, none⟩) (by simp) (.int .u64 (bt s 12 + bt s 13 * 256)))
        clear R1 R2 O
        go_wp2_with fail
        go_region
        go_wp2
        first | exact ⟨⟨14, by omega, rfl, R1'.out, RR.out, O'.out.drew⟩, by simp [intOf]⟩ | (go_roundw; (case rel => exact ⟨14, by omega, rfl, R1'.out, RR.out, O'.out.drew⟩); (case measure => simp [intOf]))
      · have hb := bt_at s 14 (by omega)
        obtain ⟨p, q⟩ := bt_bd s 14
        have e := ptor0 s 14
        have c := R2.cell (i := 7) (by omega)
        rw [show pt s 14 7 = 0 by simp [pt]] at c
        have f := R2.free 7
        have RR := hide ((R2.set 7 (bt s 14)).congr (fun i _ => pt_even s 7 i))
        have R1' := hide (R1.other (a := ⟨w.heap.size + 1, 7, none⟩) (by simp) (.int .u64 (bt s 14)))
        have O' := hide (O.setCell (p := ⟨w.heap.size + 1, 7, none⟩) (by simp) (.int .u64 (bt s 14)))
        clear R1 R2 O
        go_wp2_with fail
        go_region
        go_wp2
        first | exact ⟨⟨15, by omega, rfl, R1'.out, RR.out, O'.out.drew⟩, by simp [intOf]⟩ | (go_roundw; (case rel => exact ⟨15, by omega, rfl, R1'.out, RR.out, O'.out.drew⟩); (case measure => simp [intOf]))
      · have hb := bt_at s 15 (by omega)
        obtain ⟨p, q⟩ := bt_bd s 15
        have e := ptor1 s 14 15
        have c := R2.cell (i := 7) (by omega)
        rw [show pt s 15 7 = bt s 14 by simp [pt]] at c
        have f := R2.free 7
        have RR := hide ((R2.set 7 (bt s 14 + bt s 15 * 256)).congr (fun i _ => pt_odd s 7 i))
        have R1' := hide (R1.other (a := ⟨w.heap.size + 1, 7, none⟩) (by simp) (.int .u64 (bt s 14 + bt s 15 * 256)))
        have O' := hide (O.setCell (p := ⟨w.heap.size + 1, 7, none⟩) (by simp) (.int .u64 (bt s 14 + bt s 15 * 256)))
        clear R1 R2 O
        go_wp2_with fail
        go_region
        go_wp2
        first | exact ⟨⟨16, by omega, rfl, R1'.out, RR.out, O'.out.drew⟩, by simp [intOf]⟩ | (go_roundw; (case rel => exact ⟨16, by omega, rfl, R1'.out, RR.out, O'.out.drew⟩); (case measure => simp [intOf]))
      · have hb := bt_at s 16 (by omega)
        obtain ⟨p, q⟩ := bt_bd s 16
        have e := ptor0 s 16
        have c := R2.cell (i := 8) (by omega)
        rw [show pt s 16 8 = 0 by simp [pt]] at c
        have f := R2.free 8
        have RR := hide ((R2.set 8 (bt s 16)).congr (fun i _ => pt_even s 8 i))
        have R1' := hide (R1.other (a := ⟨w.heap.size + 1, 8, none⟩) (by simp) (.int .u64 (bt s 16)))
        have O' := hide (O.setCell (p := ⟨w.heap.size + 1, 8, none⟩) (by simp) (.int .u64 (bt s 16)))
        clear R1 R2 O
        go_wp2_with fail
        go_region
        go_wp2
        first | exact ⟨⟨17, by omega, rfl, R1'.out, RR.out, O'.out.drew⟩, by simp [intOf]⟩ | (go_roundw; (case rel => exact ⟨17, by omega, rfl, R1'.out, RR.out, O'.out.drew⟩); (case measure => simp [intOf]))
      · have hb := bt_at s 17 (by omega)
        obtain ⟨p, q⟩ := bt_bd s 17
        have e := ptor1 s 16 17
        have c := R2.cell (i := 8) (by omega)
        rw [show pt s 17 8 = bt s 16 by simp [pt]] at c
        have f := R2.free 8
        have RR := hide ((R2.set 8 (bt s 16 + bt s 17 * 256)).congr (fun i _ => pt_odd s 8 i))
        have R1' := hide (R1.other (a := ⟨w.heap.size + 1, 8, none⟩) (by simp) (.int .u64 (bt s 16 + bt s 17 * 256)))
        have O' := hide (O.setCell (p := ⟨w.heap.size + 1, 8, none⟩) (by simp) (.int .u64 (bt s 16 + bt s 17 * 256)))
        clear R1 R2 O
        go_wp2_with fail
        go_region
        go_wp2
        first | exact ⟨⟨18, by omega, rfl, R1'.out, RR.out, O'.out.drew⟩, by simp [intOf]⟩ | (go_roundw; (case rel => exact ⟨18, by omega, rfl, R1'.out, RR.out, O'.out.drew⟩); (case measure => simp [intOf]))
      · have hb := bt_at s 18 (by omega)
        obtain ⟨p, q⟩ := bt_bd s 18
        have e := ptor0 s 18
        have c := R2.cell (i := 9) (by omega)
        rw [show pt s 18 9 = 0 by simp [pt]] at c
        have f := R2.free 9
        have RR := hide ((R2.set 9 (bt s 18)).congr (fun i _ => pt_even s 9 i))
        have R1' := hide (R1.other (a := ⟨w.heap.size + 1, 9, none⟩) (by simp) (.int .u64 (bt s 18)))
        have O' := hide (O.setCell (p := ⟨w.heap.size + 1, 9, none⟩) (by simp) (.int .u64 (bt s 18)))
        clear R1 R2 O
        go_wp2_with fail
        go_region
        go_wp2
        first | exact ⟨⟨19, by omega, rfl, R1'.out, RR.out, O'.out.drew⟩, by simp [intOf]⟩ | (go_roundw; (case rel => exact ⟨19, by omega, rfl, R1'.out, RR.out, O'.out.drew⟩); (case measure => simp [intOf]))
      · have hb := bt_at s 19 (by omega)
        obtain ⟨p, q⟩ := bt_bd s 19
        have e := ptor1 s 18 19
        have c := R2.cell (i := 9) (by omega)
        rw [show pt s 19 9 = bt s 18 by simp [pt]] at c
        have f := R2.free 9
        have RR := hide ((R2.set 9 (bt s 18 + bt s 19 * 256)).congr (fun i _ => pt_odd s 9 i))
        have R1' := hide (R1.other (a := ⟨w.heap.size + 1, 9, none⟩) (by simp) (.int .u64 (bt s 18 + bt s 19 * 256)))
        have O' := hide (O.setCell (p := ⟨w.heap.size + 1, 9, none⟩) (by simp) (.int .u64 (bt s 18 + bt s 19 * 256)))
        clear R1 R2 O
        go_wp2_with fail
        go_region
        go_wp2
        first | exact ⟨⟨20, by omega, rfl, R1'.out, RR.out, O'.out.drew⟩, by simp [intOf]⟩ | (go_roundw; (case rel => exact ⟨20, by omega, rfl, R1'.out, RR.out, O'.out.drew⟩); (case measure => simp [intOf]))
      · have hb := bt_at s 20 (by omega)
        obtain ⟨p, q⟩ := bt_bd s 20
        have e := ptor0 s 20
        have c := R2.cell (i := 10) (by omega)
        rw [show pt s 20 10 = 0 by simp [pt]] at c
        have f := R2.free 10
        have RR := hide ((R2.set 10 (bt s 20)).congr (fun i _ => pt_even s 10 i))
        have R1' := hide (R1.other (a := ⟨w.heap.size + 1, 10, none⟩) (by simp) (.int .u64 (bt s 20)))
        have O' := hide (O.setCell (p := ⟨w.heap.size + 1, 10, none⟩) (by simp) (.int .u64 (bt s 20)))
        clear R1 R2 O
        go_wp2_with fail
        go_region
        go_wp2
        first | exact ⟨⟨21, by omega, rfl, R1'.out, RR.out, O'.out.drew⟩, by simp [intOf]⟩ | (go_roundw; (case rel => exact ⟨21, by omega, rfl, R1'.out, RR.out, O'.out.drew⟩); (case measure => simp [intOf]))
      · have hb := bt_at s 21 (by omega)
        obtain ⟨p, q⟩ := bt_bd s 21
        have e := ptor1 s 20 21
        have c := R2.cell (i := 10) (by omega)
        rw [show pt s 21 10 = bt s 20 by simp [pt]] at c
        have f := R2.free 10
        have RR := hide ((R2.set 10 (bt s 20 + bt s 21 * 256)).congr (fun i _ => pt_odd s 10 i))
        have R1' := hide (R1.other (a := ⟨w.heap.size + 1, 10, none⟩) (by simp) (.int .u64 (bt s 20 + bt s 21 * 256)))
        have O' := hide (O.setCell (p := ⟨w.heap.size + 1, 10, none⟩) (by simp) (.int .u64 (bt s 20 + bt s 21 * 256)))
        clear R1 R2 O
        go_wp2_with fail
        go_region
        go_wp2
        first | exact ⟨⟨22, by omega, rfl, R1'.out, RR.out, O'.out.drew⟩, by simp [intOf]⟩ | (go_roundw; (case rel => exact ⟨22, by omega, rfl, R1'.out, RR.out, O'.out.drew⟩); (case measure => simp [intOf]))
      · have hb := bt_at s 22 (by omega)
        obtain ⟨p, q⟩ := bt_bd s 22
        have e := ptor0 s 22
        have c := R2.cell (i := 11) (by omega)
        rw [show pt s 22 11 = 0 by simp [pt]] at c
        have f := R2.free 11
        have RR := hide ((R2.set 11 (bt s 22)).congr (fun i _ => pt_even s 11 i))
        have R1' := hide (R1.other (a := ⟨w.heap.size + 1, 11, none⟩) (by simp) (.int .u64 (bt s 22)))
        have O' := hide (O.setCell (p := ⟨w.heap.size + 1, 11, none⟩) (by simp) (.int .u64 (bt s 22)))
        clear R1 R2 O
        go_wp2_with fail
        go_region
        go_wp2
        first | exact ⟨⟨23, by omega, rfl, R1'.out, RR.out, O'.out.drew⟩, by simp [intOf]⟩ | (go_roundw; (case rel => exact ⟨23, by omega, rfl, R1'.out, RR.out, O'.out.drew⟩); (case measure => simp [intOf]))
      · have hb := bt_at s 23 (by omega)
        obtain ⟨p, q⟩ := bt_bd s 23
        have e := ptor1 s 22 23
        have c := R2.cell (i := 11) (by omega)
        rw [show pt s 23 11 = bt s 22 by simp [pt]] at c
        have f := R2.free 11
        have RR := hide ((R2.set 11 (bt s 22 + bt s 23 * 256)).congr (fun i _ => pt_odd s 11 i))
        have R1' := hide (R1.other (a := ⟨w.heap.size + 1, 11, none⟩) (by simp) (.int .u64 (bt s 22 + bt s 23 * 256)))
        have O' := hide (O.setCell (p := ⟨w.heap.size + 1, 11, none⟩) (by simp) (.int .u64 (bt s 22 + bt s 23 * 256)))
        clear R1 R2 O
        go_wp2_with fail
        go_region
        go_wp2
        first | exact ⟨⟨24, by omega, rfl, R1'.out, RR.out, O'.out.drew⟩, by simp [intOf]⟩ | (go_roundw; (case rel => exact ⟨24, by omega, rfl, R1'.out, RR.out, O'.out.drew⟩); (case measure => simp [intOf]))
      · have hb := bt_at s 24 (by omega)
        obtain ⟨p, q⟩ := bt_bd s 24
        have e := ptor0 s 24
        have c := R2.cell (i := 12) (by omega)
        rw [show pt s 24 12 = 0 by simp [pt]] at c
        have f := R2.free 12
        have RR := hide ((R2.set 12 (bt s 24)).congr (fun i _ => pt_even s 12 i))
        have R1' := hide (R1.other (a := ⟨w.heap.size + 1, 12, none⟩) (by simp) (.int .u64 (bt s 24)))
        have O' := hide (O.setCell (p := ⟨w.heap.size + 1, 12, none⟩) (by simp) (.int .u64 (bt s 24)))
        clear R1 R2 O
        go_wp2_with fail
        go_region
        go_wp2
        first | exact ⟨⟨25, by omega, rfl, R1'.out, RR.out, O'.out.drew⟩, by simp [intOf]⟩ | (go_roundw; (case rel => exact ⟨25, by omega, rfl, R1'.out, RR.out, O'.out.drew⟩); (case measure => simp [intOf]))
      · have hb := bt_at s 25 (by omega)
        obtain ⟨p, q⟩ := bt_bd s 25
        have e := ptor1 s 24 25
        have c := R2.cell (i := 12) (by omega)
        rw [show pt s 25 12 = bt s 24 by simp [pt]] at c
        have f := R2.free 12
        have RR := hide ((R2.set 12 (bt s 24 + bt s 25 * 256)).congr (fun i _ => pt_odd s 12 i))
        have R1' := hide (R1.other (a := ⟨w.heap.size + 1, 12, none⟩) (by simp) (.int .u64 (bt s 24 + bt s 25 * 256)))
        have O' := hide (O.setCell (p := ⟨w.heap.size + 1, 12, none⟩) (by simp) (.int .u64 (bt s 24 + bt s 25 * 256)))
        clear R1 R2 O
        go_wp2_with fail
        go_region
        go_wp2
        first | exact ⟨⟨26, by omega, rfl, R1'.out, RR.out, O'.out.drew⟩, by simp [intOf]⟩ | (go_roundw; (case rel => exact ⟨26, by omega, rfl, R1'.out, RR.out, O'.out.drew⟩); (case measure => simp [intOf]))
      · have hb := bt_at s 26 (by omega)
        obtain ⟨p, q⟩ := bt_bd s 26
        have e := ptor0 s 26
        have c := R2.cell (i := 13) (by omega)
        rw [show pt s 26 13 = 0 by simp [pt]] at c
        have f := R2.free 13
        have RR := hide ((R2.set 13 (bt s 26)).congr (fun i _ => pt_even s 13 i))
        have R1' := hide (R1.other (a := ⟨w.heap.size + 1, 13, none⟩) (by simp) (.int .u64 (bt s 26)))
        have O' := hide (O.setCell (p := ⟨w.heap.size + 1, 13, none⟩) (by simp) (.int .u64 (bt s 26)))
        clear R1 R2 O
        go_wp2_with fail
        go_region
        go_wp2
        first | exact ⟨⟨27, by omega, rfl, R1'.out, RR.out, O'.out.drew⟩, by simp [intOf]⟩ | (go_roundw; (case rel => exact ⟨27, by omega, rfl, R1'.out, RR.out, O'.out.drew⟩); (case measure => simp [intOf]))
      · have hb := bt_at s 27 (by omega)
        obtain ⟨p, q⟩ := bt_bd s 27
        have e := ptor1 s 26 27
        have c := R2.cell (i := 13) (by omega)
        rw [show pt s 27 13 = bt s 26 by simp [pt]] at c
        have f := R2.free 13
        have RR := hide ((R2.set 13 (bt s 26 + bt s 27 * 256)).congr (fun i _ => pt_odd s 13 i))
        have R1' := hide (R1.other (a := ⟨w.heap.size + 1, 13, none⟩) (by simp) (.int .u64 (bt s 26 + bt s 27 * 256)))
        have O' := hide (O.setCell (p := ⟨w.heap.size + 1, 13, none⟩) (by simp) (.int .u64 (bt s 26 + bt s 27 * 256)))
        clear R1 R2 O
        go_wp2_with fail
        go_region
        go_wp2
        first | exact ⟨⟨28, by omega, rfl, R1'.out, RR.out, O'.out.drew⟩, by simp [intOf]⟩ | (go_roundw; (case rel => exact ⟨28, by omega, rfl, R1'.out, RR.out, O'.out.drew⟩); (case measure => simp [intOf]))
      · have hb := bt_at s 28 (by omega)
        obtain ⟨p, q⟩ := bt_bd s 28
        have e := ptor0 s 28
        have c := R2.cell (i := 14) (by omega)
        rw [show pt s 28 14 = 0 by simp [pt]] at c
        have f := R2.free 14
        have RR := hide ((R2.set 14 (bt s 28)).congr (fun i _ => pt_even s 14 i))
        have R1' := hide (R1.other (a := ⟨w.heap.size + 1, 14, none⟩) (by simp) (.int .u64 (bt s 28)))
        have O' := hide (O.setCell (p := ⟨w.heap.size + 1, 14, none⟩) (by simp) (.int .u64 (bt s 28)))
        clear R1 R2 O
        go_wp2_with fail
        go_region
        go_wp2
        first | exact ⟨⟨29, by omega, rfl, R1'.out, RR.out, O'.out.drew⟩, by simp [intOf]⟩ | (go_roundw; (case rel => exact ⟨29, by omega, rfl, R1'.out, RR.out, O'.out.drew⟩); (case measure => simp [intOf]))
      · have hb := bt_at s 29 (by omega)
        obtain ⟨p, q⟩ := bt_bd s 29
        have e := ptor1 s 28 29
        have c := R2.cell (i := 14) (by omega)
        rw [show pt s 29 14 = bt s 28 by simp [pt]] at c
        have f := R2.free 14
        have RR := hide ((R2.set 14 (bt s 28 + bt s 29 * 256)).congr (fun i _ => pt_odd s 14 i))
        have R1' := hide (R1.other (a := ⟨w.heap.size + 1, 14, none⟩) (by simp) (.int .u64 (bt s 28 + bt s 29 * 256)))
        have O' := hide (O.setCell (p := ⟨w.heap.size + 1, 14, none⟩) (by simp) (.int .u64 (bt s 28 + bt s 29 * 256)))
        clear R1 R2 O
        go_wp2_with fail
        go_region
        go_wp2
        first | exact ⟨⟨30, by omega, rfl, R1'.out, RR.out, O'.out.drew⟩, by simp [intOf]⟩ | (go_roundw; (case rel => exact ⟨30, by omega, rfl, R1'.out, RR.out, O'.out.drew⟩); (case measure => simp [intOf]))
      · have hb := bt_at s 30 (by omega)
        obtain ⟨p, q⟩ := bt_bd s 30
        have e := ptor0 s 30
        have c := R2.cell (i := 15) (by omega)
        rw [show pt s 30 15 = 0 by simp [pt]] at c
        have f := R2.free 15
        have RR := hide ((R2.set 15 (bt s 30)).congr (fun i _ => pt_even s 15 i))
        have R1' := hide (R1.other (a := ⟨w.heap.size + 1, 15, none⟩) (by simp) (.int .u64 (bt s 30)))
        have O' := hide (O.setCell (p := ⟨w.heap.size + 1, 15, none⟩) (by simp) (.int .u64 (bt s 30)))
        clear R1 R2 O
        go_wp2_with fail
        go_region
        go_wp2
        first | exact ⟨⟨31, by omega, rfl, R1'.out, RR.out, O'.out.drew⟩, by simp [intOf]⟩ | (go_roundw; (case rel => exact ⟨31, by omega, rfl, R1'.out, RR.out, O'.out.drew⟩); (case measure => simp [intOf]))
      · have hb := bt_at s 31 (by omega)
        obtain ⟨p, q⟩ := bt_bd s 31
        have e := ptor1 s 30 31
        have c := R2.cell (i := 15) (by omega)
        rw [show pt s 31 15 = bt s 30 by simp [pt]] at c
        have f := R2.free 15
        have RR := hide ((R2.set 15 (bt s 30 + bt s 31 * 256)).congr (fun i _ => pt_odd s 15 i))
        have R1' := hide (R1.other (a := ⟨w.heap.size + 1, 15, none⟩) (by simp) (.int .u64 (bt s 30 + bt s 31 * 256)))
        have O' := hide (O.setCell (p := ⟨w.heap.size + 1, 15, none⟩) (by simp) (.int .u64 (bt s 30 + bt s 31 * 256)))
        clear R1 R2 O
        go_wp2_with fail
        go_region
        go_wp2
        first | exact ⟨⟨32, by omega, rfl, R1'.out, RR.out, O'.out.drew⟩, by simp [intOf]⟩ | (go_roundw; (case rel => exact ⟨32, by omega, rfl, R1'.out, RR.out, O'.out.drew⟩); (case measure => simp [intOf]))
    · have e : k = 32 := by omega
      subst e
      have RR := hide (R1.setAll (pt s 32))
      have OO := hide (below_setCells (g := w.heap.size) (Nat.le_refl _) (arr 16 (pt s 32)).toList 0 O)
      go_wp2_with (first | (refine wpList_load_row rfl 36 _ rfl (w.heap.size + 1) rfl 36 (arr 16 (pt s 32)) (0, 0) _ R2 Tryz.underlying36 rfl (info36 _) ?_) | (refine wpList_store_mid rfl 36 _ _ rfl w.heap.size 0 (arr 16 (pt s 32)) rfl rfl (by rw [arr_size]; exact R1.there) (info36 _) (arr_one _ _) ?_))
      exact bodyPost_ret (v := .agg (arr 16 (pt s 32))) (results_cell_row Tryz.results14 _ _ w.heap.size 36 (arr 16 (pt s 32)) (0, 0) _ rfl RR.out Tryz.underlying36 rfl (info36 _)) rfl ⟨rfl, OO.out⟩

end Go.Proofs.YtmhfmhmpoobmlaaGreatDoor.Ord

/- The contracts of Of, Canonical and Clamp, of the law's of, and of the document's. -/
namespace Go.Proofs.YtmhfmhmpoobmlaaGreatDoor.Ord
open Go.RowKit

/-- The number of a string's bytes modulo the order. -/
def ofN (s : ByteArray) : Int := bv s s.size % Lm
theorem ofN_bd (s : ByteArray) : 0 ≤ ofN s ∧ ofN s < Lm := lmod _

theorem mod_bytes (s : ByteArray) (w : World) (hs : s.size ≤ 64) :
    Calls Tryz.prog 71 #[.agg (arr 8 fun j => sw s j 8)] w fun x w' => x = .returned (.agg (arr 4 (d64 (ofN s)))) ∧ Below w.heap.size w w' := by
  have h := modulo_any (fun j => sw s j 8) w (sw_wds s 8)
  rw [Q_bv s 8, bv_64 s hs] at h
  exact h

set_option maxRecDepth 100000 in
set_option maxHeartbeats 1000000 in
theorem of_any (s : ByteArray) (w : World) (hs : s.size ≤ 64) (hp : s.size = 32 ∨ s.size = 64) :
    Calls Tryz.prog 37 #[.string s] w fun r w' => r = .returned (.tuple #[.agg (arr 4 (d64 (ofN s))), .int .i64 0]) ∧ Below w.heap.size w w' := by
  have HM := hide fun w => mod_bytes s w hs
  have R : Row (w.alloc (.cells #[Value.int IntKind.u64 0, Value.int IntKind.u64 0, Value.int IntKind.u64 0, Value.int IntKind.u64 0] 44)) w.heap.size 44 4 (fun _ => 0) := Row.new w 44 4 (fun _ => 0)
  have O : Below w.heap.size w (w.alloc (.cells #[Value.int IntKind.u64 0, Value.int IntKind.u64 0, Value.int IntKind.u64 0, Value.int IntKind.u64 0] 44)) := new_below w _
  obtain ⟨cap, W1, hcv, B, hb⟩ := conv_str (w.alloc (.cells #[Value.int IntKind.u64 0, Value.int IntKind.u64 0, Value.int IntKind.u64 0, Value.int IntKind.u64 0] 44)) s
  rw [show (w.alloc (.cells #[Value.int IntKind.u64 0, Value.int IntKind.u64 0, Value.int IntKind.u64 0, Value.int IntKind.u64 0] 44)).heap.size = w.heap.size + 1 by simp] at hcv B
  have HB := hide B
  replace R := R.keep hb
  replace O := O.trans (hb.mono O.size)
  clear B hb
  generalize ofN s = V at *
  have fin : ∀ w', Row w' w.heap.size 44 4 (fun _ => 0) → Below w.heap.size w w' → True := fun _ _ _ => trivial
  clear fin
  rcases hp with hp | hp
  · have n0 : ((s.size : Int) != 32) = false := by simp [hp]
    go_enter Tryz.func37, Tryz.ntmps37
    go_wp2_with fail
    have HC := dbl_any s _ cap W1 hs HB.out
    rw [hp] at HC
    refine HC.mono ?_
    clear HC
    rintro _ w1 ⟨rfl, hb1⟩
    replace R := R.keep hb1
    replace O := O.trans (hb1.mono O.size)
    clear hb1 HB hcv n0
    go_wp2_with fail
    refine (HM.out _).mono ?_
    rintro _ w2 ⟨rfl, hb1⟩
    replace R := R.keep hb1
    replace O := O.trans (hb1.mono O.size)
    clear hb1 HM
    have RR := hide (R.setAll (d64 V))
    have OO := hide (below_setCells (g := w.heap.size) (Nat.le_refl _) (arr 4 (d64 V)).toList 0 O)
    clear O
    go_wp2_with (refine wpList_store_mid rfl 44 _ _ rfl w.heap.size 0 (arr 4 (d64 V)) rfl rfl ?thn (info44 _) (arr_one _ _) ?_)
    case thn => rw [arr_size]; exact R.there
    exact bodyPost_ret (v := .tuple #[.agg (arr 4 (d64 V)), .int .i64 0]) (results_cell_tmp Tryz.results37 _ _ w.heap.size 44 (arr 4 (d64 V)) (0, 0) _ _ rfl rfl RR.out Tryz.underlying44 rfl (info44 _)) rfl ⟨rfl, OO.out⟩
  · have n0 : ((s.size : Int) != 32) = true := by simp [hp]
    have n1 : ((s.size : Int) != 64) = false := by simp [hp]
    go_enter Tryz.func37, Tryz.ntmps37
    go_wp2_with fail
    have HC := dbl_any s _ cap W1 hs HB.out
    rw [hp] at HC
    refine HC.mono ?_
    clear HC
    rintro _ w1 ⟨rfl, hb1⟩
    replace R := R.keep hb1
    replace O := O.trans (hb1.mono O.size)
    clear hb1 HB hcv n0 n1
    go_wp2_with fail
    refine (HM.out _).mono ?_
    rintro _ w2 ⟨rfl, hb1⟩
    replace R := R.keep hb1
    replace O := O.trans (hb1.mono O.size)
    clear hb1 HM
    have RR := hide (R.setAll (d64 V))
    have OO := hide (below_setCells (g := w.heap.size) (Nat.le_refl _) (arr 4 (d64 V)).toList 0 O)
    clear O
    go_wp2_with (refine wpList_store_mid rfl 44 _ _ rfl w.heap.size 0 (arr 4 (d64 V)) rfl rfl ?thm (info44 _) (arr_one _ _) ?_)
    case thm => rw [arr_size]; exact R.there
    exact bodyPost_ret (v := .tuple #[.agg (arr 4 (d64 V)), .int .i64 0]) (results_cell_tmp Tryz.results37 _ _ w.heap.size 44 (arr 4 (d64 V)) (0, 0) _ _ rfl rfl RR.out Tryz.underlying44 rfl (info44 _)) rfl ⟨rfl, OO.out⟩

set_option maxHeartbeats 400000 in
theorem of_no (s : ByteArray) (w : World) (h1 : s.size ≠ 32) (h2 : s.size ≠ 64) :
    Calls Tryz.prog 37 #[.string s] w fun r w' => r = .returned (.tuple #[.agg (arr 4 (d64 0)), .int .i64 2]) ∧ Below w.heap.size w w' := by
  have n0 : ((s.size : Int) != 32) = true := by simp; omega
  have n1 : ((s.size : Int) != 64) = true := by simp; omega
  go_enter Tryz.func37, Tryz.ntmps37
  go_wp2
  exact bodyPost_ret (v := .tuple #[.agg (arr 4 (d64 0)), .int .i64 2]) (by simp [results, Tryz.results37, go_sem]; rfl) rfl ⟨rfl, (Below.refl _ _).alloc (Nat.le_refl _) _⟩

theorem canon_val (s : ByteArray) : ((br (fun j => sw s j 8) Lf 4 : Int) == 1) = decide (bv s 32 < Lm) := by
  have e := ms_Q (sw_wds s 4) Lf_wds 4 (by omega)
  have b := Q_bd (ms_wds (fun j => sw s j 8) Lf 4)
  have hb := br_bd (fun j => sw s j 8) Lf 4
  have q := Q_bv s 4
  have q2 := Q_bd (sw_wds s 4)
  have lp := Lm_P
  rw [q, Lf_Q] at e
  rw [q] at q2
  generalize Q (ms (fun j => sw s j 8) Lf) 4 = A at *
  generalize br (fun j => sw s j 8) Lf 4 = c at *
  rw [show 8 * 4 = 32 from rfl] at *
  generalize bv s 32 = V at *
  generalize (18446744073709551616 : Int) ^ 4 = X at *
  have l0 := Lm_pos
  generalize Lm = L at *
  rcases (show c = 0 ∨ c = 1 by omega) with rfl | rfl
  · rw [show ((0 : Int) == 1) = false from rfl]
    symm
    rw [decide_eq_false_iff_not]
    omega
  · rw [show ((1 : Int) == 1) = true from rfl]
    symm
    rw [decide_eq_true_eq]
    omega

set_option maxRecDepth 100000 in
set_option maxHeartbeats 1000000 in
theorem canon_yes (s : ByteArray) (w : World) (hs : s.size = 32) :
    Calls Tryz.prog 36 #[.string s] w fun r w' => r = .returned (.bool (decide (bv s 32 < Lm))) ∧ Below w.heap.size w w' := by
  have n0 : ((s.size : Int) != 32) = false := by simp [hs]
  obtain ⟨cap, W1, hcv, B, hb⟩ := conv_str w s
  have HB := hide B
  have O := hb
  have HV := hide (canon_val s)
  clear B hb
  go_enter Tryz.func36, Tryz.ntmps36
  go_wp2_with fail
  have HC := dbl_any s _ cap W1 (by omega) HB.out
  rw [hs] at HC
  refine HC.mono ?_
  clear HC
  rintro _ w1 ⟨rfl, hb1⟩
  replace O := O.trans (hb1.mono O.size)
  clear hb1 HB hcv n0
  go_wp2_with fail
  refine (low_any _ _).mono ?_
  rintro _ w2 ⟨rfl, hb1⟩
  replace O := O.trans (hb1.mono O.size)
  clear hb1
  go_wp2_with fail
  refine (modulus_any _).mono ?_
  rintro _ w3 ⟨rfl, hb1⟩
  replace O := O.trans (hb1.mono O.size)
  clear hb1
  go_wp2_with fail
  refine (minus_any _ _ _ (sw_wds s 4) Lf_wds).mono ?_
  rintro _ w4 ⟨rfl, hb1⟩
  replace O := O.trans (hb1.mono O.size)
  clear hb1
  generalize ms (fun j => sw s j 8) Lf = r
  have hbr := br_bd (fun j => sw s j 8) Lf 4
  generalize br (fun j => sw s j 8) Lf 4 = c at *
  have RC : Row (w4.alloc (.cells #[Value.int IntKind.u64 0, Value.int IntKind.u64 0, Value.int IntKind.u64 0, Value.int IntKind.u64 0] 42)) w4.heap.size 42 4 (fun _ => 0) := Row.new w4 42 4 (fun _ => 0)
  have BB := hide (O.trans ((below_setCells (g := w4.heap.size) (Nat.le_refl _) (arr 4 r).toList 0 (new_below w4 (.cells #[Value.int IntKind.u64 0, Value.int IntKind.u64 0, Value.int IntKind.u64 0, Value.int IntKind.u64 0] 42))).mono O.size))
  generalize hd : decide (bv s 32 < Lm) = d at *
  have HD := hide hd
  clear hd O
  go_wp2_with (refine wpList_store_mid rfl 42 _ _ rfl w4.heap.size 0 (arr 4 r) rfl rfl ?thr (info42 _) (arr_one _ _) ?_)
  case thr => rw [arr_size]; exact RC.there
  go_ret
  exact ⟨by rw [HD.out, ← HV.out]; rfl, BB.out⟩

end Go.Proofs.YtmhfmhmpoobmlaaGreatDoor.Ord

/- What the multiples are: the program's and the document's are those of one point; the base point's order. -/
namespace Go.Proofs.YtmhfmhmpoobmlaaGreatDoor
open Go.RowKit

namespace Ord
theorem leb_le (N : Int) : lebytes N = bs (le N 32) := by
  unfold lebytes le digs
  have e : ∀ (i j : Nat), (N / 18446744073709551616 ^ i % 18446744073709551616) / 256 ^ j % 256 = N / 256 ^ (8 * i + j) % 256 ∨ 8 ≤ j := by
    intro i j
    by_cases hj : 8 ≤ j
    · exact .inr hj
    · left
      have e1 : (256 : Int) ^ (8 * i + j) = 18446744073709551616 ^ i * 256 ^ j := by
        rw [Int.pow_add, Int.pow_mul]
        rfl
      have hp := p64 i
      rw [e1, ← Int.ediv_ediv_of_nonneg (by omega)]
      generalize N / 18446744073709551616 ^ i = A
      rcases (show j = 0 ∨ j = 1 ∨ j = 2 ∨ j = 3 ∨ j = 4 ∨ j = 5 ∨ j = 6 ∨ j = 7 by omega) with rfl | rfl | rfl | rfl | rfl | rfl | rfl | rfl
      · simp only [Int.pow_zero]; omega
      · simp only [show (256 : Int) ^ 1 = 256 from by decide]; omega
      · simp only [show (256 : Int) ^ 2 = 65536 from by decide]; omega
      · simp only [show (256 : Int) ^ 3 = 16777216 from by decide]; omega
      · simp only [show (256 : Int) ^ 4 = 4294967296 from by decide]; omega
      · simp only [show (256 : Int) ^ 5 = 1099511627776 from by decide]; omega
      · simp only [show (256 : Int) ^ 6 = 281474976710656 from by decide]; omega
      · simp only [show (256 : Int) ^ 7 = 72057594037927936 from by decide]; omega
  congr 1
  have e' : ∀ (i j : Nat), j < 8 → N / 256 ^ (8 * i + j) % 256 = (N / 18446744073709551616 ^ i % 18446744073709551616) / 256 ^ j % 256 := fun i j hj => by
    rcases e i j with h | h
    · exact h.symm
    · omega
  have hl : List.range 32 = [8 * 0 + 0, 8 * 0 + 1, 8 * 0 + 2, 8 * 0 + 3, 8 * 0 + 4, 8 * 0 + 5, 8 * 0 + 6, 8 * 0 + 7, 8 * 1 + 0, 8 * 1 + 1, 8 * 1 + 2, 8 * 1 + 3, 8 * 1 + 4, 8 * 1 + 5, 8 * 1 + 6, 8 * 1 + 7, 8 * 2 + 0, 8 * 2 + 1, 8 * 2 + 2, 8 * 2 + 3, 8 * 2 + 4, 8 * 2 + 5, 8 * 2 + 6, 8 * 2 + 7, 8 * 3 + 0, 8 * 3 + 1, 8 * 3 + 2, 8 * 3 + 3, 8 * 3 + 4, 8 * 3 + 5, 8 * 3 + 6, 8 * 3 + 7] := by decide
  rw [hl]
  simp only [List.map_cons, List.map_nil]
  rw [e' 0 0 (by omega), e' 0 1 (by omega), e' 0 2 (by omega), e' 0 3 (by omega), e' 0 4 (by omega), e' 0 5 (by omega), e' 0 6 (by omega), e' 0 7 (by omega), e' 1 0 (by omega), e' 1 1 (by omega), e' 1 2 (by omega), e' 1 3 (by omega), e' 1 4 (by omega), e' 1 5 (by omega), e' 1 6 (by omega), e' 1 7 (by omega), e' 2 0 (by omega), e' 2 1 (by omega), e' 2 2 (by omega), e' 2 3 (by omega), e' 2 4 (by omega), e' 2 5 (by omega), e' 2 6 (by omega), e' 2 7 (by omega), e' 3 0 (by omega), e' 3 1 (by omega), e' 3 2 (by omega), e' 3 3 (by omega), e' 3 4 (by omega), e' 3 5 (by omega), e' 3 6 (by omega), e' 3 7 (by omega)]
  simp

theorem leb_size (N : Int) : (lebytes N).size = 32 := by
  unfold lebytes
  rw [bs_size]
  rfl

theorem leb_bv {N : Int} (hN : 0 ≤ N ∧ N < Lm) : bv (lebytes N) 32 = N := by
  have hP := Lm_P
  rw [leb_le N, bv_le N hN.1 32 32 (by omega)]
  have e : (256 : Int) ^ 32 = 18446744073709551616 ^ 4 := by decide
  rw [e, Int.emod_eq_of_lt hN.1 (by omega)]

end Ord

theorem add_self (P : Pt) : P.add P = P.mul 2 := by
  show _ = (zeroP.add P).add P
  rw [add_comm' zeroP, add_zero']
theorem Rep.dbl2 {p : P5} {P : Pt} (h : Rep p P) : Rep (dblF p) (P.mul 2) := by
  rw [← add_self]
  exact h.dbl
theorem Rep.d4 {p : P5} {P : Pt} {n : Nat} (h : Rep p (P.mul n)) : Rep (d4 p) (P.mul (n * 16)) := by
  have e : P.mul (n * 16) = ((((P.mul n).mul 2).mul 2).mul 2).mul 2 := by
    rw [← mul_mul', ← mul_mul', ← mul_mul', ← mul_mul']
  rw [e]
  exact h.dbl2.dbl2.dbl2.dbl2
theorem Rep.mulT {p : P5} {P : Pt} (h : Rep p P) : ∀ k, Rep (mulT p k) (P.mul k)
  | 0 => zero5_rep
  | k + 1 => (Rep.mulT h k).sum h
theorem Rep.sumN {p q : P5} {P : Pt} {m n : Nat} (hp : Rep p (P.mul m)) (hq : Rep q (P.mul n)) : Rep (sumF p q) (P.mul (m + n)) := by
  rw [mul_add']
  exact hp.sum hq
theorem div_step {A : Int} {B b : Nat} (h0 : 0 ≤ A) (h1 : (A / B).toNat = b) (hB : 0 < B) : A.toNat = b * B + (A % B).toNat := by
  have h2 := Int.emod_nonneg A (show (B : Int) ≠ 0 by omega)
  have h3 : 0 ≤ A / B := Int.ediv_nonneg h0 (by omega)
  have h4 := Int.mul_ediv_add_emod A B
  apply Int.ofNat.inj
  show (A.toNat : Int) = ((b * B + (A % B).toNat : Nat) : Int)
  rw [Int.natCast_add, Int.natCast_mul, ← h1, Int.toNat_of_nonneg h0, Int.toNat_of_nonneg h3, Int.toNat_of_nonneg h2, Int.mul_comm]
  exact h4.symm
theorem Rep.acc {p : P5} {P : Pt} (h : Rep p P) (s : ByteArray) : ∀ j, j ≤ 32 → Rep (acc p s j) (P.mul (Ord.bv s 32 / 256 ^ (32 - j)).toNat)
  | 0, _ => by
    have hb := Ord.bv_bd s 32
    rw [Int.ediv_eq_zero_of_lt hb.1 hb.2]
    exact zero5_rep
  | j + 1, hj => by
    have ih := Rep.acc h s j (by omega)
    have hb := Ord.bv_bd s 32
    have ha := Ord.bv_at s (j := 31 - j) (m := 32) (by omega)
    have hp := Ord.p8 (31 - j)
    rw [show 32 - j = 31 - j + 1 by omega, Int.pow_succ, ← Int.ediv_ediv_of_nonneg (by omega)] at ih
    rw [show 32 - (j + 1) = 31 - j by omega]
    have hA : 0 ≤ Ord.bv s 32 / 256 ^ (31 - j) := Int.ediv_nonneg hb.1 (by omega)
    generalize Ord.bv s 32 / 256 ^ (31 - j) = A at *
    have hd := div_step (B := 256) hA rfl (by omega)
    rw [hd, show (A % ((256 : Nat) : Int)) = A % 256 from rfl, ha]
    have ht := bt_bd s (31 - j)
    show Rep (sumF (_root_.Go.Proofs.YtmhfmhmpoobmlaaGreatDoor.d4 (sumF (_root_.Go.Proofs.YtmhfmhmpoobmlaaGreatDoor.d4 (_root_.Go.Proofs.YtmhfmhmpoobmlaaGreatDoor.acc p s j)) (_root_.Go.Proofs.YtmhfmhmpoobmlaaGreatDoor.mulT p (bt s (31 - j) / 16).toNat))) (_root_.Go.Proofs.YtmhfmhmpoobmlaaGreatDoor.mulT p (bt s (31 - j) % 16).toNat)) _
    have h2 := ((ih.d4.sumN (h.mulT (bt s (31 - j) / 16).toNat)).d4).sumN (h.mulT (bt s (31 - j) % 16).toNat)
    have e : ((A / 256).toNat * 16 + (bt s (31 - j) / 16).toNat) * 16 + (bt s (31 - j) % 16).toNat = (A / ((256 : Nat) : Int)).toNat * 256 + (bt s (31 - j)).toNat := by
      rw [show (A / ((256 : Nat) : Int)) = A / 256 from rfl]
      omega
    rw [e] at h2
    exact h2

/-- Mul by a scalar. -/
noncomputable def mulV (p : P5) (N : Int) : P5 := acc p (Ord.lebytes N) 32
theorem Rep.mul {p : P5} {P : Pt} (h : Rep p P) {N : Int} (hN : 0 ≤ N ∧ N < Ord.Lm) : Rep (mulV p N) (P.mul N.toNat) := by
  have h2 := h.acc (Ord.lebytes N) 32 (Nat.le_refl _)
  rw [Ord.leb_bv hN, Nat.sub_self, Int.pow_zero, Int.ediv_one] at h2
  exact h2
theorem c_mul {p : P5} {P : Pt} (h : Rep p P) (N : Int) (w : World) : Calls Tryz.prog 26 #[.agg (arr 20 p.f), .agg (arr 4 (Ord.d64 N))] w fun r w' => r = .returned (.agg (arr 20 (mulV p N).f)) ∧ Below w.heap.size w w' :=
  mulY_gen p (Ord.d64 N) (Ord.lebytes N) w ⟨trivial⟩ h.ok h.none (Ord.leb_size N) (fun w => Ord.bytes_any N w)

theorem RRep.dblN {q : RQ} {P : Pt} {n : Nat} (h : RRep q (P.mul n)) : RRep (raddV q q) (P.mul (n * 2)) := by
  rw [mul_mul', ← add_self]
  exact h.add h
end Go.Proofs.YtmhfmhmpoobmlaaGreatDoor

/- The base point, as often as its order tells, is the zero point. -/
namespace Go.Proofs.YtmhfmhmpoobmlaaGreatDoor
open Go.RowKit

def rst (q : RQ) : List Bool → RQ → RQ
  | [], r => r
  | true :: l, r => rst q l (raddV (raddV r r) q)
  | false :: l, r => rst q l (raddV r r)
def nst : List Bool → Nat → Nat
  | [], n => n
  | true :: l, n => nst l (n * 2 + 1)
  | false :: l, n => nst l (n * 2)
theorem RRep.rst {q : RQ} {P : Pt} (hq : RRep q P) : ∀ (l : List Bool) (r : RQ) (n : Nat), RRep r (P.mul n) → RRep (rst q l r) (P.mul (nst l n))
  | [], _, _, h => h
  | true :: l, _, _, h => RRep.rst hq l _ _ ((h.dblN).add hq)
  | false :: l, _, _, h => RRep.rst hq l _ _ h.dblN
theorem RQ.ext {p q : RQ} (h : p.x = q.x ∧ p.y = q.y ∧ p.z = q.z ∧ p.t = q.t) : p = q := by
  cases p
  cases q
  obtain ⟨rfl, rfl, rfl, rfl⟩ := h
  rfl
def bQ : RQ := rofV BX BY
theorem RRep.step {P : Pt} {r r' : RQ} {n n' : Nat} {q : RQ} (h : RRep r (P.mul n)) (hq : RRep q P) (l : List Bool) (h1 : (Go.Proofs.YtmhfmhmpoobmlaaGreatDoor.rst q l r).x = r'.x ∧ (Go.Proofs.YtmhfmhmpoobmlaaGreatDoor.rst q l r).y = r'.y ∧ (Go.Proofs.YtmhfmhmpoobmlaaGreatDoor.rst q l r).z = r'.z ∧ (Go.Proofs.YtmhfmhmpoobmlaaGreatDoor.rst q l r).t = r'.t) (h2 : nst l n = n') : RRep r' (P.mul n') := by
  have h3 := hq.rst l r n h
  rw [RQ.ext h1, h2] at h3
  exact h3
def o0 : RQ := rzeroV
def o1 : RQ := ⟨28395401623189904592402220376056608767286906469681911141736293996965798587502, 39551095695588853852379006563980990449178671813393243361538106395492117339030, 13195407553963494886988266688278850522809838004392335738274838344469044685139, 5998313819499033592004301560146126542607977991985566157281743382373950066103⟩
def o2 : RQ := ⟨3736255692963323852157080816719051928015231286185418755506407306915993899308, 17983798907073456331824429511468081546160187313990958684116939890165973385368, 33785251562200620272591655105578257675791047440203960497896472325457266014387, 45039970419153914913233916472718629475295562274195907195989696614576481271418⟩
def o3 : RQ := ⟨32052919422593390400337661247495038476529181208675066921379485888298719544837, 28429070914396697255495341828562990241969202408203355349348710724900185533588, 10588827755536999659864071860885663282680288609784572110374386994466660820476, 43013930901032196104395741888172690439877794597309416145526463712315394175116⟩
def o4 : RQ := ⟨4776277093813094955447743187417552572016585737685742536869622802835626899788, 30356025824548741949173045342494487507276562520522040179358715903492292688926, 29323326198710578740964923425401914765723760484569174664957710697561699375900, 13956212776148083255775091524001131953413201558734147707505118271509020383196⟩
def o5 : RQ := ⟨806028773641219405862066059792010227355644258226013237337961789056367360821, 13645183299928035859404353138110674523321692145028244430183708252202950528286, 25740815768117163713671634973563184703771474299857880066918189357958302116656, 52976027652120056614879305678715301146658099535885801916867846385800325449149⟩
def o6 : RQ := ⟨53202340910804720089923126557762210560763707178748913619495571538216751118793, 5994992531545989339101713789415225570399832354646093006770512998245129148230, 49169377775103921856242158605049669300247942084372411297801676540811558102635, 17654134180440362703753347632903727523010676403024084488303834421225956520400⟩
def o7 : RQ := ⟨34437211082591628754963963332413600883643232053922453139678842744603559047493, 54680333614222602184519653312904971056685970828137662068838011254234276717307, 57588523901183987980859279241235023185009676028267405362722392578218847616269, 41914822620010476767204697037032211561614625667705488896940774529961006791822⟩
def o8 : RQ := ⟨24938624142880780344185953651372311870993717010437796377091996921811638714354, 16474457591788104045688778599773579319323806555755566182177038192546166075924, 57524396202905988941658100797691401348601525856126991861405551356077940318813, 26224548346873096615053983777140347907859092712892604855457609964493929522927⟩
def o9 : RQ := ⟨25168124459283634048685004133356609610721974039013091971913029540572414504877, 27987968856047954817657214997378746610764352260470400266540909667165894558128, 14768179893708287219721532596338883635357869270426009452434214877506987587763, 6326508007159339918357099038779855480739308633279098373600916981610574437171⟩
def o10 : RQ := ⟨27747334574616394001671544972397522701443406515410373621549800952286789188031, 8199122845177527114994708208354772536036717138860348540088995815280918949742, 5134118114367787481165291208904372290085401719766489595368751140561486979321, 54909114419988028932990657036010681893848110131280402308041711995246989110530⟩
def o11 : RQ := ⟨47916525168426179058218639806050604838489673677967769462188175335800095451463, 30617327695503016912621504384003028789359232859295326909963525387337587687837, 15147999521824012262492808253667687103168467042379860254812284001570090082820, 29164916684187026905245983522567931035026027657278887173783286103699229397309⟩
def o12 : RQ := ⟨55586458315084942508444723505078300992367419188555001130362602504126887477078, 42426833684895173971395463425312672006402497661541248970032229337861445966265, 30730388071930233499358459694661362762964327783092890224499688175283802616403, 8039619322643508031468223705383141458266607702281554665860735995537490650637⟩
def o13 : RQ := ⟨51419250150038731644333251568919273144715778504851121824800562544659421298484, 28903739427090395221708848164697410114564063746263677860320303608050639344901, 15017484878533359343056733774260568446294757705876846707190123253873000062853, 6663089723473616439001129195948032937660877275257366086977936812382531236983⟩
def o14 : RQ := ⟨10254399784315766716610494235702531705911148126970686655270206883261708408098, 11469908055901212768965127832624076734961441843657061447519809181412902932642, 30131591433583498236796704419554815994011702757874957746806098848784234914440, 16582165256344878604191661744201309794514361187147972527423185449348709391635⟩
def o15 : RQ := ⟨32761083542642319082911891549565013916355666803021809017442293094877123159423, 43260193632724267928556799731591429809763670677086712837872571686988731236319, 52079969498321735438166242631188276138841292434150570293186434401445865030891, 50690132427915236889963139383109278049152775223873666246053827620230532825267⟩
def o16 : RQ := ⟨0, 31463696881198654800294338934949973004785003180365891933753696501213649936932, 31463696881198654800294338934949973004785003180365891933753696501213649936932, 0⟩
theorem of1 : (rst bQ [true, false, false, false, false, false, false, false, false, false, false, false, false, false, false, false] o0).x = o1.x ∧ (rst bQ [true, false, false, false, false, false, false, false, false, false, false, false, false, false, false, false] o0).y = o1.y ∧ (rst bQ [true, false, false, false, false, false, false, false, false, false, false, false, false, false, false, false] o0).z = o1.z ∧ (rst bQ [true, false, false, false, false, false, false, false, false, false, false, false, false, false, false, false] o0).t = o1.t := by decide +kernel
theorem of2 : (rst bQ [false, false, false, false, false, false, false, false, false, false, false, false, false, false, false, false] o1).x = o2.x ∧ (rst bQ [false, false, false, false, false, false, false, false, false, false, false, false, false, false, false, false] o1).y = o2.y ∧ (rst bQ [false, false, false, false, false, false, false, false, false, false, false, false, false, false, false, false] o1).z = o2.z ∧ (rst bQ [false, false, false, false, false, false, false, false, false, false, false, false, false, false, false, false] o1).t = o2.t := by decide +kernel
theorem of3 : (rst bQ [false, false, false, false, false, false, false, false, false, false, false, false, false, false, false, false] o2).x = o3.x ∧ (rst bQ [false, false, false, false, false, false, false, false, false, false, false, false, false, false, false, false] o2).y = o3.y ∧ (rst bQ [false, false, false, false, false, false, false, false, false, false, false, false, false, false, false, false] o2).z = o3.z ∧ (rst bQ [false, false, false, false, false, false, false, false, false, false, false, false, false, false, false, false] o2).t = o3.t := by decide +kernel
theorem of4 : (rst bQ [false, false, false, false, false, false, false, false, false, false, false, false, false, false, false, false] o3).x = o4.x ∧ (rst bQ [false, false, false, false, false, false, false, false, false, false, false, false, false, false, false, false] o3).y = o4.y ∧ (rst bQ [false, false, false, false, false, false, false, false, false, false, false, false, false, false, false, false] o3).z = o4.z ∧ (rst bQ [false, false, false, false, false, false, false, false, false, false, false, false, false, false, false, false] o3).t = o4.t := by decide +kernel
theorem of5 : (rst bQ [false, false, false, false, false, false, false, false, false, false, false, false, false, false, false, false] o4).x = o5.x ∧ (rst bQ [false, false, false, false, false, false, false, false, false, false, false, false, false, false, false, false] o4).y = o5.y ∧ (rst bQ [false, false, false, false, false, false, false, false, false, false, false, false, false, false, false, false] o4).z = o5.z ∧ (rst bQ [false, false, false, false, false, false, false, false, false, false, false, false, false, false, false, false] o4).t = o5.t := by decide +kernel
theorem of6 : (rst bQ [false, false, false, false, false, false, false, false, false, false, false, false, false, false, false, false] o5).x = o6.x ∧ (rst bQ [false, false, false, false, false, false, false, false, false, false, false, false, false, false, false, false] o5).y = o6.y ∧ (rst bQ [false, false, false, false, false, false, false, false, false, false, false, false, false, false, false, false] o5).z = o6.z ∧ (rst bQ [false, false, false, false, false, false, false, false, false, false, false, false, false, false, false, false] o5).t = o6.t := by decide +kernel
theorem of7 : (rst bQ [false, false, false, false, false, false, false, false, false, false, false, false, false, false, false, false] o6).x = o7.x ∧ (rst bQ [false, false, false, false, false, false, false, false, false, false, false, false, false, false, false, false] o6).y = o7.y ∧ (rst bQ [false, false, false, false, false, false, false, false, false, false, false, false, false, false, false, false] o6).z = o7.z ∧ (rst bQ [false, false, false, false, false, false, false, false, false, false, false, false, false, false, false, false] o6).t = o7.t := by decide +kernel
theorem of8 : (rst bQ [false, false, false, false, false, false, false, false, false, false, false, false, false, false, false, false] o7).x = o8.x ∧ (rst bQ [false, false, false, false, false, false, false, false, false, false, false, false, false, false, false, false] o7).y = o8.y ∧ (rst bQ [false, false, false, false, false, false, false, false, false, false, false, false, false, false, false, false] o7).z = o8.z ∧ (rst bQ [false, false, false, false, false, false, false, false, false, false, false, false, false, false, false, false] o7).t = o8.t := by decide +kernel
theorem of9 : (rst bQ [true, false, true, false, false, true, true, false, true, true, true, true, false, true, true, true] o8).x = o9.x ∧ (rst bQ [true, false, true, false, false, true, true, false, true, true, true, true, false, true, true, true] o8).y = o9.y ∧ (rst bQ [true, false, true, false, false, true, true, false, true, true, true, true, false, true, true, true] o8).z = o9.z ∧ (rst bQ [true, false, true, false, false, true, true, false, true, true, true, true, false, true, true, true] o8).t = o9.t := by decide +kernel
theorem of10 : (rst bQ [true, true, false, false, true, true, true, false, true, true, true, true, false, true, false, true] o9).x = o10.x ∧ (rst bQ [true, true, false, false, true, true, true, false, true, true, true, true, false, true, false, true] o9).y = o10.y ∧ (rst bQ [true, true, false, false, true, true, true, false, true, true, true, true, false, true, false, true] o9).z = o10.z ∧ (rst bQ [true, true, false, false, true, true, true, false, true, true, true, true, false, true, false, true] o9).t = o10.t := by decide +kernel
theorem of11 : (rst bQ [false, false, false, true, false, true, true, true, true, false, true, true, true, true, false, false] o10).x = o11.x ∧ (rst bQ [false, false, false, true, false, true, true, true, true, false, true, true, true, true, false, false] o10).y = o11.y ∧ (rst bQ [false, false, false, true, false, true, true, true, true, false, true, true, true, true, false, false] o10).z = o11.z ∧ (rst bQ [false, false, false, true, false, true, true, true, true, false, true, true, true, true, false, false] o10).t = o11.t := by decide +kernel
theorem of12 : (rst bQ [true, true, true, false, false, true, true, false, true, false, true, true, false, false, true, false] o11).x = o12.x ∧ (rst bQ [true, true, true, false, false, true, true, false, true, false, true, true, false, false, true, false] o11).y = o12.y ∧ (rst bQ [true, true, true, false, false, true, true, false, true, false, true, true, false, false, true, false] o11).z = o12.z ∧ (rst bQ [true, true, true, false, false, true, true, false, true, false, true, true, false, false, true, false] o11).t = o12.t := by decide +kernel
theorem of13 : (rst bQ [true, true, false, false, false, false, false, false, true, false, false, true, false, false, true, true] o12).x = o13.x ∧ (rst bQ [true, true, false, false, false, false, false, false, true, false, false, true, false, false, true, true] o12).y = o13.y ∧ (rst bQ [true, true, false, false, false, false, false, false, true, false, false, true, false, false, true, true] o12).z = o13.z ∧ (rst bQ [true, true, false, false, false, false, false, false, true, false, false, true, false, false, true, true] o12).t = o13.t := by decide +kernel
theorem of14 : (rst bQ [false, false, false, true, true, false, false, false, true, true, false, true, false, false, true, false] o13).x = o14.x ∧ (rst bQ [false, false, false, true, true, false, false, false, true, true, false, true, false, false, true, false] o13).y = o14.y ∧ (rst bQ [false, false, false, true, true, false, false, false, true, true, false, true, false, false, true, false] o13).z = o14.z ∧ (rst bQ [false, false, false, true, true, false, false, false, true, true, false, true, false, false, true, false] o13).t = o14.t := by decide +kernel
theorem of15 : (rst bQ [true, true, true, false, false, true, true, true, true, false, true, false, true, true, true, false] o14).x = o15.x ∧ (rst bQ [true, true, true, false, false, true, true, true, true, false, true, false, true, true, true, false] o14).y = o15.y ∧ (rst bQ [true, true, true, false, false, true, true, true, true, false, true, false, true, true, true, false] o14).z = o15.z ∧ (rst bQ [true, true, true, false, false, true, true, true, true, false, true, false, true, true, true, false] o14).t = o15.t := by decide +kernel
theorem of16 : (rst bQ [true, false, false, true, true, true, true, true, false, true, true, false, true] o15).x = o16.x ∧ (rst bQ [true, false, false, true, true, true, true, true, false, true, true, false, true] o15).y = o16.y ∧ (rst bQ [true, false, false, true, true, true, true, true, false, true, true, false, true] o15).z = o16.z ∧ (rst bQ [true, false, false, true, true, true, true, true, false, true, true, false, true] o15).t = o16.t := by decide +kernel
theorem ord_rep : RRep o16 (baseQ.mul 7237005577332262213973186563042994240857116359379907606001950938285454250989) := by
  have hq : RRep bQ baseQ := by
    unfold bQ
    rw [← base_q]
    exact rbase_rep
  have h : RRep o0 (baseQ.mul 0) := rzero_rep
  have h : RRep o1 (baseQ.mul 32768) := h.step hq [true, false, false, false, false, false, false, false, false, false, false, false, false, false, false, false] of1 (by decide +kernel)
  have h : RRep o2 (baseQ.mul 2147483648) := h.step hq [false, false, false, false, false, false, false, false, false, false, false, false, false, false, false, false] of2 (by decide +kernel)
  have h : RRep o3 (baseQ.mul 140737488355328) := h.step hq [false, false, false, false, false, false, false, false, false, false, false, false, false, false, false, false] of3 (by decide +kernel)
  have h : RRep o4 (baseQ.mul 9223372036854775808) := h.step hq [false, false, false, false, false, false, false, false, false, false, false, false, false, false, false, false] of4 (by decide +kernel)
  have h : RRep o5 (baseQ.mul 604462909807314587353088) := h.step hq [false, false, false, false, false, false, false, false, false, false, false, false, false, false, false, false] of5 (by decide +kernel)
  have h : RRep o6 (baseQ.mul 39614081257132168796771975168) := h.step hq [false, false, false, false, false, false, false, false, false, false, false, false, false, false, false, false] of6 (by decide +kernel)
  have h : RRep o7 (baseQ.mul 2596148429267413814265248164610048) := h.step hq [false, false, false, false, false, false, false, false, false, false, false, false, false, false, false, false] of7 (by decide +kernel)
  have h : RRep o8 (baseQ.mul 170141183460469231731687303715884105728) := h.step hq [false, false, false, false, false, false, false, false, false, false, false, false, false, false, false, false] of8 (by decide +kernel)
  have h : RRep o9 (baseQ.mul 11150372599265311570767859136324180753032951) := h.step hq [true, false, true, false, false, true, true, false, true, true, true, true, false, true, true, true] of9 (by decide +kernel)
  have h : RRep o10 (baseQ.mul 730750818665451459101842416358141509830767529717) := h.step hq [true, true, false, false, true, true, true, false, true, true, true, true, false, true, false, true] of10 (by decide +kernel)
  have h : RRep o11 (baseQ.mul 47890485652059026823698344598447161988269180827539388) := h.step hq [false, false, false, true, false, true, true, true, true, false, true, true, true, true, false, false] of11 (by decide +kernel)
  have h : RRep o12 (baseQ.mul 3138550867693340381917894711603833208063209034713621391026) := h.step hq [true, true, true, false, false, true, true, false, true, false, true, true, false, false, true, false] of12 (by decide +kernel)
  have h : RRep o13 (baseQ.mul 205688069665150755269371147819668813123630467298991891482329235) := h.step hq [true, true, false, false, false, false, false, false, true, false, false, true, false, false, true, true] of13 (by decide +kernel)
  have h : RRep o14 (baseQ.mul 13479973333575319897333507543509815336870246304906732600185928751314) := h.step hq [false, false, false, true, true, false, false, false, true, true, false, true, false, false, true, false] of14 (by decide +kernel)
  have h : RRep o15 (baseQ.mul 883423532389192164791648750371459257917128461838367627685785026646173614) := h.step hq [true, true, true, false, false, true, true, true, true, false, true, false, true, true, true, false] of15 (by decide +kernel)
  have h : RRep o16 (baseQ.mul 7237005577332262213973186563042994240857116359379907606001950938285454250989) := h.step hq [true, false, false, true, true, true, true, true, false, true, true, false, true] of16 (by decide +kernel)
  exact h
def oN : Nat := 7237005577332262213973186563042994240857116359379907606001950938285454250989
theorem oN_Lm : (oN : Int) = Ord.Lm := by decide +kernel
theorem ord_zero : baseQ.mul oN = zeroP := (ord_rep.same rzero_rep).1 (by decide +kernel)

end Go.Proofs.YtmhfmhmpoobmlaaGreatDoor

/- The walk of EdwReckons. -/
namespace Go.Proofs.YtmhfmhmpoobmlaaGreatDoor
open Go.RowKit

noncomputable def decQ (s : ByteArray) : Pt := if h : rdecB s = true then decPt s h else zeroP
theorem dec_both {s : ByteArray} (hc : decC s = 0) : Rep (decP s) (decQ s) ∧ RRep (rdecP s) (decQ s) := by
  have h32 : s.size = 32 := by
    refine Classical.byContradiction fun h => ?_
    unfold decC at hc
    rw [if_neg h] at hc
    cases hc
  have hB : rdecB s = true := by
    cases h : rdecB s
    · unfold decC at hc
      rw [if_pos h32, dec_eq, h] at hc
      cases hc
    · rfl
  have e : decQ s = decPt s hB := by
    unfold decQ
    rw [dif_pos hB]
  rw [e]
  exact ⟨dec_rep h32 hB, rdec_rep h32 hB⟩
noncomputable def ofC (s : ByteArray) : Int := if s.size = 32 ∨ s.size = 64 then 0 else 2
noncomputable def ofV (s : ByteArray) : Int := if s.size = 32 ∨ s.size = 64 then Ord.ofN s else 0
theorem c_of (s : ByteArray) (w : World) : Calls Tryz.prog 37 #[.string s] w fun r w' => r = .returned (.tuple #[.agg (arr 4 (Ord.d64 (ofV s))), .int .i64 (ofC s)]) ∧ Below w.heap.size w w' := by
  unfold ofV ofC
  by_cases h : s.size = 32 ∨ s.size = 64
  · rw [if_pos h, if_pos h]
    exact Ord.of_any s w (by omega) h
  · rw [if_neg h, if_neg h]
    exact Ord.of_no s w (by omega) (by omega)
theorem ofV_bd (s : ByteArray) : 0 ≤ ofV s ∧ ofV s < Ord.Lm := by
  unfold ofV
  split
  · exact Ord.ofN_bd s
  · decide
end Go.Proofs.YtmhfmhmpoobmlaaGreatDoor

/- The walk of EdwLaws. -/
namespace Go.Proofs.YtmhfmhmpoobmlaaGreatDoor
open Go.RowKit

/-- Multiples of the base point by numbers modulo the order. -/
theorem base_mod {A : Int} (h : 0 ≤ A) : baseQ.mul (A % Ord.Lm).toNat = baseQ.mul A.toNat := by
  have hd := div_step (B := oN) h rfl (by decide)
  rw [hd, mul_add', Nat.mul_comm, mul_mul', ord_zero, zero_mul', add_comm', add_zero', oN_Lm]
theorem l_add {M N : Int} (hM : 0 ≤ M) (hN : 0 ≤ N) : baseQ.mul ((M + N) % Ord.Lm).toNat = (baseQ.mul M.toNat).add (baseQ.mul N.toNat) := by
  rw [base_mod (by omega), ← mul_add']
  congr 1
  omega
theorem l_mul {M N : Int} (hM : 0 ≤ M) (hN : 0 ≤ N) : baseQ.mul (M * N % Ord.Lm).toNat = (baseQ.mul M.toNat).mul N.toNat := by
  rw [base_mod (Int.mul_nonneg hM hN), ← mul_mul']
  congr 1
  exact Int.toNat_mul hM hN
end Go.Proofs.YtmhfmhmpoobmlaaGreatDoor

/- The contracts of both Clamp, of the document's Canonical, of the law's of. -/
namespace Go.Proofs.YtmhfmhmpoobmlaaGreatDoor.Ord
open Go.RowKit

theorem and_bd {x : Int} (h0 : 0 ≤ x) (h1 : x < 256) : 0 ≤ bits .and .u8 x 248 ∧ bits .and .u8 x 248 < 256 := by
  obtain ⟨X, rfl⟩ := Int.eq_ofNat_of_zero_le h0
  have hX : X < 256 := by omega
  have h : ∀ n : Fin 256, 0 ≤ bits .and .u8 ((n.val : Nat) : Int) 248 ∧ bits .and .u8 ((n.val : Nat) : Int) 248 < 256 := by decide +kernel
  exact h ⟨X, hX⟩
theorem or_bd {x : Int} (h0 : 0 ≤ x) (h1 : x < 256) : 0 ≤ bits .or .u8 (bits .and .u8 x 127) 64 ∧ bits .or .u8 (bits .and .u8 x 127) 64 < 256 := by
  obtain ⟨X, rfl⟩ := Int.eq_ofNat_of_zero_le h0
  have hX : X < 256 := by omega
  have h : ∀ n : Fin 256, 0 ≤ bits .or .u8 (bits .and .u8 ((n.val : Nat) : Int) 127) 64 ∧ bits .or .u8 (bits .and .u8 ((n.val : Nat) : Int) 127) 64 < 256 := by decide +kernel
  exact h ⟨X, hX⟩

/-- The bytes of a secret that is clamped. -/
def clF (s : ByteArray) : Nat → Int := upd (upd (bt s) 0 (bits .and .u8 (bt s 0) 248)) 31 (bits .or .u8 (bits .and .u8 (bt s 31) 127) 64)
def clS (s : ByteArray) : ByteArray := bs ((List.range 32).map (clF s))
theorem clF_bd (s : ByteArray) (i : Nat) : 0 ≤ clF s i ∧ clF s i < 256 := by
  unfold clF upd
  by_cases h1 : i = 31
  · rw [if_pos h1]
    exact or_bd (bt_bd s 31).1 (bt_bd s 31).2
  · rw [if_neg h1]
    by_cases h2 : i = 0
    · rw [if_pos h2]
      exact and_bd (bt_bd s 0).1 (bt_bd s 0).2
    · rw [if_neg h2]
      exact bt_bd s i
theorem clS_size (s : ByteArray) : (clS s).size = 32 := by unfold clS; rw [bs_size]; simp

set_option maxRecDepth 100000 in
set_option maxHeartbeats 1000000 in
theorem clamp_yes (s : ByteArray) (w : World) (hs : s.size = 32) :
    Calls Tryz.prog 46 #[.string s] w fun r w' => r = .returned (.tuple #[.string (clS s), .int .i64 0]) ∧ Below w.heap.size w w' := by
  have n0 : ((s.size : Int) != 32) = false := by simp [hs]
  obtain ⟨cap, W1, hcv, B, hb⟩ := conv_str w s
  rw [hs] at B
  have c0 := B.c 0 (by omega)
  have c31 := B.c 31 (by omega)
  have f0 := B.fz 0 (by omega)
  have f31 := B.fz 31 (by omega)
  have gl := B.lt
  have B2 := (B.set (k := 0) (by omega) (bits .and .u8 (bt s 0) 248)).set (k := 31) (by omega) (bits .or .u8 (bits .and .u8 (bt s 31) 127) 64)
  have hbk := conv_back (f := clF s) B2 cap (fun i _ => clF_bd s i)
  rw [show bs ((List.range 32).map (clF s)) = clS s from rfl] at hbk
  have OO := hide ((hb.setCell (p := ⟨w.heap.size, 0, none⟩) (Nat.le_refl _) (.int .u8 (bits .and .u8 (bt s 0) 248))).setCell (p := ⟨w.heap.size, 31, none⟩) (Nat.le_refl _) (.int .u8 (bits .or .u8 (bits .and .u8 (bt s 31) 127) 64)))
  clear B2 B hb
  generalize clS s = C at *
  go_enter Tryz.func46, Tryz.ntmps46
  go_wp2
  exact bodyPost_ret (v := .tuple #[.string C, .int .i64 0]) (by simp [results, Tryz.results46, go_sem]) rfl ⟨rfl, OO.out⟩

end Go.Proofs.YtmhfmhmpoobmlaaGreatDoor.Ord

/- What the parts of a signature are made of: the contracts of order and edw, over cells of any kind; what a secret holds. -/
namespace Go.Proofs.YtmhfmhmpoobmlaaGreatDoor.Sha
open Go.RowKit

/-- What a secret holds: its number, and what stands ahead of a text. -/
def hd (N : Int) (p : ByteArray) : Nat → Value := fun i => if i < 4 then .int .u64 (Ord.d64 N i) else .string p
theorem hd_part (N : Int) (p : ByteArray) : ∀ j, j < 4 → hd N p (0 + j) = w64 (Ord.d64 N) j := fun j hj => by
  unfold hd w64
  rw [Nat.zero_add, if_pos hj]
theorem hd_4 (N : Int) (p : ByteArray) : hd N p 4 = .string p := rfl
theorem hd_put4 (N K : Int) (p : ByteArray) : ∀ j, j < 5 → (if 0 ≤ j ∧ j < 0 + 4 then w64 (Ord.d64 K) (j - 0) else hd N p j) = hd K p j := fun j hj => by
  unfold hd w64
  by_cases h : j < 4
  · rw [if_pos (by omega), if_pos h, Nat.sub_zero]
  · rw [if_neg (by omega), if_neg h, if_neg h]
theorem hd_put1 (N : Int) (p q : ByteArray) : ∀ j, j < 5 → (if j = 4 then .string q else hd N p j) = hd N q j := fun j hj => by
  unfold hd
  by_cases h : j < 4
  · rw [if_neg (by omega), if_pos h, if_pos h]
  · rw [if_pos (by omega), if_neg h]
theorem hd_one (N : Int) (p : ByteArray) : ∀ j, j < 5 → (hd N p j).oneCell' = true := fun j _ => by
  unfold hd
  split <;> rfl
theorem inz44 : (Tryz.prog.info? 44).map (·.size) = some 4 := by kernel_rfl
theorem inz46 : (Tryz.prog.info? 46).map (·.size) = some 5 := by kernel_rfl
theorem inz60 : (Tryz.prog.info? 60).map (·.size) = some 20 := by kernel_rfl
theorem inz36 : (Tryz.prog.info? 36).map (·.size) = some 16 := by kernel_rfl
theorem z_base  (w : World) : Calls Tryz.prog 25 #[] w fun r w' => r = .returned (.agg (av 20 (w64 base5.f))) ∧ Below w.heap.size w w' := c_base w
theorem z_mul {p : P5} {P : Pt} (h : Rep p P) (N : Int) (w : World) : Calls Tryz.prog 26 #[.agg (av 20 (w64 p.f)), .agg (av 4 (w64 (Ord.d64 N)))] w fun r w' => r = .returned (.agg (av 20 (w64 (mulV p N).f))) ∧ Below w.heap.size w w' := c_mul h N w
theorem z_bytes (p : P5) (hp : p.Ok) (w : World) : Calls Tryz.prog 27 #[.agg (av 20 (w64 p.f))] w fun r w' => r = .returned (.string (bytesV p)) ∧ Below w.heap.size w w' := c_bytes p w hp
theorem z_dec (s : ByteArray) (w : World) : Calls Tryz.prog 34 #[.string s] w fun r w' => r = .returned (.tuple #[.agg (av 20 (w64 (decP s).f)), .int .i64 (decC s)]) ∧ Below w.heap.size w w' := c_decode s w
theorem z_small (p : P5) (hp : p.Ok) (w : World) : Calls Tryz.prog 35 #[.agg (av 20 (w64 p.f))] w fun r w' => r = .returned (.bool (smallV p)) ∧ Below w.heap.size w w' := c_small p w hp
theorem z_same (p q : P5) (hp : p.Ok) (hq : q.Ok) (w : World) : Calls Tryz.prog 38 #[.agg (av 20 (w64 p.f)), .agg (av 20 (w64 q.f))] w fun r w' => r = .returned (.bool (sameV p q)) ∧ Below w.heap.size w w' := c_same p q w hp hq
theorem z_add (p q : P5) (hp : p.Ok) (hq : q.Ok) (w : World) : Calls Tryz.prog 39 #[.agg (av 20 (w64 p.f)), .agg (av 20 (w64 q.f))] w fun r w' => r = .returned (.agg (av 20 (w64 (addV p q).f))) ∧ Below w.heap.size w w' := Go.Proofs.YtmhfmhmpoobmlaaGreatDoor.c_add p q w hp hq
theorem z_of (s : ByteArray) (w : World) : Calls Tryz.prog 37 #[.string s] w fun r w' => r = .returned (.tuple #[.agg (av 4 (w64 (Ord.d64 (Go.Proofs.YtmhfmhmpoobmlaaGreatDoor.ofV s)))), .int .i64 (Go.Proofs.YtmhfmhmpoobmlaaGreatDoor.ofC s)]) ∧ Below w.heap.size w w' := Go.Proofs.YtmhfmhmpoobmlaaGreatDoor.c_of s w
end Go.Proofs.YtmhfmhmpoobmlaaGreatDoor.Sha

/- What a secret holds, its public key, the number of texts: the walks of heldBy, public and numberOf. -/
namespace Go.Proofs.YtmhfmhmpoobmlaaGreatDoor.Sha
open Go.RowKit

/-- A secret's number, and what stands ahead of a text. -/
noncomputable def an (s : ByteArray) : Int := Go.Proofs.YtmhfmhmpoobmlaaGreatDoor.ofV (Ord.clS ((ofV s).extract 0 32))
def px (s : ByteArray) : ByteArray := (ofV s).extract 32 (ofV s).size
theorem an_bd (s : ByteArray) : 0 ≤ an s ∧ an s < Ord.Lm := ofV_bd _
/-- The number of a text. -/
noncomputable def nm (s : ByteArray) : Int := Go.Proofs.YtmhfmhmpoobmlaaGreatDoor.ofV (ofV s)
theorem nm_bd (s : ByteArray) : 0 ≤ nm s ∧ nm s < Ord.Lm := ofV_bd _
/-- The bytes of the base point, so often. -/
noncomputable def pb (a : Int) : ByteArray := bytesV (mulV base5 a)
/-- Texts, one behind the other. -/
def jo (S : Nat → ByteArray) : Nat → ByteArray
  | 0 => ⟨#[]⟩
  | j + 1 => jo S j ++ S j
theorem e_app (s : ByteArray) : (⟨#[]⟩ : ByteArray) ++ s = s := ByteArray.empty_append
theorem h32 (s : ByteArray) : 32 ≤ (ofV s).size := by rw [ofV_size]; decide
theorem x32 (s : ByteArray) : ((ofV s).extract 0 32).size = 32 := by
  rw [ByteArray.size_extract, ofV_size]
  rfl

set_option maxRecDepth 100000 in
set_option maxHeartbeats 4000000 in
theorem c_held (secret : ByteArray) (w : World) (hL : Laid w)  :
    Calls Tryz.prog 17 #[.string secret] w fun r w' => r = .returned (if secret.size = 32 then .tuple #[.agg (av 5 (hd (an secret) (px secret))), .int .i64 0] else .tuple #[.agg (av 5 (hd 0 ⟨#[]⟩)), .int .i64 2]) ∧ Below w.heap.size w w' := by
  go_enter Tryz.func17, Tryz.ntmps17
  have M := Mem.start hL
  refine wp_seq ?_
  refine rg_lit ?_
  refine pl_new M (want_no rfl) (some 2) rfl (.cells (av 5 (hd 0 ⟨#[]⟩)) 46) (fun _ => by kernel_rfl) ?_
  intro g1 u1 M
  replace M : Mem ⟨w, []⟩ [⟨g1, .cells (av 5 (hd 0 ⟨#[]⟩)) 46⟩] u1 := M
  refine pl_val (want_no rfl) (some 3) rfl (.int .i64 0) (fun _ => by kernel_rfl) ?_
  refine pl_nil ?_
  refine au_then ?_
  refine wp_seq ?_
  refine wp_seq ?_
  by_cases h : secret.size = 32
  · skip
    refine rg_lit ?_
    refine pl_val (want_no rfl) (some 7) rfl (.string secret) (fun _ => by kernel_rfl) ?_
    refine pl_val (want_no rfl) (some 8) rfl (.int .i64 (secret.size : Int)) (fun _ => by kernel_rfl) ?_
    refine pl_val (want_no rfl) (some 9) rfl (.bool false) (fun w => Eq.trans (b := .ok (.value (.bool (!(decide ((secret.size : Int) = 32))))) w) (by kernel_rfl) (by rw [decide_eq_true (by omega)]; rfl)) ?_
    refine pl_nil ?_
    refine au_then ?_
    refine wp_cond_false (by kernel_rfl) ?_
    refine wp_skip ?_
    refine au_then ?_
    refine wp_seq ?_
    refine rg_lit ?_
    refine pl_val (want_no rfl) (some 11) rfl (.string secret) (fun _ => by kernel_rfl) ?_
    refine pl_call M (want_no rfl) (some 12) rfl 45 #[.string secret] (.string (ofV secret)) (fun _ => by kernel_rfl) (fun w M => c_of secret w M.laid) ?_
    intro u2 M
    refine pl_val (want_no rfl) (some 4) rfl (.string (ofV secret)) (fun _ => by kernel_rfl) ?_
    refine pl_nil ?_
    refine au_then ?_
    refine wp_seq ?_
    refine rg_lit ?_
    refine pl_val (want_no rfl) (some 14) rfl (.string (ofV secret)) (fun _ => by kernel_rfl) ?_
    refine pl_val (want_no rfl) (some 15) rfl (.string ((ofV secret).extract 0 32)) (run_strh 9 Tryz.underlying9 _ _ rfl (ofV secret) (by kernel_rfl) .i64 32 (by kernel_rfl) (h32 secret) _ rfl) ?_
    refine pl_call M (want_no rfl) (some 16) rfl 46 #[.string ((ofV secret).extract 0 32)] (.tuple #[.string (Ord.clS ((ofV secret).extract 0 32)), .int .i64 0]) (fun _ => by kernel_rfl) (fun w M => Ord.clamp_yes ((ofV secret).extract 0 32) w (x32 secret)) ?_
    intro u3 M
    refine pl_val (want_no rfl) (some 13) rfl (.tuple #[.string (Ord.clS ((ofV secret).extract 0 32)), .int .i64 0]) (fun _ => by kernel_rfl) ?_
    refine pl_val (want_no rfl) (some 17) rfl (.string (Ord.clS ((ofV secret).extract 0 32))) (fun _ => by kernel_rfl) ?_
    refine pl_val (want_no rfl) (some 18) rfl (.int .i64 0) (fun _ => by kernel_rfl) ?_
    refine pl_val (want_no rfl) (some 5) rfl (.string (Ord.clS ((ofV secret).extract 0 32))) (fun _ => by kernel_rfl) ?_
    refine pl_val (want_no rfl) (some 6) rfl (.int .i64 0) (fun _ => by kernel_rfl) ?_
    refine pl_nil ?_
    refine au_then ?_
    refine wp_seq ?_
    refine rg_lit ?_
    refine pl_val (want_no rfl) (some 20) rfl (.string (Ord.clS ((ofV secret).extract 0 32))) (fun _ => by kernel_rfl) ?_
    refine pl_call M (want_no rfl) (some 21) rfl 37 #[.string (Ord.clS ((ofV secret).extract 0 32))] (.tuple #[.agg (av 4 (w64 (Ord.d64 (an secret)))), .int .i64 (Go.Proofs.YtmhfmhmpoobmlaaGreatDoor.ofC (Ord.clS ((ofV secret).extract 0 32)))]) (fun _ => by kernel_rfl) (fun w M => z_of (Ord.clS ((ofV secret).extract 0 32)) w) ?_
    intro u4 M
    refine pl_val (want_no rfl) (some 19) rfl (.tuple #[.agg (av 4 (w64 (Ord.d64 (an secret)))), .int .i64 (Go.Proofs.YtmhfmhmpoobmlaaGreatDoor.ofC (Ord.clS ((ofV secret).extract 0 32)))]) (fun _ => by kernel_rfl) ?_
    refine pl_val (want_no rfl) (some 22) rfl (.agg (av 4 (w64 (Ord.d64 (an secret))))) (fun _ => by kernel_rfl) ?_
    refine pl_val (want_no rfl) (some 23) rfl (.int .i64 (Go.Proofs.YtmhfmhmpoobmlaaGreatDoor.ofC (Ord.clS ((ofV secret).extract 0 32)))) (fun _ => by kernel_rfl) ?_
    refine pl_val (want_no rfl) (some 24) rfl (.pointer (some ⟨g1, 0, none⟩)) (fun _ => by kernel_rfl) ?_
    refine pl_put M (want_no rfl) rfl 44 _ _ rfl 0 g1 0 (by kernel_rfl) 5 46 (hd 0 ⟨#[]⟩) rfl 4 (w64 (Ord.d64 (an secret))) (hd (an secret) ⟨#[]⟩) (by kernel_rfl) inz44 (by decide) (fun _ _ => rfl) (hd_put4 _ _ _) ?_
    intro u5 M
    replace M : Mem ⟨w, []⟩ [⟨g1, .cells (av 5 (hd (an secret) ⟨#[]⟩)) 46⟩] u5 := M
    refine pl_nil ?_
    refine au_then ?_
    refine wp_seq ?_
    refine rg_lit ?_
    refine pl_val (want_no rfl) (some 25) rfl (.string (ofV secret)) (fun _ => by kernel_rfl) ?_
    refine pl_val (want_no rfl) (some 26) rfl (.string (px secret)) (run_strl 9 Tryz.underlying9 _ _ rfl (ofV secret) (by kernel_rfl) .i64 32 (by kernel_rfl) (h32 secret) _ rfl) ?_
    refine pl_val (want_no rfl) (some 27) rfl (.pointer (some ⟨g1, 4, none⟩)) (fun _ => by kernel_rfl) ?_
    refine pl_put1 M (want_no rfl) rfl 9 _ _ rfl 0 g1 4 (by kernel_rfl) 5 46 (hd (an secret) ⟨#[]⟩) rfl (.string (px secret)) (hd (an secret) (px secret)) (by kernel_rfl) inz9 (by decide) rfl rfl (hd_put1 _ _ _) ?_
    intro u6 M
    replace M : Mem ⟨w, []⟩ [⟨g1, .cells (av 5 (hd (an secret) (px secret))) 46⟩] u6 := M
    refine pl_nil ?_
    refine au_then ?_
    refine wp_seq ?_
    refine rg_lit ?_
    refine pl_load M (want_no rfl) (some 28) rfl 46 _ rfl 0 g1 0 (by kernel_rfl) 5 46 (hd (an secret) (px secret)) rfl 5 (hd (an secret) (px secret)) (fun j _ => by rw [Nat.zero_add]) (by decide) _ Tryz.underlying46 rfl inz46 ?_
    refine pl_put M (want_no rfl) rfl 46 _ _ rfl 0 g1 0 (by kernel_rfl) 5 46 (hd (an secret) (px secret)) rfl 5 (hd (an secret) (px secret)) (hd (an secret) (px secret)) (by kernel_rfl) inz46 (by decide) (hd_one _ _) (fun j hj => by rw [if_pos (by omega), Nat.sub_zero]) ?_
    intro u7 M
    replace M : Mem ⟨w, []⟩ [⟨g1, .cells (av 5 (hd (an secret) (px secret))) 46⟩] u7 := M
    refine pl_val (want_no rfl) (some 3) rfl (.int .i64 0) (fun _ => by kernel_rfl) ?_
    refine pl_nil ?_
    refine au_then ?_
    refine wp_ret ?_
    exact bodyPost_ret (v := .tuple #[.agg (av 5 (hd (an secret) (px secret))), .int .i64 0]) (results_cell_tmp Tryz.results17 _ _ g1 46 (av 5 (hd (an secret) (px secret))) (0, 0) _ _ (by kernel_rfl) (by kernel_rfl) (M.get 0 rfl) Tryz.underlying46 rfl (by rw [av_size]; exact inz46)) (by kernel_rfl) ⟨by rw [if_pos h], below_grown M.old⟩
  · skip
    refine rg_lit ?_
    refine pl_val (want_no rfl) (some 7) rfl (.string secret) (fun _ => by kernel_rfl) ?_
    refine pl_val (want_no rfl) (some 8) rfl (.int .i64 (secret.size : Int)) (fun _ => by kernel_rfl) ?_
    refine pl_val (want_no rfl) (some 9) rfl (.bool true) (fun w => Eq.trans (b := .ok (.value (.bool (!(decide ((secret.size : Int) = 32))))) w) (by kernel_rfl) (by rw [decide_eq_false (by omega)]; rfl)) ?_
    refine pl_nil ?_
    refine au_then ?_
    refine wp_cond_true (by kernel_rfl) ?_
    refine wp_seq ?_
    refine rg_lit ?_
    refine pl_load M (want_no rfl) (some 10) rfl 46 _ rfl 0 g1 0 (by kernel_rfl) 5 46 (hd 0 ⟨#[]⟩) rfl 5 (hd 0 ⟨#[]⟩) (fun j _ => by rw [Nat.zero_add]) (by decide) _ Tryz.underlying46 rfl inz46 ?_
    refine pl_put M (want_no rfl) rfl 46 _ _ rfl 0 g1 0 (by kernel_rfl) 5 46 (hd 0 ⟨#[]⟩) rfl 5 (hd 0 ⟨#[]⟩) (hd 0 ⟨#[]⟩) (by kernel_rfl) inz46 (by decide) (hd_one _ _) (fun j hj => by rw [if_pos (by omega), Nat.sub_zero]) ?_
    intro u8 M
    replace M : Mem ⟨w, []⟩ [⟨g1, .cells (av 5 (hd 0 ⟨#[]⟩)) 46⟩] u8 := M
    refine pl_val (want_no rfl) (some 3) rfl (.int .i64 2) (fun _ => by kernel_rfl) ?_
    refine pl_nil ?_
    refine au_then ?_
    refine wp_ret ?_
    refine au_then_ret ?_
    exact bodyPost_ret (v := .tuple #[.agg (av 5 (hd 0 ⟨#[]⟩)), .int .i64 2]) (results_cell_tmp Tryz.results17 _ _ g1 46 (av 5 (hd 0 ⟨#[]⟩)) (0, 0) _ _ (by kernel_rfl) (by kernel_rfl) (M.get 0 rfl) Tryz.underlying46 rfl (by rw [av_size]; exact inz46)) (by kernel_rfl) ⟨by rw [if_neg h], below_grown M.old⟩

set_option maxRecDepth 100000 in
set_option maxHeartbeats 4000000 in
theorem c_public (a : Int) (p : ByteArray) (ha : 0 ≤ a ∧ a < Ord.Lm) (w : World) (hL : Laid w)  :
    Calls Tryz.prog 18 #[.agg (av 5 (hd a p))] w fun r w' => r = .returned (.string (pb a)) ∧ Below w.heap.size w w' := by
  go_enter Tryz.func18, Tryz.ntmps18
  have M := Mem.start hL
  refine wp_seq ?_
  refine rg_lit ?_
  refine pl_new M (want_no rfl) (some 1) rfl (.cells (av 5 (hd a p)) 46) (fun _ => by kernel_rfl) ?_
  intro g1 u1 M
  replace M : Mem ⟨w, []⟩ [⟨g1, .cells (av 5 (hd a p)) 46⟩] u1 := M
  refine pl_val (want_no rfl) (some 2) rfl (.string ⟨#[]⟩) (fun _ => by kernel_rfl) ?_
  refine pl_nil ?_
  refine au_then ?_
  refine wp_seq ?_
  refine rg_tail M 5 (by kernel_rfl) (by kernel_rfl) ?_
  simp only [List.take_succ_cons, List.take_zero]
  refine k_call M (want_no rfl) (some 3) rfl 25 #[] (.agg (av 20 (w64 base5.f))) (fun _ => by kernel_rfl) (fun w M => z_base w) ?_
  refine k_val (want_no rfl) (some 4) rfl (.pointer (some ⟨g1, 0, none⟩)) (fun _ => by kernel_rfl) ?_
  refine k_load M (want_no rfl) (some 5) rfl 44 _ rfl 0 g1 0 (by kernel_rfl) 5 46 (hd a p) rfl 4 (w64 (Ord.d64 a)) (hd_part _ _) (by decide) _ Tryz.underlying44 rfl inz44 ?_
  refine k_call M (want_no rfl) (some 6) rfl 26 #[.agg (av 20 (w64 base5.f)), .agg (av 4 (w64 (Ord.d64 a)))] (.agg (av 20 (w64 (mulV base5 a).f))) (fun _ => by kernel_rfl) (fun w M => z_mul base_rep a w) ?_
  refine k_call M (want_no rfl) (some 7) rfl 27 #[.agg (av 20 (w64 (mulV base5 a).f))] (.string (pb a)) (fun _ => by kernel_rfl) (fun w M => z_bytes _ (base_rep.mul ha).ok w) ?_
  refine kl_nil ?_
  intro u2 M
  replace M : Mem ⟨w, []⟩ [⟨g1, .cells (av 5 (hd a p)) 46⟩] u2 := M
  refine pl_val (want_no rfl) (some 2) rfl (.string (pb a)) (fun _ => by kernel_rfl) ?_
  refine pl_nil ?_
  refine au_then ?_
  refine wp_ret ?_
  exact bodyPost_ret (v := .string (pb a)) (results_tmp1 Tryz.results18 _ _ _ (by kernel_rfl)) (by kernel_rfl) ⟨rfl, below_grown M.old⟩

set_option maxRecDepth 100000 in
set_option maxHeartbeats 4000000 in
theorem c_number (g n cap : Nat) (Ss : Nat → ByteArray) (w : World) (hL : Laid w) (hn : n ≤ 1000) (hS : ∀ j, j < n → w.cell? ⟨g, 0 + j, none⟩ = some (.string (Ss j))) :
    Calls Tryz.prog 24 #[.slice (some ⟨g, 0, none⟩) n cap] w fun r w' => r = .returned (.agg (av 4 (w64 (Ord.d64 (nm (jo Ss n)))))) ∧ Below w.heap.size w w' := by
  go_enter Tryz.func24, Tryz.ntmps24
  have M := Mem.start hL
  refine wp_seq ?_
  refine rg_lit ?_
  refine pl_new M (want_no rfl) (some 2) rfl (.cells (av 4 (w64 (fun _ => 0))) 44) (fun _ => by kernel_rfl) ?_
  intro g1 u1 M
  replace M : Mem ⟨w, []⟩ [⟨g1, .cells (av 4 (w64 (fun _ => 0))) 44⟩] u1 := M
  refine pl_nil ?_
  refine au_then ?_
  refine wp_seq ?_
  refine rg_lit ?_
  refine pl_calln M (want_no rfl) (some 8) rfl 54 #[] (fun g2 => .pointer (some ⟨g2, 0, none⟩)) (.cells (av 138 (hF true hs0.ws hs0.rs hs0.ct)) 125) (fun _ => by kernel_rfl) (fun w M => c_new w M.laid) ?_
  intro g2 u2 M
  replace M : Mem ⟨w, []⟩ [⟨g1, .cells (av 4 (w64 (fun _ => 0))) 44⟩, ⟨g2, .cells (av 138 (hF true hs0.ws hs0.rs hs0.ct)) 125⟩] u2 := M
  refine pl_val (want_no rfl) (some 3) rfl (.pointer (some ⟨g2, 0, none⟩)) (fun _ => by kernel_rfl) ?_
  refine pl_nil ?_
  refine au_then ?_
  refine wp_seq ?_
  refine wp_seq ?_
  refine rg_lit ?_
  refine pl_val (want_no rfl) (some 9) rfl (.slice (some ⟨g, 0, none⟩) n cap) (fun _ => by kernel_rfl) ?_
  refine pl_val (want_no rfl) (some 10) rfl (.int .i64 (n : Int)) (fun _ => by kernel_rfl) ?_
  refine pl_val (want_no rfl) (some 11) rfl (.int .i64 0) (fun _ => by kernel_rfl) ?_
  refine pl_nil ?_
  refine au_then ?_
  refine wp_block ?_
  replace M : Mem ⟨w, []⟩ [⟨g1, .cells (av 4 (w64 (fun _ => 0))) 44⟩, ⟨g2, .cells (av 138 (hF true (tk hs0 (jo Ss 0) (jo Ss 0).size).ws (tk hs0 (jo Ss 0) (jo Ss 0).size).rs (tk hs0 (jo Ss 0) (jo Ss 0).size).ct)) 125⟩] u2 := M
  refine au_loop (fun j a w' => ∃ v1 : Nat → Value, a = ⟨#[.slice (some ⟨g, 0, none⟩) n cap, undef, .pointer (some ⟨g1, 0, none⟩), .pointer (some ⟨g2, 0, none⟩), undef, v1 5, undef, undef, .pointer (some ⟨g2, 0, none⟩), .slice (some ⟨g, 0, none⟩) n cap, .int .i64 (n : Int), .int .i64 (j : Int), v1 12, v1 13, v1 14, v1 15, v1 16, v1 17, v1 18, undef, undef, undef, undef, undef, undef, undef], []⟩ ∧ Mem ⟨w, []⟩ [⟨g1, .cells (av 4 (w64 (fun _ => 0))) 44⟩, ⟨g2, .cells (av 138 (hF true (tk hs0 (jo Ss j) (jo Ss j).size).ws (tk hs0 (jo Ss j) (jo Ss j).size).rs (tk hs0 (jo Ss j) (jo Ss j).size).ct)) 125⟩] w') n ⟨fun k_ => ([undef, undef, undef, undef, undef, undef, undef, undef, undef, undef, undef, undef, undef, undef] : List Value).getD (k_ - 5) undef, by kernel_rfl, M⟩ ?_ ?_
  · intro j a u0 hj hI
    obtain ⟨v1, rfl, M⟩ := hI
    refine wp_seq ?_
    refine rg_lit ?_
    refine pl_val (want_no rfl) (some 12) rfl (.bool true) (fun w => Eq.trans (b := .ok (.value (.bool (decide ((j : Int) < (n : Int))))) w) (by kernel_rfl) (by rw [decide_eq_true (by omega)])) ?_
    refine pl_nil ?_
    refine au_then ?_
    refine wp_seq ?_
    refine wp_cond_true (by kernel_rfl) ?_
    refine wp_skip ?_
    refine au_then ?_
    refine wp_seq ?_
    refine wp_block ?_
    refine wp_seq ?_
    refine rg_lit ?_
    refine pl_val (want_no rfl) (some 13) rfl (.pointer (some ⟨g, 0 + j, none⟩)) (run_ixL 80 9 Tryz.underlying80 inz9 _ _ rfl g 0 n cap (by kernel_rfl) .i64 j (by kernel_rfl) hj) ?_
    refine pl_cell M (want_no rfl) (some 14) rfl 9 _ rfl g (0 + j) (by kernel_rfl) (.string (Ss j)) (fun _ => by kernel_rfl) (fun w M => M.oldc (hS j hj) (by simp)) ?_
    refine pl_val (want_no rfl) (some 5) rfl (.string (Ss j)) (fun _ => by kernel_rfl) ?_
    refine pl_nil ?_
    refine au_then ?_
    refine rg_lit ?_
    refine pl_val (want_no rfl) (some 15) rfl (.pointer (some ⟨g2, 0, none⟩)) (fun _ => by kernel_rfl) ?_
    refine pl_val (want_no rfl) (some 16) rfl (.string (Ss j)) (fun _ => by kernel_rfl) ?_
    refine pl_callp M (want_no rfl) (some 17) rfl 55 #[.pointer (some ⟨g2, 0, none⟩), .string (Ss j)] (.int .i64 0) 1 g2 (.cells (av 138 (hF true (tk hs0 (jo Ss j) (jo Ss j).size).ws (tk hs0 (jo Ss j) (jo Ss j).size).rs (tk hs0 (jo Ss j) (jo Ss j).size).ct)) 125) (.cells (av 138 (hF true (tk (tk hs0 (jo Ss j) (jo Ss j).size) (Ss j) (Ss j).size).ws (tk (tk hs0 (jo Ss j) (jo Ss j).size) (Ss j) (Ss j).size).rs (tk (tk hs0 (jo Ss j) (jo Ss j).size) (Ss j) (Ss j).size).ct)) 125) rfl (fun _ => by kernel_rfl) (fun w M => c_add (tk hs0 (jo Ss j) (jo Ss j).size) (tk_ok hs0_ok _ _) g2 (Ss j) w M.laid (M.get 1 rfl) (M.ne0 1 rfl)) ?_
    intro u3 M
    replace M : Mem ⟨w, []⟩ [⟨g1, .cells (av 4 (w64 (fun _ => 0))) 44⟩, ⟨g2, .cells (av 138 (hF true (tk (tk hs0 (jo Ss j) (jo Ss j).size) (Ss j) (Ss j).size).ws (tk (tk hs0 (jo Ss j) (jo Ss j).size) (Ss j) (Ss j).size).rs (tk (tk hs0 (jo Ss j) (jo Ss j).size) (Ss j) (Ss j).size).ct)) 125⟩] u3 := M
    refine pl_nil ?_
    refine au_block ?_
    refine au_then ?_
    refine rg_lit ?_
    refine pl_val (want_no rfl) (some 18) rfl (.int .i64 ((j + 1 : Nat) : Int)) (fun w => Eq.trans (b := .ok (.value (.int .i64 (IntKind.wrap .i64 ((j : Int) + 1)))) w) (by kernel_rfl) (by rw [wrap64 (by omega) (by omega)]; congr 3)) ?_
    refine pl_val (want_no rfl) (some 11) rfl (.int .i64 ((j + 1 : Nat) : Int)) (fun _ => by kernel_rfl) ?_
    refine pl_nil ?_
    refine au_then ?_
    rw [← tk_all hs0 (jo Ss j) (Ss j)] at M
    exact ⟨fun k_ => ([.string (Ss j), undef, undef, undef, undef, undef, undef, .bool true, .pointer (some ⟨g, 0 + j, none⟩), .string (Ss j), .pointer (some ⟨g2, 0, none⟩), .string (Ss j), .int .i64 0, .int .i64 ((j + 1 : Nat) : Int)] : List Value).getD (k_ - 5) undef, by kernel_rfl, M⟩
  · intro a u0 hI
    obtain ⟨v1, rfl, M⟩ := hI
    refine wp_seq ?_
    refine rg_lit ?_
    refine pl_val (want_no rfl) (some 12) rfl (.bool false) (fun w => Eq.trans (b := .ok (.value (.bool (decide ((n : Int) < (n : Int))))) w) (by kernel_rfl) (by rw [decide_eq_false (by omega)])) ?_
    refine pl_nil ?_
    refine au_then ?_
    refine wp_seq ?_
    refine wp_cond_false (by kernel_rfl) ?_
    refine wp_exit ?_
    refine au_then_exit ?_
    refine au_then_exit ?_
    refine au_block_exit ?_
    refine au_then ?_
    refine wp_seq ?_
    refine rg_lit ?_
    refine pl_val (want_no rfl) (some 20) rfl (.pointer (some ⟨g2, 0, none⟩)) (fun _ => by kernel_rfl) ?_
    refine pl_call M (want_no rfl) (some 21) rfl 56 #[.pointer (some ⟨g2, 0, none⟩)] (.string (ofV (jo Ss n))) (fun _ => by kernel_rfl) (fun w M => (by have h := c_sum (tk hs0 (jo Ss n) (jo Ss n).size) (tk_ok hs0_ok _ _) g2 w M.laid (M.get 1 rfl) (M.ne0 1 rfl); exact h)) ?_
    intro u4 M
    refine pl_call M (want_no rfl) (some 22) rfl 37 #[.string (ofV (jo Ss n))] (.tuple #[.agg (av 4 (w64 (Ord.d64 (nm (jo Ss n))))), .int .i64 (Go.Proofs.YtmhfmhmpoobmlaaGreatDoor.ofC (ofV (jo Ss n)))]) (fun _ => by kernel_rfl) (fun w M => z_of _ w) ?_
    intro u5 M
    refine pl_val (want_no rfl) (some 19) rfl (.tuple #[.agg (av 4 (w64 (Ord.d64 (nm (jo Ss n))))), .int .i64 (Go.Proofs.YtmhfmhmpoobmlaaGreatDoor.ofC (ofV (jo Ss n)))]) (fun _ => by kernel_rfl) ?_
    refine pl_val (want_no rfl) (some 23) rfl (.agg (av 4 (w64 (Ord.d64 (nm (jo Ss n)))))) (fun _ => by kernel_rfl) ?_
    refine pl_val (want_no rfl) (some 24) rfl (.int .i64 (Go.Proofs.YtmhfmhmpoobmlaaGreatDoor.ofC (ofV (jo Ss n)))) (fun _ => by kernel_rfl) ?_
    refine pl_new M (want_no rfl) (some 6) rfl (.cells (av 4 (w64 (fun _ => 0))) 44) (fun _ => by kernel_rfl) ?_
    intro g3 u6 M
    replace M : Mem ⟨w, []⟩ [⟨g1, .cells (av 4 (w64 (fun _ => 0))) 44⟩, ⟨g2, .cells (av 138 (hF true (tk hs0 (jo Ss n) (jo Ss n).size).ws (tk hs0 (jo Ss n) (jo Ss n).size).rs (tk hs0 (jo Ss n) (jo Ss n).size).ct)) 125⟩, ⟨g3, .cells (av 4 (w64 (fun _ => 0))) 44⟩] u6 := M
    refine pl_put M (want_no rfl) rfl 44 _ _ rfl 2 g3 0 (by kernel_rfl) 4 44 (w64 (fun _ => 0)) rfl 4 (w64 (Ord.d64 (nm (jo Ss n)))) (w64 (Ord.d64 (nm (jo Ss n)))) (by kernel_rfl) inz44 (by decide) (fun _ _ => rfl) (fun j hj => by rw [if_pos (by omega), Nat.sub_zero]) ?_
    intro u7 M
    replace M : Mem ⟨w, []⟩ [⟨g1, .cells (av 4 (w64 (fun _ => 0))) 44⟩, ⟨g2, .cells (av 138 (hF true (tk hs0 (jo Ss n) (jo Ss n).size).ws (tk hs0 (jo Ss n) (jo Ss n).size).rs (tk hs0 (jo Ss n) (jo Ss n).size).ct)) 125⟩, ⟨g3, .cells (av 4 (w64 (Ord.d64 (nm (jo Ss n))))) 44⟩] u7 := M
    refine pl_val (want_no rfl) (some 7) rfl (.int .i64 (Go.Proofs.YtmhfmhmpoobmlaaGreatDoor.ofC (ofV (jo Ss n)))) (fun _ => by kernel_rfl) ?_
    refine pl_nil ?_
    refine au_then ?_
    refine wp_seq ?_
    refine rg_lit ?_
    refine pl_load M (want_no rfl) (some 25) rfl 44 _ rfl 2 g3 0 (by kernel_rfl) 4 44 (w64 (Ord.d64 (nm (jo Ss n)))) rfl 4 (w64 (Ord.d64 (nm (jo Ss n)))) (fun j _ => by rw [Nat.zero_add]) (by decide) _ Tryz.underlying44 rfl inz44 ?_
    refine pl_put M (want_no rfl) rfl 44 _ _ rfl 0 g1 0 (by kernel_rfl) 4 44 (w64 (fun _ => 0)) rfl 4 (w64 (Ord.d64 (nm (jo Ss n)))) (w64 (Ord.d64 (nm (jo Ss n)))) (by kernel_rfl) inz44 (by decide) (fun _ _ => rfl) (fun j hj => by rw [if_pos (by omega), Nat.sub_zero]) ?_
    intro u8 M
    replace M : Mem ⟨w, []⟩ [⟨g1, .cells (av 4 (w64 (Ord.d64 (nm (jo Ss n))))) 44⟩, ⟨g2, .cells (av 138 (hF true (tk hs0 (jo Ss n) (jo Ss n).size).ws (tk hs0 (jo Ss n) (jo Ss n).size).rs (tk hs0 (jo Ss n) (jo Ss n).size).ct)) 125⟩, ⟨g3, .cells (av 4 (w64 (Ord.d64 (nm (jo Ss n))))) 44⟩] u8 := M
    refine pl_nil ?_
    refine au_then ?_
    refine wp_ret ?_
    exact bodyPost_ret (v := .agg (av 4 (w64 (Ord.d64 (nm (jo Ss n)))))) (results_cell_row Tryz.results24 _ _ g1 44 (av 4 (w64 (Ord.d64 (nm (jo Ss n))))) (0, 0) _ (by kernel_rfl) (M.get 0 rfl) Tryz.underlying44 rfl (by rw [av_size]; exact inz44)) (by kernel_rfl) ⟨rfl, below_grown M.old⟩


end Go.Proofs.YtmhfmhmpoobmlaaGreatDoor.Sha

/- Public keys, signatures, and which are verified: the walks of Public, Sign and Verify. -/
namespace Go.Proofs.YtmhfmhmpoobmlaaGreatDoor.Sha
open Go.RowKit

def s3 (a b c : ByteArray) : Nat → ByteArray := fun i => if i = 0 then a else if i = 1 then b else c
def t3 (a b c : ByteArray) : Nat → Value := fun i => if i = 0 then .string a else if i = 1 then .string b else .string c
theorem t3_s (a b c : ByteArray) (i : Nat) : t3 a b c i = .string (s3 a b c i) := by
  unfold t3 s3
  split
  · rfl
  · split <;> rfl
theorem jo2 (a b c : ByteArray) : jo (s3 a b c) 2 = a ++ b := by
  show (⟨#[]⟩ ++ a) ++ b = a ++ b
  rw [e_app]
theorem jo3 (a b c : ByteArray) : jo (s3 a b c) 3 = a ++ b ++ c := by
  show ((⟨#[]⟩ ++ a) ++ b) ++ c = a ++ b ++ c
  rw [e_app]
/-- What a signature is. -/
noncomputable def rn (k s : ByteArray) : Int := nm (px k ++ s)
theorem rn_bd (k s : ByteArray) : 0 ≤ rn k s ∧ rn k s < Ord.Lm := nm_bd _
noncomputable def kn (R A s : ByteArray) : Int := nm (R ++ A ++ s)
theorem kn_bd (R A s : ByteArray) : 0 ≤ kn R A s ∧ kn R A s < Ord.Lm := nm_bd _
noncomputable def xn (k s : ByteArray) : Int := (rn k s + kn (pb (rn k s)) (pb (an k)) s * an k % Ord.Lm) % Ord.Lm
noncomputable def sg (k s : ByteArray) : ByteArray := pb (rn k s) ++ Ord.lebytes (xn k s)
theorem lmod (x : Int) : 0 ≤ x % Ord.Lm ∧ x % Ord.Lm < Ord.Lm := Ord.lmod x
/-- Which signatures are verified. -/
noncomputable def vfy (p s x : ByteArray) : Bool :=
  if x.size = 64 ∧ decC p = 0 ∧ smallV (decP p) = false ∧ decC (x.extract 0 32) = 0 ∧ Ord.bv (x.extract 32 x.size) 32 < Ord.Lm then sameV (mulV base5 (Go.Proofs.YtmhfmhmpoobmlaaGreatDoor.ofV (x.extract 32 x.size))) (addV (decP (x.extract 0 32)) (mulV (decP p) (kn (x.extract 0 32) p s))) else false
theorem xl (x : ByteArray) (h : x.size = 64) : (x.extract 32 x.size).size = 32 := by
  rw [ByteArray.size_extract]
  omega
theorem pb_size (a : Int) (ha : 0 ≤ a ∧ a < Ord.Lm) : (pb a).size = 32 := by
  unfold pb
  rw [(base_rep.mul ha).bytes]
  unfold ptS encS
  rw [Go.Proofs.YtmhfmhmpoobmlaaGreatDoor.bs_size]
  simp

set_option maxRecDepth 100000 in
set_option maxHeartbeats 4000000 in
theorem c_Public (secret : ByteArray) (w : World) (hL : Laid w)  :
    Calls Tryz.prog 8 #[.string secret] w fun r w' => r = .returned (if secret.size = 32 then .tuple #[.string (pb (an secret)), .int .i64 0] else .tuple #[.string ⟨#[]⟩, .int .i64 2]) ∧ Below w.heap.size w w' := by
  go_enter Tryz.func8, Tryz.ntmps8
  have M := Mem.start hL
  refine wp_seq ?_
  by_cases h : secret.size = 32
  · skip
    refine rg_lit ?_
    refine pl_val (want_no rfl) (some 2) rfl (.string ⟨#[]⟩) (fun _ => by kernel_rfl) ?_
    refine pl_val (want_no rfl) (some 3) rfl (.int .i64 0) (fun _ => by kernel_rfl) ?_
    refine pl_nil ?_
    refine au_then ?_
    refine wp_seq ?_
    refine rg_lit ?_
    refine pl_val (want_no rfl) (some 7) rfl (.string secret) (fun _ => by kernel_rfl) ?_
    refine pl_call M (want_no rfl) (some 8) rfl 17 #[.string secret] (.tuple #[.agg (av 5 (hd (an secret) (px secret))), .int .i64 0]) (fun _ => by kernel_rfl) (fun w M => (by have e := c_held secret w M.laid; rw [if_pos h] at e; exact e)) ?_
    intro u1 M
    refine pl_val (want_no rfl) (some 6) rfl (.tuple #[.agg (av 5 (hd (an secret) (px secret))), .int .i64 0]) (fun _ => by kernel_rfl) ?_
    refine pl_val (want_no rfl) (some 9) rfl (.agg (av 5 (hd (an secret) (px secret)))) (fun _ => by kernel_rfl) ?_
    refine pl_val (want_no rfl) (some 10) rfl (.int .i64 0) (fun _ => by kernel_rfl) ?_
    refine pl_new M (want_no rfl) (some 4) rfl (.cells (av 5 (hd 0 ⟨#[]⟩)) 46) (fun _ => by kernel_rfl) ?_
    intro g1 u2 M
    replace M : Mem ⟨w, []⟩ [⟨g1, .cells (av 5 (hd 0 ⟨#[]⟩)) 46⟩] u2 := M
    refine pl_put M (want_no rfl) rfl 46 _ _ rfl 0 g1 0 (by kernel_rfl) 5 46 (hd 0 ⟨#[]⟩) rfl 5 (hd (an secret) (px secret)) (hd (an secret) (px secret)) (by kernel_rfl) inz46 (by decide) (hd_one _ _) (fun j hj => by rw [if_pos (by omega), Nat.sub_zero]) ?_
    intro u3 M
    replace M : Mem ⟨w, []⟩ [⟨g1, .cells (av 5 (hd (an secret) (px secret))) 46⟩] u3 := M
    refine pl_val (want_no rfl) (some 5) rfl (.int .i64 0) (fun _ => by kernel_rfl) ?_
    refine pl_nil ?_
    refine au_then ?_
    refine wp_seq ?_
    refine wp_seq ?_
    refine rg_lit ?_
    refine pl_val (want_no rfl) (some 11) rfl (.int .i64 0) (fun _ => by kernel_rfl) ?_
    refine pl_val (want_no rfl) (some 12) rfl (.bool false) (fun _ => by kernel_rfl) ?_
    refine pl_nil ?_
    refine au_then ?_
    refine wp_cond_false (by kernel_rfl) ?_
    refine wp_skip ?_
    refine au_then ?_
    refine wp_seq ?_
    refine rg_lit ?_
    refine pl_load M (want_no rfl) (some 14) rfl 46 _ rfl 0 g1 0 (by kernel_rfl) 5 46 (hd (an secret) (px secret)) rfl 5 (hd (an secret) (px secret)) (fun j _ => by rw [Nat.zero_add]) (by decide) _ Tryz.underlying46 rfl inz46 ?_
    refine pl_call M (want_no rfl) (some 15) rfl 18 #[.agg (av 5 (hd (an secret) (px secret)))] (.string (pb (an secret))) (fun _ => by kernel_rfl) (fun w M => c_public _ _ (an_bd secret) w M.laid) ?_
    intro u4 M
    refine pl_val (want_no rfl) (some 2) rfl (.string (pb (an secret))) (fun _ => by kernel_rfl) ?_
    refine pl_val (want_no rfl) (some 3) rfl (.int .i64 0) (fun _ => by kernel_rfl) ?_
    refine pl_nil ?_
    refine au_then ?_
    refine wp_ret ?_
    exact bodyPost_ret (v := .tuple #[.string (pb (an secret)), .int .i64 0]) (results_tmp2 Tryz.results8 _ _ _ _ (by kernel_rfl) (by kernel_rfl)) (by kernel_rfl) ⟨by rw [if_pos h], below_grown M.old⟩
  · skip
    refine rg_lit ?_
    refine pl_val (want_no rfl) (some 2) rfl (.string ⟨#[]⟩) (fun _ => by kernel_rfl) ?_
    refine pl_val (want_no rfl) (some 3) rfl (.int .i64 0) (fun _ => by kernel_rfl) ?_
    refine pl_nil ?_
    refine au_then ?_
    refine wp_seq ?_
    refine rg_lit ?_
    refine pl_val (want_no rfl) (some 7) rfl (.string secret) (fun _ => by kernel_rfl) ?_
    refine pl_call M (want_no rfl) (some 8) rfl 17 #[.string secret] (.tuple #[.agg (av 5 (hd 0 ⟨#[]⟩)), .int .i64 2]) (fun _ => by kernel_rfl) (fun w M => (by have e := c_held secret w M.laid; rw [if_neg h] at e; exact e)) ?_
    intro u5 M
    refine pl_val (want_no rfl) (some 6) rfl (.tuple #[.agg (av 5 (hd 0 ⟨#[]⟩)), .int .i64 2]) (fun _ => by kernel_rfl) ?_
    refine pl_val (want_no rfl) (some 9) rfl (.agg (av 5 (hd 0 ⟨#[]⟩))) (fun _ => by kernel_rfl) ?_
    refine pl_val (want_no rfl) (some 10) rfl (.int .i64 2) (fun _ => by kernel_rfl) ?_
    refine pl_new M (want_no rfl) (some 4) rfl (.cells (av 5 (hd 0 ⟨#[]⟩)) 46) (fun _ => by kernel_rfl) ?_
    intro g2 u6 M
    replace M : Mem ⟨w, []⟩ [⟨g2, .cells (av 5 (hd 0 ⟨#[]⟩)) 46⟩] u6 := M
    refine pl_put M (want_no rfl) rfl 46 _ _ rfl 0 g2 0 (by kernel_rfl) 5 46 (hd 0 ⟨#[]⟩) rfl 5 (hd 0 ⟨#[]⟩) (hd 0 ⟨#[]⟩) (by kernel_rfl) inz46 (by decide) (hd_one _ _) (fun j hj => by rw [if_pos (by omega), Nat.sub_zero]) ?_
    intro u7 M
    replace M : Mem ⟨w, []⟩ [⟨g2, .cells (av 5 (hd 0 ⟨#[]⟩)) 46⟩] u7 := M
    refine pl_val (want_no rfl) (some 5) rfl (.int .i64 2) (fun _ => by kernel_rfl) ?_
    refine pl_nil ?_
    refine au_then ?_
    refine wp_seq ?_
    refine wp_seq ?_
    refine rg_lit ?_
    refine pl_val (want_no rfl) (some 11) rfl (.int .i64 2) (fun _ => by kernel_rfl) ?_
    refine pl_val (want_no rfl) (some 12) rfl (.bool true) (fun _ => by kernel_rfl) ?_
    refine pl_nil ?_
    refine au_then ?_
    refine wp_cond_true (by kernel_rfl) ?_
    refine wp_seq ?_
    refine rg_lit ?_
    refine pl_val (want_no rfl) (some 13) rfl (.int .i64 2) (fun _ => by kernel_rfl) ?_
    refine pl_val (want_no rfl) (some 2) rfl (.string ⟨#[]⟩) (fun _ => by kernel_rfl) ?_
    refine pl_val (want_no rfl) (some 3) rfl (.int .i64 2) (fun _ => by kernel_rfl) ?_
    refine pl_nil ?_
    refine au_then ?_
    refine wp_ret ?_
    refine au_then_ret ?_
    exact bodyPost_ret (v := .tuple #[.string ⟨#[]⟩, .int .i64 2]) (results_tmp2 Tryz.results8 _ _ _ _ (by kernel_rfl) (by kernel_rfl)) (by kernel_rfl) ⟨by rw [if_neg h], below_grown M.old⟩

set_option maxRecDepth 100000 in
set_option maxHeartbeats 4000000 in
theorem c_Sign (secret s : ByteArray) (w : World) (hL : Laid w)  :
    Calls Tryz.prog 10 #[.string secret, .string s] w fun r w' => r = .returned (if secret.size = 32 then .tuple #[.string (sg secret s), .int .i64 0] else .tuple #[.string ⟨#[]⟩, .int .i64 2]) ∧ Below w.heap.size w w' := by
  go_enter Tryz.func10, Tryz.ntmps10
  have M := Mem.start hL
  refine wp_seq ?_
  by_cases h : secret.size = 32
  · skip
    refine rg_lit ?_
    refine pl_val (want_no rfl) (some 4) rfl (.string ⟨#[]⟩) (fun _ => by kernel_rfl) ?_
    refine pl_val (want_no rfl) (some 5) rfl (.int .i64 0) (fun _ => by kernel_rfl) ?_
    refine pl_nil ?_
    refine au_then ?_
    refine wp_seq ?_
    refine rg_lit ?_
    refine pl_val (want_no rfl) (some 12) rfl (.string secret) (fun _ => by kernel_rfl) ?_
    refine pl_call M (want_no rfl) (some 13) rfl 17 #[.string secret] (.tuple #[.agg (av 5 (hd (an secret) (px secret))), .int .i64 0]) (fun _ => by kernel_rfl) (fun w M => (by have e := c_held secret w M.laid; rw [if_pos h] at e; exact e)) ?_
    intro u1 M
    refine pl_val (want_no rfl) (some 11) rfl (.tuple #[.agg (av 5 (hd (an secret) (px secret))), .int .i64 0]) (fun _ => by kernel_rfl) ?_
    refine pl_val (want_no rfl) (some 14) rfl (.agg (av 5 (hd (an secret) (px secret)))) (fun _ => by kernel_rfl) ?_
    refine pl_val (want_no rfl) (some 15) rfl (.int .i64 0) (fun _ => by kernel_rfl) ?_
    refine pl_new M (want_no rfl) (some 6) rfl (.cells (av 5 (hd 0 ⟨#[]⟩)) 46) (fun _ => by kernel_rfl) ?_
    intro g1 u2 M
    replace M : Mem ⟨w, []⟩ [⟨g1, .cells (av 5 (hd 0 ⟨#[]⟩)) 46⟩] u2 := M
    refine pl_put M (want_no rfl) rfl 46 _ _ rfl 0 g1 0 (by kernel_rfl) 5 46 (hd 0 ⟨#[]⟩) rfl 5 (hd (an secret) (px secret)) (hd (an secret) (px secret)) (by kernel_rfl) inz46 (by decide) (hd_one _ _) (fun j hj => by rw [if_pos (by omega), Nat.sub_zero]) ?_
    intro u3 M
    replace M : Mem ⟨w, []⟩ [⟨g1, .cells (av 5 (hd (an secret) (px secret))) 46⟩] u3 := M
    refine pl_val (want_no rfl) (some 7) rfl (.int .i64 0) (fun _ => by kernel_rfl) ?_
    refine pl_nil ?_
    refine au_then ?_
    refine wp_seq ?_
    refine wp_seq ?_
    refine rg_lit ?_
    refine pl_val (want_no rfl) (some 16) rfl (.int .i64 0) (fun _ => by kernel_rfl) ?_
    refine pl_val (want_no rfl) (some 17) rfl (.bool false) (fun _ => by kernel_rfl) ?_
    refine pl_nil ?_
    refine au_then ?_
    refine wp_cond_false (by kernel_rfl) ?_
    refine wp_skip ?_
    refine au_then ?_
    refine wp_seq ?_
    refine rg_lit ?_
    refine pl_val (want_no rfl) (some 19) rfl (.pointer (some ⟨g1, 4, none⟩)) (fun _ => by kernel_rfl) ?_
    refine pl_cell M (want_no rfl) (some 20) rfl 9 _ rfl g1 4 (by kernel_rfl) (.string (px secret)) (fun _ => by kernel_rfl) (fun w M => M.cell 0 rfl (by decide) (hd_4 _ _)) ?_
    refine pl_val (want_no rfl) (some 21) rfl (.string s) (fun _ => by kernel_rfl) ?_
    refine pl_mk M (want_no rfl) (some 22) rfl (fun g2 => .slice (some ⟨g2, 0, none⟩) 2 2) (.cells (av 2 (t3 (px secret) s ⟨#[]⟩)) 9) (fun _ => by kernel_rfl) ?_
    intro g2 u4 M
    replace M : Mem ⟨w, []⟩ [⟨g1, .cells (av 5 (hd (an secret) (px secret))) 46⟩, ⟨g2, .cells (av 2 (t3 (px secret) s ⟨#[]⟩)) 9⟩] u4 := M
    refine pl_call M (want_no rfl) (some 23) rfl 24 #[.slice (some ⟨g2, 0, none⟩) 2 2] (.agg (av 4 (w64 (Ord.d64 (rn secret s))))) (fun _ => by kernel_rfl) (fun w M => (by have e := c_number g2 2 2 (s3 (px secret) s ⟨#[]⟩) w M.laid (by decide) (fun j hj => by rw [Nat.zero_add, ← t3_s]; exact cell_av (M.get 1 rfl) hj); rw [jo2] at e; exact e)) ?_
    intro u5 M
    refine pl_new M (want_no rfl) (some 8) rfl (.cells (av 4 (w64 (fun _ => 0))) 44) (fun _ => by kernel_rfl) ?_
    intro g3 u6 M
    replace M : Mem ⟨w, []⟩ [⟨g1, .cells (av 5 (hd (an secret) (px secret))) 46⟩, ⟨g2, .cells (av 2 (t3 (px secret) s ⟨#[]⟩)) 9⟩, ⟨g3, .cells (av 4 (w64 (fun _ => 0))) 44⟩] u6 := M
    refine pl_put M (want_no rfl) rfl 44 _ _ rfl 2 g3 0 (by kernel_rfl) 4 44 (w64 (fun _ => 0)) rfl 4 (w64 (Ord.d64 (rn secret s))) (w64 (Ord.d64 (rn secret s))) (by kernel_rfl) inz44 (by decide) (fun _ _ => rfl) (fun j hj => by rw [if_pos (by omega), Nat.sub_zero]) ?_
    intro u7 M
    replace M : Mem ⟨w, []⟩ [⟨g1, .cells (av 5 (hd (an secret) (px secret))) 46⟩, ⟨g2, .cells (av 2 (t3 (px secret) s ⟨#[]⟩)) 9⟩, ⟨g3, .cells (av 4 (w64 (Ord.d64 (rn secret s)))) 44⟩] u7 := M
    refine pl_nil ?_
    refine au_then ?_
    refine wp_seq ?_
    refine rg_tail M 4 (by kernel_rfl) (by kernel_rfl) ?_
    simp only [List.take_succ_cons, List.take_zero]
    refine k_call M (want_no rfl) (some 24) rfl 25 #[] (.agg (av 20 (w64 base5.f))) (fun _ => by kernel_rfl) (fun w M => z_base w) ?_
    refine k_load M (want_no rfl) (some 25) rfl 44 _ rfl 2 g3 0 (by kernel_rfl) 4 44 (w64 (Ord.d64 (rn secret s))) rfl 4 (w64 (Ord.d64 (rn secret s))) (fun j _ => by rw [Nat.zero_add]) (by decide) _ Tryz.underlying44 rfl inz44 ?_
    refine k_call M (want_no rfl) (some 26) rfl 26 #[.agg (av 20 (w64 base5.f)), .agg (av 4 (w64 (Ord.d64 (rn secret s))))] (.agg (av 20 (w64 (mulV base5 (rn secret s)).f))) (fun _ => by kernel_rfl) (fun w M => z_mul base_rep (rn secret s) w) ?_
    refine k_call M (want_no rfl) (some 27) rfl 27 #[.agg (av 20 (w64 (mulV base5 (rn secret s)).f))] (.string (pb (rn secret s))) (fun _ => by kernel_rfl) (fun w M => z_bytes _ (base_rep.mul (rn_bd _ _)).ok w) ?_
    refine kl_nil ?_
    intro u8 M
    replace M : Mem ⟨w, []⟩ [⟨g1, .cells (av 5 (hd (an secret) (px secret))) 46⟩, ⟨g2, .cells (av 2 (t3 (px secret) s ⟨#[]⟩)) 9⟩, ⟨g3, .cells (av 4 (w64 (Ord.d64 (rn secret s)))) 44⟩] u8 := M
    refine pl_val (want_no rfl) (some 9) rfl (.string (pb (rn secret s))) (fun _ => by kernel_rfl) ?_
    refine pl_nil ?_
    refine au_then ?_
    refine wp_seq ?_
    refine rg_lit ?_
    refine pl_val (want_no rfl) (some 28) rfl (.string (pb (rn secret s))) (fun _ => by kernel_rfl) ?_
    refine pl_load M (want_no rfl) (some 29) rfl 46 _ rfl 0 g1 0 (by kernel_rfl) 5 46 (hd (an secret) (px secret)) rfl 5 (hd (an secret) (px secret)) (fun j _ => by rw [Nat.zero_add]) (by decide) _ Tryz.underlying46 rfl inz46 ?_
    refine pl_call M (want_no rfl) (some 30) rfl 18 #[.agg (av 5 (hd (an secret) (px secret)))] (.string (pb (an secret))) (fun _ => by kernel_rfl) (fun w M => c_public _ _ (an_bd secret) w M.laid) ?_
    intro u9 M
    refine pl_val (want_no rfl) (some 31) rfl (.string s) (fun _ => by kernel_rfl) ?_
    refine pl_mk M (want_no rfl) (some 32) rfl (fun g4 => .slice (some ⟨g4, 0, none⟩) 3 3) (.cells (av 3 (t3 (pb (rn secret s)) (pb (an secret)) s)) 9) (fun _ => by kernel_rfl) ?_
    intro g4 u10 M
    replace M : Mem ⟨w, []⟩ [⟨g1, .cells (av 5 (hd (an secret) (px secret))) 46⟩, ⟨g2, .cells (av 2 (t3 (px secret) s ⟨#[]⟩)) 9⟩, ⟨g3, .cells (av 4 (w64 (Ord.d64 (rn secret s)))) 44⟩, ⟨g4, .cells (av 3 (t3 (pb (rn secret s)) (pb (an secret)) s)) 9⟩] u10 := M
    refine pl_call M (want_no rfl) (some 33) rfl 24 #[.slice (some ⟨g4, 0, none⟩) 3 3] (.agg (av 4 (w64 (Ord.d64 (kn (pb (rn secret s)) (pb (an secret)) s))))) (fun _ => by kernel_rfl) (fun w M => (by have e := c_number g4 3 3 (s3 (pb (rn secret s)) (pb (an secret)) s) w M.laid (by decide) (fun j hj => by rw [Nat.zero_add, ← t3_s]; exact cell_av (M.get 3 rfl) hj); rw [jo3] at e; exact e)) ?_
    intro u11 M
    refine pl_new M (want_no rfl) (some 10) rfl (.cells (av 4 (w64 (fun _ => 0))) 44) (fun _ => by kernel_rfl) ?_
    intro g5 u12 M
    replace M : Mem ⟨w, []⟩ [⟨g1, .cells (av 5 (hd (an secret) (px secret))) 46⟩, ⟨g2, .cells (av 2 (t3 (px secret) s ⟨#[]⟩)) 9⟩, ⟨g3, .cells (av 4 (w64 (Ord.d64 (rn secret s)))) 44⟩, ⟨g4, .cells (av 3 (t3 (pb (rn secret s)) (pb (an secret)) s)) 9⟩, ⟨g5, .cells (av 4 (w64 (fun _ => 0))) 44⟩] u12 := M
    refine pl_put M (want_no rfl) rfl 44 _ _ rfl 4 g5 0 (by kernel_rfl) 4 44 (w64 (fun _ => 0)) rfl 4 (w64 (Ord.d64 (kn (pb (rn secret s)) (pb (an secret)) s))) (w64 (Ord.d64 (kn (pb (rn secret s)) (pb (an secret)) s))) (by kernel_rfl) inz44 (by decide) (fun _ _ => rfl) (fun j hj => by rw [if_pos (by omega), Nat.sub_zero]) ?_
    intro u13 M
    replace M : Mem ⟨w, []⟩ [⟨g1, .cells (av 5 (hd (an secret) (px secret))) 46⟩, ⟨g2, .cells (av 2 (t3 (px secret) s ⟨#[]⟩)) 9⟩, ⟨g3, .cells (av 4 (w64 (Ord.d64 (rn secret s)))) 44⟩, ⟨g4, .cells (av 3 (t3 (pb (rn secret s)) (pb (an secret)) s)) 9⟩, ⟨g5, .cells (av 4 (w64 (Ord.d64 (kn (pb (rn secret s)) (pb (an secret)) s)))) 44⟩] u13 := M
    refine pl_nil ?_
    refine au_then ?_
    refine wp_seq ?_
    refine rg_tail M 10 (by kernel_rfl) (by kernel_rfl) ?_
    simp only [List.take_succ_cons, List.take_zero]
    refine k_val (want_no rfl) (some 34) rfl (.string (pb (rn secret s))) (fun _ => by kernel_rfl) ?_
    refine k_load M (want_no rfl) (some 35) rfl 44 _ rfl 2 g3 0 (by kernel_rfl) 4 44 (w64 (Ord.d64 (rn secret s))) rfl 4 (w64 (Ord.d64 (rn secret s))) (fun j _ => by rw [Nat.zero_add]) (by decide) _ Tryz.underlying44 rfl inz44 ?_
    refine k_load M (want_no rfl) (some 36) rfl 44 _ rfl 4 g5 0 (by kernel_rfl) 4 44 (w64 (Ord.d64 (kn (pb (rn secret s)) (pb (an secret)) s))) rfl 4 (w64 (Ord.d64 (kn (pb (rn secret s)) (pb (an secret)) s))) (fun j _ => by rw [Nat.zero_add]) (by decide) _ Tryz.underlying44 rfl inz44 ?_
    refine k_val (want_no rfl) (some 37) rfl (.pointer (some ⟨g1, 0, none⟩)) (fun _ => by kernel_rfl) ?_
    refine k_load M (want_no rfl) (some 38) rfl 44 _ rfl 0 g1 0 (by kernel_rfl) 5 46 (hd (an secret) (px secret)) rfl 4 (w64 (Ord.d64 (an secret))) (hd_part _ _) (by decide) _ Tryz.underlying44 rfl inz44 ?_
    refine k_call M (want_no rfl) (some 39) rfl 29 #[.agg (av 4 (w64 (Ord.d64 (kn (pb (rn secret s)) (pb (an secret)) s)))), .agg (av 4 (w64 (Ord.d64 (an secret))))] (.agg (av 4 (w64 (Ord.d64 ((kn (pb (rn secret s)) (pb (an secret)) s) * an secret % Ord.Lm))))) (fun _ => by kernel_rfl) (fun w M => Ord.mul_any _ _ w (kn_bd _ _ _) (an_bd secret)) ?_
    refine k_call M (want_no rfl) (some 40) rfl 28 #[.agg (av 4 (w64 (Ord.d64 (rn secret s)))), .agg (av 4 (w64 (Ord.d64 ((kn (pb (rn secret s)) (pb (an secret)) s) * an secret % Ord.Lm))))] (.agg (av 4 (w64 (Ord.d64 (xn secret s))))) (fun _ => by kernel_rfl) (fun w M => Ord.add_any _ _ w (rn_bd _ _) (lmod _)) ?_
    refine k_call M (want_no rfl) (some 41) rfl 30 #[.agg (av 4 (w64 (Ord.d64 (xn secret s))))] (.string (Ord.lebytes (xn secret s))) (fun _ => by kernel_rfl) (fun w M => Ord.bytes_any _ w) ?_
    refine k_val (want_no rfl) (some 42) rfl (.string (sg secret s)) (run_cat 9 9 _ _ rfl (pb (rn secret s)) (Ord.lebytes (xn secret s)) (by kernel_rfl) (by kernel_rfl) (by rw [pb_size _ (rn_bd _ _), Ord.leb_size]; decide)) ?_
    refine k_val (want_no rfl) (some 4) rfl (.string (sg secret s)) (fun _ => by kernel_rfl) ?_
    refine kl_nil ?_
    intro u14 M
    replace M : Mem ⟨w, []⟩ [⟨g1, .cells (av 5 (hd (an secret) (px secret))) 46⟩, ⟨g2, .cells (av 2 (t3 (px secret) s ⟨#[]⟩)) 9⟩, ⟨g3, .cells (av 4 (w64 (Ord.d64 (rn secret s)))) 44⟩, ⟨g4, .cells (av 3 (t3 (pb (rn secret s)) (pb (an secret)) s)) 9⟩, ⟨g5, .cells (av 4 (w64 (Ord.d64 (kn (pb (rn secret s)) (pb (an secret)) s)))) 44⟩] u14 := M
    refine pl_val (want_no rfl) (some 5) rfl (.int .i64 0) (fun _ => by kernel_rfl) ?_
    refine pl_nil ?_
    refine au_then ?_
    refine wp_ret ?_
    exact bodyPost_ret (v := .tuple #[.string (sg secret s), .int .i64 0]) (results_tmp2 Tryz.results10 _ _ _ _ (by kernel_rfl) (by kernel_rfl)) (by kernel_rfl) ⟨by rw [if_pos h], below_grown M.old⟩
  · skip
    refine rg_lit ?_
    refine pl_val (want_no rfl) (some 4) rfl (.string ⟨#[]⟩) (fun _ => by kernel_rfl) ?_
    refine pl_val (want_no rfl) (some 5) rfl (.int .i64 0) (fun _ => by kernel_rfl) ?_
    refine pl_nil ?_
    refine au_then ?_
    refine wp_seq ?_
    refine rg_lit ?_
    refine pl_val (want_no rfl) (some 12) rfl (.string secret) (fun _ => by kernel_rfl) ?_
    refine pl_call M (want_no rfl) (some 13) rfl 17 #[.string secret] (.tuple #[.agg (av 5 (hd 0 ⟨#[]⟩)), .int .i64 2]) (fun _ => by kernel_rfl) (fun w M => (by have e := c_held secret w M.laid; rw [if_neg h] at e; exact e)) ?_
    intro u15 M
    refine pl_val (want_no rfl) (some 11) rfl (.tuple #[.agg (av 5 (hd 0 ⟨#[]⟩)), .int .i64 2]) (fun _ => by kernel_rfl) ?_
    refine pl_val (want_no rfl) (some 14) rfl (.agg (av 5 (hd 0 ⟨#[]⟩))) (fun _ => by kernel_rfl) ?_
    refine pl_val (want_no rfl) (some 15) rfl (.int .i64 2) (fun _ => by kernel_rfl) ?_
    refine pl_new M (want_no rfl) (some 6) rfl (.cells (av 5 (hd 0 ⟨#[]⟩)) 46) (fun _ => by kernel_rfl) ?_
    intro g6 u16 M
    replace M : Mem ⟨w, []⟩ [⟨g6, .cells (av 5 (hd 0 ⟨#[]⟩)) 46⟩] u16 := M
    refine pl_put M (want_no rfl) rfl 46 _ _ rfl 0 g6 0 (by kernel_rfl) 5 46 (hd 0 ⟨#[]⟩) rfl 5 (hd 0 ⟨#[]⟩) (hd 0 ⟨#[]⟩) (by kernel_rfl) inz46 (by decide) (hd_one _ _) (fun j hj => by rw [if_pos (by omega), Nat.sub_zero]) ?_
    intro u17 M
    replace M : Mem ⟨w, []⟩ [⟨g6, .cells (av 5 (hd 0 ⟨#[]⟩)) 46⟩] u17 := M
    refine pl_val (want_no rfl) (some 7) rfl (.int .i64 2) (fun _ => by kernel_rfl) ?_
    refine pl_nil ?_
    refine au_then ?_
    refine wp_seq ?_
    refine wp_seq ?_
    refine rg_lit ?_
    refine pl_val (want_no rfl) (some 16) rfl (.int .i64 2) (fun _ => by kernel_rfl) ?_
    refine pl_val (want_no rfl) (some 17) rfl (.bool true) (fun _ => by kernel_rfl) ?_
    refine pl_nil ?_
    refine au_then ?_
    refine wp_cond_true (by kernel_rfl) ?_
    refine wp_seq ?_
    refine rg_lit ?_
    refine pl_val (want_no rfl) (some 18) rfl (.int .i64 2) (fun _ => by kernel_rfl) ?_
    refine pl_val (want_no rfl) (some 4) rfl (.string ⟨#[]⟩) (fun _ => by kernel_rfl) ?_
    refine pl_val (want_no rfl) (some 5) rfl (.int .i64 2) (fun _ => by kernel_rfl) ?_
    refine pl_nil ?_
    refine au_then ?_
    refine wp_ret ?_
    refine au_then_ret ?_
    exact bodyPost_ret (v := .tuple #[.string ⟨#[]⟩, .int .i64 2]) (results_tmp2 Tryz.results10 _ _ _ _ (by kernel_rfl) (by kernel_rfl)) (by kernel_rfl) ⟨by rw [if_neg h], below_grown M.old⟩

set_option maxRecDepth 100000 in
set_option maxHeartbeats 4000000 in
theorem c_Verify (p s x : ByteArray) (w : World) (hL : Laid w)  :
    Calls Tryz.prog 12 #[.string p, .string s, .string x] w fun r w' => r = .returned (.bool (vfy p s x)) ∧ Below w.heap.size w w' := by
  go_enter Tryz.func12, Tryz.ntmps12
  have M := Mem.start hL
  refine wp_seq ?_
  refine rg_lit ?_
  refine pl_val (want_no rfl) (some 6) rfl (.bool false) (fun _ => by kernel_rfl) ?_
  refine pl_nil ?_
  refine au_then ?_
  refine wp_seq ?_
  refine wp_seq ?_
  by_cases h0 : x.size = 64
  · skip
    refine rg_lit ?_
    refine pl_val (want_no rfl) (some 15) rfl (.string x) (fun _ => by kernel_rfl) ?_
    refine pl_val (want_no rfl) (some 16) rfl (.int .i64 (x.size : Int)) (fun _ => by kernel_rfl) ?_
    refine pl_val (want_no rfl) (some 17) rfl (.bool false) (fun w => Eq.trans (b := .ok (.value (.bool (!(decide ((x.size : Int) = 64))))) w) (by kernel_rfl) (by rw [decide_eq_true (by omega)]; rfl)) ?_
    refine pl_nil ?_
    refine au_then ?_
    refine wp_cond_false (by kernel_rfl) ?_
    refine wp_skip ?_
    refine au_then ?_
    refine wp_seq ?_
    refine rg_tail M 5 (by kernel_rfl) (by kernel_rfl) ?_
    simp only [List.take_succ_cons, List.take_zero]
    refine k_val (want_no rfl) (some 18) rfl (.string x) (fun _ => by kernel_rfl) ?_
    refine k_val (want_no rfl) (some 19) rfl (.string (x.extract 0 32)) (run_strh 9 Tryz.underlying9 _ _ rfl x (by kernel_rfl) .i64 32 (by kernel_rfl) (by omega) _ rfl) ?_
    refine k_val (want_no rfl) (some 20) rfl (.string x) (fun _ => by kernel_rfl) ?_
    refine k_val (want_no rfl) (some 21) rfl (.string (x.extract 32 x.size)) (run_strl 9 Tryz.underlying9 _ _ rfl x (by kernel_rfl) .i64 32 (by kernel_rfl) (by omega) _ rfl) ?_
    refine k_val (want_no rfl) (some 7) rfl (.string (x.extract 0 32)) (fun _ => by kernel_rfl) ?_
    refine kl_nil ?_
    intro u1 M
    replace M : Mem ⟨w, []⟩ [] u1 := M
    refine pl_val (want_no rfl) (some 8) rfl (.string (x.extract 32 x.size)) (fun _ => by kernel_rfl) ?_
    refine pl_nil ?_
    refine au_then ?_
    refine wp_seq ?_
    by_cases hp : decC p = 0
    · skip
      refine rg_lit ?_
      refine pl_val (want_no rfl) (some 23) rfl (.string p) (fun _ => by kernel_rfl) ?_
      refine pl_call M (want_no rfl) (some 24) rfl 34 #[.string p] (.tuple #[.agg (av 20 (w64 (decP p).f)), .int .i64 (decC p)]) (fun _ => by kernel_rfl) (fun w M => z_dec p w) ?_
      intro u2 M
      refine pl_val (want_no rfl) (some 22) rfl (.tuple #[.agg (av 20 (w64 (decP p).f)), .int .i64 (decC p)]) (fun _ => by kernel_rfl) ?_
      refine pl_val (want_no rfl) (some 25) rfl (.agg (av 20 (w64 (decP p).f))) (fun _ => by kernel_rfl) ?_
      refine pl_val (want_no rfl) (some 26) rfl (.int .i64 (decC p)) (fun _ => by kernel_rfl) ?_
      refine pl_new M (want_no rfl) (some 9) rfl (.cells (av 20 (w64 (fun _ => 0))) 60) (fun _ => by kernel_rfl) ?_
      intro g1 u3 M
      replace M : Mem ⟨w, []⟩ [⟨g1, .cells (av 20 (w64 (fun _ => 0))) 60⟩] u3 := M
      refine pl_put M (want_no rfl) rfl 60 _ _ rfl 0 g1 0 (by kernel_rfl) 20 60 (w64 (fun _ => 0)) rfl 20 (w64 (decP p).f) (w64 (decP p).f) (by kernel_rfl) inz60 (by decide) (fun _ _ => rfl) (fun j hj => by rw [if_pos (by omega), Nat.sub_zero]) ?_
      intro u4 M
      replace M : Mem ⟨w, []⟩ [⟨g1, .cells (av 20 (w64 (decP p).f)) 60⟩] u4 := M
      refine pl_val (want_no rfl) (some 10) rfl (.int .i64 (decC p)) (fun _ => by kernel_rfl) ?_
      refine pl_nil ?_
      refine au_then ?_
      refine wp_seq ?_
      refine wp_seq ?_
      by_cases hs : smallV (decP p) = false
      · skip
        refine rg_lit ?_
        refine pl_val (want_no rfl) (some 27) rfl (.int .i64 (decC p)) (fun _ => by kernel_rfl) ?_
        refine pl_val (want_no rfl) (some 28) rfl (.bool false) (fun w => Eq.trans (b := .ok (.value (.bool (!(decide (decC p = 0))))) w) (by kernel_rfl) (by rw [decide_eq_true (hp)]; rfl)) ?_
        refine pl_val (want_no rfl) (some 29) rfl (.bool false) (fun _ => by kernel_rfl) ?_
        refine pl_load M (want_on 2 false rfl 29 rfl (by kernel_rfl)) (some 30) rfl 60 _ rfl 0 g1 0 (by kernel_rfl) 20 60 (w64 (decP p).f) rfl 20 (w64 (decP p).f) (fun j _ => by rw [Nat.zero_add]) (by decide) _ Tryz.underlying60 rfl inz60 ?_
        refine pl_call M (want_on 2 false rfl 29 rfl (by kernel_rfl)) (some 31) rfl 35 #[.agg (av 20 (w64 (decP p).f))] (.bool false) (fun _ => by kernel_rfl) (fun w M => (by have e := z_small _ (dec_both hp).1.ok w; rw [hs] at e; exact e)) ?_
        intro u5 M
        refine pl_val (want_no rfl) (some 32) rfl (.bool false) (fun _ => by kernel_rfl) ?_
        refine pl_nil ?_
        refine au_then ?_
        refine wp_cond_false (by kernel_rfl) ?_
        refine wp_skip ?_
        refine au_then ?_
        refine wp_seq ?_
        by_cases hf : decC (x.extract 0 32) = 0
        · skip
          refine rg_lit ?_
          refine pl_val (want_no rfl) (some 34) rfl (.string (x.extract 0 32)) (fun _ => by kernel_rfl) ?_
          refine pl_call M (want_no rfl) (some 35) rfl 34 #[.string (x.extract 0 32)] (.tuple #[.agg (av 20 (w64 (decP (x.extract 0 32)).f)), .int .i64 (decC (x.extract 0 32))]) (fun _ => by kernel_rfl) (fun w M => z_dec (x.extract 0 32) w) ?_
          intro u6 M
          refine pl_val (want_no rfl) (some 33) rfl (.tuple #[.agg (av 20 (w64 (decP (x.extract 0 32)).f)), .int .i64 (decC (x.extract 0 32))]) (fun _ => by kernel_rfl) ?_
          refine pl_val (want_no rfl) (some 36) rfl (.agg (av 20 (w64 (decP (x.extract 0 32)).f))) (fun _ => by kernel_rfl) ?_
          refine pl_val (want_no rfl) (some 37) rfl (.int .i64 (decC (x.extract 0 32))) (fun _ => by kernel_rfl) ?_
          refine pl_new M (want_no rfl) (some 11) rfl (.cells (av 20 (w64 (fun _ => 0))) 60) (fun _ => by kernel_rfl) ?_
          intro g2 u7 M
          replace M : Mem ⟨w, []⟩ [⟨g1, .cells (av 20 (w64 (decP p).f)) 60⟩, ⟨g2, .cells (av 20 (w64 (fun _ => 0))) 60⟩] u7 := M
          refine pl_put M (want_no rfl) rfl 60 _ _ rfl 1 g2 0 (by kernel_rfl) 20 60 (w64 (fun _ => 0)) rfl 20 (w64 (decP (x.extract 0 32)).f) (w64 (decP (x.extract 0 32)).f) (by kernel_rfl) inz60 (by decide) (fun _ _ => rfl) (fun j hj => by rw [if_pos (by omega), Nat.sub_zero]) ?_
          intro u8 M
          replace M : Mem ⟨w, []⟩ [⟨g1, .cells (av 20 (w64 (decP p).f)) 60⟩, ⟨g2, .cells (av 20 (w64 (decP (x.extract 0 32)).f)) 60⟩] u8 := M
          refine pl_val (want_no rfl) (some 10) rfl (.int .i64 (decC (x.extract 0 32))) (fun _ => by kernel_rfl) ?_
          refine pl_nil ?_
          refine au_then ?_
          refine wp_seq ?_
          refine wp_seq ?_
          by_cases hc : Ord.bv (x.extract 32 x.size) 32 < Ord.Lm
          · skip
            refine rg_lit ?_
            refine pl_val (want_no rfl) (some 38) rfl (.int .i64 (decC (x.extract 0 32))) (fun _ => by kernel_rfl) ?_
            refine pl_val (want_no rfl) (some 39) rfl (.bool false) (fun w => Eq.trans (b := .ok (.value (.bool (!(decide (decC (x.extract 0 32) = 0))))) w) (by kernel_rfl) (by rw [decide_eq_true (hf)]; rfl)) ?_
            refine pl_val (want_no rfl) (some 40) rfl (.bool false) (fun _ => by kernel_rfl) ?_
            refine pl_val (want_on 2 false rfl 40 rfl (by kernel_rfl)) (some 41) rfl (.string (x.extract 32 x.size)) (fun _ => by kernel_rfl) ?_
            refine pl_call M (want_on 2 false rfl 40 rfl (by kernel_rfl)) (some 42) rfl 36 #[.string (x.extract 32 x.size)] (.bool true) (fun _ => by kernel_rfl) (fun w M => (by have e := Ord.canon_yes (x.extract 32 x.size) w (xl x h0); rw [decide_eq_true hc] at e; exact e)) ?_
            intro u9 M
            refine pl_val (want_on 2 false rfl 40 rfl (by kernel_rfl)) (some 43) rfl (.bool false) (fun _ => by kernel_rfl) ?_
            refine pl_val (want_no rfl) (some 44) rfl (.bool false) (fun _ => by kernel_rfl) ?_
            refine pl_nil ?_
            refine au_then ?_
            refine wp_cond_false (by kernel_rfl) ?_
            refine wp_skip ?_
            refine au_then ?_
            refine wp_seq ?_
            refine rg_lit ?_
            refine pl_val (want_no rfl) (some 46) rfl (.string (x.extract 32 x.size)) (fun _ => by kernel_rfl) ?_
            refine pl_call M (want_no rfl) (some 47) rfl 37 #[.string (x.extract 32 x.size)] (.tuple #[.agg (av 4 (w64 (Ord.d64 (Go.Proofs.YtmhfmhmpoobmlaaGreatDoor.ofV (x.extract 32 x.size))))), .int .i64 (Go.Proofs.YtmhfmhmpoobmlaaGreatDoor.ofC (x.extract 32 x.size))]) (fun _ => by kernel_rfl) (fun w M => z_of (x.extract 32 x.size) w) ?_
            intro u10 M
            refine pl_val (want_no rfl) (some 45) rfl (.tuple #[.agg (av 4 (w64 (Ord.d64 (Go.Proofs.YtmhfmhmpoobmlaaGreatDoor.ofV (x.extract 32 x.size))))), .int .i64 (Go.Proofs.YtmhfmhmpoobmlaaGreatDoor.ofC (x.extract 32 x.size))]) (fun _ => by kernel_rfl) ?_
            refine pl_val (want_no rfl) (some 48) rfl (.agg (av 4 (w64 (Ord.d64 (Go.Proofs.YtmhfmhmpoobmlaaGreatDoor.ofV (x.extract 32 x.size)))))) (fun _ => by kernel_rfl) ?_
            refine pl_val (want_no rfl) (some 49) rfl (.int .i64 (Go.Proofs.YtmhfmhmpoobmlaaGreatDoor.ofC (x.extract 32 x.size))) (fun _ => by kernel_rfl) ?_
            refine pl_new M (want_no rfl) (some 12) rfl (.cells (av 4 (w64 (fun _ => 0))) 44) (fun _ => by kernel_rfl) ?_
            intro g3 u11 M
            replace M : Mem ⟨w, []⟩ [⟨g1, .cells (av 20 (w64 (decP p).f)) 60⟩, ⟨g2, .cells (av 20 (w64 (decP (x.extract 0 32)).f)) 60⟩, ⟨g3, .cells (av 4 (w64 (fun _ => 0))) 44⟩] u11 := M
            refine pl_put M (want_no rfl) rfl 44 _ _ rfl 2 g3 0 (by kernel_rfl) 4 44 (w64 (fun _ => 0)) rfl 4 (w64 (Ord.d64 (Go.Proofs.YtmhfmhmpoobmlaaGreatDoor.ofV (x.extract 32 x.size)))) (w64 (Ord.d64 (Go.Proofs.YtmhfmhmpoobmlaaGreatDoor.ofV (x.extract 32 x.size)))) (by kernel_rfl) inz44 (by decide) (fun _ _ => rfl) (fun j hj => by rw [if_pos (by omega), Nat.sub_zero]) ?_
            intro u12 M
            replace M : Mem ⟨w, []⟩ [⟨g1, .cells (av 20 (w64 (decP p).f)) 60⟩, ⟨g2, .cells (av 20 (w64 (decP (x.extract 0 32)).f)) 60⟩, ⟨g3, .cells (av 4 (w64 (Ord.d64 (Go.Proofs.YtmhfmhmpoobmlaaGreatDoor.ofV (x.extract 32 x.size))))) 44⟩] u12 := M
            refine pl_val (want_no rfl) (some 13) rfl (.int .i64 (Go.Proofs.YtmhfmhmpoobmlaaGreatDoor.ofC (x.extract 32 x.size))) (fun _ => by kernel_rfl) ?_
            refine pl_nil ?_
            refine au_then ?_
            refine wp_seq ?_
            refine rg_lit ?_
            refine pl_val (want_no rfl) (some 50) rfl (.string (x.extract 0 32)) (fun _ => by kernel_rfl) ?_
            refine pl_val (want_no rfl) (some 51) rfl (.string p) (fun _ => by kernel_rfl) ?_
            refine pl_val (want_no rfl) (some 52) rfl (.string s) (fun _ => by kernel_rfl) ?_
            refine pl_mk M (want_no rfl) (some 53) rfl (fun g4 => .slice (some ⟨g4, 0, none⟩) 3 3) (.cells (av 3 (t3 (x.extract 0 32) p s)) 9) (fun _ => by kernel_rfl) ?_
            intro g4 u13 M
            replace M : Mem ⟨w, []⟩ [⟨g1, .cells (av 20 (w64 (decP p).f)) 60⟩, ⟨g2, .cells (av 20 (w64 (decP (x.extract 0 32)).f)) 60⟩, ⟨g3, .cells (av 4 (w64 (Ord.d64 (Go.Proofs.YtmhfmhmpoobmlaaGreatDoor.ofV (x.extract 32 x.size))))) 44⟩, ⟨g4, .cells (av 3 (t3 (x.extract 0 32) p s)) 9⟩] u13 := M
            refine pl_call M (want_no rfl) (some 54) rfl 24 #[.slice (some ⟨g4, 0, none⟩) 3 3] (.agg (av 4 (w64 (Ord.d64 (kn (x.extract 0 32) p s))))) (fun _ => by kernel_rfl) (fun w M => (by have e := c_number g4 3 3 (s3 (x.extract 0 32) p s) w M.laid (by decide) (fun j hj => by rw [Nat.zero_add, ← t3_s]; exact cell_av (M.get 3 rfl) hj); rw [jo3] at e; exact e)) ?_
            intro u14 M
            refine pl_new M (want_no rfl) (some 14) rfl (.cells (av 4 (w64 (fun _ => 0))) 44) (fun _ => by kernel_rfl) ?_
            intro g5 u15 M
            replace M : Mem ⟨w, []⟩ [⟨g1, .cells (av 20 (w64 (decP p).f)) 60⟩, ⟨g2, .cells (av 20 (w64 (decP (x.extract 0 32)).f)) 60⟩, ⟨g3, .cells (av 4 (w64 (Ord.d64 (Go.Proofs.YtmhfmhmpoobmlaaGreatDoor.ofV (x.extract 32 x.size))))) 44⟩, ⟨g4, .cells (av 3 (t3 (x.extract 0 32) p s)) 9⟩, ⟨g5, .cells (av 4 (w64 (fun _ => 0))) 44⟩] u15 := M
            refine pl_put M (want_no rfl) rfl 44 _ _ rfl 4 g5 0 (by kernel_rfl) 4 44 (w64 (fun _ => 0)) rfl 4 (w64 (Ord.d64 (kn (x.extract 0 32) p s))) (w64 (Ord.d64 (kn (x.extract 0 32) p s))) (by kernel_rfl) inz44 (by decide) (fun _ _ => rfl) (fun j hj => by rw [if_pos (by omega), Nat.sub_zero]) ?_
            intro u16 M
            replace M : Mem ⟨w, []⟩ [⟨g1, .cells (av 20 (w64 (decP p).f)) 60⟩, ⟨g2, .cells (av 20 (w64 (decP (x.extract 0 32)).f)) 60⟩, ⟨g3, .cells (av 4 (w64 (Ord.d64 (Go.Proofs.YtmhfmhmpoobmlaaGreatDoor.ofV (x.extract 32 x.size))))) 44⟩, ⟨g4, .cells (av 3 (t3 (x.extract 0 32) p s)) 9⟩, ⟨g5, .cells (av 4 (w64 (Ord.d64 (kn (x.extract 0 32) p s)))) 44⟩] u16 := M
            refine pl_nil ?_
            refine au_then ?_
            refine wp_seq ?_
            refine rg_tail M 9 (by kernel_rfl) (by kernel_rfl) ?_
            simp only [List.take_succ_cons, List.take_zero]
            refine k_call M (want_no rfl) (some 55) rfl 25 #[] (.agg (av 20 (w64 base5.f))) (fun _ => by kernel_rfl) (fun w M => z_base w) ?_
            refine k_load M (want_no rfl) (some 56) rfl 44 _ rfl 2 g3 0 (by kernel_rfl) 4 44 (w64 (Ord.d64 (Go.Proofs.YtmhfmhmpoobmlaaGreatDoor.ofV (x.extract 32 x.size)))) rfl 4 (w64 (Ord.d64 (Go.Proofs.YtmhfmhmpoobmlaaGreatDoor.ofV (x.extract 32 x.size)))) (fun j _ => by rw [Nat.zero_add]) (by decide) _ Tryz.underlying44 rfl inz44 ?_
            refine k_call M (want_no rfl) (some 57) rfl 26 #[.agg (av 20 (w64 base5.f)), .agg (av 4 (w64 (Ord.d64 (Go.Proofs.YtmhfmhmpoobmlaaGreatDoor.ofV (x.extract 32 x.size)))))] (.agg (av 20 (w64 (mulV base5 (Go.Proofs.YtmhfmhmpoobmlaaGreatDoor.ofV (x.extract 32 x.size))).f))) (fun _ => by kernel_rfl) (fun w M => z_mul base_rep (Go.Proofs.YtmhfmhmpoobmlaaGreatDoor.ofV (x.extract 32 x.size)) w) ?_
            refine k_load M (want_no rfl) (some 58) rfl 60 _ rfl 1 g2 0 (by kernel_rfl) 20 60 (w64 (decP (x.extract 0 32)).f) rfl 20 (w64 (decP (x.extract 0 32)).f) (fun j _ => by rw [Nat.zero_add]) (by decide) _ Tryz.underlying60 rfl inz60 ?_
            refine k_load M (want_no rfl) (some 59) rfl 60 _ rfl 0 g1 0 (by kernel_rfl) 20 60 (w64 (decP p).f) rfl 20 (w64 (decP p).f) (fun j _ => by rw [Nat.zero_add]) (by decide) _ Tryz.underlying60 rfl inz60 ?_
            refine k_load M (want_no rfl) (some 60) rfl 44 _ rfl 4 g5 0 (by kernel_rfl) 4 44 (w64 (Ord.d64 (kn (x.extract 0 32) p s))) rfl 4 (w64 (Ord.d64 (kn (x.extract 0 32) p s))) (fun j _ => by rw [Nat.zero_add]) (by decide) _ Tryz.underlying44 rfl inz44 ?_
            refine k_call M (want_no rfl) (some 61) rfl 26 #[.agg (av 20 (w64 (decP p).f)), .agg (av 4 (w64 (Ord.d64 (kn (x.extract 0 32) p s))))] (.agg (av 20 (w64 (mulV (decP p) (kn (x.extract 0 32) p s)).f))) (fun _ => by kernel_rfl) (fun w M => z_mul (dec_both hp).1 (kn (x.extract 0 32) p s) w) ?_
            refine k_call M (want_no rfl) (some 62) rfl 39 #[.agg (av 20 (w64 (decP (x.extract 0 32)).f)), .agg (av 20 (w64 (mulV (decP p) (kn (x.extract 0 32) p s)).f))] (.agg (av 20 (w64 (addV (decP (x.extract 0 32)) (mulV (decP p) (kn (x.extract 0 32) p s))).f))) (fun _ => by kernel_rfl) (fun w M => z_add _ _ (dec_both hf).1.ok ((dec_both hp).1.mul (kn_bd _ _ _)).ok w) ?_
            refine k_call M (want_no rfl) (some 63) rfl 38 #[.agg (av 20 (w64 (mulV base5 (Go.Proofs.YtmhfmhmpoobmlaaGreatDoor.ofV (x.extract 32 x.size))).f)), .agg (av 20 (w64 (addV (decP (x.extract 0 32)) (mulV (decP p) (kn (x.extract 0 32) p s))).f))] (.bool (sameV (mulV base5 (Go.Proofs.YtmhfmhmpoobmlaaGreatDoor.ofV (x.extract 32 x.size))) (addV (decP (x.extract 0 32)) (mulV (decP p) (kn (x.extract 0 32) p s))))) (fun _ => by kernel_rfl) (fun w M => z_same _ _ (base_rep.mul (ofV_bd _)).ok ((dec_both hf).1.add ((dec_both hp).1.mul (kn_bd _ _ _))).ok w) ?_
            refine kl_nil ?_
            intro u17 M
            replace M : Mem ⟨w, []⟩ [⟨g1, .cells (av 20 (w64 (decP p).f)) 60⟩, ⟨g2, .cells (av 20 (w64 (decP (x.extract 0 32)).f)) 60⟩, ⟨g3, .cells (av 4 (w64 (Ord.d64 (Go.Proofs.YtmhfmhmpoobmlaaGreatDoor.ofV (x.extract 32 x.size))))) 44⟩, ⟨g4, .cells (av 3 (t3 (x.extract 0 32) p s)) 9⟩, ⟨g5, .cells (av 4 (w64 (Ord.d64 (kn (x.extract 0 32) p s)))) 44⟩] u17 := M
            refine pl_val (want_no rfl) (some 6) rfl (.bool (sameV (mulV base5 (Go.Proofs.YtmhfmhmpoobmlaaGreatDoor.ofV (x.extract 32 x.size))) (addV (decP (x.extract 0 32)) (mulV (decP p) (kn (x.extract 0 32) p s))))) (fun _ => by kernel_rfl) ?_
            refine pl_nil ?_
            refine au_then ?_
            refine wp_ret ?_
            exact bodyPost_ret (v := .bool (sameV (mulV base5 (Go.Proofs.YtmhfmhmpoobmlaaGreatDoor.ofV (x.extract 32 x.size))) (addV (decP (x.extract 0 32)) (mulV (decP p) (kn (x.extract 0 32) p s))))) (results_tmp1 Tryz.results12 _ _ _ (by kernel_rfl)) (by kernel_rfl) ⟨by rw [vfy, if_pos ⟨h0, hp, hs, hf, hc⟩], below_grown M.old⟩
          · skip
            refine rg_lit ?_
            refine pl_val (want_no rfl) (some 38) rfl (.int .i64 (decC (x.extract 0 32))) (fun _ => by kernel_rfl) ?_
            refine pl_val (want_no rfl) (some 39) rfl (.bool false) (fun w => Eq.trans (b := .ok (.value (.bool (!(decide (decC (x.extract 0 32) = 0))))) w) (by kernel_rfl) (by rw [decide_eq_true (hf)]; rfl)) ?_
            refine pl_val (want_no rfl) (some 40) rfl (.bool false) (fun _ => by kernel_rfl) ?_
            refine pl_val (want_on 2 false rfl 40 rfl (by kernel_rfl)) (some 41) rfl (.string (x.extract 32 x.size)) (fun _ => by kernel_rfl) ?_
            refine pl_call M (want_on 2 false rfl 40 rfl (by kernel_rfl)) (some 42) rfl 36 #[.string (x.extract 32 x.size)] (.bool false) (fun _ => by kernel_rfl) (fun w M => (by have e := Ord.canon_yes (x.extract 32 x.size) w (xl x h0); rw [decide_eq_false hc] at e; exact e)) ?_
            intro u18 M
            refine pl_val (want_on 2 false rfl 40 rfl (by kernel_rfl)) (some 43) rfl (.bool true) (fun _ => by kernel_rfl) ?_
            refine pl_val (want_no rfl) (some 44) rfl (.bool true) (fun _ => by kernel_rfl) ?_
            refine pl_nil ?_
            refine au_then ?_
            refine wp_cond_true (by kernel_rfl) ?_
            refine wp_seq ?_
            refine rg_lit ?_
            refine pl_val (want_no rfl) (some 6) rfl (.bool false) (fun _ => by kernel_rfl) ?_
            refine pl_nil ?_
            refine au_then ?_
            refine wp_ret ?_
            refine au_then_ret ?_
            exact bodyPost_ret (v := .bool false) (results_tmp1 Tryz.results12 _ _ _ (by kernel_rfl)) (by kernel_rfl) ⟨by rw [vfy, if_neg (fun c => hc c.2.2.2.2)], below_grown M.old⟩
        · skip
          refine rg_lit ?_
          refine pl_val (want_no rfl) (some 34) rfl (.string (x.extract 0 32)) (fun _ => by kernel_rfl) ?_
          refine pl_call M (want_no rfl) (some 35) rfl 34 #[.string (x.extract 0 32)] (.tuple #[.agg (av 20 (w64 (decP (x.extract 0 32)).f)), .int .i64 (decC (x.extract 0 32))]) (fun _ => by kernel_rfl) (fun w M => z_dec (x.extract 0 32) w) ?_
          intro u19 M
          refine pl_val (want_no rfl) (some 33) rfl (.tuple #[.agg (av 20 (w64 (decP (x.extract 0 32)).f)), .int .i64 (decC (x.extract 0 32))]) (fun _ => by kernel_rfl) ?_
          refine pl_val (want_no rfl) (some 36) rfl (.agg (av 20 (w64 (decP (x.extract 0 32)).f))) (fun _ => by kernel_rfl) ?_
          refine pl_val (want_no rfl) (some 37) rfl (.int .i64 (decC (x.extract 0 32))) (fun _ => by kernel_rfl) ?_
          refine pl_new M (want_no rfl) (some 11) rfl (.cells (av 20 (w64 (fun _ => 0))) 60) (fun _ => by kernel_rfl) ?_
          intro g6 u20 M
          replace M : Mem ⟨w, []⟩ [⟨g1, .cells (av 20 (w64 (decP p).f)) 60⟩, ⟨g6, .cells (av 20 (w64 (fun _ => 0))) 60⟩] u20 := M
          refine pl_put M (want_no rfl) rfl 60 _ _ rfl 1 g6 0 (by kernel_rfl) 20 60 (w64 (fun _ => 0)) rfl 20 (w64 (decP (x.extract 0 32)).f) (w64 (decP (x.extract 0 32)).f) (by kernel_rfl) inz60 (by decide) (fun _ _ => rfl) (fun j hj => by rw [if_pos (by omega), Nat.sub_zero]) ?_
          intro u21 M
          replace M : Mem ⟨w, []⟩ [⟨g1, .cells (av 20 (w64 (decP p).f)) 60⟩, ⟨g6, .cells (av 20 (w64 (decP (x.extract 0 32)).f)) 60⟩] u21 := M
          refine pl_val (want_no rfl) (some 10) rfl (.int .i64 (decC (x.extract 0 32))) (fun _ => by kernel_rfl) ?_
          refine pl_nil ?_
          refine au_then ?_
          refine wp_seq ?_
          refine wp_seq ?_
          refine rg_lit ?_
          refine pl_val (want_no rfl) (some 38) rfl (.int .i64 (decC (x.extract 0 32))) (fun _ => by kernel_rfl) ?_
          refine pl_val (want_no rfl) (some 39) rfl (.bool true) (fun w => Eq.trans (b := .ok (.value (.bool (!(decide (decC (x.extract 0 32) = 0))))) w) (by kernel_rfl) (by rw [decide_eq_false (hf)]; rfl)) ?_
          refine pl_val (want_no rfl) (some 40) rfl (.bool true) (fun _ => by kernel_rfl) ?_
          refine pl_skip (want_off 2 false rfl 40 rfl (by kernel_rfl)) (some 41) rfl ?_
          refine pl_skip (want_off 2 false rfl 40 rfl (by kernel_rfl)) (some 42) rfl ?_
          refine pl_skip (want_off 2 false rfl 40 rfl (by kernel_rfl)) (some 43) rfl ?_
          refine pl_val (want_no rfl) (some 44) rfl (.bool true) (fun _ => by kernel_rfl) ?_
          refine pl_nil ?_
          refine au_then ?_
          refine wp_cond_true (by kernel_rfl) ?_
          refine wp_seq ?_
          refine rg_lit ?_
          refine pl_val (want_no rfl) (some 6) rfl (.bool false) (fun _ => by kernel_rfl) ?_
          refine pl_nil ?_
          refine au_then ?_
          refine wp_ret ?_
          refine au_then_ret ?_
          exact bodyPost_ret (v := .bool false) (results_tmp1 Tryz.results12 _ _ _ (by kernel_rfl)) (by kernel_rfl) ⟨by rw [vfy, if_neg (fun c => hf c.2.2.2.1)], below_grown M.old⟩
      · skip
        refine rg_lit ?_
        refine pl_val (want_no rfl) (some 27) rfl (.int .i64 (decC p)) (fun _ => by kernel_rfl) ?_
        refine pl_val (want_no rfl) (some 28) rfl (.bool false) (fun w => Eq.trans (b := .ok (.value (.bool (!(decide (decC p = 0))))) w) (by kernel_rfl) (by rw [decide_eq_true (hp)]; rfl)) ?_
        refine pl_val (want_no rfl) (some 29) rfl (.bool false) (fun _ => by kernel_rfl) ?_
        refine pl_load M (want_on 2 false rfl 29 rfl (by kernel_rfl)) (some 30) rfl 60 _ rfl 0 g1 0 (by kernel_rfl) 20 60 (w64 (decP p).f) rfl 20 (w64 (decP p).f) (fun j _ => by rw [Nat.zero_add]) (by decide) _ Tryz.underlying60 rfl inz60 ?_
        refine pl_call M (want_on 2 false rfl 29 rfl (by kernel_rfl)) (some 31) rfl 35 #[.agg (av 20 (w64 (decP p).f))] (.bool true) (fun _ => by kernel_rfl) (fun w M => (by have e := z_small _ (dec_both hp).1.ok w; rw [(Bool.not_eq_false _).mp hs] at e; exact e)) ?_
        intro u22 M
        refine pl_val (want_no rfl) (some 32) rfl (.bool true) (fun _ => by kernel_rfl) ?_
        refine pl_nil ?_
        refine au_then ?_
        refine wp_cond_true (by kernel_rfl) ?_
        refine wp_seq ?_
        refine rg_lit ?_
        refine pl_val (want_no rfl) (some 6) rfl (.bool false) (fun _ => by kernel_rfl) ?_
        refine pl_nil ?_
        refine au_then ?_
        refine wp_ret ?_
        refine au_then_ret ?_
        exact bodyPost_ret (v := .bool false) (results_tmp1 Tryz.results12 _ _ _ (by kernel_rfl)) (by kernel_rfl) ⟨by rw [vfy, if_neg (fun c => hs c.2.2.1)], below_grown M.old⟩
    · skip
      refine rg_lit ?_
      refine pl_val (want_no rfl) (some 23) rfl (.string p) (fun _ => by kernel_rfl) ?_
      refine pl_call M (want_no rfl) (some 24) rfl 34 #[.string p] (.tuple #[.agg (av 20 (w64 (decP p).f)), .int .i64 (decC p)]) (fun _ => by kernel_rfl) (fun w M => z_dec p w) ?_
      intro u23 M
      refine pl_val (want_no rfl) (some 22) rfl (.tuple #[.agg (av 20 (w64 (decP p).f)), .int .i64 (decC p)]) (fun _ => by kernel_rfl) ?_
      refine pl_val (want_no rfl) (some 25) rfl (.agg (av 20 (w64 (decP p).f))) (fun _ => by kernel_rfl) ?_
      refine pl_val (want_no rfl) (some 26) rfl (.int .i64 (decC p)) (fun _ => by kernel_rfl) ?_
      refine pl_new M (want_no rfl) (some 9) rfl (.cells (av 20 (w64 (fun _ => 0))) 60) (fun _ => by kernel_rfl) ?_
      intro g7 u24 M
      replace M : Mem ⟨w, []⟩ [⟨g7, .cells (av 20 (w64 (fun _ => 0))) 60⟩] u24 := M
      refine pl_put M (want_no rfl) rfl 60 _ _ rfl 0 g7 0 (by kernel_rfl) 20 60 (w64 (fun _ => 0)) rfl 20 (w64 (decP p).f) (w64 (decP p).f) (by kernel_rfl) inz60 (by decide) (fun _ _ => rfl) (fun j hj => by rw [if_pos (by omega), Nat.sub_zero]) ?_
      intro u25 M
      replace M : Mem ⟨w, []⟩ [⟨g7, .cells (av 20 (w64 (decP p).f)) 60⟩] u25 := M
      refine pl_val (want_no rfl) (some 10) rfl (.int .i64 (decC p)) (fun _ => by kernel_rfl) ?_
      refine pl_nil ?_
      refine au_then ?_
      refine wp_seq ?_
      refine wp_seq ?_
      refine rg_lit ?_
      refine pl_val (want_no rfl) (some 27) rfl (.int .i64 (decC p)) (fun _ => by kernel_rfl) ?_
      refine pl_val (want_no rfl) (some 28) rfl (.bool true) (fun w => Eq.trans (b := .ok (.value (.bool (!(decide (decC p = 0))))) w) (by kernel_rfl) (by rw [decide_eq_false (hp)]; rfl)) ?_
      refine pl_val (want_no rfl) (some 29) rfl (.bool true) (fun _ => by kernel_rfl) ?_
      refine pl_skip (want_off 2 false rfl 29 rfl (by kernel_rfl)) (some 30) rfl ?_
      refine pl_skip (want_off 2 false rfl 29 rfl (by kernel_rfl)) (some 31) rfl ?_
      refine pl_val (want_no rfl) (some 32) rfl (.bool true) (fun _ => by kernel_rfl) ?_
      refine pl_nil ?_
      refine au_then ?_
      refine wp_cond_true (by kernel_rfl) ?_
      refine wp_seq ?_
      refine rg_lit ?_
      refine pl_val (want_no rfl) (some 6) rfl (.bool false) (fun _ => by kernel_rfl) ?_
      refine pl_nil ?_
      refine au_then ?_
      refine wp_ret ?_
      refine au_then_ret ?_
      exact bodyPost_ret (v := .bool false) (results_tmp1 Tryz.results12 _ _ _ (by kernel_rfl)) (by kernel_rfl) ⟨by rw [vfy, if_neg (fun c => hp c.2.1)], below_grown M.old⟩
  · skip
    refine rg_lit ?_
    refine pl_val (want_no rfl) (some 15) rfl (.string x) (fun _ => by kernel_rfl) ?_
    refine pl_val (want_no rfl) (some 16) rfl (.int .i64 (x.size : Int)) (fun _ => by kernel_rfl) ?_
    refine pl_val (want_no rfl) (some 17) rfl (.bool true) (fun w => Eq.trans (b := .ok (.value (.bool (!(decide ((x.size : Int) = 64))))) w) (by kernel_rfl) (by rw [decide_eq_false (by omega)]; rfl)) ?_
    refine pl_nil ?_
    refine au_then ?_
    refine wp_cond_true (by kernel_rfl) ?_
    refine wp_seq ?_
    refine rg_lit ?_
    refine pl_val (want_no rfl) (some 6) rfl (.bool false) (fun _ => by kernel_rfl) ?_
    refine pl_nil ?_
    refine au_then ?_
    refine wp_ret ?_
    refine au_then_ret ?_
    exact bodyPost_ret (v := .bool false) (results_tmp1 Tryz.results12 _ _ _ (by kernel_rfl)) (by kernel_rfl) ⟨by rw [vfy, if_neg (fun c => h0 c.1)], below_grown M.old⟩


end Go.Proofs.YtmhfmhmpoobmlaaGreatDoor.Sha

/- Of numbers modulo the prime: powers, squares; just one of a number and twice it has a root. -/
namespace Go.Proofs.YtmhfmhmpoobmlaaGreatDoor

theorem cg_nat {a b : Nat} (h : a % pN = b % pN) : Cg (a : Int) (b : Int) := by
  refine Cg.of_emod ?_
  rw [← pN_P, ← Int.natCast_emod, ← Int.natCast_emod, h]

theorem cast_pow (i : Nat) : ((2 ^ i : Nat) : Int) = (2 : Int) ^ i := by simp

theorem genPN : Gen pN 2 := genP

theorem some_pow {A : Int} (h0 : 0 < A) (h1 : A < Pm) : ∃ i : Nat, Cg A ((2 : Int) ^ i) := by
  have hlt : A.toNat < pN := by have := pN_P; omega
  obtain ⟨i, hi⟩ := genPN.all A.toNat (by omega) hlt
  refine ⟨i, ?_⟩
  have h : Cg ((A.toNat : Nat) : Int) ((2 ^ i : Nat) : Int) := cg_nat (by rw [Nat.mod_eq_of_lt hlt]; exact hi.symm)
  rw [cast_pow] at h
  rwa [show ((A.toNat : Nat) : Int) = A by omega] at h

theorem two_full : Cg ((2 : Int) ^ (pN - 1)) 1 := by
  have h : Cg ((2 ^ (pN - 1) : Nat) : Int) ((1 : Nat) : Int) := cg_nat (by rw [show (1 : Nat) % pN = 1 by decide]; exact genPN.per)
  rw [cast_pow] at h
  exact h

/-- (p - 1) / 4 -/
def hN : Nat := 14474011154664524427946373126085988481658748083205070504932198000989141204987
theorem two_half : Cg ((2 : Int) ^ (2 * hN)) (-1) := by
  have e : pmf pN 255 2 (2 * hN) = pN - 1 := by decide +kernel
  rw [pmf_eq pN 255 2 _ (by decide)] at e
  have h : Cg ((2 ^ (2 * hN) : Nat) : Int) ((pN - 1 : Nat) : Int) := cg_nat (by rw [e]; decide)
  rw [cast_pow] at h
  refine h.trans ⟨1, ?_⟩
  decide

theorem Cg.pow_one {x : Int} (h : Cg x 1) (k : Nat) : Cg (x ^ k) 1 := by
  have := h.pow k
  rwa [Int.one_pow] at this

/-- Each number but 0, to the power of p - 1, is 1. -/
theorem fermat {A : Int} {i : Nat} (h : Cg A ((2 : Int) ^ i)) : Cg (A ^ (pN - 1)) 1 := by
  refine (h.pow _).trans ?_
  rw [← Int.pow_mul, Nat.mul_comm, Int.pow_mul]
  exact two_full.pow_one i

theorem neg_one_pow : ∀ k : Nat, ((-1 : Int) ^ k = 1 ∧ k % 2 = 0) ∨ ((-1 : Int) ^ k = -1 ∧ k % 2 = 1)
  | 0 => .inl ⟨rfl, rfl⟩
  | k + 1 => by
    rw [Int.pow_succ]
    rcases neg_one_pow k with ⟨h1, h2⟩ | ⟨h1, h2⟩
    · exact .inr ⟨by rw [h1]; rfl, by omega⟩
    · exact .inl ⟨by rw [h1]; rfl, by omega⟩

theorem quarter {A : Int} {i : Nat} (h : Cg A ((2 : Int) ^ i)) : (i % 2 = 0 ∧ (Cg (A ^ hN) 1 ∨ Cg (A ^ hN) (-1))) ∨ (i % 2 = 1 ∧ Cg (A ^ (2 * hN)) (-1)) := by
  by_cases hi : i % 2 = 0
  · left
    refine ⟨hi, ?_⟩
    obtain ⟨k, rfl⟩ : ∃ k, i = 2 * k := ⟨i / 2, by omega⟩
    have e : Cg (A ^ hN) ((-1) ^ k) := by
      refine (h.pow _).trans ?_
      rw [← Int.pow_mul, show 2 * k * hN = 2 * hN * k by rw [Nat.mul_assoc, Nat.mul_assoc, Nat.mul_comm k hN], Int.pow_mul]
      exact two_half.pow k
    rcases neg_one_pow k with ⟨h1, _⟩ | ⟨h1, _⟩
    · rw [h1] at e; exact .inl e
    · rw [h1] at e; exact .inr e
  · right
    refine ⟨by omega, ?_⟩
    have e : Cg (A ^ (2 * hN)) ((-1) ^ i) := by
      refine (h.pow _).trans ?_
      rw [← Int.pow_mul, Nat.mul_comm, Int.pow_mul]
      exact two_half.pow i
    rcases neg_one_pow i with ⟨_, h2⟩ | ⟨h1, _⟩
    · omega
    · rw [h1] at e; exact e

theorem sq_pow {A U : Int} (h : Cg U (A ^ (2 ^ 252 - 2))) : Cg (U * U) (A * A ^ hN) := by
  refine (h.mul h).trans (Cg.of_eq ?_)
  rw [← Int.pow_add, Int.mul_comm, ← Int.pow_succ]
  congr 1

theorem half_no {A U : Int} {i : Nat} (hA : Cg A ((2 : Int) ^ i)) (hU : Cg (U * U) (A * A ^ hN)) (hh : Cg (A ^ (2 * hN)) (-1)) (h : Cg ((U * U) * (U * U)) (A * A)) : False := by
  have e1 : Cg ((U * U) * (U * U)) (A * A * A ^ (2 * hN)) := by
    refine (hU.mul hU).trans (Cg.of_eq ?_)
    rw [Nat.two_mul, Int.pow_add, Int.mul_assoc, Int.mul_left_comm (A ^ hN) A, ← Int.mul_assoc]
  have e2 : Cg (A * A * A ^ (2 * hN)) (A * A * (-1)) := (Cg.refl _).mul hh
  have e3 : Cg (A * A) (A * A * (-1)) := h.symm.trans (e1.trans e2)
  have hf := fermat hA
  have e4 : A ^ (pN - 1) = A * A * A ^ (pN - 3) := by
    rw [show pN - 1 = pN - 3 + 1 + 1 by decide, Int.pow_succ, Int.pow_succ, Int.mul_assoc, Int.mul_comm]
  have e5 : Cg (A * A * A ^ (pN - 3)) (A * A * (-1) * A ^ (pN - 3)) := e3.mul (Cg.refl _)
  rw [show A * A * (-1) * A ^ (pN - 3) = - (A * A * A ^ (pN - 3)) by rw [Int.mul_neg, Int.mul_one, Int.neg_mul], ← e4] at e5
  have e6 : Cg 1 (-1) := hf.symm.trans (e5.trans hf.neg)
  have := e6.emod
  revert this
  decide

theorem rrF_has {A : Int} {i : Nat} (h0 : 0 ≤ A) (h1 : A < Pm) (h : Cg A ((2 : Int) ^ i)) : (rrF A).2 = decide (i % 2 = 0) := by
  have hU : Cg (pwm A (xbit 252 2) 252) (A ^ (2 ^ 252 - 2)) := by
    rw [← ex252]
    exact pwm_pow A _ 252
  have hUU := sq_pow hU
  unfold rrF
  generalize pwm A (xbit 252 2) 252 = U at *
  simp only
  have hVV : Cg ((U * rmo.n % Pm) * (U * rmo.n % Pm)) (- (U * U)) := by
    refine ((cg_emod _).mul (cg_emod _)).trans ?_
    have e : U * rmo.n * (U * rmo.n) = U * U * (rmo.n * rmo.n) := by rw [Int.mul_assoc, Int.mul_assoc, Int.mul_left_comm rmo.n U]
    rw [e]
    have := (Cg.refl (U * U)).mul rmo_sq
    rw [show U * U * -1 = -(U * U) by omega] at this
    exact this
  generalize U * rmo.n % Pm = V at *
  have hs : ∀ {B : Int}, Cg B A → B % Pm = A := fun hB => by rw [hB.emod, em_self ⟨h0, h1⟩]
  have hs2 : ∀ {B : Int}, B % Pm = A → Cg B A := fun hB => Cg.of_emod (by rw [hB, em_self ⟨h0, h1⟩])
  rcases quarter h with ⟨hi, hq | hq⟩ | ⟨hi, hq⟩
  · rw [if_pos (hs (hUU.trans (by have := (Cg.refl A).mul hq; rwa [Int.mul_one] at this)))]
    simp [hi]
  · rw [decide_eq_true hi]
    split
    · rfl
    · rw [if_pos (hs (hVV.trans (by
        have := (hUU.trans ((Cg.refl A).mul hq)).neg
        rwa [show -(A * -1) = A by omega] at this)))]
  · rw [decide_eq_false (by omega)]
    rw [if_neg (fun e => half_no h hUU hq ((hs2 e).mul (hs2 e))), if_neg (fun e => half_no h hUU hq (by
      have := (hVV.symm.trans (hs2 e)).neg
      rw [Int.neg_neg] at this
      have := this.mul this
      rwa [show -A * -A = A * A by rw [Int.neg_mul_neg]] at this))]

theorem rrF_zero : rrF 0 = (0, true) := by
  have hU : pwm 0 (xbit 252 2) 252 = 0 := by
    have h := (pwm_pow 0 (xbit 252 2) 252).emod
    rw [em_self (pwm_bd _ _ _), ex252, Int.zero_pow (by decide)] at h
    exact h
  unfold rrF
  simp only [hU]
  decide

end Go.Proofs.YtmhfmhmpoobmlaaGreatDoor

/- The bytes of a point are read as that point; only multiples of the order make zero of the base point; a clamped secret is no multiple of the order. -/
namespace Go.Proofs.YtmhfmhmpoobmlaaGreatDoor
open Go.RowKit

theorem bt_leb (W : Int) {i : Nat} (hi : i < 32) : bt (lebytes W) i = W / 256 ^ i % 256 := by
  have h : bt (lebytes W) i = Ord.bt (Ord.bs (Ord.le W 32)) i := by
    rw [← Ord.leb_le W]
    rfl
  rw [h, Ord.bt_le W hi]
theorem bt_leb31 {W : Int} (h0 : 0 ≤ W) (h1 : W < Pm) : 0 ≤ bt (lebytes W) 31 ∧ bt (lebytes W) 31 < 128 := by
  rw [bt_leb W (by decide)]
  have hP : Pm < 2 ^ 255 := by decide
  have e : (256 : Int) ^ 31 = 2 ^ 248 := by decide
  rw [e]
  omega
theorem bt_enc (o : Bool) {W : Int} {i : Nat} (hi : i < 32) : bt (encS o (lebytes W)) i = encF o (lebytes W) i := by
  have hb := bt_bd (lebytes W) 31
  have h2 : 0 ≤ encF o (lebytes W) i ∧ encF o (lebytes W) i < 256 := by
    unfold encF
    cases o
    · simp only [Bool.false_eq_true, if_false]
      exact bt_bd _ _
    · simp only [if_true]
      exact upd_bd (bits_bd hb.1 hb.2).2.1 i
  exact bt_bs _ _ _ (by simp [List.getElem?_map, List.getElem?_range hi]) h2.1 h2.2
theorem enc31 (o : Bool) {W : Int} (h0 : 0 ≤ W) (h1 : W < Pm) : bt (encS o (lebytes W)) 31 = bt (lebytes W) 31 + (if o then 128 else 0) := by
  have hb := bt_leb31 h0 h1
  rw [bt_enc o (by decide)]
  unfold encF
  cases o
  · simp
  · simp only [if_true]
    unfold upd
    rw [if_pos rfl, (bits_bd hb.1 (by omega)).2.2.2.2.2.2.2 hb.2]
theorem cut_enc (o : Bool) {W : Int} (h0 : 0 ≤ W) (h1 : W < Pm) : cutS (encS o (lebytes W)) = lebytes W := by
  have hb := bt_leb31 h0 h1
  unfold cutS
  refine bs_bt _ (leb_size W) _ fun i hi => ?_
  unfold cutF upd
  by_cases e : i = 31
  · have hc := bt_bd (encS o (lebytes W)) 31
    rw [if_pos e, (bits_bd hc.1 hc.2).2.2.2.2.1, enc31 o h0 h1, e]
    cases o
    · simp only [Bool.false_eq_true, if_false]
      omega
    · simp only [if_true]
      omega
  · rw [if_neg e, bt_enc o hi]
    unfold encF
    cases o
    · rfl
    · simp only [if_true]
      unfold upd
      rw [if_neg e]
theorem odd_enc (o : Bool) {W : Int} (h0 : 0 ≤ W) (h1 : W < Pm) : oddB (encS o (lebytes W)) = o := by
  have hb := bt_leb31 h0 h1
  rw [← odd_eq, enc31 o h0 h1]
  cases o
  · simp only [Bool.false_eq_true, if_false]
    exact decide_eq_false (by omega)
  · simp only [if_true]
    exact decide_eq_true (by omega)
theorem val_leb {W : Int} (h0 : 0 ≤ W) (h1 : W < Pm) : val (lebytes W) = W := by
  have h : val (lebytes W) = Ord.bv (Ord.bs (Ord.le W 32)) 32 := by
    rw [← Ord.leb_le W, ← Ord.val_bv]
    rfl
  have hP : Pm < 256 ^ 32 := by decide
  rw [h, Ord.bv_le W h0 32 32 (Nat.le_refl _), Int.emod_eq_of_lt h0 (by omega)]
theorem fq_bd (x : Fq) : 0 ≤ ((x.val : Nat) : Int) ∧ ((x.val : Nat) : Int) < Pm := by
  have := x.isLt
  have := pN_P
  omega
theorem toF_fq (x : Fq) : toF ((x.val : Nat) : Int) = x := by
  refine fq_int ?_
  rw [toF_val, em_self (fq_bd x)]
theorem sq_alg {d x y v : Fq} (h : y * y - x * x = 1 + d * (x * x * (y * y))) (hv : (d * (y * y) + 1) * v = 1) : (y * y - 1) * v = x * x := by grind
theorem sq_cases {a b : Fq} (h : a * a = b * b) : a = b ∨ a = -b := by
  have e : (a - b) * (a + b) = 0 := by grind
  rcases fq_mul e with h1 | h1
  · left
    grind
  · right
    grind
theorem aI_sq (P : Pt) : toF (aI ((P.y.val : Nat) : Int)) = P.x * P.x := by
  have eb : toF (pI (mI DI (mI ((P.y.val : Nat) : Int) ((P.y.val : Nat) : Int))) 1) = dE * (P.y * P.y) + 1 := by
    rw [tpI, tmI, tmI, DI_t, toF_one, toF_fq]
  have hv := tvI (a := pI (mI DI (mI ((P.y.val : Nat) : Int) ((P.y.val : Nat) : Int))) 1) (by rw [eb]; exact den0 _)
  rw [eb] at hv
  unfold aI
  rw [tmI, tsI, tmI, toF_one, toF_fq]
  exact sq_alg P.on hv
/-- The bytes of a point are read as that point. -/
theorem enc_dec (P : Pt) : ∃ h : rdecB (ptS P) = true, decPt (ptS P) h = P := by
  have hx := fq_bd P.x
  have hy := fq_bd P.y
  have tx := toF_fq P.x
  have ty := toF_fq P.y
  have ha := aI_sq P
  have hab := aI_bd ((P.y.val : Nat) : Int)
  have ho : oddB (ptS P) = (((P.x.val : Nat) : Int) % 2 == 1) := odd_enc _ hy.1 hy.2
  have hc : val (cutS (ptS P)) = ((P.y.val : Nat) : Int) := by
    show val (cutS (encS _ _)) = _
    rw [cut_enc _ hy.1 hy.2, val_leb hy.1 hy.2]
  have hY : rY (ptS P) = ((P.y.val : Nat) : Int) := by
    unfold rY
    rw [hc, em_self hy]
  have hP : Pm % 2 = 1 := by decide
  have key : (rr (aI (rY (ptS P)))).2 = true ∧ ((rX (ptS P) == 0) && oddB (ptS P)) = false ∧ toF (rdecX (ptS P)) = P.x := by
    unfold rdecX
    rw [ho]
    unfold rX
    rw [hY]
    have he := rr_even (aI ((P.y.val : Nat) : Int))
    have hb := rr_bd (aI ((P.y.val : Nat) : Int))
    have h2 : (rr (aI ((P.y.val : Nat) : Int))).2 = true := by
      rw [rr_eq]
      by_cases h0 : ((P.x.val : Nat) : Int) = 0
      · have hz : P.x = 0 := by rw [← tx, h0, toF_zero]
        rw [hz] at ha
        have h3 : aI ((P.y.val : Nat) : Int) = 0 := toF_inj hab ⟨by decide, by decide⟩ (by rw [ha, toF_zero]; exact zz)
        rw [h3, rrF_zero]
      · obtain ⟨i, hi⟩ := some_pow (A := ((P.x.val : Nat) : Int)) (by omega) hx.2
        have h3 : Cg (aI ((P.y.val : Nat) : Int)) (2 ^ (i + i)) := by
          have h4 : Cg (aI ((P.y.val : Nat) : Int)) (((P.x.val : Nat) : Int) * ((P.x.val : Nat) : Int)) := by
            have e := toF_eq.1 (show toF (aI ((P.y.val : Nat) : Int)) = toF (((P.x.val : Nat) : Int) * ((P.x.val : Nat) : Int)) by rw [toF_mul, tx, ha])
            exact (cg_emod _).symm.trans (by rw [e]; exact cg_emod _)
          rw [Int.pow_add]
          exact h4.trans (hi.mul hi)
        rw [rrF_has hab.1 hab.2 h3]
        exact decide_eq_true (by omega)
    have hs := rr_sq h2
    rw [ha] at hs
    generalize (rr (aI ((P.y.val : Nat) : Int))).1 = r at he hb hs ⊢
    refine ⟨h2, ?_⟩
    rcases sq_cases hs with h3 | h3
    · have e : r = ((P.x.val : Nat) : Int) := toF_inj hb hx (by rw [h3, tx])
      have o : (((P.x.val : Nat) : Int) % 2 == 1) = false := by rw [← e, he]; rfl
      rw [o]
      exact ⟨by simp, h3⟩
    · by_cases h0 : r = 0
      · have h4 : P.x = 0 := by
          rw [h0, toF_zero] at h3
          grind
        have h5 : ((P.x.val : Nat) : Int) = 0 := by rw [h4]; rfl
        rw [h5, h0, h4]
        exact ⟨by simp, by simp only [show ((0 : Int) % 2 == 1) = false from rfl, Bool.false_eq_true, if_false]; exact toF_zero⟩
      · have e : ((P.x.val : Nat) : Int) = Pm - r := by
          refine toF_inj hx (by have := hb.1; have := hb.2; omega) ?_
          rw [toF_sub, h3, tx]
          have h6 : toF Pm = 0 := by decide +kernel
          rw [h6]
          grind
        have o : (((P.x.val : Nat) : Int) % 2 == 1) = true := by
          rw [e]
          have : (Pm - r) % 2 = 1 := by omega
          rw [this]
          rfl
        rw [o]
        refine ⟨by simp [h0], ?_⟩
        simp only [if_true]
        rw [tnI, h3]
        grind
  have hB : rdecB (ptS P) = true := by
    unfold rdecB
    rw [key.1, key.2.1, hc, decide_eq_true hy.2]
    rfl
  refine ⟨hB, Pt.ext key.2.2 ?_⟩
  show toF (rY (ptS P)) = P.y
  rw [hY, ty]
theorem ptS_size (P : Pt) : (ptS P).size = 32 := by
  unfold ptS encS
  rw [bs_size]
  simp
theorem enc_c (P : Pt) : decC (ptS P) = 0 := by
  obtain ⟨h, _⟩ := enc_dec P
  unfold decC
  rw [if_pos (ptS_size P), dec_eq, h]
  exact if_pos rfl
theorem enc_q (P : Pt) : decQ (ptS P) = P := by
  obtain ⟨h, e⟩ := enc_dec P
  unfold decQ
  rw [dif_pos h, e]

/- The base point's order. -/
theorem base_nz : baseQ ≠ zeroP := fun h => by
  have h1 := base_rep.small
  rw [h, add_zero', add_zero', add_zero'] at h1
  have h2 := h1.2 rfl
  rw [base_nsmall] at h2
  cases h2
theorem gcd_zero : ∀ (m n : Nat), baseQ.mul m = zeroP → baseQ.mul n = zeroP → baseQ.mul (Nat.gcd m n) = zeroP := by
  intro m n
  induction m, n using Nat.gcd.induction with
  | H0 n => intro _ hn; rwa [Nat.gcd_zero_left]
  | H1 m n hm ih =>
    intro h1 h2
    rw [Nat.gcd_rec]
    refine ih ?_ h1
    have e : n = m * (n / m) + n % m := (Nat.div_add_mod n m).symm
    have h3 : baseQ.mul n = (baseQ.mul (m * (n / m))).add (baseQ.mul (n % m)) := by
      conv => lhs; rw [e]
      rw [mul_add']
    rw [mul_mul', h1, zero_mul', add_comm', add_zero'] at h3
    rw [← h3]
    exact h2
theorem isO : IsP oN := isL
theorem ord_dvd {k : Nat} (h : baseQ.mul k = zeroP) : oN ∣ k := by
  have hg := gcd_zero oN k ord_zero h
  rcases isO.2 _ (Nat.gcd_dvd_left oN k) with h1 | h1
  · rw [h1] at hg
    exact absurd (by
      have h2 : baseQ.mul 1 = baseQ := by
        show zeroP.add baseQ = baseQ
        rw [add_comm', add_zero']
      rw [← h2, hg]) base_nz
  · rw [← h1]
    exact Nat.gcd_dvd_right oN k

theorem isO_mul {a b : Nat} (h : oN ∣ a * b) : oN ∣ a ∨ oN ∣ b := by
  by_cases ha : oN ∣ a
  · exact .inl ha
  · right
    have hg : Nat.Coprime oN a := by
      rcases isO.2 _ (Nat.gcd_dvd_left oN a) with h1 | h1
      · exact h1
      · exact absurd (h1 ▸ Nat.gcd_dvd_right oN a) ha
    exact Nat.Coprime.dvd_of_dvd_mul_left hg h

/- A clamped secret is no multiple of the order. -/
namespace Ord
theorem cl_bits {x : Int} (h0 : 0 ≤ x) (h1 : x < 256) : bits .and .u8 x 248 % 8 = 0 ∧ 64 ≤ bits .or .u8 (bits .and .u8 x 127) 64 ∧ bits .or .u8 (bits .and .u8 x 127) 64 < 128 := by
  obtain ⟨X, rfl⟩ := Int.eq_ofNat_of_zero_le h0
  have h : ∀ n : Fin 256, bits .and .u8 ((n.val : Nat) : Int) 248 % 8 = 0 ∧ 64 ≤ bits .or .u8 (bits .and .u8 ((n.val : Nat) : Int) 127) 64 ∧ bits .or .u8 (bits .and .u8 ((n.val : Nat) : Int) 127) 64 < 128 := by decide +kernel
  exact h ⟨X, by omega⟩
theorem bt_cl (s : ByteArray) {i : Nat} (hi : i < 32) : bt (clS s) i = clF s i := bt_bs _ _ _ (by simp [List.getElem?_map, List.getElem?_range hi]) (clF_bd s i).1 (clF_bd s i).2
theorem cl_alg {V : Int} (h0 : 0 ≤ V) (h1 : V < 115792089237316195423570985008687907853269984665640564039457584007913129639936) (h : 64 ≤ V / 452312848583266388373324160190187140051835877600158453279131187530910662656 % 256 ∧ V / 452312848583266388373324160190187140051835877600158453279131187530910662656 % 256 < 128) (h8 : V % 256 % 8 = 0) : 28948022309329048855892746252171976963317496166410141009864396001978282409984 ≤ V ∧ V < 57896044618658097711785492504343953926634992332820282019728792003956564819968 ∧ V % 8 = 0 := by
  refine ⟨?_, ?_, ?_⟩
  · clear h8
    omega
  · clear h8
    omega
  · clear h
    omega
theorem mul_bd {k V L : Int} (hL : 0 ≤ L) (hk : V = L * k) (h0 : 0 < V) (h1 : V < L * 8) : 0 < k ∧ k < 8 := by
  constructor
  · refine Classical.byContradiction fun hn => ?_
    have := Int.mul_le_mul_of_nonneg_left (show k ≤ 0 by omega) hL
    rw [Int.mul_zero] at this
    omega
  · refine Classical.byContradiction fun hn => ?_
    have := Int.mul_le_mul_of_nonneg_left (show 8 ≤ k by omega) hL
    omega
theorem cl_not {V L k : Int} (hL : L % 8 = 5) (h0 : 0 ≤ L) (h1 : 0 < V) (h2 : V < L * 8) (h3 : V % 8 = 0) : ¬ V = L * k := fun hk => by
  obtain ⟨hk0, hk8⟩ := mul_bd h0 hk h1 h2
  rcases (show k = 1 ∨ k = 2 ∨ k = 3 ∨ k = 4 ∨ k = 5 ∨ k = 6 ∨ k = 7 by omega) with rfl | rfl | rfl | rfl | rfl | rfl | rfl <;> omega
theorem Lm_8 : Lm % 8 = 5 ∧ 0 ≤ Lm ∧ 57896044618658097711785492504343953926634992332820282019728792003956564819968 ≤ Lm * 8 ∧ (0 : Int) < 28948022309329048855892746252171976963317496166410141009864396001978282409984 := by decide +kernel
theorem p31 : (256 : Int) ^ 31 = 452312848583266388373324160190187140051835877600158453279131187530910662656 := by decide +kernel
theorem p32 : (256 : Int) ^ 32 = 115792089237316195423570985008687907853269984665640564039457584007913129639936 := by decide +kernel
theorem cl_0 (s : ByteArray) : bt (clS s) 0 % 8 = 0 := by
  have b0 := bt_bd s 0
  have h0 := (cl_bits b0.1 b0.2).1
  rw [bt_cl s (by decide)]
  unfold clF upd
  rw [if_neg (by decide), if_pos rfl]
  exact h0
theorem cl_31 (s : ByteArray) : 64 ≤ bt (clS s) 31 ∧ bt (clS s) 31 < 128 := by
  have b31 := bt_bd s 31
  have h1 := (cl_bits b31.1 b31.2).2
  rw [bt_cl s (by decide)]
  unfold clF upd
  rw [if_pos rfl]
  exact h1
theorem cl_nd (s : ByteArray) : ¬ Lm ∣ bv (clS s) 32 := by
  have h0 := cl_0 s
  have h1 := cl_31 s
  have a0 := bv_at (clS s) (j := 0) (m := 32) (by decide)
  have a31 := bv_at (clS s) (j := 31) (m := 32) (by decide)
  have hb := bv_bd (clS s) 32
  rw [Int.pow_zero, Int.ediv_one] at a0
  rw [p31] at a31
  rw [p32] at hb
  rw [← a0] at h0
  rw [← a31] at h1
  have hV := cl_alg hb.1 hb.2 h1 h0
  rintro ⟨k, hk⟩
  exact cl_not Lm_8.1 Lm_8.2.1 (Int.lt_of_lt_of_le Lm_8.2.2.2 hV.1) (Int.lt_of_lt_of_le hV.2.1 Lm_8.2.2.1) hV.2.2 hk
end Ord

end Go.Proofs.YtmhfmhmpoobmlaaGreatDoor

/- Both verify the same; what is signed is verified; what is not. -/
namespace Go.Proofs.YtmhfmhmpoobmlaaGreatDoor.Sha
open Go.RowKit

theorem pb_pt (a : Int) (ha : 0 ≤ a ∧ a < Ord.Lm) : pb a = ptS (baseQ.mul a.toNat) := (base_rep.mul ha).bytes
theorem sg_size (k s : ByteArray) : (sg k s).size = 64 := by
  unfold sg
  rw [ByteArray.size_append, pb_size _ (rn_bd _ _), Ord.leb_size]
theorem ex_l (a b : ByteArray) (n : Nat) (h : a.size = n) : (a ++ b).extract 0 n = a := by
  rw [← h]
  exact ByteArray.extract_append_eq_left rfl
theorem ex_r (a b : ByteArray) (n m : Nat) (h : a.size = n) (hm : (a ++ b).size = m) : (a ++ b).extract n m = b := by
  rw [← h, ← hm, ByteArray.size_append]
  exact ByteArray.extract_append_eq_right rfl rfl
theorem sg_l (k s : ByteArray) : (sg k s).extract 0 32 = pb (rn k s) := ex_l _ _ _ (pb_size _ (rn_bd _ _))
theorem sg_r (k s : ByteArray) : (sg k s).extract 32 (sg k s).size = Ord.lebytes (xn k s) := ex_r _ _ _ _ (pb_size _ (rn_bd _ _)) rfl
theorem an_nd (k : ByteArray) : ¬ oN ∣ (an k).toNat := fun h => by
  have hb := an_bd k
  have e : an k = Ord.bv (Ord.clS ((ofV k).extract 0 32)) 32 % Ord.Lm := by
    unfold an
    show (if _ then _ else _) = _
    rw [if_pos (.inl (Ord.clS_size _))]
    unfold Ord.ofN
    rw [Ord.clS_size]
  have h2 := Nat.eq_zero_of_dvd_of_lt h (by have := oN_Lm; omega)
  exact Ord.cl_nd ((ofV k).extract 0 32) (Int.dvd_of_emod_eq_zero (by rw [← e]; omega))
theorem oct_mul (n : Nat) : (((baseQ.mul n).add (baseQ.mul n)).add ((baseQ.mul n).add (baseQ.mul n))).add (((baseQ.mul n).add (baseQ.mul n)).add ((baseQ.mul n).add (baseQ.mul n))) = baseQ.mul (8 * n) := by
  rw [← mul_add', ← mul_add', ← mul_add']
  congr 1
  omega
theorem an_big (k : ByteArray) : smallV (decP (pb (an k))) = false := by
  have hc : decC (pb (an k)) = 0 := by rw [pb_pt _ (an_bd k)]; exact enc_c _
  have hs := (dec_both hc).1.small
  have hq : decQ (pb (an k)) = baseQ.mul (an k).toNat := by rw [pb_pt _ (an_bd k)]; exact enc_q _
  rw [hq, oct_mul] at hs
  cases h : smallV (decP (pb (an k)))
  · rfl
  · rcases isO_mul (ord_dvd (hs.1 h)) with h8 | h8
    · exact absurd h8 (by decide)
    · exact absurd h8 (an_nd k)
theorem of_leb {x : Int} (h : 0 ≤ x ∧ x < Ord.Lm) : Go.Proofs.YtmhfmhmpoobmlaaGreatDoor.ofV (Ord.lebytes x) = x := by
  show (if _ then _ else _) = _
  rw [if_pos (.inl (Ord.leb_size x))]
  unfold Ord.ofN
  rw [Ord.leb_size, Ord.leb_bv h, Int.emod_eq_of_lt h.1 h.2]
theorem xn_bd (k s : ByteArray) : 0 ≤ xn k s ∧ xn k s < Ord.Lm := lmod _
/-- What a signature's number makes of the base point. -/
theorem xn_pt (k s : ByteArray) : baseQ.mul (xn k s).toNat = (baseQ.mul (rn k s).toNat).add ((baseQ.mul (an k).toNat).mul (kn (pb (rn k s)) (pb (an k)) s).toNat) := by
  unfold xn
  rw [l_add (rn_bd k s).1 (lmod _).1, l_mul (kn_bd _ _ _).1 (an_bd k).1, mul_swap]
/-- With any text a signature is verified just where the equation holds. -/
theorem vfy_sg (k s t : ByteArray) : vfy (pb (an k)) t (sg k s) = true ↔ (baseQ.mul (an k).toNat).mul (kn (pb (rn k s)) (pb (an k)) s).toNat = (baseQ.mul (an k).toNat).mul (kn (pb (rn k s)) (pb (an k)) t).toNat := by
  have ha : decC (pb (an k)) = 0 := by rw [pb_pt _ (an_bd k)]; exact enc_c _
  have qa : decQ (pb (an k)) = baseQ.mul (an k).toNat := by rw [pb_pt _ (an_bd k)]; exact enc_q _
  have hr : decC (pb (rn k s)) = 0 := by rw [pb_pt _ (rn_bd k s)]; exact enc_c _
  have qr : decQ (pb (rn k s)) = baseQ.mul (rn k s).toNat := by rw [pb_pt _ (rn_bd k s)]; exact enc_q _
  unfold vfy
  rw [sg_l, sg_r, if_pos ⟨sg_size k s, ha, an_big k, hr, by rw [Ord.leb_bv (xn_bd k s)]; exact (xn_bd k s).2⟩, of_leb (xn_bd k s)]
  have h1 := base_rep.mul (xn_bd k s)
  rw [xn_pt] at h1
  have h2 := (dec_both hr).1.add ((dec_both ha).1.mul (kn_bd (pb (rn k s)) (pb (an k)) t))
  rw [qr, qa] at h2
  rw [h1.same h2]
  constructor
  · intro h
    have h3 := congrArg (fun Q => (baseQ.mul (rn k s).toNat).neg.add Q) h
    rw [← add_assoc', ← add_assoc', add_comm' (baseQ.mul (rn k s).toNat).neg, add_neg', add_comm' zeroP, add_zero', add_comm' zeroP, add_zero'] at h3
    exact h3
  · intro h
    rw [h]
/-- What is signed is verified. -/
theorem vfy_back (k s : ByteArray) : vfy (pb (an k)) s (sg k s) = true := (vfy_sg k s s).2 rfl
theorem mul_inj {a m n : Nat} (ha : ¬ oN ∣ a) (h : (baseQ.mul a).mul m = (baseQ.mul a).mul n) (hm : m < oN) (hn : n < oN) : m = n := by
  have key : ∀ m n : Nat, m ≤ n → n < oN → (baseQ.mul a).mul m = (baseQ.mul a).mul n → m = n := fun m n hmn hn h => by
    have e : (baseQ.mul a).mul n = ((baseQ.mul a).mul m).add ((baseQ.mul a).mul (n - m)) := by
      rw [← mul_add']
      congr 1
      omega
    rw [e] at h
    have h3 := congrArg (fun Q => ((baseQ.mul a).mul m).neg.add Q) h
    rw [← add_assoc', add_comm' ((baseQ.mul a).mul m).neg, add_neg', add_comm' zeroP, add_zero', ← mul_mul'] at h3
    rcases isO_mul (ord_dvd h3.symm) with h4 | h4
    · exact absurd h4 ha
    · have := Nat.eq_zero_of_dvd_of_lt h4 (by omega)
      omega
  rcases Nat.le_total m n with h1 | h1
  · exact key m n h1 hn h
  · exact (key n m h1 hm h.symm).symm
theorem vfy_no (k s t : ByteArray) (h : kn (pb (rn k s)) (pb (an k)) s ≠ kn (pb (rn k s)) (pb (an k)) t) : vfy (pb (an k)) t (sg k s) = false := by
  cases hv : vfy (pb (an k)) t (sg k s)
  · rfl
  · have h1 := kn_bd (pb (rn k s)) (pb (an k)) s
    have h2 := kn_bd (pb (rn k s)) (pb (an k)) t
    have hL := oN_Lm
    have h3 := mul_inj (an_nd k) ((vfy_sg k s t).1 hv) (by omega) (by omega)
    exact absurd (by omega) h
theorem vfy_size {p s x : ByteArray} (h : x.size ≠ 64) : vfy p s x = false := by
  unfold vfy
  rw [if_neg fun c => h c.1]

end Go.Proofs.YtmhfmhmpoobmlaaGreatDoor.Sha
