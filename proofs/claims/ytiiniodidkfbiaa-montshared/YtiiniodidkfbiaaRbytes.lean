/- The contracts of the document's Bytes and Small. -/
import Derived.Test.YtiiniodidkfbiaaRefC
import Derived.Test.YtiiniodidkfbiaaText
namespace Go.Proofs.Ytiiniodidkfbiaa
open Go.RowKit

/-- Byte i of the digits. -/
def by16 (f : Nat → Int) (i : Nat) : Int := f (i / 2) / 256 ^ (i % 2) % 256
/-- The first k bytes, then none. -/
def rb (f : Nat → Int) (k : Nat) : List Int := (List.range 32).map fun i => if i < k then by16 f i else 0

/-- Block g holds these bytes. -/
def Byt (W : World) (g : Nat) (l : List Int) : Prop := W.heap[g]? = some (.cells (l.map (Value.int .u8)).toArray 5 (0, 0))

theorem Byt.cell {W : World} {g : Nat} {l : List Int} (h : Byt W g l) {i : Nat} (hi : i < l.length) : ∃ v, W.cell? ⟨g, i, none⟩ = some v := by
  rw [cell_of_row W g i _ 5 (0, 0) h]
  simp [hi]
theorem Byt.free {W : World} {g : Nat} {l : List Int} (h : Byt W g l) (i : Nat) : W.frozen? ⟨g, i, none⟩ = false := frozen_of_row W g i _ 5 h
theorem Byt.set {W : World} {g : Nat} {l : List Int} (h : Byt W g l) (k : Nat) (v : Int) : Byt (W.setCell ⟨g, k, none⟩ (.int .u8 v)) g (l.set k v) := by
  unfold Byt
  rw [heap_setCell_same W g k _ 5 _ h]
  simp [List.map_set]

theorem rb_len (f : Nat → Int) (k : Nat) : (rb f k).length = 32 := by simp [rb]
theorem rb_set (f : Nat → Int) (k : Nat) : (rb f k).set k (by16 f k) = rb f (k + 1) := by
  apply List.ext_getElem?
  intro i
  by_cases hi : i < 32
  · by_cases h : k = i
    · subst h
      rw [List.getElem?_set_self (by rw [rb_len]; exact hi)]
      simp [rb, hi]
    · rw [List.getElem?_set_ne h]
      simp only [rb, List.getElem?_map, List.getElem?_range hi, Option.map_some]
      congr 1
      by_cases h2 : i < k
      · rw [if_pos h2, if_pos (by omega)]
      · rw [if_neg h2, if_neg (by omega)]
  · rw [List.getElem?_eq_none (by simp [rb]; omega), List.getElem?_eq_none (by simp [rb]; omega)]

set_option maxRecDepth 100000 in
set_option maxHeartbeats 8000000 in
theorem rbytes_any (f : Nat → Int) (w : World) (hf : Dig f 16) :
    Calls Try.prog 13 #[.agg (arr 16 f)] w fun r w' => r = .returned (.string (bs (rb f 32))) ∧ Below w.heap.size w w' := by
  have hmk : ∀ w, (Instr.makeSlice 32 (.int .i64 32) (.int .i64 32)).run Try.prog w = .ok (.slice (some ⟨w.heap.size, 0, none⟩) 32 32) (w.alloc (.cells #[Value.int IntKind.u8 0, Value.int IntKind.u8 0, Value.int IntKind.u8 0, Value.int IntKind.u8 0, Value.int IntKind.u8 0, Value.int IntKind.u8 0, Value.int IntKind.u8 0, Value.int IntKind.u8 0, Value.int IntKind.u8 0, Value.int IntKind.u8 0, Value.int IntKind.u8 0, Value.int IntKind.u8 0, Value.int IntKind.u8 0, Value.int IntKind.u8 0, Value.int IntKind.u8 0, Value.int IntKind.u8 0, Value.int IntKind.u8 0, Value.int IntKind.u8 0, Value.int IntKind.u8 0, Value.int IntKind.u8 0, Value.int IntKind.u8 0, Value.int IntKind.u8 0, Value.int IntKind.u8 0, Value.int IntKind.u8 0, Value.int IntKind.u8 0, Value.int IntKind.u8 0, Value.int IntKind.u8 0, Value.int IntKind.u8 0, Value.int IntKind.u8 0, Value.int IntKind.u8 0, Value.int IntKind.u8 0, Value.int IntKind.u8 0] 5)) := fun _ => by kernel_rfl
  go_enter Try.func13, Try.ntmps13
  go_wp2
  clear hmk
  have R1 : Row ((w.alloc (.cells (arr 16 f) 35)).alloc (.cells #[Value.int IntKind.u8 0, Value.int IntKind.u8 0, Value.int IntKind.u8 0, Value.int IntKind.u8 0, Value.int IntKind.u8 0, Value.int IntKind.u8 0, Value.int IntKind.u8 0, Value.int IntKind.u8 0, Value.int IntKind.u8 0, Value.int IntKind.u8 0, Value.int IntKind.u8 0, Value.int IntKind.u8 0, Value.int IntKind.u8 0, Value.int IntKind.u8 0, Value.int IntKind.u8 0, Value.int IntKind.u8 0, Value.int IntKind.u8 0, Value.int IntKind.u8 0, Value.int IntKind.u8 0, Value.int IntKind.u8 0, Value.int IntKind.u8 0, Value.int IntKind.u8 0, Value.int IntKind.u8 0, Value.int IntKind.u8 0, Value.int IntKind.u8 0, Value.int IntKind.u8 0, Value.int IntKind.u8 0, Value.int IntKind.u8 0, Value.int IntKind.u8 0, Value.int IntKind.u8 0, Value.int IntKind.u8 0, Value.int IntKind.u8 0] 5)) w.heap.size 35 16 f := (Row.new w 35 16 f).alloc _
  have R2 : Byt ((w.alloc (.cells (arr 16 f) 35)).alloc (.cells #[Value.int IntKind.u8 0, Value.int IntKind.u8 0, Value.int IntKind.u8 0, Value.int IntKind.u8 0, Value.int IntKind.u8 0, Value.int IntKind.u8 0, Value.int IntKind.u8 0, Value.int IntKind.u8 0, Value.int IntKind.u8 0, Value.int IntKind.u8 0, Value.int IntKind.u8 0, Value.int IntKind.u8 0, Value.int IntKind.u8 0, Value.int IntKind.u8 0, Value.int IntKind.u8 0, Value.int IntKind.u8 0, Value.int IntKind.u8 0, Value.int IntKind.u8 0, Value.int IntKind.u8 0, Value.int IntKind.u8 0, Value.int IntKind.u8 0, Value.int IntKind.u8 0, Value.int IntKind.u8 0, Value.int IntKind.u8 0, Value.int IntKind.u8 0, Value.int IntKind.u8 0, Value.int IntKind.u8 0, Value.int IntKind.u8 0, Value.int IntKind.u8 0, Value.int IntKind.u8 0, Value.int IntKind.u8 0, Value.int IntKind.u8 0] 5)) (w.heap.size + 1) (rb f 0) := heap_alloc2_new w _ _
  have O : Below w.heap.size w ((w.alloc (.cells (arr 16 f) 35)).alloc (.cells #[Value.int IntKind.u8 0, Value.int IntKind.u8 0, Value.int IntKind.u8 0, Value.int IntKind.u8 0, Value.int IntKind.u8 0, Value.int IntKind.u8 0, Value.int IntKind.u8 0, Value.int IntKind.u8 0, Value.int IntKind.u8 0, Value.int IntKind.u8 0, Value.int IntKind.u8 0, Value.int IntKind.u8 0, Value.int IntKind.u8 0, Value.int IntKind.u8 0, Value.int IntKind.u8 0, Value.int IntKind.u8 0, Value.int IntKind.u8 0, Value.int IntKind.u8 0, Value.int IntKind.u8 0, Value.int IntKind.u8 0, Value.int IntKind.u8 0, Value.int IntKind.u8 0, Value.int IntKind.u8 0, Value.int IntKind.u8 0, Value.int IntKind.u8 0, Value.int IntKind.u8 0, Value.int IntKind.u8 0, Value.int IntKind.u8 0, Value.int IntKind.u8 0, Value.int IntKind.u8 0, Value.int IntKind.u8 0, Value.int IntKind.u8 0] 5)) := ((Below.refl _ _).alloc (Nat.le_refl _) _).alloc (by simp) _
  generalize (w.alloc (.cells (arr 16 f) 35)).alloc (.cells #[Value.int IntKind.u8 0, Value.int IntKind.u8 0, Value.int IntKind.u8 0, Value.int IntKind.u8 0, Value.int IntKind.u8 0, Value.int IntKind.u8 0, Value.int IntKind.u8 0, Value.int IntKind.u8 0, Value.int IntKind.u8 0, Value.int IntKind.u8 0, Value.int IntKind.u8 0, Value.int IntKind.u8 0, Value.int IntKind.u8 0, Value.int IntKind.u8 0, Value.int IntKind.u8 0, Value.int IntKind.u8 0, Value.int IntKind.u8 0, Value.int IntKind.u8 0, Value.int IntKind.u8 0, Value.int IntKind.u8 0, Value.int IntKind.u8 0, Value.int IntKind.u8 0, Value.int IntKind.u8 0, Value.int IntKind.u8 0, Value.int IntKind.u8 0, Value.int IntKind.u8 0, Value.int IntKind.u8 0, Value.int IntKind.u8 0, Value.int IntKind.u8 0, Value.int IntKind.u8 0, Value.int IntKind.u8 0, Value.int IntKind.u8 0] 5) = W at R1 R2 O ⊢
  go_loopw [4] (fun i wr => ∃ k : Nat, k ≤ 32 ∧ i = .int .i64 k ∧ Row wr w.heap.size 35 16 f ∧ Byt wr (w.heap.size + 1) (rb f k) ∧ Below w.heap.size w wr) (fun i _ => 32 - (intOf i).toNat)
  case atStart => exact ⟨0, by omega, rfl, R1, R2, O⟩
  case round =>
    clear R1 R2 O
    obtain ⟨k, hk, rfl, R1, R2, O⟩ := hrel
    by_cases hlt : k < 32
    · have hc : k = 0 ∨ k = 1 ∨ k = 2 ∨ k = 3 ∨ k = 4 ∨ k = 5 ∨ k = 6 ∨ k = 7 ∨ k = 8 ∨ k = 9 ∨ k = 10 ∨ k = 11 ∨ k = 12 ∨ k = 13 ∨ k = 14 ∨ k = 15 ∨ k = 16 ∨ k = 17 ∨ k = 18 ∨ k = 19 ∨ k = 20 ∨ k = 21 ∨ k = 22 ∨ k = 23 ∨ k = 24 ∨ k = 25 ∨ k = 26 ∨ k = 27 ∨ k = 28 ∨ k = 29 ∨ k = 30 ∨ k = 31 := by omega
      clear hlt hk
      rcases hc with rfl | rfl | rfl | rfl | rfl | rfl | rfl | rfl | rfl | rfl | rfl | rfl | rfl | rfl | rfl | rfl | rfl | rfl | rfl | rfl | rfl | rfl | rfl | rfl | rfl | rfl | rfl | rfl | rfl | rfl | rfl | rfl
      · have c := R1.cell (i := 0) (by omega)
        obtain ⟨a0, a1⟩ := hf 0 (by omega)
        obtain ⟨v, d⟩ := R2.cell (i := 0) (by rw [rb_len]; omega)
        have e := R2.free 0
        have HV := hide (show by16 f 0 = f 0 % 256 by simp [by16])
        have RR := hide (R2.set 0 (by16 f 0))
        have R1' := hide (R1.other (a := ⟨w.heap.size + 1, 0, none⟩) (by simp) (.int .u8 (by16 f 0)))
        have O' := hide (O.setCell (p := ⟨w.heap.size + 1, 0, none⟩) (by simp) (.int .u8 (by16 f 0)))
        clear R1 R2 O
        go_wp2
        rw [← HV.out]
        first | exact ⟨⟨1, by omega, rfl, R1'.out, by rw [← rb_set]; exact RR.out, O'.out⟩, by simp [intOf]⟩ | (go_roundw; (case rel => exact ⟨1, by omega, rfl, R1'.out, by rw [← rb_set]; exact RR.out, O'.out⟩); (case measure => simp [intOf]))
      · have c := R1.cell (i := 0) (by omega)
        obtain ⟨a0, a1⟩ := hf 0 (by omega)
        obtain ⟨v, d⟩ := R2.cell (i := 1) (by rw [rb_len]; omega)
        have e := R2.free 1
        have HV := hide (show by16 f 1 = f 0 / 256 by rw [show by16 f 1 = f 0 / 256 % 256 by simp [by16]]; omega)
        have RR := hide (R2.set 1 (by16 f 1))
        have R1' := hide (R1.other (a := ⟨w.heap.size + 1, 1, none⟩) (by simp) (.int .u8 (by16 f 1)))
        have O' := hide (O.setCell (p := ⟨w.heap.size + 1, 1, none⟩) (by simp) (.int .u8 (by16 f 1)))
        clear R1 R2 O
        go_wp2
        rw [← HV.out]
        first | exact ⟨⟨2, by omega, rfl, R1'.out, by rw [← rb_set]; exact RR.out, O'.out⟩, by simp [intOf]⟩ | (go_roundw; (case rel => exact ⟨2, by omega, rfl, R1'.out, by rw [← rb_set]; exact RR.out, O'.out⟩); (case measure => simp [intOf]))
      · have c := R1.cell (i := 1) (by omega)
        obtain ⟨a0, a1⟩ := hf 1 (by omega)
        obtain ⟨v, d⟩ := R2.cell (i := 2) (by rw [rb_len]; omega)
        have e := R2.free 2
        have HV := hide (show by16 f 2 = f 1 % 256 by simp [by16])
        have RR := hide (R2.set 2 (by16 f 2))
        have R1' := hide (R1.other (a := ⟨w.heap.size + 1, 2, none⟩) (by simp) (.int .u8 (by16 f 2)))
        have O' := hide (O.setCell (p := ⟨w.heap.size + 1, 2, none⟩) (by simp) (.int .u8 (by16 f 2)))
        clear R1 R2 O
        go_wp2
        rw [← HV.out]
        first | exact ⟨⟨3, by omega, rfl, R1'.out, by rw [← rb_set]; exact RR.out, O'.out⟩, by simp [intOf]⟩ | (go_roundw; (case rel => exact ⟨3, by omega, rfl, R1'.out, by rw [← rb_set]; exact RR.out, O'.out⟩); (case measure => simp [intOf]))
      · have c := R1.cell (i := 1) (by omega)
        obtain ⟨a0, a1⟩ := hf 1 (by omega)
        obtain ⟨v, d⟩ := R2.cell (i := 3) (by rw [rb_len]; omega)
        have e := R2.free 3
        have HV := hide (show by16 f 3 = f 1 / 256 by rw [show by16 f 3 = f 1 / 256 % 256 by simp [by16]]; omega)
        have RR := hide (R2.set 3 (by16 f 3))
        have R1' := hide (R1.other (a := ⟨w.heap.size + 1, 3, none⟩) (by simp) (.int .u8 (by16 f 3)))
        have O' := hide (O.setCell (p := ⟨w.heap.size + 1, 3, none⟩) (by simp) (.int .u8 (by16 f 3)))
        clear R1 R2 O
        go_wp2
        rw [← HV.out]
        first | exact ⟨⟨4, by omega, rfl, R1'.out, by rw [← rb_set]; exact RR.out, O'.out⟩, by simp [intOf]⟩ | (go_roundw; (case rel => exact ⟨4, by omega, rfl, R1'.out, by rw [← rb_set]; exact RR.out, O'.out⟩); (case measure => simp [intOf]))
      · have c := R1.cell (i := 2) (by omega)
        obtain ⟨a0, a1⟩ := hf 2 (by omega)
        obtain ⟨v, d⟩ := R2.cell (i := 4) (by rw [rb_len]; omega)
        have e := R2.free 4
        have HV := hide (show by16 f 4 = f 2 % 256 by simp [by16])
        have RR := hide (R2.set 4 (by16 f 4))
        have R1' := hide (R1.other (a := ⟨w.heap.size + 1, 4, none⟩) (by simp) (.int .u8 (by16 f 4)))
        have O' := hide (O.setCell (p := ⟨w.heap.size + 1, 4, none⟩) (by simp) (.int .u8 (by16 f 4)))
        clear R1 R2 O
        go_wp2
        rw [← HV.out]
        first | exact ⟨⟨5, by omega, rfl, R1'.out, by rw [← rb_set]; exact RR.out, O'.out⟩, by simp [intOf]⟩ | (go_roundw; (case rel => exact ⟨5, by omega, rfl, R1'.out, by rw [← rb_set]; exact RR.out, O'.out⟩); (case measure => simp [intOf]))
      · have c := R1.cell (i := 2) (by omega)
        obtain ⟨a0, a1⟩ := hf 2 (by omega)
        obtain ⟨v, d⟩ := R2.cell (i := 5) (by rw [rb_len]; omega)
        have e := R2.free 5
        have HV := hide (show by16 f 5 = f 2 / 256 by rw [show by16 f 5 = f 2 / 256 % 256 by simp [by16]]; omega)
        have RR := hide (R2.set 5 (by16 f 5))
        have R1' := hide (R1.other (a := ⟨w.heap.size + 1, 5, none⟩) (by simp) (.int .u8 (by16 f 5)))
        have O' := hide (O.setCell (p := ⟨w.heap.size + 1, 5, none⟩) (by simp) (.int .u8 (by16 f 5)))
        clear R1 R2 O
        go_wp2
        rw [← HV.out]
        first | exact ⟨⟨6, by omega, rfl, R1'.out, by rw [← rb_set]; exact RR.out, O'.out⟩, by simp [intOf]⟩ | (go_roundw; (case rel => exact ⟨6, by omega, rfl, R1'.out, by rw [← rb_set]; exact RR.out, O'.out⟩); (case measure => simp [intOf]))
      · have c := R1.cell (i := 3) (by omega)
        obtain ⟨a0, a1⟩ := hf 3 (by omega)
        obtain ⟨v, d⟩ := R2.cell (i := 6) (by rw [rb_len]; omega)
        have e := R2.free 6
        have HV := hide (show by16 f 6 = f 3 % 256 by simp [by16])
        have RR := hide (R2.set 6 (by16 f 6))
        have R1' := hide (R1.other (a := ⟨w.heap.size + 1, 6, none⟩) (by simp) (.int .u8 (by16 f 6)))
        have O' := hide (O.setCell (p := ⟨w.heap.size + 1, 6, none⟩) (by simp) (.int .u8 (by16 f 6)))
        clear R1 R2 O
        go_wp2
        rw [← HV.out]
        first | exact ⟨⟨7, by omega, rfl, R1'.out, by rw [← rb_set]; exact RR.out, O'.out⟩, by simp [intOf]⟩ | (go_roundw; (case rel => exact ⟨7, by omega, rfl, R1'.out, by rw [← rb_set]; exact RR.out, O'.out⟩); (case measure => simp [intOf]))
      · have c := R1.cell (i := 3) (by omega)
        obtain ⟨a0, a1⟩ := hf 3 (by omega)
        obtain ⟨v, d⟩ := R2.cell (i := 7) (by rw [rb_len]; omega)
        have e := R2.free 7
        have HV := hide (show by16 f 7 = f 3 / 256 by rw [show by16 f 7 = f 3 / 256 % 256 by simp [by16]]; omega)
        have RR := hide (R2.set 7 (by16 f 7))
        have R1' := hide (R1.other (a := ⟨w.heap.size + 1, 7, none⟩) (by simp) (.int .u8 (by16 f 7)))
        have O' := hide (O.setCell (p := ⟨w.heap.size + 1, 7, none⟩) (by simp) (.int .u8 (by16 f 7)))
        clear R1 R2 O
        go_wp2
        rw [← HV.out]
        first | exact ⟨⟨8, by omega, rfl, R1'.out, by rw [← rb_set]; exact RR.out, O'.out⟩, by simp [intOf]⟩ | (go_roundw; (case rel => exact ⟨8, by omega, rfl, R1'.out, by rw [← rb_set]; exact RR.out, O'.out⟩); (case measure => simp [intOf]))
      · have c := R1.cell (i := 4) (by omega)
        obtain ⟨a0, a1⟩ := hf 4 (by omega)
        obtain ⟨v, d⟩ := R2.cell (i := 8) (by rw [rb_len]; omega)
        have e := R2.free 8
        have HV := hide (show by16 f 8 = f 4 % 256 by simp [by16])
        have RR := hide (R2.set 8 (by16 f 8))
        have R1' := hide (R1.other (a := ⟨w.heap.size + 1, 8, none⟩) (by simp) (.int .u8 (by16 f 8)))
        have O' := hide (O.setCell (p := ⟨w.heap.size + 1, 8, none⟩) (by simp) (.int .u8 (by16 f 8)))
        clear R1 R2 O
        go_wp2
        rw [← HV.out]
        first | exact ⟨⟨9, by omega, rfl, R1'.out, by rw [← rb_set]; exact RR.out, O'.out⟩, by simp [intOf]⟩ | (go_roundw; (case rel => exact ⟨9, by omega, rfl, R1'.out, by rw [← rb_set]; exact RR.out, O'.out⟩); (case measure => simp [intOf]))
      · have c := R1.cell (i := 4) (by omega)
        obtain ⟨a0, a1⟩ := hf 4 (by omega)
        obtain ⟨v, d⟩ := R2.cell (i := 9) (by rw [rb_len]; omega)
        have e := R2.free 9
        have HV := hide (show by16 f 9 = f 4 / 256 by rw [show by16 f 9 = f 4 / 256 % 256 by simp [by16]]; omega)
        have RR := hide (R2.set 9 (by16 f 9))
        have R1' := hide (R1.other (a := ⟨w.heap.size + 1, 9, none⟩) (by simp) (.int .u8 (by16 f 9)))
        have O' := hide (O.setCell (p := ⟨w.heap.size + 1, 9, none⟩) (by simp) (.int .u8 (by16 f 9)))
        clear R1 R2 O
        go_wp2
        rw [← HV.out]
        first | exact ⟨⟨10, by omega, rfl, R1'.out, by rw [← rb_set]; exact RR.out, O'.out⟩, by simp [intOf]⟩ | (go_roundw; (case rel => exact ⟨10, by omega, rfl, R1'.out, by rw [← rb_set]; exact RR.out, O'.out⟩); (case measure => simp [intOf]))
      · have c := R1.cell (i := 5) (by omega)
        obtain ⟨a0, a1⟩ := hf 5 (by omega)
        obtain ⟨v, d⟩ := R2.cell (i := 10) (by rw [rb_len]; omega)
        have e := R2.free 10
        have HV := hide (show by16 f 10 = f 5 % 256 by simp [by16])
        have RR := hide (R2.set 10 (by16 f 10))
        have R1' := hide (R1.other (a := ⟨w.heap.size + 1, 10, none⟩) (by simp) (.int .u8 (by16 f 10)))
        have O' := hide (O.setCell (p := ⟨w.heap.size + 1, 10, none⟩) (by simp) (.int .u8 (by16 f 10)))
        clear R1 R2 O
        go_wp2
        rw [← HV.out]
        first | exact ⟨⟨11, by omega, rfl, R1'.out, by rw [← rb_set]; exact RR.out, O'.out⟩, by simp [intOf]⟩ | (go_roundw; (case rel => exact ⟨11, by omega, rfl, R1'.out, by rw [← rb_set]; exact RR.out, O'.out⟩); (case measure => simp [intOf]))
      · have c := R1.cell (i := 5) (by omega)
        obtain ⟨a0, a1⟩ := hf 5 (by omega)
        obtain ⟨v, d⟩ := R2.cell (i := 11) (by rw [rb_len]; omega)
        have e := R2.free 11
        have HV := hide (show by16 f 11 = f 5 / 256 by rw [show by16 f 11 = f 5 / 256 % 256 by simp [by16]]; omega)
        have RR := hide (R2.set 11 (by16 f 11))
        have R1' := hide (R1.other (a := ⟨w.heap.size + 1, 11, none⟩) (by simp) (.int .u8 (by16 f 11)))
        have O' := hide (O.setCell (p := ⟨w.heap.size + 1, 11, none⟩) (by simp) (.int .u8 (by16 f 11)))
        clear R1 R2 O
        go_wp2
        rw [← HV.out]
        first | exact ⟨⟨12, by omega, rfl, R1'.out, by rw [← rb_set]; exact RR.out, O'.out⟩, by simp [intOf]⟩ | (go_roundw; (case rel => exact ⟨12, by omega, rfl, R1'.out, by rw [← rb_set]; exact RR.out, O'.out⟩); (case measure => simp [intOf]))
      · have c := R1.cell (i := 6) (by omega)
        obtain ⟨a0, a1⟩ := hf 6 (by omega)
        obtain ⟨v, d⟩ := R2.cell (i := 12) (by rw [rb_len]; omega)
        have e := R2.free 12
        have HV := hide (show by16 f 12 = f 6 % 256 by simp [by16])
        have RR := hide (R2.set 12 (by16 f 12))
        have R1' := hide (R1.other (a := ⟨w.heap.size + 1, 12, none⟩) (by simp) (.int .u8 (by16 f 12)))
        have O' := hide (O.setCell (p := ⟨w.heap.size + 1, 12, none⟩) (by simp) (.int .u8 (by16 f 12)))
        clear R1 R2 O
        go_wp2
        rw [← HV.out]
        first | exact ⟨⟨13, by omega, rfl, R1'.out, by rw [← rb_set]; exact RR.out, O'.out⟩, by simp [intOf]⟩ | (go_roundw; (case rel => exact ⟨13, by omega, rfl, R1'.out, by rw [← rb_set]; exact RR.out, O'.out⟩); (case measure => simp [intOf]))
      · have c := R1.cell (i := 6) (by omega)
        obtain ⟨a0, a1⟩ := hf 6 (by omega)
        obtain ⟨v, d⟩ := R2.cell (i := 13) (by rw [rb_len]; omega)
        have e := R2.free 13
        have HV := hide (show by16 f 13 = f 6 / 256 by rw [show by16 f 13 = f 6 / 256 % 256 by simp [by16]]; omega)
        have RR := hide (R2.set 13 (by16 f 13))
        have R1' := hide (R1.other (a := ⟨w.heap.size + 1, 13, none⟩) (by simp) (.int .u8 (by16 f 13)))
        have O' := hide (O.setCell (p := ⟨w.heap.size + 1, 13, none⟩) (by simp) (.int .u8 (by16 f 13)))
        clear R1 R2 O
        go_wp2
        rw [← HV.out]
        first | exact ⟨⟨14, by omega, rfl, R1'.out, by rw [← rb_set]; exact RR.out, O'.out⟩, by simp [intOf]⟩ | (go_roundw; (case rel => exact ⟨14, by omega, rfl, R1'.out, by rw [← rb_set]; exact RR.out, O'.out⟩); (case measure => simp [intOf]))
      · have c := R1.cell (i := 7) (by omega)
        obtain ⟨a0, a1⟩ := hf 7 (by omega)
        obtain ⟨v, d⟩ := R2.cell (i := 14) (by rw [rb_len]; omega)
        have e := R2.free 14
        have HV := hide (show by16 f 14 = f 7 % 256 by simp [by16])
        have RR := hide (R2.set 14 (by16 f 14))
        have R1' := hide (R1.other (a := ⟨w.heap.size + 1, 14, none⟩) (by simp) (.int .u8 (by16 f 14)))
        have O' := hide (O.setCell (p := ⟨w.heap.size + 1, 14, none⟩) (by simp) (.int .u8 (by16 f 14)))
        clear R1 R2 O
        go_wp2
        rw [← HV.out]
        first | exact ⟨⟨15, by omega, rfl, R1'.out, by rw [← rb_set]; exact RR.out, O'.out⟩, by simp [intOf]⟩ | (go_roundw; (case rel => exact ⟨15, by omega, rfl, R1'.out, by rw [← rb_set]; exact RR.out, O'.out⟩); (case measure => simp [intOf]))
      · have c := R1.cell (i := 7) (by omega)
        obtain ⟨a0, a1⟩ := hf 7 (by omega)
        obtain ⟨v, d⟩ := R2.cell (i := 15) (by rw [rb_len]; omega)
        have e := R2.free 15
        have HV := hide (show by16 f 15 = f 7 / 256 by rw [show by16 f 15 = f 7 / 256 % 256 by simp [by16]]; omega)
        have RR := hide (R2.set 15 (by16 f 15))
        have R1' := hide (R1.other (a := ⟨w.heap.size + 1, 15, none⟩) (by simp) (.int .u8 (by16 f 15)))
        have O' := hide (O.setCell (p := ⟨w.heap.size + 1, 15, none⟩) (by simp) (.int .u8 (by16 f 15)))
        clear R1 R2 O
        go_wp2
        rw [← HV.out]
        first | exact ⟨⟨16, by omega, rfl, R1'.out, by rw [← rb_set]; exact RR.out, O'.out⟩, by simp [intOf]⟩ | (go_roundw; (case rel => exact ⟨16, by omega, rfl, R1'.out, by rw [← rb_set]; exact RR.out, O'.out⟩); (case measure => simp [intOf]))
      · have c := R1.cell (i := 8) (by omega)
        obtain ⟨a0, a1⟩ := hf 8 (by omega)
        obtain ⟨v, d⟩ := R2.cell (i := 16) (by rw [rb_len]; omega)
        have e := R2.free 16
        have HV := hide (show by16 f 16 = f 8 % 256 by simp [by16])
        have RR := hide (R2.set 16 (by16 f 16))
        have R1' := hide (R1.other (a := ⟨w.heap.size + 1, 16, none⟩) (by simp) (.int .u8 (by16 f 16)))
        have O' := hide (O.setCell (p := ⟨w.heap.size + 1, 16, none⟩) (by simp) (.int .u8 (by16 f 16)))
        clear R1 R2 O
        go_wp2
        rw [← HV.out]
        first | exact ⟨⟨17, by omega, rfl, R1'.out, by rw [← rb_set]; exact RR.out, O'.out⟩, by simp [intOf]⟩ | (go_roundw; (case rel => exact ⟨17, by omega, rfl, R1'.out, by rw [← rb_set]; exact RR.out, O'.out⟩); (case measure => simp [intOf]))
      · have c := R1.cell (i := 8) (by omega)
        obtain ⟨a0, a1⟩ := hf 8 (by omega)
        obtain ⟨v, d⟩ := R2.cell (i := 17) (by rw [rb_len]; omega)
        have e := R2.free 17
        have HV := hide (show by16 f 17 = f 8 / 256 by rw [show by16 f 17 = f 8 / 256 % 256 by simp [by16]]; omega)
        have RR := hide (R2.set 17 (by16 f 17))
        have R1' := hide (R1.other (a := ⟨w.heap.size + 1, 17, none⟩) (by simp) (.int .u8 (by16 f 17)))
        have O' := hide (O.setCell (p := ⟨w.heap.size + 1, 17, none⟩) (by simp) (.int .u8 (by16 f 17)))
        clear R1 R2 O
        go_wp2
        rw [← HV.out]
        first | exact ⟨⟨18, by omega, rfl, R1'.out, by rw [← rb_set]; exact RR.out, O'.out⟩, by simp [intOf]⟩ | (go_roundw; (case rel => exact ⟨18, by omega, rfl, R1'.out, by rw [← rb_set]; exact RR.out, O'.out⟩); (case measure => simp [intOf]))
      · have c := R1.cell (i := 9) (by omega)
        obtain ⟨a0, a1⟩ := hf 9 (by omega)
        obtain ⟨v, d⟩ := R2.cell (i := 18) (by rw [rb_len]; omega)
        have e := R2.free 18
        have HV := hide (show by16 f 18 = f 9 % 256 by simp [by16])
        have RR := hide (R2.set 18 (by16 f 18))
        have R1' := hide (R1.other (a := ⟨w.heap.size + 1, 18, none⟩) (by simp) (.int .u8 (by16 f 18)))
        have O' := hide (O.setCell (p := ⟨w.heap.size + 1, 18, none⟩) (by simp) (.int .u8 (by16 f 18)))
        clear R1 R2 O
        go_wp2
        rw [← HV.out]
        first | exact ⟨⟨19, by omega, rfl, R1'.out, by rw [← rb_set]; exact RR.out, O'.out⟩, by simp [intOf]⟩ | (go_roundw; (case rel => exact ⟨19, by omega, rfl, R1'.out, by rw [← rb_set]; exact RR.out, O'.out⟩); (case measure => simp [intOf]))
      · have c := R1.cell (i := 9) (by omega)
        obtain ⟨a0, a1⟩ := hf 9 (by omega)
        obtain ⟨v, d⟩ := R2.cell (i := 19) (by rw [rb_len]; omega)
        have e := R2.free 19
        have HV := hide (show by16 f 19 = f 9 / 256 by rw [show by16 f 19 = f 9 / 256 % 256 by simp [by16]]; omega)
        have RR := hide (R2.set 19 (by16 f 19))
        have R1' := hide (R1.other (a := ⟨w.heap.size + 1, 19, none⟩) (by simp) (.int .u8 (by16 f 19)))
        have O' := hide (O.setCell (p := ⟨w.heap.size + 1, 19, none⟩) (by simp) (.int .u8 (by16 f 19)))
        clear R1 R2 O
        go_wp2
        rw [← HV.out]
        first | exact ⟨⟨20, by omega, rfl, R1'.out, by rw [← rb_set]; exact RR.out, O'.out⟩, by simp [intOf]⟩ | (go_roundw; (case rel => exact ⟨20, by omega, rfl, R1'.out, by rw [← rb_set]; exact RR.out, O'.out⟩); (case measure => simp [intOf]))
      · have c := R1.cell (i := 10) (by omega)
        obtain ⟨a0, a1⟩ := hf 10 (by omega)
        obtain ⟨v, d⟩ := R2.cell (i := 20) (by rw [rb_len]; omega)
        have e := R2.free 20
        have HV := hide (show by16 f 20 = f 10 % 256 by simp [by16])
        have RR := hide (R2.set 20 (by16 f 20))
        have R1' := hide (R1.other (a := ⟨w.heap.size + 1, 20, none⟩) (by simp) (.int .u8 (by16 f 20)))
        have O' := hide (O.setCell (p := ⟨w.heap.size + 1, 20, none⟩) (by simp) (.int .u8 (by16 f 20)))
        clear R1 R2 O
        go_wp2
        rw [← HV.out]
        first | exact ⟨⟨21, by omega, rfl, R1'.out, by rw [← rb_set]; exact RR.out, O'.out⟩, by simp [intOf]⟩ | (go_roundw; (case rel => exact ⟨21, by omega, rfl, R1'.out, by rw [← rb_set]; exact RR.out, O'.out⟩); (case measure => simp [intOf]))
      · have c := R1.cell (i := 10) (by omega)
        obtain ⟨a0, a1⟩ := hf 10 (by omega)
        obtain ⟨v, d⟩ := R2.cell (i := 21) (by rw [rb_len]; omega)
        have e := R2.free 21
        have HV := hide (show by16 f 21 = f 10 / 256 by rw [show by16 f 21 = f 10 / 256 % 256 by simp [by16]]; omega)
        have RR := hide (R2.set 21 (by16 f 21))
        have R1' := hide (R1.other (a := ⟨w.heap.size + 1, 21, none⟩) (by simp) (.int .u8 (by16 f 21)))
        have O' := hide (O.setCell (p := ⟨w.heap.size + 1, 21, none⟩) (by simp) (.int .u8 (by16 f 21)))
        clear R1 R2 O
        go_wp2
        rw [← HV.out]
        first | exact ⟨⟨22, by omega, rfl, R1'.out, by rw [← rb_set]; exact RR.out, O'.out⟩, by simp [intOf]⟩ | (go_roundw; (case rel => exact ⟨22, by omega, rfl, R1'.out, by rw [← rb_set]; exact RR.out, O'.out⟩); (case measure => simp [intOf]))
      · have c := R1.cell (i := 11) (by omega)
        obtain ⟨a0, a1⟩ := hf 11 (by omega)
        obtain ⟨v, d⟩ := R2.cell (i := 22) (by rw [rb_len]; omega)
        have e := R2.free 22
        have HV := hide (show by16 f 22 = f 11 % 256 by simp [by16])
        have RR := hide (R2.set 22 (by16 f 22))
        have R1' := hide (R1.other (a := ⟨w.heap.size + 1, 22, none⟩) (by simp) (.int .u8 (by16 f 22)))
        have O' := hide (O.setCell (p := ⟨w.heap.size + 1, 22, none⟩) (by simp) (.int .u8 (by16 f 22)))
        clear R1 R2 O
        go_wp2
        rw [← HV.out]
        first | exact ⟨⟨23, by omega, rfl, R1'.out, by rw [← rb_set]; exact RR.out, O'.out⟩, by simp [intOf]⟩ | (go_roundw; (case rel => exact ⟨23, by omega, rfl, R1'.out, by rw [← rb_set]; exact RR.out, O'.out⟩); (case measure => simp [intOf]))
      · have c := R1.cell (i := 11) (by omega)
        obtain ⟨a0, a1⟩ := hf 11 (by omega)
        obtain ⟨v, d⟩ := R2.cell (i := 23) (by rw [rb_len]; omega)
        have e := R2.free 23
        have HV := hide (show by16 f 23 = f 11 / 256 by rw [show by16 f 23 = f 11 / 256 % 256 by simp [by16]]; omega)
        have RR := hide (R2.set 23 (by16 f 23))
        have R1' := hide (R1.other (a := ⟨w.heap.size + 1, 23, none⟩) (by simp) (.int .u8 (by16 f 23)))
        have O' := hide (O.setCell (p := ⟨w.heap.size + 1, 23, none⟩) (by simp) (.int .u8 (by16 f 23)))
        clear R1 R2 O
        go_wp2
        rw [← HV.out]
        first | exact ⟨⟨24, by omega, rfl, R1'.out, by rw [← rb_set]; exact RR.out, O'.out⟩, by simp [intOf]⟩ | (go_roundw; (case rel => exact ⟨24, by omega, rfl, R1'.out, by rw [← rb_set]; exact RR.out, O'.out⟩); (case measure => simp [intOf]))
      · have c := R1.cell (i := 12) (by omega)
        obtain ⟨a0, a1⟩ := hf 12 (by omega)
        obtain ⟨v, d⟩ := R2.cell (i := 24) (by rw [rb_len]; omega)
        have e := R2.free 24
        have HV := hide (show by16 f 24 = f 12 % 256 by simp [by16])
        have RR := hide (R2.set 24 (by16 f 24))
        have R1' := hide (R1.other (a := ⟨w.heap.size + 1, 24, none⟩) (by simp) (.int .u8 (by16 f 24)))
        have O' := hide (O.setCell (p := ⟨w.heap.size + 1, 24, none⟩) (by simp) (.int .u8 (by16 f 24)))
        clear R1 R2 O
        go_wp2
        rw [← HV.out]
        first | exact ⟨⟨25, by omega, rfl, R1'.out, by rw [← rb_set]; exact RR.out, O'.out⟩, by simp [intOf]⟩ | (go_roundw; (case rel => exact ⟨25, by omega, rfl, R1'.out, by rw [← rb_set]; exact RR.out, O'.out⟩); (case measure => simp [intOf]))
      · have c := R1.cell (i := 12) (by omega)
        obtain ⟨a0, a1⟩ := hf 12 (by omega)
        obtain ⟨v, d⟩ := R2.cell (i := 25) (by rw [rb_len]; omega)
        have e := R2.free 25
        have HV := hide (show by16 f 25 = f 12 / 256 by rw [show by16 f 25 = f 12 / 256 % 256 by simp [by16]]; omega)
        have RR := hide (R2.set 25 (by16 f 25))
        have R1' := hide (R1.other (a := ⟨w.heap.size + 1, 25, none⟩) (by simp) (.int .u8 (by16 f 25)))
        have O' := hide (O.setCell (p := ⟨w.heap.size + 1, 25, none⟩) (by simp) (.int .u8 (by16 f 25)))
        clear R1 R2 O
        go_wp2
        rw [← HV.out]
        first | exact ⟨⟨26, by omega, rfl, R1'.out, by rw [← rb_set]; exact RR.out, O'.out⟩, by simp [intOf]⟩ | (go_roundw; (case rel => exact ⟨26, by omega, rfl, R1'.out, by rw [← rb_set]; exact RR.out, O'.out⟩); (case measure => simp [intOf]))
      · have c := R1.cell (i := 13) (by omega)
        obtain ⟨a0, a1⟩ := hf 13 (by omega)
        obtain ⟨v, d⟩ := R2.cell (i := 26) (by rw [rb_len]; omega)
        have e := R2.free 26
        have HV := hide (show by16 f 26 = f 13 % 256 by simp [by16])
        have RR := hide (R2.set 26 (by16 f 26))
        have R1' := hide (R1.other (a := ⟨w.heap.size + 1, 26, none⟩) (by simp) (.int .u8 (by16 f 26)))
        have O' := hide (O.setCell (p := ⟨w.heap.size + 1, 26, none⟩) (by simp) (.int .u8 (by16 f 26)))
        clear R1 R2 O
        go_wp2
        rw [← HV.out]
        first | exact ⟨⟨27, by omega, rfl, R1'.out, by rw [← rb_set]; exact RR.out, O'.out⟩, by simp [intOf]⟩ | (go_roundw; (case rel => exact ⟨27, by omega, rfl, R1'.out, by rw [← rb_set]; exact RR.out, O'.out⟩); (case measure => simp [intOf]))
      · have c := R1.cell (i := 13) (by omega)
        obtain ⟨a0, a1⟩ := hf 13 (by omega)
        obtain ⟨v, d⟩ := R2.cell (i := 27) (by rw [rb_len]; omega)
        have e := R2.free 27
        have HV := hide (show by16 f 27 = f 13 / 256 by rw [show by16 f 27 = f 13 / 256 % 256 by simp [by16]]; omega)
        have RR := hide (R2.set 27 (by16 f 27))
        have R1' := hide (R1.other (a := ⟨w.heap.size + 1, 27, none⟩) (by simp) (.int .u8 (by16 f 27)))
        have O' := hide (O.setCell (p := ⟨w.heap.size + 1, 27, none⟩) (by simp) (.int .u8 (by16 f 27)))
        clear R1 R2 O
        go_wp2
        rw [← HV.out]
        first | exact ⟨⟨28, by omega, rfl, R1'.out, by rw [← rb_set]; exact RR.out, O'.out⟩, by simp [intOf]⟩ | (go_roundw; (case rel => exact ⟨28, by omega, rfl, R1'.out, by rw [← rb_set]; exact RR.out, O'.out⟩); (case measure => simp [intOf]))
      · have c := R1.cell (i := 14) (by omega)
        obtain ⟨a0, a1⟩ := hf 14 (by omega)
        obtain ⟨v, d⟩ := R2.cell (i := 28) (by rw [rb_len]; omega)
        have e := R2.free 28
        have HV := hide (show by16 f 28 = f 14 % 256 by simp [by16])
        have RR := hide (R2.set 28 (by16 f 28))
        have R1' := hide (R1.other (a := ⟨w.heap.size + 1, 28, none⟩) (by simp) (.int .u8 (by16 f 28)))
        have O' := hide (O.setCell (p := ⟨w.heap.size + 1, 28, none⟩) (by simp) (.int .u8 (by16 f 28)))
        clear R1 R2 O
        go_wp2
        rw [← HV.out]
        first | exact ⟨⟨29, by omega, rfl, R1'.out, by rw [← rb_set]; exact RR.out, O'.out⟩, by simp [intOf]⟩ | (go_roundw; (case rel => exact ⟨29, by omega, rfl, R1'.out, by rw [← rb_set]; exact RR.out, O'.out⟩); (case measure => simp [intOf]))
      · have c := R1.cell (i := 14) (by omega)
        obtain ⟨a0, a1⟩ := hf 14 (by omega)
        obtain ⟨v, d⟩ := R2.cell (i := 29) (by rw [rb_len]; omega)
        have e := R2.free 29
        have HV := hide (show by16 f 29 = f 14 / 256 by rw [show by16 f 29 = f 14 / 256 % 256 by simp [by16]]; omega)
        have RR := hide (R2.set 29 (by16 f 29))
        have R1' := hide (R1.other (a := ⟨w.heap.size + 1, 29, none⟩) (by simp) (.int .u8 (by16 f 29)))
        have O' := hide (O.setCell (p := ⟨w.heap.size + 1, 29, none⟩) (by simp) (.int .u8 (by16 f 29)))
        clear R1 R2 O
        go_wp2
        rw [← HV.out]
        first | exact ⟨⟨30, by omega, rfl, R1'.out, by rw [← rb_set]; exact RR.out, O'.out⟩, by simp [intOf]⟩ | (go_roundw; (case rel => exact ⟨30, by omega, rfl, R1'.out, by rw [← rb_set]; exact RR.out, O'.out⟩); (case measure => simp [intOf]))
      · have c := R1.cell (i := 15) (by omega)
        obtain ⟨a0, a1⟩ := hf 15 (by omega)
        obtain ⟨v, d⟩ := R2.cell (i := 30) (by rw [rb_len]; omega)
        have e := R2.free 30
        have HV := hide (show by16 f 30 = f 15 % 256 by simp [by16])
        have RR := hide (R2.set 30 (by16 f 30))
        have R1' := hide (R1.other (a := ⟨w.heap.size + 1, 30, none⟩) (by simp) (.int .u8 (by16 f 30)))
        have O' := hide (O.setCell (p := ⟨w.heap.size + 1, 30, none⟩) (by simp) (.int .u8 (by16 f 30)))
        clear R1 R2 O
        go_wp2
        rw [← HV.out]
        first | exact ⟨⟨31, by omega, rfl, R1'.out, by rw [← rb_set]; exact RR.out, O'.out⟩, by simp [intOf]⟩ | (go_roundw; (case rel => exact ⟨31, by omega, rfl, R1'.out, by rw [← rb_set]; exact RR.out, O'.out⟩); (case measure => simp [intOf]))
      · have c := R1.cell (i := 15) (by omega)
        obtain ⟨a0, a1⟩ := hf 15 (by omega)
        obtain ⟨v, d⟩ := R2.cell (i := 31) (by rw [rb_len]; omega)
        have e := R2.free 31
        have HV := hide (show by16 f 31 = f 15 / 256 by rw [show by16 f 31 = f 15 / 256 % 256 by simp [by16]]; omega)
        have RR := hide (R2.set 31 (by16 f 31))
        have R1' := hide (R1.other (a := ⟨w.heap.size + 1, 31, none⟩) (by simp) (.int .u8 (by16 f 31)))
        have O' := hide (O.setCell (p := ⟨w.heap.size + 1, 31, none⟩) (by simp) (.int .u8 (by16 f 31)))
        clear R1 R2 O
        go_wp2
        rw [← HV.out]
        first | exact ⟨⟨32, by omega, rfl, R1'.out, by rw [← rb_set]; exact RR.out, O'.out⟩, by simp [intOf]⟩ | (go_roundw; (case rel => exact ⟨32, by omega, rfl, R1'.out, by rw [← rb_set]; exact RR.out, O'.out⟩); (case measure => simp [intOf]))
    · have e : k = 32 := by omega
      subst e
      have hcv := conv_bytes wr (w.heap.size + 1) 5 (rb f 32) 32 32 (0, 0) R2 (rb_len f 32)
      generalize hB : bs (rb f 32) = B at hcv
      have HB := hide hB
      clear hB R1 R2
      go_wp2
      go_ret
      exact ⟨by rw [HB.out]; rfl, O⟩

end Go.Proofs.Ytiiniodidkfbiaa
