/- The contract of the document's Parts: 32 bytes as 16 digits. -/
import Derived.Test.YtiiniodidkfbiaaRefC
import Derived.Test.YtiiniodidkfbiaaOfB
namespace Go.Proofs.Ytiiniodidkfbiaa
open Go.RowKit

/-- Digit i when k bytes have been read. -/
def pt (s : ByteArray) (k : Nat) : Nat → Int := fun i => (if 2 * i < k then bt s (2 * i) else 0) + (if 2 * i + 1 < k then bt s (2 * i + 1) * 256 else 0)

theorem ptor0 (s : ByteArray) (i : Nat) : bits BinOp.or IntKind.u64 0 (bt s i) = bt s i := by
  have hb := bt_bd s i
  rw [or_join 8 256 (by decide) ⟨by decide, by decide⟩ ⟨hb.1, by omega⟩ (by decide) (by omega)]
  omega
theorem ptor1 (s : ByteArray) (i j : Nat) : bits BinOp.or IntKind.u64 (bt s i) (bt s j * 256) = bt s i + bt s j * 256 := by
  have hb := bt_bd s i
  have hc := bt_bd s j
  exact or_join' 8 256 (by decide) ⟨hb.1, by omega⟩ ⟨by omega, by omega⟩ (by omega) (by omega)

theorem pt_dig (s : ByteArray) (k : Nat) : Dig (pt s k) 16 := fun i _ => by
  have hb := bt_bd s (2 * i)
  have hc := bt_bd s (2 * i + 1)
  unfold pt
  split <;> split <;> omega

theorem pt_even (s : ByteArray) (j i : Nat) : upd (pt s (2 * j)) j (bt s (2 * j)) i = pt s (2 * j + 1) i := by
  unfold upd pt
  by_cases h : i = j
  · subst h
    simp
  · rw [if_neg h]
    congr 1
    · by_cases h2 : 2 * i < 2 * j
      · rw [if_pos h2, if_pos (by omega)]
      · rw [if_neg h2, if_neg (by omega)]
    · by_cases h2 : 2 * i + 1 < 2 * j
      · rw [if_pos h2, if_pos (by omega)]
      · rw [if_neg h2, if_neg (by omega)]

theorem pt_odd (s : ByteArray) (j i : Nat) : upd (pt s (2 * j + 1)) j (bt s (2 * j) + bt s (2 * j + 1) * 256) i = pt s (2 * j + 1 + 1) i := by
  unfold upd pt
  by_cases h : i = j
  · subst h
    simp
    intro h
    omega
  · rw [if_neg h]
    congr 1
    · by_cases h2 : 2 * i < 2 * j + 1
      · rw [if_pos h2, if_pos (by omega)]
      · rw [if_neg h2, if_neg (by omega)]
    · by_cases h2 : 2 * i + 1 < 2 * j + 1
      · rw [if_pos h2, if_pos (by omega)]
      · rw [if_neg h2, if_neg (by omega)]

theorem pt_S (s : ByteArray) : S (pt s 32) 16 = val s := by
  simp [S, pt, val, sw]
  omega

set_option maxRecDepth 100000 in
set_option maxHeartbeats 8000000 in
theorem parts_any (s : ByteArray) (w : World) (hs : s.size = 32) :
    Calls Try.prog 23 #[.string s] w fun r w' => r = .returned (.agg (arr 16 (pt s 32))) ∧ Below w.heap.size w w' := by
  go_enter Try.func23, Try.ntmps23
  go_wp2
  rw [show #[Value.int IntKind.u64 0, Value.int IntKind.u64 0, Value.int IntKind.u64 0, Value.int IntKind.u64 0, Value.int IntKind.u64 0, Value.int IntKind.u64 0, Value.int IntKind.u64 0, Value.int IntKind.u64 0, Value.int IntKind.u64 0, Value.int IntKind.u64 0, Value.int IntKind.u64 0, Value.int IntKind.u64 0, Value.int IntKind.u64 0, Value.int IntKind.u64 0, Value.int IntKind.u64 0, Value.int IntKind.u64 0] = arr 16 (fun _ => 0) from rfl]
  have R1 : Row ((w.alloc (.cells (arr 16 fun _ => 0) 35)).alloc (.cells (arr 16 fun _ => 0) 35)) w.heap.size 35 16 (fun _ => 0) := (Row.new w 35 16 _).alloc _
  have R2 : Row ((w.alloc (.cells (arr 16 fun _ => 0) 35)).alloc (.cells (arr 16 fun _ => 0) 35)) (w.heap.size + 1) 35 16 (pt s 0) := (Row.new' _ 35 16 _ (by simp)).congr (fun i _ => by simp [pt])
  have O : Below w.heap.size w ((w.alloc (.cells (arr 16 fun _ => 0) 35)).alloc (.cells (arr 16 fun _ => 0) 35)) := ((Below.refl _ _).alloc (Nat.le_refl _) _).alloc (by simp) _
  generalize (w.alloc (.cells (arr 16 fun _ => 0) 35)).alloc (.cells (arr 16 fun _ => 0) 35) = W at R1 R2 O ⊢
  go_loopw [4] (fun i wr => ∃ k : Nat, k ≤ 32 ∧ i = .int .i64 k ∧ Row wr w.heap.size 35 16 (fun _ => 0) ∧ Row wr (w.heap.size + 1) 35 16 (pt s k) ∧ Below w.heap.size w wr) (fun i _ => 32 - (intOf i).toNat)
  case atStart => exact ⟨0, by omega, rfl, R1, R2, O⟩
  case round =>
    clear R1 R2 O
    obtain ⟨k, hk, rfl, R1, R2, O⟩ := hrel
    by_cases hlt : k < 32
    · have hc : k = 0 ∨ k = 1 ∨ k = 2 ∨ k = 3 ∨ k = 4 ∨ k = 5 ∨ k = 6 ∨ k = 7 ∨ k = 8 ∨ k = 9 ∨ k = 10 ∨ k = 11 ∨ k = 12 ∨ k = 13 ∨ k = 14 ∨ k = 15 ∨ k = 16 ∨ k = 17 ∨ k = 18 ∨ k = 19 ∨ k = 20 ∨ k = 21 ∨ k = 22 ∨ k = 23 ∨ k = 24 ∨ k = 25 ∨ k = 26 ∨ k = 27 ∨ k = 28 ∨ k = 29 ∨ k = 30 ∨ k = 31 := by omega
      clear hlt hk
      rcases hc with rfl | rfl | rfl | rfl | rfl | rfl | rfl | rfl | rfl | rfl | rfl | rfl | rfl | rfl | rfl | rfl | rfl | rfl | rfl | rfl | rfl | rfl | rfl | rfl | rfl | rfl | rfl | rfl | rfl | rfl | rfl | rfl
      · have hb := bt_at s 0 (by omega)
        obtain ⟨p, q⟩ := bt_bd s 0
        have e := ptor0 s 0
        have c := R2.cell (i := 0) (by omega)
        rw [show pt s 0 0 = 0 by simp [pt]] at c
        have f := R2.free 0
        have RR := hide ((R2.set 0 (bt s 0)).congr (fun i _ => pt_even s 0 i))
        have R1' := hide (R1.other (a := ⟨w.heap.size + 1, 0, none⟩) (by simp) (.int .u64 (bt s 0)))
        have O' := hide (O.setCell (p := ⟨w.heap.size + 1, 0, none⟩) (by simp) (.int .u64 (bt s 0)))
        clear R1 R2 O
        go_wp2_with fail
        go_region
        go_wp2
        first | exact ⟨⟨1, by omega, rfl, R1'.out, RR.out, O'.out.drew⟩, by simp [intOf]⟩ | (go_roundw; (case rel => exact ⟨1, by omega, rfl, R1'.out, RR.out, O'.out.drew⟩); (case measure => simp [intOf]))
      · have hb := bt_at s 1 (by omega)
        obtain ⟨p, q⟩ := bt_bd s 1
        have e := ptor1 s 0 1
        have c := R2.cell (i := 0) (by omega)
        rw [show pt s 1 0 = bt s 0 by simp [pt]] at c
        have f := R2.free 0
        have RR := hide ((R2.set 0 (bt s 0 + bt s 1 * 256)).congr (fun i _ => pt_odd s 0 i))
        have R1' := hide (R1.other (a := ⟨w.heap.size + 1, 0, none⟩) (by simp) (.int .u64 (bt s 0 + bt s 1 * 256)))
        have O' := hide (O.setCell (p := ⟨w.heap.size + 1, 0, none⟩) (by simp) (.int .u64 (bt s 0 + bt s 1 * 256)))
        clear R1 R2 O
        go_wp2_with fail
        go_region
        go_wp2
        first | exact ⟨⟨2, by omega, rfl, R1'.out, RR.out, O'.out.drew⟩, by simp [intOf]⟩ | (go_roundw; (case rel => exact ⟨2, by omega, rfl, R1'.out, RR.out, O'.out.drew⟩); (case measure => simp [intOf]))
      · have hb := bt_at s 2 (by omega)
        obtain ⟨p, q⟩ := bt_bd s 2
        have e := ptor0 s 2
        have c := R2.cell (i := 1) (by omega)
        rw [show pt s 2 1 = 0 by simp [pt]] at c
        have f := R2.free 1
        have RR := hide ((R2.set 1 (bt s 2)).congr (fun i _ => pt_even s 1 i))
        have R1' := hide (R1.other (a := ⟨w.heap.size + 1, 1, none⟩) (by simp) (.int .u64 (bt s 2)))
        have O' := hide (O.setCell (p := ⟨w.heap.size + 1, 1, none⟩) (by simp) (.int .u64 (bt s 2)))
        clear R1 R2 O
        go_wp2_with fail
        go_region
        go_wp2
        first | exact ⟨⟨3, by omega, rfl, R1'.out, RR.out, O'.out.drew⟩, by simp [intOf]⟩ | (go_roundw; (case rel => exact ⟨3, by omega, rfl, R1'.out, RR.out, O'.out.drew⟩); (case measure => simp [intOf]))
      · have hb := bt_at s 3 (by omega)
        obtain ⟨p, q⟩ := bt_bd s 3
        have e := ptor1 s 2 3
        have c := R2.cell (i := 1) (by omega)
        rw [show pt s 3 1 = bt s 2 by simp [pt]] at c
        have f := R2.free 1
        have RR := hide ((R2.set 1 (bt s 2 + bt s 3 * 256)).congr (fun i _ => pt_odd s 1 i))
        have R1' := hide (R1.other (a := ⟨w.heap.size + 1, 1, none⟩) (by simp) (.int .u64 (bt s 2 + bt s 3 * 256)))
        have O' := hide (O.setCell (p := ⟨w.heap.size + 1, 1, none⟩) (by simp) (.int .u64 (bt s 2 + bt s 3 * 256)))
        clear R1 R2 O
        go_wp2_with fail
        go_region
        go_wp2
        first | exact ⟨⟨4, by omega, rfl, R1'.out, RR.out, O'.out.drew⟩, by simp [intOf]⟩ | (go_roundw; (case rel => exact ⟨4, by omega, rfl, R1'.out, RR.out, O'.out.drew⟩); (case measure => simp [intOf]))
      · have hb := bt_at s 4 (by omega)
        obtain ⟨p, q⟩ := bt_bd s 4
        have e := ptor0 s 4
        have c := R2.cell (i := 2) (by omega)
        rw [show pt s 4 2 = 0 by simp [pt]] at c
        have f := R2.free 2
        have RR := hide ((R2.set 2 (bt s 4)).congr (fun i _ => pt_even s 2 i))
        have R1' := hide (R1.other (a := ⟨w.heap.size + 1, 2, none⟩) (by simp) (.int .u64 (bt s 4)))
        have O' := hide (O.setCell (p := ⟨w.heap.size + 1, 2, none⟩) (by simp) (.int .u64 (bt s 4)))
        clear R1 R2 O
        go_wp2_with fail
        go_region
        go_wp2
        first | exact ⟨⟨5, by omega, rfl, R1'.out, RR.out, O'.out.drew⟩, by simp [intOf]⟩ | (go_roundw; (case rel => exact ⟨5, by omega, rfl, R1'.out, RR.out, O'.out.drew⟩); (case measure => simp [intOf]))
      · have hb := bt_at s 5 (by omega)
        obtain ⟨p, q⟩ := bt_bd s 5
        have e := ptor1 s 4 5
        have c := R2.cell (i := 2) (by omega)
        rw [show pt s 5 2 = bt s 4 by simp [pt]] at c
        have f := R2.free 2
        have RR := hide ((R2.set 2 (bt s 4 + bt s 5 * 256)).congr (fun i _ => pt_odd s 2 i))
        have R1' := hide (R1.other (a := ⟨w.heap.size + 1, 2, none⟩) (by simp) (.int .u64 (bt s 4 + bt s 5 * 256)))
        have O' := hide (O.setCell (p := ⟨w.heap.size + 1, 2, none⟩) (by simp) (.int .u64 (bt s 4 + bt s 5 * 256)))
        clear R1 R2 O
        go_wp2_with fail
        go_region
        go_wp2
        first | exact ⟨⟨6, by omega, rfl, R1'.out, RR.out, O'.out.drew⟩, by simp [intOf]⟩ | (go_roundw; (case rel => exact ⟨6, by omega, rfl, R1'.out, RR.out, O'.out.drew⟩); (case measure => simp [intOf]))
      · have hb := bt_at s 6 (by omega)
        obtain ⟨p, q⟩ := bt_bd s 6
        have e := ptor0 s 6
        have c := R2.cell (i := 3) (by omega)
        rw [show pt s 6 3 = 0 by simp [pt]] at c
        have f := R2.free 3
        have RR := hide ((R2.set 3 (bt s 6)).congr (fun i _ => pt_even s 3 i))
        have R1' := hide (R1.other (a := ⟨w.heap.size + 1, 3, none⟩) (by simp) (.int .u64 (bt s 6)))
        have O' := hide (O.setCell (p := ⟨w.heap.size + 1, 3, none⟩) (by simp) (.int .u64 (bt s 6)))
        clear R1 R2 O
        go_wp2_with fail
        go_region
        go_wp2
        first | exact ⟨⟨7, by omega, rfl, R1'.out, RR.out, O'.out.drew⟩, by simp [intOf]⟩ | (go_roundw; (case rel => exact ⟨7, by omega, rfl, R1'.out, RR.out, O'.out.drew⟩); (case measure => simp [intOf]))
      · have hb := bt_at s 7 (by omega)
        obtain ⟨p, q⟩ := bt_bd s 7
        have e := ptor1 s 6 7
        have c := R2.cell (i := 3) (by omega)
        rw [show pt s 7 3 = bt s 6 by simp [pt]] at c
        have f := R2.free 3
        have RR := hide ((R2.set 3 (bt s 6 + bt s 7 * 256)).congr (fun i _ => pt_odd s 3 i))
        have R1' := hide (R1.other (a := ⟨w.heap.size + 1, 3, none⟩) (by simp) (.int .u64 (bt s 6 + bt s 7 * 256)))
        have O' := hide (O.setCell (p := ⟨w.heap.size + 1, 3, none⟩) (by simp) (.int .u64 (bt s 6 + bt s 7 * 256)))
        clear R1 R2 O
        go_wp2_with fail
        go_region
        go_wp2
        first | exact ⟨⟨8, by omega, rfl, R1'.out, RR.out, O'.out.drew⟩, by simp [intOf]⟩ | (go_roundw; (case rel => exact ⟨8, by omega, rfl, R1'.out, RR.out, O'.out.drew⟩); (case measure => simp [intOf]))
      · have hb := bt_at s 8 (by omega)
        obtain ⟨p, q⟩ := bt_bd s 8
        have e := ptor0 s 8
        have c := R2.cell (i := 4) (by omega)
        rw [show pt s 8 4 = 0 by simp [pt]] at c
        have f := R2.free 4
        have RR := hide ((R2.set 4 (bt s 8)).congr (fun i _ => pt_even s 4 i))
        have R1' := hide (R1.other (a := ⟨w.heap.size + 1, 4, none⟩) (by simp) (.int .u64 (bt s 8)))
        have O' := hide (O.setCell (p := ⟨w.heap.size + 1, 4, none⟩) (by simp) (.int .u64 (bt s 8)))
        clear R1 R2 O
        go_wp2_with fail
        go_region
        go_wp2
        first | exact ⟨⟨9, by omega, rfl, R1'.out, RR.out, O'.out.drew⟩, by simp [intOf]⟩ | (go_roundw; (case rel => exact ⟨9, by omega, rfl, R1'.out, RR.out, O'.out.drew⟩); (case measure => simp [intOf]))
      · have hb := bt_at s 9 (by omega)
        obtain ⟨p, q⟩ := bt_bd s 9
        have e := ptor1 s 8 9
        have c := R2.cell (i := 4) (by omega)
        rw [show pt s 9 4 = bt s 8 by simp [pt]] at c
        have f := R2.free 4
        have RR := hide ((R2.set 4 (bt s 8 + bt s 9 * 256)).congr (fun i _ => pt_odd s 4 i))
        have R1' := hide (R1.other (a := ⟨w.heap.size + 1, 4, none⟩) (by simp) (.int .u64 (bt s 8 + bt s 9 * 256)))
        have O' := hide (O.setCell (p := ⟨w.heap.size + 1, 4, none⟩) (by simp) (.int .u64 (bt s 8 + bt s 9 * 256)))
        clear R1 R2 O
        go_wp2_with fail
        go_region
        go_wp2
        first | exact ⟨⟨10, by omega, rfl, R1'.out, RR.out, O'.out.drew⟩, by simp [intOf]⟩ | (go_roundw; (case rel => exact ⟨10, by omega, rfl, R1'.out, RR.out, O'.out.drew⟩); (case measure => simp [intOf]))
      · have hb := bt_at s 10 (by omega)
        obtain ⟨p, q⟩ := bt_bd s 10
        have e := ptor0 s 10
        have c := R2.cell (i := 5) (by omega)
        rw [show pt s 10 5 = 0 by simp [pt]] at c
        have f := R2.free 5
        have RR := hide ((R2.set 5 (bt s 10)).congr (fun i _ => pt_even s 5 i))
        have R1' := hide (R1.other (a := ⟨w.heap.size + 1, 5, none⟩) (by simp) (.int .u64 (bt s 10)))
        have O' := hide (O.setCell (p := ⟨w.heap.size + 1, 5, none⟩) (by simp) (.int .u64 (bt s 10)))
        clear R1 R2 O
        go_wp2_with fail
        go_region
        go_wp2
        first | exact ⟨⟨11, by omega, rfl, R1'.out, RR.out, O'.out.drew⟩, by simp [intOf]⟩ | (go_roundw; (case rel => exact ⟨11, by omega, rfl, R1'.out, RR.out, O'.out.drew⟩); (case measure => simp [intOf]))
      · have hb := bt_at s 11 (by omega)
        obtain ⟨p, q⟩ := bt_bd s 11
        have e := ptor1 s 10 11
        have c := R2.cell (i := 5) (by omega)
        rw [show pt s 11 5 = bt s 10 by simp [pt]] at c
        have f := R2.free 5
        have RR := hide ((R2.set 5 (bt s 10 + bt s 11 * 256)).congr (fun i _ => pt_odd s 5 i))
        have R1' := hide (R1.other (a := ⟨w.heap.size + 1, 5, none⟩) (by simp) (.int .u64 (bt s 10 + bt s 11 * 256)))
        have O' := hide (O.setCell (p := ⟨w.heap.size + 1, 5, none⟩) (by simp) (.int .u64 (bt s 10 + bt s 11 * 256)))
        clear R1 R2 O
        go_wp2_with fail
        go_region
        go_wp2
        first | exact ⟨⟨12, by omega, rfl, R1'.out, RR.out, O'.out.drew⟩, by simp [intOf]⟩ | (go_roundw; (case rel => exact ⟨12, by omega, rfl, R1'.out, RR.out, O'.out.drew⟩); (case measure => simp [intOf]))
      · have hb := bt_at s 12 (by omega)
        obtain ⟨p, q⟩ := bt_bd s 12
        have e := ptor0 s 12
        have c := R2.cell (i := 6) (by omega)
        rw [show pt s 12 6 = 0 by simp [pt]] at c
        have f := R2.free 6
        have RR := hide ((R2.set 6 (bt s 12)).congr (fun i _ => pt_even s 6 i))
        have R1' := hide (R1.other (a := ⟨w.heap.size + 1, 6, none⟩) (by simp) (.int .u64 (bt s 12)))
        have O' := hide (O.setCell (p := ⟨w.heap.size + 1, 6, none⟩) (by simp) (.int .u64 (bt s 12)))
        clear R1 R2 O
        go_wp2_with fail
        go_region
        go_wp2
        first | exact ⟨⟨13, by omega, rfl, R1'.out, RR.out, O'.out.drew⟩, by simp [intOf]⟩ | (go_roundw; (case rel => exact ⟨13, by omega, rfl, R1'.out, RR.out, O'.out.drew⟩); (case measure => simp [intOf]))
      · have hb := bt_at s 13 (by omega)
        obtain ⟨p, q⟩ := bt_bd s 13
        have e := ptor1 s 12 13
        have c := R2.cell (i := 6) (by omega)
        rw [show pt s 13 6 = bt s 12 by simp [pt]] at c
        have f := R2.free 6
        have RR := hide ((R2.set 6 (bt s 12 + bt s 13 * 256)).congr (fun i _ => pt_odd s 6 i))
        have R1' := hide (R1.other (a := ⟨w.heap.size + 1, 6, none⟩) (by simp) (.int .u64 (bt s 12 + bt s 13 * 256)))
        have O' := hide (O.setCell (p := ⟨w.heap.size + 1, 6, none⟩) (by simp) (.int .u64 (bt s 12 + bt s 13 * 256)))
        clear R1 R2 O
        go_wp2_with fail
        go_region
        go_wp2
        first | exact ⟨⟨14, by omega, rfl, R1'.out, RR.out, O'.out.drew⟩, by simp [intOf]⟩ | (go_roundw; (case rel => exact ⟨14, by omega, rfl, R1'.out, RR.out, O'.out.drew⟩); (case measure => simp [intOf]))
      · have hb := bt_at s 14 (by omega)
        obtain ⟨p, q⟩ := bt_bd s 14
        have e := ptor0 s 14
        have c := R2.cell (i := 7) (by omega)
        rw [show pt s 14 7 = 0 by simp [pt]] at c
        have f := R2.free 7
        have RR := hide ((R2.set 7 (bt s 14)).congr (fun i _ => pt_even s 7 i))
        have R1' := hide (R1.other (a := ⟨w.heap.size + 1, 7, none⟩) (by simp) (.int .u64 (bt s 14)))
        have O' := hide (O.setCell (p := ⟨w.heap.size + 1, 7, none⟩) (by simp) (.int .u64 (bt s 14)))
        clear R1 R2 O
        go_wp2_with fail
        go_region
        go_wp2
        first | exact ⟨⟨15, by omega, rfl, R1'.out, RR.out, O'.out.drew⟩, by simp [intOf]⟩ | (go_roundw; (case rel => exact ⟨15, by omega, rfl, R1'.out, RR.out, O'.out.drew⟩); (case measure => simp [intOf]))
      · have hb := bt_at s 15 (by omega)
        obtain ⟨p, q⟩ := bt_bd s 15
        have e := ptor1 s 14 15
        have c := R2.cell (i := 7) (by omega)
        rw [show pt s 15 7 = bt s 14 by simp [pt]] at c
        have f := R2.free 7
        have RR := hide ((R2.set 7 (bt s 14 + bt s 15 * 256)).congr (fun i _ => pt_odd s 7 i))
        have R1' := hide (R1.other (a := ⟨w.heap.size + 1, 7, none⟩) (by simp) (.int .u64 (bt s 14 + bt s 15 * 256)))
        have O' := hide (O.setCell (p := ⟨w.heap.size + 1, 7, none⟩) (by simp) (.int .u64 (bt s 14 + bt s 15 * 256)))
        clear R1 R2 O
        go_wp2_with fail
        go_region
        go_wp2
        first | exact ⟨⟨16, by omega, rfl, R1'.out, RR.out, O'.out.drew⟩, by simp [intOf]⟩ | (go_roundw; (case rel => exact ⟨16, by omega, rfl, R1'.out, RR.out, O'.out.drew⟩); (case measure => simp [intOf]))
      · have hb := bt_at s 16 (by omega)
        obtain ⟨p, q⟩ := bt_bd s 16
        have e := ptor0 s 16
        have c := R2.cell (i := 8) (by omega)
        rw [show pt s 16 8 = 0 by simp [pt]] at c
        have f := R2.free 8
        have RR := hide ((R2.set 8 (bt s 16)).congr (fun i _ => pt_even s 8 i))
        have R1' := hide (R1.other (a := ⟨w.heap.size + 1, 8, none⟩) (by simp) (.int .u64 (bt s 16)))
        have O' := hide (O.setCell (p := ⟨w.heap.size + 1, 8, none⟩) (by simp) (.int .u64 (bt s 16)))
        clear R1 R2 O
        go_wp2_with fail
        go_region
        go_wp2
        first | exact ⟨⟨17, by omega, rfl, R1'.out, RR.out, O'.out.drew⟩, by simp [intOf]⟩ | (go_roundw; (case rel => exact ⟨17, by omega, rfl, R1'.out, RR.out, O'.out.drew⟩); (case measure => simp [intOf]))
      · have hb := bt_at s 17 (by omega)
        obtain ⟨p, q⟩ := bt_bd s 17
        have e := ptor1 s 16 17
        have c := R2.cell (i := 8) (by omega)
        rw [show pt s 17 8 = bt s 16 by simp [pt]] at c
        have f := R2.free 8
        have RR := hide ((R2.set 8 (bt s 16 + bt s 17 * 256)).congr (fun i _ => pt_odd s 8 i))
        have R1' := hide (R1.other (a := ⟨w.heap.size + 1, 8, none⟩) (by simp) (.int .u64 (bt s 16 + bt s 17 * 256)))
        have O' := hide (O.setCell (p := ⟨w.heap.size + 1, 8, none⟩) (by simp) (.int .u64 (bt s 16 + bt s 17 * 256)))
        clear R1 R2 O
        go_wp2_with fail
        go_region
        go_wp2
        first | exact ⟨⟨18, by omega, rfl, R1'.out, RR.out, O'.out.drew⟩, by simp [intOf]⟩ | (go_roundw; (case rel => exact ⟨18, by omega, rfl, R1'.out, RR.out, O'.out.drew⟩); (case measure => simp [intOf]))
      · have hb := bt_at s 18 (by omega)
        obtain ⟨p, q⟩ := bt_bd s 18
        have e := ptor0 s 18
        have c := R2.cell (i := 9) (by omega)
        rw [show pt s 18 9 = 0 by simp [pt]] at c
        have f := R2.free 9
        have RR := hide ((R2.set 9 (bt s 18)).congr (fun i _ => pt_even s 9 i))
        have R1' := hide (R1.other (a := ⟨w.heap.size + 1, 9, none⟩) (by simp) (.int .u64 (bt s 18)))
        have O' := hide (O.setCell (p := ⟨w.heap.size + 1, 9, none⟩) (by simp) (.int .u64 (bt s 18)))
        clear R1 R2 O
        go_wp2_with fail
        go_region
        go_wp2
        first | exact ⟨⟨19, by omega, rfl, R1'.out, RR.out, O'.out.drew⟩, by simp [intOf]⟩ | (go_roundw; (case rel => exact ⟨19, by omega, rfl, R1'.out, RR.out, O'.out.drew⟩); (case measure => simp [intOf]))
      · have hb := bt_at s 19 (by omega)
        obtain ⟨p, q⟩ := bt_bd s 19
        have e := ptor1 s 18 19
        have c := R2.cell (i := 9) (by omega)
        rw [show pt s 19 9 = bt s 18 by simp [pt]] at c
        have f := R2.free 9
        have RR := hide ((R2.set 9 (bt s 18 + bt s 19 * 256)).congr (fun i _ => pt_odd s 9 i))
        have R1' := hide (R1.other (a := ⟨w.heap.size + 1, 9, none⟩) (by simp) (.int .u64 (bt s 18 + bt s 19 * 256)))
        have O' := hide (O.setCell (p := ⟨w.heap.size + 1, 9, none⟩) (by simp) (.int .u64 (bt s 18 + bt s 19 * 256)))
        clear R1 R2 O
        go_wp2_with fail
        go_region
        go_wp2
        first | exact ⟨⟨20, by omega, rfl, R1'.out, RR.out, O'.out.drew⟩, by simp [intOf]⟩ | (go_roundw; (case rel => exact ⟨20, by omega, rfl, R1'.out, RR.out, O'.out.drew⟩); (case measure => simp [intOf]))
      · have hb := bt_at s 20 (by omega)
        obtain ⟨p, q⟩ := bt_bd s 20
        have e := ptor0 s 20
        have c := R2.cell (i := 10) (by omega)
        rw [show pt s 20 10 = 0 by simp [pt]] at c
        have f := R2.free 10
        have RR := hide ((R2.set 10 (bt s 20)).congr (fun i _ => pt_even s 10 i))
        have R1' := hide (R1.other (a := ⟨w.heap.size + 1, 10, none⟩) (by simp) (.int .u64 (bt s 20)))
        have O' := hide (O.setCell (p := ⟨w.heap.size + 1, 10, none⟩) (by simp) (.int .u64 (bt s 20)))
        clear R1 R2 O
        go_wp2_with fail
        go_region
        go_wp2
        first | exact ⟨⟨21, by omega, rfl, R1'.out, RR.out, O'.out.drew⟩, by simp [intOf]⟩ | (go_roundw; (case rel => exact ⟨21, by omega, rfl, R1'.out, RR.out, O'.out.drew⟩); (case measure => simp [intOf]))
      · have hb := bt_at s 21 (by omega)
        obtain ⟨p, q⟩ := bt_bd s 21
        have e := ptor1 s 20 21
        have c := R2.cell (i := 10) (by omega)
        rw [show pt s 21 10 = bt s 20 by simp [pt]] at c
        have f := R2.free 10
        have RR := hide ((R2.set 10 (bt s 20 + bt s 21 * 256)).congr (fun i _ => pt_odd s 10 i))
        have R1' := hide (R1.other (a := ⟨w.heap.size + 1, 10, none⟩) (by simp) (.int .u64 (bt s 20 + bt s 21 * 256)))
        have O' := hide (O.setCell (p := ⟨w.heap.size + 1, 10, none⟩) (by simp) (.int .u64 (bt s 20 + bt s 21 * 256)))
        clear R1 R2 O
        go_wp2_with fail
        go_region
        go_wp2
        first | exact ⟨⟨22, by omega, rfl, R1'.out, RR.out, O'.out.drew⟩, by simp [intOf]⟩ | (go_roundw; (case rel => exact ⟨22, by omega, rfl, R1'.out, RR.out, O'.out.drew⟩); (case measure => simp [intOf]))
      · have hb := bt_at s 22 (by omega)
        obtain ⟨p, q⟩ := bt_bd s 22
        have e := ptor0 s 22
        have c := R2.cell (i := 11) (by omega)
        rw [show pt s 22 11 = 0 by simp [pt]] at c
        have f := R2.free 11
        have RR := hide ((R2.set 11 (bt s 22)).congr (fun i _ => pt_even s 11 i))
        have R1' := hide (R1.other (a := ⟨w.heap.size + 1, 11, none⟩) (by simp) (.int .u64 (bt s 22)))
        have O' := hide (O.setCell (p := ⟨w.heap.size + 1, 11, none⟩) (by simp) (.int .u64 (bt s 22)))
        clear R1 R2 O
        go_wp2_with fail
        go_region
        go_wp2
        first | exact ⟨⟨23, by omega, rfl, R1'.out, RR.out, O'.out.drew⟩, by simp [intOf]⟩ | (go_roundw; (case rel => exact ⟨23, by omega, rfl, R1'.out, RR.out, O'.out.drew⟩); (case measure => simp [intOf]))
      · have hb := bt_at s 23 (by omega)
        obtain ⟨p, q⟩ := bt_bd s 23
        have e := ptor1 s 22 23
        have c := R2.cell (i := 11) (by omega)
        rw [show pt s 23 11 = bt s 22 by simp [pt]] at c
        have f := R2.free 11
        have RR := hide ((R2.set 11 (bt s 22 + bt s 23 * 256)).congr (fun i _ => pt_odd s 11 i))
        have R1' := hide (R1.other (a := ⟨w.heap.size + 1, 11, none⟩) (by simp) (.int .u64 (bt s 22 + bt s 23 * 256)))
        have O' := hide (O.setCell (p := ⟨w.heap.size + 1, 11, none⟩) (by simp) (.int .u64 (bt s 22 + bt s 23 * 256)))
        clear R1 R2 O
        go_wp2_with fail
        go_region
        go_wp2
        first | exact ⟨⟨24, by omega, rfl, R1'.out, RR.out, O'.out.drew⟩, by simp [intOf]⟩ | (go_roundw; (case rel => exact ⟨24, by omega, rfl, R1'.out, RR.out, O'.out.drew⟩); (case measure => simp [intOf]))
      · have hb := bt_at s 24 (by omega)
        obtain ⟨p, q⟩ := bt_bd s 24
        have e := ptor0 s 24
        have c := R2.cell (i := 12) (by omega)
        rw [show pt s 24 12 = 0 by simp [pt]] at c
        have f := R2.free 12
        have RR := hide ((R2.set 12 (bt s 24)).congr (fun i _ => pt_even s 12 i))
        have R1' := hide (R1.other (a := ⟨w.heap.size + 1, 12, none⟩) (by simp) (.int .u64 (bt s 24)))
        have O' := hide (O.setCell (p := ⟨w.heap.size + 1, 12, none⟩) (by simp) (.int .u64 (bt s 24)))
        clear R1 R2 O
        go_wp2_with fail
        go_region
        go_wp2
        first | exact ⟨⟨25, by omega, rfl, R1'.out, RR.out, O'.out.drew⟩, by simp [intOf]⟩ | (go_roundw; (case rel => exact ⟨25, by omega, rfl, R1'.out, RR.out, O'.out.drew⟩); (case measure => simp [intOf]))
      · have hb := bt_at s 25 (by omega)
        obtain ⟨p, q⟩ := bt_bd s 25
        have e := ptor1 s 24 25
        have c := R2.cell (i := 12) (by omega)
        rw [show pt s 25 12 = bt s 24 by simp [pt]] at c
        have f := R2.free 12
        have RR := hide ((R2.set 12 (bt s 24 + bt s 25 * 256)).congr (fun i _ => pt_odd s 12 i))
        have R1' := hide (R1.other (a := ⟨w.heap.size + 1, 12, none⟩) (by simp) (.int .u64 (bt s 24 + bt s 25 * 256)))
        have O' := hide (O.setCell (p := ⟨w.heap.size + 1, 12, none⟩) (by simp) (.int .u64 (bt s 24 + bt s 25 * 256)))
        clear R1 R2 O
        go_wp2_with fail
        go_region
        go_wp2
        first | exact ⟨⟨26, by omega, rfl, R1'.out, RR.out, O'.out.drew⟩, by simp [intOf]⟩ | (go_roundw; (case rel => exact ⟨26, by omega, rfl, R1'.out, RR.out, O'.out.drew⟩); (case measure => simp [intOf]))
      · have hb := bt_at s 26 (by omega)
        obtain ⟨p, q⟩ := bt_bd s 26
        have e := ptor0 s 26
        have c := R2.cell (i := 13) (by omega)
        rw [show pt s 26 13 = 0 by simp [pt]] at c
        have f := R2.free 13
        have RR := hide ((R2.set 13 (bt s 26)).congr (fun i _ => pt_even s 13 i))
        have R1' := hide (R1.other (a := ⟨w.heap.size + 1, 13, none⟩) (by simp) (.int .u64 (bt s 26)))
        have O' := hide (O.setCell (p := ⟨w.heap.size + 1, 13, none⟩) (by simp) (.int .u64 (bt s 26)))
        clear R1 R2 O
        go_wp2_with fail
        go_region
        go_wp2
        first | exact ⟨⟨27, by omega, rfl, R1'.out, RR.out, O'.out.drew⟩, by simp [intOf]⟩ | (go_roundw; (case rel => exact ⟨27, by omega, rfl, R1'.out, RR.out, O'.out.drew⟩); (case measure => simp [intOf]))
      · have hb := bt_at s 27 (by omega)
        obtain ⟨p, q⟩ := bt_bd s 27
        have e := ptor1 s 26 27
        have c := R2.cell (i := 13) (by omega)
        rw [show pt s 27 13 = bt s 26 by simp [pt]] at c
        have f := R2.free 13
        have RR := hide ((R2.set 13 (bt s 26 + bt s 27 * 256)).congr (fun i _ => pt_odd s 13 i))
        have R1' := hide (R1.other (a := ⟨w.heap.size + 1, 13, none⟩) (by simp) (.int .u64 (bt s 26 + bt s 27 * 256)))
        have O' := hide (O.setCell (p := ⟨w.heap.size + 1, 13, none⟩) (by simp) (.int .u64 (bt s 26 + bt s 27 * 256)))
        clear R1 R2 O
        go_wp2_with fail
        go_region
        go_wp2
        first | exact ⟨⟨28, by omega, rfl, R1'.out, RR.out, O'.out.drew⟩, by simp [intOf]⟩ | (go_roundw; (case rel => exact ⟨28, by omega, rfl, R1'.out, RR.out, O'.out.drew⟩); (case measure => simp [intOf]))
      · have hb := bt_at s 28 (by omega)
        obtain ⟨p, q⟩ := bt_bd s 28
        have e := ptor0 s 28
        have c := R2.cell (i := 14) (by omega)
        rw [show pt s 28 14 = 0 by simp [pt]] at c
        have f := R2.free 14
        have RR := hide ((R2.set 14 (bt s 28)).congr (fun i _ => pt_even s 14 i))
        have R1' := hide (R1.other (a := ⟨w.heap.size + 1, 14, none⟩) (by simp) (.int .u64 (bt s 28)))
        have O' := hide (O.setCell (p := ⟨w.heap.size + 1, 14, none⟩) (by simp) (.int .u64 (bt s 28)))
        clear R1 R2 O
        go_wp2_with fail
        go_region
        go_wp2
        first | exact ⟨⟨29, by omega, rfl, R1'.out, RR.out, O'.out.drew⟩, by simp [intOf]⟩ | (go_roundw; (case rel => exact ⟨29, by omega, rfl, R1'.out, RR.out, O'.out.drew⟩); (case measure => simp [intOf]))
      · have hb := bt_at s 29 (by omega)
        obtain ⟨p, q⟩ := bt_bd s 29
        have e := ptor1 s 28 29
        have c := R2.cell (i := 14) (by omega)
        rw [show pt s 29 14 = bt s 28 by simp [pt]] at c
        have f := R2.free 14
        have RR := hide ((R2.set 14 (bt s 28 + bt s 29 * 256)).congr (fun i _ => pt_odd s 14 i))
        have R1' := hide (R1.other (a := ⟨w.heap.size + 1, 14, none⟩) (by simp) (.int .u64 (bt s 28 + bt s 29 * 256)))
        have O' := hide (O.setCell (p := ⟨w.heap.size + 1, 14, none⟩) (by simp) (.int .u64 (bt s 28 + bt s 29 * 256)))
        clear R1 R2 O
        go_wp2_with fail
        go_region
        go_wp2
        first | exact ⟨⟨30, by omega, rfl, R1'.out, RR.out, O'.out.drew⟩, by simp [intOf]⟩ | (go_roundw; (case rel => exact ⟨30, by omega, rfl, R1'.out, RR.out, O'.out.drew⟩); (case measure => simp [intOf]))
      · have hb := bt_at s 30 (by omega)
        obtain ⟨p, q⟩ := bt_bd s 30
        have e := ptor0 s 30
        have c := R2.cell (i := 15) (by omega)
        rw [show pt s 30 15 = 0 by simp [pt]] at c
        have f := R2.free 15
        have RR := hide ((R2.set 15 (bt s 30)).congr (fun i _ => pt_even s 15 i))
        have R1' := hide (R1.other (a := ⟨w.heap.size + 1, 15, none⟩) (by simp) (.int .u64 (bt s 30)))
        have O' := hide (O.setCell (p := ⟨w.heap.size + 1, 15, none⟩) (by simp) (.int .u64 (bt s 30)))
        clear R1 R2 O
        go_wp2_with fail
        go_region
        go_wp2
        first | exact ⟨⟨31, by omega, rfl, R1'.out, RR.out, O'.out.drew⟩, by simp [intOf]⟩ | (go_roundw; (case rel => exact ⟨31, by omega, rfl, R1'.out, RR.out, O'.out.drew⟩); (case measure => simp [intOf]))
      · have hb := bt_at s 31 (by omega)
        obtain ⟨p, q⟩ := bt_bd s 31
        have e := ptor1 s 30 31
        have c := R2.cell (i := 15) (by omega)
        rw [show pt s 31 15 = bt s 30 by simp [pt]] at c
        have f := R2.free 15
        have RR := hide ((R2.set 15 (bt s 30 + bt s 31 * 256)).congr (fun i _ => pt_odd s 15 i))
        have R1' := hide (R1.other (a := ⟨w.heap.size + 1, 15, none⟩) (by simp) (.int .u64 (bt s 30 + bt s 31 * 256)))
        have O' := hide (O.setCell (p := ⟨w.heap.size + 1, 15, none⟩) (by simp) (.int .u64 (bt s 30 + bt s 31 * 256)))
        clear R1 R2 O
        go_wp2_with fail
        go_region
        go_wp2
        first | exact ⟨⟨32, by omega, rfl, R1'.out, RR.out, O'.out.drew⟩, by simp [intOf]⟩ | (go_roundw; (case rel => exact ⟨32, by omega, rfl, R1'.out, RR.out, O'.out.drew⟩); (case measure => simp [intOf]))
    · have e : k = 32 := by omega
      subst e
      have RR := hide (R1.setAll (pt s 32))
      have OO := hide (below_setCells (g := w.heap.size) (Nat.le_refl _) (arr 16 (pt s 32)).toList 0 O)
      go_wp2_with (first | (refine wpList_load_row rfl 35 _ rfl (w.heap.size + 1) rfl 35 (arr 16 (pt s 32)) (0, 0) _ R2 Try.underlying35 rfl (info35 _) ?_) | (refine wpList_store_mid rfl 35 _ _ rfl w.heap.size 0 (arr 16 (pt s 32)) rfl rfl (by rw [arr_size]; exact R1.there) (info35 _) (arr_one _ _) ?_))
      exact bodyPost_ret (v := .agg (arr 16 (pt s 32))) (results_cell_row Try.results23 _ _ w.heap.size 35 (arr 16 (pt s 32)) (0, 0) _ rfl RR.out Try.underlying35 rfl (info35 _)) rfl ⟨rfl, OO.out⟩

end Go.Proofs.Ytiiniodidkfbiaa
