/- The contracts of both Clamp, of the document's Canonical, of the law's of. -/
import Derived.Test.YtaaijicpdampiaaOrdS
namespace Go.Proofs.Ytaaijicpdampiaa
open Go.RowKit

theorem and_bd {x : Int} (h0 : 0 ≤ x) (h1 : x < 256) : 0 ≤ bits .and .u8 x 248 ∧ bits .and .u8 x 248 < 256 := by
  obtain ⟨X, rfl⟩ := Int.eq_ofNat_of_zero_le h0
  have hX : X < 256 := by omega
  have h : ∀ n : Fin 256, 0 ≤ bits .and .u8 ((n.val : Nat) : Int) 248 ∧ bits .and .u8 ((n.val : Nat) : Int) 248 < 256 := by decide +kernel
  exact h ⟨X, hX⟩
theorem or_bd {x : Int} (h0 : 0 ≤ x) (h1 : x < 256) : 0 ≤ bits .or .u8 (bits .and .u8 x 127) 64 ∧ bits .or .u8 (bits .and .u8 x 127) 64 < 256 := by
  obtain ⟨X, rfl⟩ := Int.eq_ofNat_of_zero_le h0
  have hX : X < 256 := by omega
  have h : ∀ n : Fin 256, 0 ≤ bits .or .u8 (bits .and .u8 ((n.val : Nat) : Int) 127) 64 ∧ bits .or .u8 (bits .and .u8 ((n.val : Nat) : Int) 127) 64 < 256 := by decide +kernel
  exact h ⟨X, hX⟩

/-- The bytes of a secret that is clamped. -/
def clF (s : ByteArray) : Nat → Int := upd (upd (bt s) 0 (bits .and .u8 (bt s 0) 248)) 31 (bits .or .u8 (bits .and .u8 (bt s 31) 127) 64)
def clS (s : ByteArray) : ByteArray := bs ((List.range 32).map (clF s))
theorem clF_bd (s : ByteArray) (i : Nat) : 0 ≤ clF s i ∧ clF s i < 256 := by
  unfold clF upd
  by_cases h1 : i = 31
  · rw [if_pos h1]
    exact or_bd (bt_bd s 31).1 (bt_bd s 31).2
  · rw [if_neg h1]
    by_cases h2 : i = 0
    · rw [if_pos h2]
      exact and_bd (bt_bd s 0).1 (bt_bd s 0).2
    · rw [if_neg h2]
      exact bt_bd s i
theorem clS_size (s : ByteArray) : (clS s).size = 32 := by unfold clS; rw [bs_size]; simp

set_option maxRecDepth 100000 in
set_option maxHeartbeats 1000000 in
theorem clamp_yes (s : ByteArray) (w : World) (hs : s.size = 32) :
    Calls Try.prog 8 #[.string s] w fun r w' => r = .returned (.tuple #[.string (clS s), .int .i64 0]) ∧ Below w.heap.size w w' := by
  have n0 : ((s.size : Int) != 32) = false := by simp [hs]
  obtain ⟨cap, W1, hcv, B, hb⟩ := conv_str w s
  rw [hs] at B
  have c0 := B.c 0 (by omega)
  have c31 := B.c 31 (by omega)
  have f0 := B.fz 0 (by omega)
  have f31 := B.fz 31 (by omega)
  have gl := B.lt
  have B2 := (B.set (k := 0) (by omega) (bits .and .u8 (bt s 0) 248)).set (k := 31) (by omega) (bits .or .u8 (bits .and .u8 (bt s 31) 127) 64)
  have hbk := conv_back (f := clF s) B2 cap (fun i _ => clF_bd s i)
  rw [show bs ((List.range 32).map (clF s)) = clS s from rfl] at hbk
  have OO := hide ((hb.setCell (p := ⟨w.heap.size, 0, none⟩) (Nat.le_refl _) (.int .u8 (bits .and .u8 (bt s 0) 248))).setCell (p := ⟨w.heap.size, 31, none⟩) (Nat.le_refl _) (.int .u8 (bits .or .u8 (bits .and .u8 (bt s 31) 127) 64)))
  clear B2 B hb
  generalize clS s = C at *
  go_enter Try.func8, Try.ntmps8
  go_wp2
  exact bodyPost_ret (v := .tuple #[.string C, .int .i64 0]) (by simp [results, Try.results8, go_sem]) rfl ⟨rfl, OO.out⟩

set_option maxHeartbeats 400000 in
theorem clamp_no (s : ByteArray) (w : World) (hs : s.size ≠ 32) :
    Calls Try.prog 8 #[.string s] w fun r w' => r = .returned (.tuple #[.string ⟨#[]⟩, .int .i64 2]) ∧ Below w.heap.size w w' := by
  have n0 : ((s.size : Int) != 32) = true := by simp; omega
  go_enter Try.func8, Try.ntmps8
  go_wp2
  exact bodyPost_ret (v := .tuple #[.string ⟨#[]⟩, .int .i64 2]) (by simp [results, Try.results8, go_sem]) rfl ⟨rfl, Below.refl _ _⟩

set_option maxRecDepth 100000 in
set_option maxHeartbeats 1000000 in
theorem rclamp_yes (s : ByteArray) (w : World) (hs : s.size = 32) :
    Calls Try.prog 11 #[.string s] w fun r w' => r = .returned (.string (clS s)) ∧ Below w.heap.size w w' := by
  obtain ⟨cap, W1, hcv, B, hb⟩ := conv_str w s
  rw [hs] at B
  have c0 := B.c 0 (by omega)
  have c31 := B.c 31 (by omega)
  have f0 := B.fz 0 (by omega)
  have f31 := B.fz 31 (by omega)
  have gl := B.lt
  have B2 := (B.set (k := 0) (by omega) (bits .and .u8 (bt s 0) 248)).set (k := 31) (by omega) (bits .or .u8 (bits .and .u8 (bt s 31) 127) 64)
  have hbk := conv_back (f := clF s) B2 cap (fun i _ => clF_bd s i)
  rw [show bs ((List.range 32).map (clF s)) = clS s from rfl] at hbk
  have OO := hide ((hb.setCell (p := ⟨w.heap.size, 0, none⟩) (Nat.le_refl _) (.int .u8 (bits .and .u8 (bt s 0) 248))).setCell (p := ⟨w.heap.size, 31, none⟩) (Nat.le_refl _) (.int .u8 (bits .or .u8 (bits .and .u8 (bt s 31) 127) 64)))
  clear B2 B hb
  generalize clS s = C at *
  go_enter Try.func11, Try.ntmps11
  go_wp2
  go_ret
  exact ⟨rfl, OO.out⟩

set_option maxRecDepth 100000 in
set_option maxHeartbeats 1000000 in
theorem rcanon_yes (s : ByteArray) (w : World) (hs : s.size = 32) :
    Calls Try.prog 10 #[.string s] w fun r w' => r = .returned (.bool (decide (bv s 32 < Lm))) ∧ Below w.heap.size w w' := by
  have n0 : ((s.size : Int) == 32) = true := by simp [hs]
  have HL : Hid (∀ w, Calls Try.prog 30 #[.agg (arr 16 (pt s 32)), .agg (arr 16 oF)] w fun r w' => r = .returned (.bool (decide (bv s 32 < Lm))) ∧ Below w.heap.size w w') := hide fun w => by
    have h := less_any (pt s 32) oF w (pt_dig s 32) oF_dig
    rwa [pt_S, val_bv, oF_S] at h
  generalize decide (bv s 32 < Lm) = d at *
  go_enter Try.func10, Try.ntmps10
  go_wp2_with fail
  refine (parts_any s _ hs).mono ?_
  rintro _ w1 ⟨rfl, O⟩
  go_wp2_with fail
  refine (order_any _).mono ?_
  rintro _ w2 ⟨rfl, hb1⟩
  replace O := O.trans (hb1.mono O.size)
  clear hb1
  go_wp2_with fail
  refine (HL.out _).mono ?_
  rintro _ w3 ⟨rfl, hb1⟩
  replace O := O.trans (hb1.mono O.size)
  clear hb1 HL
  go_wp2
  go_ret
  exact ⟨rfl, O⟩

set_option maxHeartbeats 400000 in
theorem rcanon_no (s : ByteArray) (w : World) (hs : s.size ≠ 32) :
    Calls Try.prog 10 #[.string s] w fun r w' => r = .returned (.bool false) ∧ Below w.heap.size w w' := by
  have n0 : ((s.size : Int) == 32) = false := by simp; omega
  go_enter Try.func10, Try.ntmps10
  go_wp2
  go_ret
  exact ⟨rfl, Below.refl _ _⟩

set_option maxRecDepth 100000 in
set_option maxHeartbeats 1000000 in
theorem oft_gen (s : ByteArray) (w : World) (N e : Int) (b : Bool) (hb : (e == 0) = b)
    (H : ∀ w, Calls Try.prog 7 #[.string s] w fun r w' => r = .returned (.tuple #[.agg (arr 4 (d64 N)), .int .i64 e]) ∧ Below w.heap.size w w') :
    Calls Try.prog 15 #[.string s] w fun r w' => r = .returned (.tuple #[.agg (arr 4 (d64 N)), .bool b]) ∧ Below w.heap.size w w' := by
  have HC := hide H
  clear H
  have R : Row (w.alloc (.cells #[Value.int IntKind.u64 0, Value.int IntKind.u64 0, Value.int IntKind.u64 0, Value.int IntKind.u64 0] 27)) w.heap.size 27 4 (fun _ => 0) := Row.new w 27 4 (fun _ => 0)
  have O : Below w.heap.size w (w.alloc (.cells #[Value.int IntKind.u64 0, Value.int IntKind.u64 0, Value.int IntKind.u64 0, Value.int IntKind.u64 0] 27)) := new_below w _
  go_enter Try.func15, Try.ntmps15
  go_wp2_with fail
  refine (HC.out _).mono ?_
  rintro _ w1 ⟨rfl, hb1⟩
  replace R := R.keep hb1
  replace O := O.trans (hb1.mono O.size)
  clear hb1 HC
  have gl := R.lt
  have RC : Row (w1.alloc (.cells #[Value.int IntKind.u64 0, Value.int IntKind.u64 0, Value.int IntKind.u64 0, Value.int IntKind.u64 0] 27)) w1.heap.size 27 4 (fun _ => 0) := Row.new w1 27 4 (fun _ => 0)
  have BB := below_setCells (g := w1.heap.size) (Nat.le_refl _) (arr 4 (d64 N)).toList 0 (new_below w1 (.cells #[Value.int IntKind.u64 0, Value.int IntKind.u64 0, Value.int IntKind.u64 0, Value.int IntKind.u64 0] 27))
  have RA := hide (RC.setAll (d64 N))
  have R2 := R.keep BB
  have HR2 := hide R2
  have RR := hide (R2.setAll (d64 N))
  have O2 := O.trans (BB.mono O.size)
  have OO := hide (below_setCells (g := w.heap.size) (Nat.le_refl _) (arr 4 (d64 N)).toList 0 O2)
  clear R O BB O2 R2
  generalize hf : d64 N = f at RC RA HR2 RR OO
  have HF := hide hf
  clear hf
  try rw [HF.out]
  go_wp2_with (first | (refine wpList_store_mid rfl 27 _ _ rfl w1.heap.size 0 (arr 4 f) rfl rfl ?tha (info27 _) (arr_one _ _) ?_) | (refine wpList_load_row rfl 27 _ rfl w1.heap.size rfl 27 (arr 4 f) (0, 0) _ ?hgr Try.underlying27 rfl (info27 _) ?_) | (refine wpList_store_mid rfl 27 _ _ rfl w.heap.size 0 (arr 4 f) rfl rfl ?thb (info27 _) (arr_one _ _) ?_))
  case tha => rw [arr_size]; exact RC.there
  case hgr => exact RA.out
  case thb => rw [arr_size]; exact HR2.out.there
  exact bodyPost_ret (v := .tuple #[.agg (arr 4 f), .bool b]) (results_cell_tmp Try.results15 _ _ w.heap.size 27 (arr 4 f) (0, 0) _ _ rfl rfl RR.out Try.underlying27 rfl (info27 _)) rfl ⟨by rw [HF.out], OO.out⟩

theorem oft_yes (s : ByteArray) (w : World) (hs : s.size ≤ 64) (hp : s.size = 32 ∨ s.size = 64) :
    Calls Try.prog 15 #[.string s] w fun r w' => r = .returned (.tuple #[.agg (arr 4 (d64 (ofN s))), .bool true]) ∧ Below w.heap.size w w' :=
  oft_gen s w (ofN s) 0 true rfl fun w => of_any s w hs hp
theorem oft_no (s : ByteArray) (w : World) (h1 : s.size ≠ 32) (h2 : s.size ≠ 64) :
    Calls Try.prog 15 #[.string s] w fun r w' => r = .returned (.tuple #[.agg (arr 4 (d64 0)), .bool false]) ∧ Below w.heap.size w w' :=
  oft_gen s w 0 2 false rfl fun w => of_no s w h1 h2

end Go.Proofs.Ytaaijicpdampiaa
