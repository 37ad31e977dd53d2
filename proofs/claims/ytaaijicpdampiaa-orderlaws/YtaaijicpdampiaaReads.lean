/- OrderReads answers true, whatever the bytes. -/
import Derived.Test.YtaaijicpdampiaaAlive
namespace Go.Proofs.Ytaaijicpdampiaa
open Go.RowKit

theorem isN (N : Int) (w : World) (hN : 0 ≤ N ∧ N < Lm) :
    Calls Try.prog 13 #[.agg (arr 4 (d64 N)), .agg (arr 16 (d16 N))] w fun r w' => r = .returned (.bool true) ∧ Below w.heap.size w w' := by
  have h := is_yes (d16 N) w (d16_dig N 16)
  have hL := L16
  rwa [dSL hN.1 (by omega)] at h

theorem rofN (s : ByteArray) (w : World) (hs : s.size ≤ 64) :
    Calls Try.prog 14 #[.string s] w fun x w' => x = .returned (.agg (arr 16 (d16 (ofN s)))) ∧ Below w.heap.size w w' := by
  have h := rof_any s (8 * s.size) w hs rfl
  rwa [ov_all s s.size _ rfl] at h

set_option maxRecDepth 100000 in
set_option maxHeartbeats 1000000 in
theorem reads_long (s : ByteArray) (w : World) (hs : 4096 < s.size) (hl : s.size ≤ maxLen) :
    Calls Try.prog 3 #[.string s] w fun r w' => r = .returned (.bool true) ∧ Below w.heap.size w w' := by
  unfold maxLen at hl
  have h1 : (4096 : Int) < (s.size : Int) := by omega
  go_enter Try.func3, Try.ntmps3
  go_wp2_with fail
  refine (alive_any _).mono ?_
  rintro _ w1 ⟨rfl, O⟩
  go_wp2
  go_ret
  exact ⟨rfl, O⟩

set_option maxRecDepth 100000 in
set_option maxHeartbeats 1000000 in
theorem reads_odd (s : ByteArray) (w : World) (hs : s.size ≤ 4096) (h1 : s.size ≠ 32) (h2 : s.size ≠ 64) :
    Calls Try.prog 3 #[.string s] w fun r w' => r = .returned (.bool true) ∧ Below w.heap.size w w' := by
  have b1 : ¬ (4096 : Int) < (s.size : Int) := by omega
  have b2 : ((s.size : Int) != 32) = true := by simp; omega
  have b3 : ((s.size : Int) != 64) = true := by simp; omega
  have HN := hide (And.intro h1 h2)
  clear h1 h2
  have H5 : Hid (∀ w, Calls Try.prog 12 #[.agg (arr 4 (d64 0)), .agg #[Value.int IntKind.u64 0, Value.int IntKind.u64 0, Value.int IntKind.u64 0, Value.int IntKind.u64 0]] w fun x w' => x = .returned (.bool true) ∧ Below w.heap.size w w') := hide same0
  go_enter Try.func3, Try.ntmps3
  go_wp2_with fail
  refine (of_no s _ HN.out.1 HN.out.2).mono ?_
  rintro _ w1 ⟨rfl, O⟩
  generalize d64 0 = f at *
  have RC : Row (w1.alloc (.cells #[Value.int IntKind.u64 0, Value.int IntKind.u64 0, Value.int IntKind.u64 0, Value.int IntKind.u64 0] 27)) w1.heap.size 27 4 (fun _ => 0) := Row.new w1 27 4 (fun _ => 0)
  have BB := below_setCells (g := w1.heap.size) (Nat.le_refl _) (arr 4 (f)).toList 0 (new_below w1 (.cells #[Value.int IntKind.u64 0, Value.int IntKind.u64 0, Value.int IntKind.u64 0, Value.int IntKind.u64 0] 27))
  have RA := hide (RC.setAll (f))
  have OO := hide (O.trans (BB.mono O.size))
  clear O BB 
  go_wp2_with (refine wpList_store_mid rfl 27 _ _ rfl w1.heap.size 0 (arr 4 (f)) rfl rfl ?th1 (info27 _) (arr_one _ _) ?_)
  case th1 => rw [arr_size]; exact RC.there
  replace RC := RA.out
  have O := OO.out
  clear RA OO 
  generalize w1.heap.size = ga at *
  generalize (w1.alloc (.cells #[Value.int IntKind.u64 0, Value.int IntKind.u64 0, Value.int IntKind.u64 0, Value.int IntKind.u64 0] 27)).setCells ga 0 (arr 4 (f)).toList = W1 at *
  refine (clamp_no s _ HN.out.1).mono ?_
  rintro _ w2 ⟨rfl, hb⟩
  replace RC := RC.keep hb
  replace O := O.trans (hb.mono O.size)
  clear hb
  go_wp2_with fail
  refine (canon_no s _ HN.out.1).mono ?_
  rintro _ w3 ⟨rfl, hb⟩
  replace RC := RC.keep hb
  replace O := O.trans (hb.mono O.size)
  clear hb
  go_wp2_with fail
  refine (rcanon_no s _ HN.out.1).mono ?_
  rintro _ w4 ⟨rfl, hb⟩
  replace RC := RC.keep hb
  replace O := O.trans (hb.mono O.size)
  clear hb
  go_wp2_with (refine wpList_load_row_on rfl 27 _ rfl ga rfl 27 (arr 4 f) (0, 0) _ ?hg5 Try.underlying27 rfl (info27 _) ?_)
  case hg5 => exact RC
  refine (H5.out _).mono ?_
  rintro _ w5 ⟨rfl, hb⟩
  replace O := O.trans (hb.mono O.size)
  clear hb H5 RC
  go_wp2_with fail
  refine (alive_any _).mono ?_
  rintro _ w6 ⟨rfl, hb⟩
  replace O := O.trans (hb.mono O.size)
  clear hb
  go_wp2
  go_ret
  exact ⟨rfl, O⟩

set_option maxRecDepth 100000 in
set_option maxHeartbeats 1000000 in
theorem reads_64 (s : ByteArray) (w : World) (hs : s.size = 64) :
    Calls Try.prog 3 #[.string s] w fun r w' => r = .returned (.bool true) ∧ Below w.heap.size w w' := by
  have b1 : ¬ (4096 : Int) < (s.size : Int) := by omega
  have b2 : ((s.size : Int) != 32) = true := by simp [hs]
  have b3 : ((s.size : Int) != 64) = false := by simp [hs]
  have H1 : Hid (∀ w, Calls Try.prog 7 #[.string s] w fun r w' => r = .returned (.tuple #[.agg (arr 4 (d64 (ofN s))), .int .i64 0]) ∧ Below w.heap.size w w') := hide fun w => of_any s w (by omega) (by omega)
  have HI := hide fun w => isN (ofN s) w (ofN_bd s)
  have HO : Hid (∀ w, Calls Try.prog 14 #[.string s] w fun x w' => x = .returned (.agg (arr 16 (d16 (ofN s)))) ∧ Below w.heap.size w w') := hide fun w => rofN s w (by omega)
  have HN := hide hs
  clear hs
  generalize d64 (ofN s) = f at *
  generalize d16 (ofN s) = g at *
  go_enter Try.func3, Try.ntmps3
  go_wp2_with fail
  refine (H1.out _).mono ?_
  rintro _ w1 ⟨rfl, O⟩
  have RC : Row (w1.alloc (.cells #[Value.int IntKind.u64 0, Value.int IntKind.u64 0, Value.int IntKind.u64 0, Value.int IntKind.u64 0] 27)) w1.heap.size 27 4 (fun _ => 0) := Row.new w1 27 4 (fun _ => 0)
  have BB := below_setCells (g := w1.heap.size) (Nat.le_refl _) (arr 4 (f)).toList 0 (new_below w1 (.cells #[Value.int IntKind.u64 0, Value.int IntKind.u64 0, Value.int IntKind.u64 0, Value.int IntKind.u64 0] 27))
  have RA := hide (RC.setAll (f))
  have OO := hide (O.trans (BB.mono O.size))
  clear O BB 
  go_wp2_with (refine wpList_store_mid rfl 27 _ _ rfl w1.heap.size 0 (arr 4 (f)) rfl rfl ?th1 (info27 _) (arr_one _ _) ?_)
  case th1 => rw [arr_size]; exact RC.there
  replace RC := RA.out
  have O := OO.out
  clear RA OO 
  generalize w1.heap.size = ga at *
  generalize (w1.alloc (.cells #[Value.int IntKind.u64 0, Value.int IntKind.u64 0, Value.int IntKind.u64 0, Value.int IntKind.u64 0] 27)).setCells ga 0 (arr 4 (f)).toList = W1 at *
  refine (clamp_no s _ (by rw [HN.out]; decide)).mono ?_
  rintro _ w2 ⟨rfl, hb⟩
  replace RC := RC.keep hb
  replace O := O.trans (hb.mono O.size)
  clear hb
  go_wp2_with fail
  refine (canon_no s _ (by rw [HN.out]; decide)).mono ?_
  rintro _ w3 ⟨rfl, hb⟩
  replace RC := RC.keep hb
  replace O := O.trans (hb.mono O.size)
  clear hb
  go_wp2_with fail
  refine (rcanon_no s _ (by rw [HN.out]; decide)).mono ?_
  rintro _ w4 ⟨rfl, hb⟩
  replace RC := RC.keep hb
  replace O := O.trans (hb.mono O.size)
  clear hb
  go_wp2_with fail
  generalize w4 = W9 at *
  have hne := KW.some W9
  have HG : Hid (∀ w', (∃ s : KW W9, w' = s.w) → w'.heap[ga]? = some (.cells (arr 4 f) 27 (0, 0))) := hide (by
    rintro _ ⟨s, rfl⟩
    exact RC.keep s.keep)
  have KK := hide O
  clear RC O
  refine wp_region_keep (by kernel_rfl) (by kernel_rfl) ?_
  go_big_quiet_step (fail)
  go_big_quiet_step (fail)
  go_big_quiet_step (fail)
  go_big_quiet_want
  refine quiet_load_row 27 _ rfl ga rfl 27 (arr 4 f) (0, 0) _ HG.out Try.underlying27 rfl (info27 _) ?_
  go_simp
  go_big_quiet_on
  go_big_quiet_step (fail)
  go_big_quiet_step ((exact keep_of (HO.out _)))
  go_big_quiet_step ((exact keep_of (HI.out _)))
  go_big_quiet_step (fail)
  go_big_quiet_step (fail)
  go_big_quiet_step ((exact keep_of (alive_any _)))
  go_big_quiet_step (fail)
  go_big_quiet_step (fail)
  refine wpQuiet_nil ?_
  intro s
  have hw := KK.out.trans (s.keep.mono KK.out.size)
  clear HG hne KK HO HI
  go_wp2
  go_ret
  exact ⟨rfl, hw⟩

set_option maxRecDepth 100000 in
set_option maxHeartbeats 1000000 in
theorem reads_32 (s : ByteArray) (w : World) (hs : s.size = 32) :
    Calls Try.prog 3 #[.string s] w fun r w' => r = .returned (.bool true) ∧ Below w.heap.size w w' := by
  have b1 : ¬ (4096 : Int) < (s.size : Int) := by omega
  have b2 : ((s.size : Int) != 32) = false := by simp [hs]
  have H1 : Hid (∀ w, Calls Try.prog 7 #[.string s] w fun r w' => r = .returned (.tuple #[.agg (arr 4 (d64 (ofN s))), .int .i64 0]) ∧ Below w.heap.size w w') := hide fun w => of_any s w (by omega) (by omega)
  have HI := hide fun w => isN (ofN s) w (ofN_bd s)
  have HO : Hid (∀ w, Calls Try.prog 14 #[.string s] w fun x w' => x = .returned (.agg (arr 16 (d16 (ofN s)))) ∧ Below w.heap.size w w') := hide fun w => rofN s w (by omega)
  have HN := hide hs
  clear hs
  generalize d64 (ofN s) = f at *
  generalize d16 (ofN s) = g at *
  go_enter Try.func3, Try.ntmps3
  go_wp2_with fail
  refine (H1.out _).mono ?_
  rintro _ w1 ⟨rfl, O⟩
  have RC : Row (w1.alloc (.cells #[Value.int IntKind.u64 0, Value.int IntKind.u64 0, Value.int IntKind.u64 0, Value.int IntKind.u64 0] 27)) w1.heap.size 27 4 (fun _ => 0) := Row.new w1 27 4 (fun _ => 0)
  have BB := below_setCells (g := w1.heap.size) (Nat.le_refl _) (arr 4 (f)).toList 0 (new_below w1 (.cells #[Value.int IntKind.u64 0, Value.int IntKind.u64 0, Value.int IntKind.u64 0, Value.int IntKind.u64 0] 27))
  have RA := hide (RC.setAll (f))
  have OO := hide (O.trans (BB.mono O.size))
  clear O BB 
  go_wp2_with (refine wpList_store_mid rfl 27 _ _ rfl w1.heap.size 0 (arr 4 (f)) rfl rfl ?th1 (info27 _) (arr_one _ _) ?_)
  case th1 => rw [arr_size]; exact RC.there
  replace RC := RA.out
  have O := OO.out
  clear RA OO 
  generalize w1.heap.size = ga at *
  generalize (w1.alloc (.cells #[Value.int IntKind.u64 0, Value.int IntKind.u64 0, Value.int IntKind.u64 0, Value.int IntKind.u64 0] 27)).setCells ga 0 (arr 4 (f)).toList = W1 at *
  have CL : Hid (∀ w, Calls Try.prog 8 #[.string s] w fun r w' => r = .returned (.tuple #[.string (clS s), .int .i64 0]) ∧ Below w.heap.size w w') := hide fun w => clamp_yes s w HN.out
  have CM : Hid (∀ w, Calls Try.prog 11 #[.string s] w fun r w' => r = .returned (.string (clS s)) ∧ Below w.heap.size w w') := hide fun w => rclamp_yes s w HN.out
  generalize clS s = C at *
  refine (CL.out _).mono ?_
  rintro _ w2 ⟨rfl, hb⟩
  replace RC := RC.keep hb
  replace O := O.trans (hb.mono O.size)
  clear hb
  go_wp2_with fail
  refine (canon_yes s _ HN.out).mono ?_
  rintro _ w3 ⟨rfl, hb⟩
  replace RC := RC.keep hb
  replace O := O.trans (hb.mono O.size)
  clear hb
  go_wp2_with fail
  refine (rcanon_yes s _ HN.out).mono ?_
  rintro _ w4 ⟨rfl, hb⟩
  replace RC := RC.keep hb
  replace O := O.trans (hb.mono O.size)
  clear hb
  generalize decide (bv s 32 < Lm) = d at *
  have hd : (d != d) = false := by cases d <;> rfl
  go_wp2_with fail
  refine (CM.out _).mono ?_
  rintro _ w5 ⟨rfl, hb⟩
  replace RC := RC.keep hb
  replace O := O.trans (hb.mono O.size)
  clear hb CM CL
  have hcc : (C.toList != C.toList) = false := by simp
  go_wp2_with fail
  generalize w5 = W9 at *
  have hne := KW.some W9
  have HG : Hid (∀ w', (∃ s : KW W9, w' = s.w) → w'.heap[ga]? = some (.cells (arr 4 f) 27 (0, 0))) := hide (by
    rintro _ ⟨s, rfl⟩
    exact RC.keep s.keep)
  have KK := hide O
  clear RC O
  refine wp_region_keep (by kernel_rfl) (by kernel_rfl) ?_
  go_big_quiet_step (fail)
  go_big_quiet_step (fail)
  go_big_quiet_step (fail)
  go_big_quiet_want
  refine quiet_load_row 27 _ rfl ga rfl 27 (arr 4 f) (0, 0) _ HG.out Try.underlying27 rfl (info27 _) ?_
  go_simp
  go_big_quiet_on
  go_big_quiet_step (fail)
  go_big_quiet_step ((exact keep_of (HO.out _)))
  go_big_quiet_step ((exact keep_of (HI.out _)))
  go_big_quiet_step (fail)
  go_big_quiet_step (fail)
  go_big_quiet_step ((exact keep_of (alive_any _)))
  go_big_quiet_step (fail)
  go_big_quiet_step (fail)
  refine wpQuiet_nil ?_
  intro s
  have hw := KK.out.trans (s.keep.mono KK.out.size)
  clear HG hne KK HO HI
  go_wp2
  go_ret
  exact ⟨rfl, hw⟩

theorem reads_any (s : ByteArray) (w : World) (hl : s.size ≤ maxLen) :
    Calls Try.prog 3 #[.string s] w fun r w' => r = .returned (.bool true) ∧ Below w.heap.size w w' := by
  by_cases h : 4096 < s.size
  · exact reads_long s w h hl
  · by_cases h1 : s.size = 32
    · exact reads_32 s w h1
    · by_cases h2 : s.size = 64
      · exact reads_64 s w h2
      · exact reads_odd s w (by omega) h1 h2

end Go.Proofs.Ytaaijicpdampiaa
