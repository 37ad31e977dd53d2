/- NumReads answers true, whatever the bytes and the small number. -/
import Derived.Test.YtamokcoobfmogaaCanon
import Derived.Test.YtamokcoobfmogaaAlive
namespace Go.Proofs.Ytamokcoobfmogaa
open Go.RowKit

theorem d16_val {N : Int} (h0 : 0 ≤ N) (h1 : N < Pm) : S (d16 N) 16 = N := by
  have hP : Pm < 65536 ^ 16 := by decide
  rw [d16_S _ h0, Int.emod_eq_of_lt h0 (by omega)]

theorem is_small (n : Int) (w : World) (h0 : 0 ≤ n) (h1 : n < 4294967296) :
    Calls Try.prog 12 #[(smallF n).v, .agg (arr 16 (d16 n))] w fun r w' => r = .returned (.bool true) ∧ Below w.heap.size w w' := by
  have hP : (4294967296 : Int) < Pm := by decide
  refine is_yes _ _ w (smallF_ok h0 h1) (d16_dig _ 16) ?_
  rw [(smallF_n n).emod, Int.emod_eq_of_lt h0 (by omega), d16_val h0 (by omega)]

theorem val_mod (s : ByteArray) : 0 ≤ val s % Pm ∧ val s % Pm < Pm := ⟨Int.emod_nonneg _ (by decide), Int.emod_lt_of_pos _ (by decide)⟩

theorem is_of (s : ByteArray) (w : World) :
    Calls Try.prog 12 #[(ofF s).v, .agg (arr 16 (d16 (val s % Pm)))] w fun r w' => r = .returned (.bool true) ∧ Below w.heap.size w w' := by
  refine is_yes _ _ w (ofF_ok s) (d16_dig _ 16) ?_
  rw [(ofF_n s).emod, d16_val (val_mod s).1 (val_mod s).2]

theorem oddB (N : Int) : (bits BinOp.and IntKind.u64 (d16 N 0) 1 == 1) = (N % 2 == 1) := by
  have h := d16_dig N 1 0 (by omega)
  rw [u64_and _ 1 h.1 (by omega) (by decide) (by decide), show (1 : Int).toNat = 1 from rfl, nat_mask1]
  have : (((d16 N 0).toNat % 2 : Nat) : Int) = N % 2 := by
    have e : d16 N 0 = N % 65536 := by simp [d16]
    rw [e] at *
    omega
  rw [this]

set_option maxRecDepth 100000 in
set_option maxHeartbeats 1000000 in
theorem reads_long (s : ByteArray) (n : Int) (w : World) (hs : 4096 < s.size) (hl : s.size ≤ maxLen) :
    Calls Try.prog 3 #[.string s, .int .u32 n] w fun r w' => r = .returned (.bool true) ∧ Below w.heap.size w w' := by
  unfold maxLen at hl
  have h1 : (4096 : Int) < (s.size : Int) := by omega
  go_enter Try.func3, Try.ntmps3
  go_wp2_with fail
  refine (alive_any _).mono ?_
  rintro _ w1 ⟨rfl, hb⟩
  go_wp2
  go_ret
  exact ⟨rfl, hb⟩

set_option maxRecDepth 100000 in
set_option maxHeartbeats 1000000 in
theorem reads_no (s : ByteArray) (n : Int) (w : World) (hs : s.size ≤ 4096) (hne : s.size ≠ 32) (h0 : 0 ≤ n) (h1 : n < 4294967296) :
    Calls Try.prog 3 #[.string s, .int .u32 n] w fun r w' => r = .returned (.bool true) ∧ Below w.heap.size w w' := by
  have b1 : ¬ (4096 : Int) < (s.size : Int) := by omega
  have b2 : ((s.size : Int) != 32) = true := by simp; omega
  have HN := hide hne
  clear hne
  go_enter Try.func3, Try.ntmps3
  go_wp2_with fail
  refine (of_no s _ HN.out).mono ?_
  rintro _ w1 ⟨rfl, O⟩
  go_wp2_with fail
  have A := EAt.new w1 zeroE 27
  replace O := O.trans ((new_below w1 (.cells #[.int .u64 zeroE.a, .int .u64 zeroE.b, .int .u64 zeroE.c, .int .u64 zeroE.d, .int .u64 zeroE.e] 27)).mono O.size)
  refine (canon_no s _ HN.out).mono ?_
  rintro _ w2 ⟨rfl, hb⟩
  replace A := A.keep hb
  replace O := O.trans (hb.mono O.size)
  clear hb
  generalize w1.heap.size = ga at *
  go_wp2_with fail
  refine (rcanon_no s _ HN.out).mono ?_
  rintro _ w3 ⟨rfl, hb⟩
  replace A := A.keep hb
  replace O := O.trans (hb.mono O.size)
  clear hb
  go_wp2_with fail
  refine (small_any n _ h0 h1).mono ?_
  rintro _ w4 ⟨rfl, hb⟩
  replace A := A.keep hb
  replace O := O.trans (hb.mono O.size)
  clear hb
  go_wp2_with fail
  refine (rsmall_any n _ h0 h1).mono ?_
  rintro _ w5 ⟨rfl, hb⟩
  replace A := A.keep hb
  replace O := O.trans (hb.mono O.size)
  clear hb
  go_wp2_with fail
  refine (is_small n _ h0 h1).mono ?_
  rintro _ w6 ⟨rfl, hb⟩
  replace A := A.keep hb
  replace O := O.trans (hb.mono O.size)
  clear hb
  have A2 := A
  obtain ⟨asz, af, a0, a1, a2, a3, a4⟩ := A
  go_wp2_with fail
  refine (same_any zeroE zeroE _ zeroE_ok zeroE_ok).mono ?_
  rintro _ w7 ⟨rfl, hb⟩
  replace O := O.trans (hb.mono O.size)
  clear hb asz af a0 a1 a2 a3 a4 A2
  rw [show (zeroE.n % Pm == zeroE.n % Pm) = true by simp]
  go_wp2_with fail
  refine (alive_any _).mono ?_
  rintro _ w8 ⟨rfl, hb⟩
  replace O := O.trans (hb.mono O.size)
  clear hb
  go_wp2
  go_ret
  exact ⟨rfl, O⟩

set_option maxRecDepth 100000 in
set_option maxHeartbeats 4000000 in
theorem reads_yes (s : ByteArray) (n : Int) (w : World) (hs : s.size = 32) (h0 : 0 ≤ n) (h1 : n < 4294967296) :
    Calls Try.prog 3 #[.string s, .int .u32 n] w fun r w' => r = .returned (.bool true) ∧ Below w.heap.size w w' := by
  have b1 : ¬ (4096 : Int) < (s.size : Int) := by omega
  have b2 : ((s.size : Int) != 32) = false := by simp [hs]
  have HN := hide hs
  clear hs
  have kx := ofF_ok s
  have HB := hide (show (((ofF s).n % Pm % 2 == 1) == (bits BinOp.and IntKind.u64 (d16 (val s % Pm) 0) 1 == 1)) = true by rw [oddB, (ofF_n s).emod]; simp)
  go_enter Try.func3, Try.ntmps3
  go_wp2_with fail
  refine (of_yes s _ HN.out).mono ?_
  rintro _ w1 ⟨rfl, O⟩
  go_wp2_with fail
  have HI := hide (is_of s)
  generalize ofF s = x at *
  have A := EAt.new w1 x 27
  replace O := O.trans ((new_below w1 (.cells #[.int .u64 x.a, .int .u64 x.b, .int .u64 x.c, .int .u64 x.d, .int .u64 x.e] 27)).mono O.size)
  refine (canon_yes s _ HN.out).mono ?_
  rintro _ w2 ⟨rfl, hb⟩
  replace A := A.keep hb
  replace O := O.trans (hb.mono O.size)
  clear hb
  generalize w1.heap.size = ga at *
  go_wp2_with fail
  refine (rcanon_yes s _ HN.out).mono ?_
  rintro _ w3 ⟨rfl, hb⟩
  replace A := A.keep hb
  replace O := O.trans (hb.mono O.size)
  clear hb
  generalize decide (val s < Pm) = d at *
  have hd : (d != d) = false := by cases d <;> rfl
  go_wp2_with fail
  refine (small_any n _ h0 h1).mono ?_
  rintro _ w4 ⟨rfl, hb⟩
  replace A := A.keep hb
  replace O := O.trans (hb.mono O.size)
  clear hb
  go_wp2_with fail
  refine (rsmall_any n _ h0 h1).mono ?_
  rintro _ w5 ⟨rfl, hb⟩
  replace A := A.keep hb
  replace O := O.trans (hb.mono O.size)
  clear hb
  go_wp2_with fail
  refine (is_small n _ h0 h1).mono ?_
  rintro _ w6 ⟨rfl, hb⟩
  replace A := A.keep hb
  replace O := O.trans (hb.mono O.size)
  clear hb
  go_wp2_with fail
  refine (rof_any s _ HN.out).mono ?_
  rintro _ w7 ⟨rfl, hb⟩
  replace A := A.keep hb
  replace O := O.trans (hb.mono O.size)
  clear hb hd
  generalize d16 (val s % Pm) = f at *
  have R : Row (w7.alloc (.cells #[Value.int IntKind.u64 0, Value.int IntKind.u64 0, Value.int IntKind.u64 0, Value.int IntKind.u64 0, Value.int IntKind.u64 0, Value.int IntKind.u64 0, Value.int IntKind.u64 0, Value.int IntKind.u64 0, Value.int IntKind.u64 0, Value.int IntKind.u64 0, Value.int IntKind.u64 0, Value.int IntKind.u64 0, Value.int IntKind.u64 0, Value.int IntKind.u64 0, Value.int IntKind.u64 0, Value.int IntKind.u64 0] 35)) w7.heap.size 35 16 (fun _ => 0) := Row.new w7 35 16 (fun _ => 0)
  have RR := hide (R.setAll f)
  have BB := below_setCells (g := w7.heap.size) (Nat.le_refl _) (arr 16 f).toList 0 (new_below w7 (.cells #[Value.int IntKind.u64 0, Value.int IntKind.u64 0, Value.int IntKind.u64 0, Value.int IntKind.u64 0, Value.int IntKind.u64 0, Value.int IntKind.u64 0, Value.int IntKind.u64 0, Value.int IntKind.u64 0, Value.int IntKind.u64 0, Value.int IntKind.u64 0, Value.int IntKind.u64 0, Value.int IntKind.u64 0, Value.int IntKind.u64 0, Value.int IntKind.u64 0, Value.int IntKind.u64 0, Value.int IntKind.u64 0] 35))
  have A' := hide (A.keep BB)
  have O' := hide (O.trans (BB.mono O.size))
  clear A O BB
  go_wp2_with (refine wpList_store_mid rfl 35 _ _ rfl w7.heap.size 0 (arr 16 f) rfl rfl (by rw [arr_size]; exact R.there) (info35 _) (arr_one _ _) ?_)
  rw [show ∀ (a : Act) (v : Value), a.put none v = a from fun _ _ => rfl]
  have A := A'.out
  have O := hide O'.out
  replace R := RR.out
  clear A' O' RR
  generalize w7.heap.size = gb at *
  generalize (w7.alloc (.cells #[Value.int IntKind.u64 0, Value.int IntKind.u64 0, Value.int IntKind.u64 0, Value.int IntKind.u64 0, Value.int IntKind.u64 0, Value.int IntKind.u64 0, Value.int IntKind.u64 0, Value.int IntKind.u64 0, Value.int IntKind.u64 0, Value.int IntKind.u64 0, Value.int IntKind.u64 0, Value.int IntKind.u64 0, Value.int IntKind.u64 0, Value.int IntKind.u64 0, Value.int IntKind.u64 0, Value.int IntKind.u64 0] 35)).setCells gb 0 (arr 16 f).toList = W9 at A O R ⊢
  have hne := KW.some W9
  have a0 := A.k0
  have a1 := A.k1
  have a2 := A.k2
  have a3 := A.k3
  have a4 := A.k4
  have rk : ∀ s : KW W9, s.w.cell? ⟨gb, 0, none⟩ = some (.int .u64 (f 0)) := fun s => (R.keep s.keep).cell (by omega)
  have hg3 : ∀ w', (∃ s : KW W9, w' = s.w) → w'.heap[gb]? = some (.cells (arr 16 f) 35 (0, 0)) := by
    rintro _ ⟨s, rfl⟩
    exact R.keep s.keep
  have HG := hide hg3
  clear hg3 A R
  have hB := HB.out
  clear HB
  refine wp_region_keep (by kernel_rfl) (by kernel_rfl) ?_
  go_big_quiet_step (fail)
  go_big_quiet_step (fail)
  go_big_quiet_step (fail)
  go_big_quiet_step (fail)
  go_big_quiet_want
  refine quiet_load_row 35 _ rfl gb rfl 35 (arr 16 f) (0, 0) _ HG.out Try.underlying35 rfl (info35 _) ?_
  go_simp
  go_big_quiet_on
  go_big_quiet_step ((exact keep_of (HI.out _)))
  go_big_quiet_step (fail)
  go_big_quiet_step (fail)
  go_big_quiet_step (fail)
  go_big_quiet_step ((exact keep_of (odd_any x _ kx)))
  go_big_quiet_step (fail)
  go_big_quiet_step (fail)
  go_big_quiet_step (fail)
  go_big_quiet_step (fail)
  go_big_quiet_step (fail)
  go_big_quiet_step (fail)
  go_big_quiet_step (fail)
  go_big_quiet_step ((exact keep_of (alive_any _)))
  go_big_quiet_step (fail)
  go_big_quiet_step (fail)
  refine wpQuiet_nil ?_
  intro s
  have hw := O.out.trans (s.keep.mono O.out.size)
  clear HG hne a0 a1 a2 a3 a4 rk hB O HI
  go_wp2
  go_ret
  exact ⟨rfl, hw⟩

end Go.Proofs.Ytamokcoobfmogaa
