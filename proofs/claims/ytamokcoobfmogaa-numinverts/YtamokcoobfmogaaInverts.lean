/- The law NumInverts, walked: it answers true. -/
import Derived.Test.YtamokcoobfmogaaInvN
import Derived.Test.YtamokcoobfmogaaAlive
import Derived.Deep.Cut
namespace Go.Proofs.Ytamokcoobfmogaa
open Go.RowKit

set_option maxRecDepth 100000 in
set_option maxHeartbeats 1000000 in
theorem inverts_no (s : ByteArray) (w : World) (hs : s.size ≠ 32) :
    Calls Try.prog 5 #[.string s] w fun r w' => r = .returned (.bool true) ∧ Below w.heap.size w w' := by
  go_enter Try.func5, Try.ntmps5
  go_wp2_with fail
  refine (oft_no s _ hs).mono ?_
  rintro _ w1 ⟨rfl, O⟩
  generalize zeroE = x at *
  go_wp2_with fail
  replace O := O.trans ((new_below w1 (.cells #[.int .u64 x.a, .int .u64 x.b, .int .u64 x.c, .int .u64 x.d, .int .u64 x.e] 27)).mono O.size)
  refine (alive_any _).mono ?_
  rintro _ w3 ⟨rfl, hb⟩
  replace O := O.trans (hb.mono O.size)
  clear hb
  go_wp2
  go_ret
  exact ⟨rfl, O⟩

set_option maxRecDepth 100000 in
set_option maxHeartbeats 4000000 in
theorem inverts_yes (s : ByteArray) (w : World) (hs : s.size = 32) :
    Calls Try.prog 5 #[.string s] w fun r w' => r = .returned (.bool true) ∧ Below w.heap.size w w' := by
  have kx := ofF_ok s
  have nx := ofF_n s
  go_enter Try.func5, Try.ntmps5
  go_wp2_with fail
  refine (oft_yes s _ hs).mono ?_
  rintro _ w1 ⟨rfl, O⟩
  generalize ofF s = x at *
  go_wp2_with fail
  have A := EAt.new w1 x 27
  replace O := O.trans ((new_below w1 (.cells #[.int .u64 x.a, .int .u64 x.b, .int .u64 x.c, .int .u64 x.d, .int .u64 x.e] 27)).mono O.size)
  refine (rof_any s _ hs).mono ?_
  rintro _ w3 ⟨rfl, hb⟩
  replace A := A.keep hb
  replace O := O.trans (hb.mono O.size)
  clear hb
  generalize w1.heap.size = ga at *
  have df := d16_dig (val s % Pm) 16
  have Sf := dS (val s)
  generalize hf : d16 (val s % Pm) = f at *
  clear hf
  have lf : S f 16 < Pm := by rw [Sf]; exact Int.emod_lt_of_pos _ Pm_pos
  have cx : Cg x.n (S f 16) := by rw [Sf]; exact nx.trans (cg_emod _).symm
  have HR := root_val (x := x) ⟨(S_bd df).1, lf⟩ cx
  have HI := rinv_val cx
  have kr := rootF_ok kx
  have ki := invF_ok kx
  have HH := hide (And.intro df (And.intro lf (And.intro kx (And.intro HR (And.intro HI (And.intro kr ki))))))
  clear df lf cx kx nx Sf HR HI kr ki

  have RF : Row (w3.alloc (.cells #[Value.int IntKind.u64 0, Value.int IntKind.u64 0, Value.int IntKind.u64 0, Value.int IntKind.u64 0, Value.int IntKind.u64 0, Value.int IntKind.u64 0, Value.int IntKind.u64 0, Value.int IntKind.u64 0, Value.int IntKind.u64 0, Value.int IntKind.u64 0, Value.int IntKind.u64 0, Value.int IntKind.u64 0, Value.int IntKind.u64 0, Value.int IntKind.u64 0, Value.int IntKind.u64 0, Value.int IntKind.u64 0] 35)) w3.heap.size 35 16 (fun _ => 0) := Row.new w3 35 16 (fun _ => 0)
  have RR := hide (RF.setAll f)
  have BB := below_setCells (g := w3.heap.size) (Nat.le_refl _) (arr 16 f).toList 0 (new_below w3 (.cells #[Value.int IntKind.u64 0, Value.int IntKind.u64 0, Value.int IntKind.u64 0, Value.int IntKind.u64 0, Value.int IntKind.u64 0, Value.int IntKind.u64 0, Value.int IntKind.u64 0, Value.int IntKind.u64 0, Value.int IntKind.u64 0, Value.int IntKind.u64 0, Value.int IntKind.u64 0, Value.int IntKind.u64 0, Value.int IntKind.u64 0, Value.int IntKind.u64 0, Value.int IntKind.u64 0, Value.int IntKind.u64 0] 35))
  have A' := hide (A.keep BB)
  have O' := hide (O.trans (BB.mono O.size))
  clear A O BB
  go_upto_region 5 with (refine wpList_store_mid rfl 35 _ _ rfl w3.heap.size 0 (arr 16 f) rfl rfl ?there (info35 _) (arr_one _ _) ?_)
  case there => rw [arr_size]; exact RF.there
  try rw [show ∀ (a : Act) (v : Value), a.put none v = a from fun _ _ => rfl]
  have A := A'.out
  have O := O'.out
  replace RF := RR.out
  clear A' O' RR
  generalize w3.heap.size = gf at *
  generalize (w3.alloc (.cells #[Value.int IntKind.u64 0, Value.int IntKind.u64 0, Value.int IntKind.u64 0, Value.int IntKind.u64 0, Value.int IntKind.u64 0, Value.int IntKind.u64 0, Value.int IntKind.u64 0, Value.int IntKind.u64 0, Value.int IntKind.u64 0, Value.int IntKind.u64 0, Value.int IntKind.u64 0, Value.int IntKind.u64 0, Value.int IntKind.u64 0, Value.int IntKind.u64 0, Value.int IntKind.u64 0, Value.int IntKind.u64 0] 35)).setCells gf 0 (arr 16 f).toList = Wgf at *
  have A2 := A
  obtain ⟨asz, af, a0, a1, a2, a3, a4⟩ := A2
  have HF := hide RF
  have HO := hide O
  clear RF O
  go_wp2_with fail
  refine (root_any x _ HH.out.2.2.1).mono ?_
  rintro _ w5 ⟨rfl, hb⟩
  rw [HH.out.2.2.2.1.1]
  clear asz af a0 a1 a2 a3 a4
  replace A := A.keep hb
  have RF := HF.out.keep hb
  have O := HO.out.trans (hb.mono HO.out.size)
  clear hb HF HO
  generalize (rootF x).1 = y at *
  replace A := A.keep (new_below w5 (.cells #[.int .u64 y.a, .int .u64 y.b, .int .u64 y.c, .int .u64 y.d, .int .u64 y.e] 27))
  replace RF := RF.keep (new_below w5 (.cells #[.int .u64 y.a, .int .u64 y.b, .int .u64 y.c, .int .u64 y.d, .int .u64 y.e] 27))
  have B := EAt.new w5 y 27
  replace O := O.trans ((new_below w5 (.cells #[.int .u64 y.a, .int .u64 y.b, .int .u64 y.c, .int .u64 y.d, .int .u64 y.e] 27)).mono O.size)
  have HA := hide A
  have HB := hide B
  have HO := hide O
  have HF := hide RF
  clear A B O RF
  go_wp2_with (refine wpList_load_row rfl 35 _ rfl gf rfl 35 (arr 16 f) (0, 0) _ HF.out Try.underlying35 rfl (info35 _) ?_)
  refine (rroot_any f _ HH.out.1).mono ?_
  rintro _ w6 ⟨rfl, hb⟩
  have A := HA.out.keep hb
  have B := HB.out.keep hb
  have RF := HF.out.keep hb
  have O := HO.out.trans (hb.mono HO.out.size)
  clear hb HA HB HF HO
  generalize w5.heap.size = gb at *
  have E2 : (y.n % Pm = S (d16 (rrF (S f 16)).1) 16) := by rw [bS (rrF_bd _), ← HH.out.2.2.2.1.2]
  have HE2 := hide E2
  clear E2
  generalize hg : d16 (rrF (S f 16)).1 = g at *
  have dg : Dig g 16 := by rw [← hg]; exact d16_dig _ 16
  have Hdg := hide dg
  clear hg dg
  generalize (rrF (S f 16)).2 = has at *

  have RG : Row (w6.alloc (.cells #[Value.int IntKind.u64 0, Value.int IntKind.u64 0, Value.int IntKind.u64 0, Value.int IntKind.u64 0, Value.int IntKind.u64 0, Value.int IntKind.u64 0, Value.int IntKind.u64 0, Value.int IntKind.u64 0, Value.int IntKind.u64 0, Value.int IntKind.u64 0, Value.int IntKind.u64 0, Value.int IntKind.u64 0, Value.int IntKind.u64 0, Value.int IntKind.u64 0, Value.int IntKind.u64 0, Value.int IntKind.u64 0] 35)) w6.heap.size 35 16 (fun _ => 0) := Row.new w6 35 16 (fun _ => 0)
  have RR := hide (RG.setAll g)
  have BB := below_setCells (g := w6.heap.size) (Nat.le_refl _) (arr 16 g).toList 0 (new_below w6 (.cells #[Value.int IntKind.u64 0, Value.int IntKind.u64 0, Value.int IntKind.u64 0, Value.int IntKind.u64 0, Value.int IntKind.u64 0, Value.int IntKind.u64 0, Value.int IntKind.u64 0, Value.int IntKind.u64 0, Value.int IntKind.u64 0, Value.int IntKind.u64 0, Value.int IntKind.u64 0, Value.int IntKind.u64 0, Value.int IntKind.u64 0, Value.int IntKind.u64 0, Value.int IntKind.u64 0, Value.int IntKind.u64 0] 35))
  have A' := hide (A.keep BB)
  have B' := hide (B.keep BB)
  have RF' := hide (RF.keep BB)
  have O' := hide (O.trans (BB.mono O.size))
  clear A B RF O BB
  go_wp2_with (refine wpList_store_mid rfl 35 _ _ rfl w6.heap.size 0 (arr 16 g) rfl rfl ?there (info35 _) (arr_one _ _) ?_)
  case there => rw [arr_size]; exact RG.there
  try rw [show ∀ (a : Act) (v : Value), a.put none v = a from fun _ _ => rfl]
  have A := A'.out
  have B := B'.out
  have RF := RF'.out
  have O := O'.out
  replace RG := RR.out
  clear A' B' RF' O' RR
  generalize w6.heap.size = gg at *
  generalize (w6.alloc (.cells #[Value.int IntKind.u64 0, Value.int IntKind.u64 0, Value.int IntKind.u64 0, Value.int IntKind.u64 0, Value.int IntKind.u64 0, Value.int IntKind.u64 0, Value.int IntKind.u64 0, Value.int IntKind.u64 0, Value.int IntKind.u64 0, Value.int IntKind.u64 0, Value.int IntKind.u64 0, Value.int IntKind.u64 0, Value.int IntKind.u64 0, Value.int IntKind.u64 0, Value.int IntKind.u64 0, Value.int IntKind.u64 0] 35)).setCells gg 0 (arr 16 g).toList = Wgg at *
  have hne := KW.some Wgg
  have a0 := A.k0
  have a1 := A.k1
  have a2 := A.k2
  have a3 := A.k3
  have a4 := A.k4
  have b0 := B.k0
  have b1 := B.k1
  have b2 := B.k2
  have b3 := B.k3
  have b4 := B.k4
  have hgf : ∀ w', (∃ s : KW Wgg, w' = s.w) → w'.heap[gf]? = some (.cells (arr 16 f) 35 (0, 0)) := by
    rintro _ ⟨s, rfl⟩
    exact RF.keep s.keep
  have hgg : ∀ w', (∃ s : KW Wgg, w' = s.w) → w'.heap[gg]? = some (.cells (arr 16 g) 35 (0, 0)) := by
    rintro _ ⟨s, rfl⟩
    exact RG.keep s.keep
  have HF := hide hgf
  have HG := hide hgg
  have HO := hide O
  clear hgf hgg A B RF RG O
  have F1 : Hid (∀ w, Calls Try.prog 12 #[(invF x).v, .agg (arr 16 (d16 (pwm (S f 16) (xbit 255 21) 255)))] w fun r w' => r = .returned (.bool true) ∧ Below w.heap.size w w') := hide fun w => is_yes _ _ w HH.out.2.2.2.2.2.2 (d16_dig _ 16) (by rw [bS (pwm_bd _ _ _), HH.out.2.2.2.2.1.emod, em_self (pwm_bd _ _ _)])
  have F2 : Hid (∀ w, Calls Try.prog 12 #[y.v, .agg (arr 16 g)] w fun r w' => r = .returned (.bool true) ∧ Below w.heap.size w w') := hide fun w => is_yes _ _ w HH.out.2.2.2.2.2.1 Hdg.out HE2.out
  have C1 := hide fun w => inv_any x w HH.out.2.2.1
  have D1 := hide fun w => rinv_any f w HH.out.1
  have hq : (has == has) = true := by simp
  clear HH Hdg HE2
  generalize d16 (pwm (S f 16) (xbit 255 21) 255) = r1 at *
  generalize invF x = z1 at *
  refine wp_region_keep (by kernel_rfl) (by kernel_rfl) ?_
  go_big_quiet_step (fail)
  go_big_quiet_step ((exact keep_of (C1.out _)))
  go_big_quiet_want
  refine quiet_load_row 35 _ rfl gf rfl 35 (arr 16 f) (0, 0) _ HF.out Try.underlying35 rfl (info35 _) ?_
  go_simp
  go_big_quiet_on
  go_big_quiet_step ((exact keep_of (D1.out _)))
  go_big_quiet_step ((exact keep_of (F1.out _)))
  go_big_quiet_step (fail)
  go_big_quiet_step (fail)
  go_big_quiet_step (fail)
  go_big_quiet_step (fail)
  go_big_quiet_step (fail)
  go_big_quiet_step (fail)
  go_big_quiet_step (fail)
  go_big_quiet_want
  refine quiet_load_row 35 _ rfl gg rfl 35 (arr 16 g) (0, 0) _ HG.out Try.underlying35 rfl (info35 _) ?_
  go_simp
  go_big_quiet_on
  go_big_quiet_step ((exact keep_of (F2.out _)))
  go_big_quiet_step (fail)
  go_big_quiet_step (fail)
  go_big_quiet_step ((exact keep_of (alive_any _)))
  go_big_quiet_step (fail)
  go_big_quiet_step (fail)
  refine wpQuiet_nil ?_
  intro s
  have hw := HO.out.trans (s.keep.mono HO.out.size)
  clear HF HG hne a0 a1 a2 a3 a4 b0 b1 b2 b3 b4 HO hq C1 D1 F1 F2
  go_wp2
  go_ret
  exact ⟨rfl, hw⟩


end Go.Proofs.Ytamokcoobfmogaa
