/- The law NumReckons, walked: it answers true. -/
import Derived.Test.YtamokcoobfmogaaOfL
import Derived.Test.YtamokcoobfmogaaRneg
import Derived.Test.YtamokcoobfmogaaRmul
import Derived.Test.YtamokcoobfmogaaAlive
namespace Go.Proofs.Ytamokcoobfmogaa
open Go.RowKit

set_option maxRecDepth 100000 in
set_option maxHeartbeats 1000000 in
theorem reckons_no1 (s t : ByteArray) (w : World) (hs : s.size ≠ 32) :
    Calls Try.prog 4 #[.string s, .string t] w fun r w' => r = .returned (.bool true) ∧ Below w.heap.size w w' := by
  have HT : Hid (∀ w, ∃ z b, Calls Try.prog 18 #[.string t] w fun r w' => r = .returned (.tuple #[E5.v z, .bool b]) ∧ Below w.heap.size w w') := hide fun w => by
    by_cases h : t.size = 32
    · exact ⟨_, _, oft_yes t w h⟩
    · exact ⟨_, _, oft_no t w h⟩
  go_enter Try.func4, Try.ntmps4
  go_wp2_with fail
  refine (oft_no s _ hs).mono ?_
  rintro _ w1 ⟨rfl, O⟩
  generalize zeroE = x at *
  go_wp2_with fail
  replace O := O.trans ((new_below w1 (.cells #[.int .u64 x.a, .int .u64 x.b, .int .u64 x.c, .int .u64 x.d, .int .u64 x.e] 27)).mono O.size)
  obtain ⟨y, b, ht⟩ := HT.out (w1.alloc (.cells #[.int .u64 x.a, .int .u64 x.b, .int .u64 x.c, .int .u64 x.d, .int .u64 x.e] 27))
  refine ht.mono ?_
  rintro _ w2 ⟨rfl, hb⟩
  replace O := O.trans (hb.mono O.size)
  clear hb ht HT
  go_wp2_with fail
  replace O := O.trans ((new_below w2 (.cells #[.int .u64 y.a, .int .u64 y.b, .int .u64 y.c, .int .u64 y.d, .int .u64 y.e] 27)).mono O.size)
  refine (alive_any _).mono ?_
  rintro _ w3 ⟨rfl, hb⟩
  replace O := O.trans (hb.mono O.size)
  clear hb
  go_wp2
  go_ret
  exact ⟨rfl, O⟩

set_option maxRecDepth 100000 in
set_option maxHeartbeats 1000000 in
theorem reckons_no2 (s t : ByteArray) (w : World) (hs : s.size = 32) (ht : t.size ≠ 32) :
    Calls Try.prog 4 #[.string s, .string t] w fun r w' => r = .returned (.bool true) ∧ Below w.heap.size w w' := by
  go_enter Try.func4, Try.ntmps4
  go_wp2_with fail
  refine (oft_yes s _ hs).mono ?_
  rintro _ w1 ⟨rfl, O⟩
  generalize ofF s = x at *
  go_wp2_with fail
  replace O := O.trans ((new_below w1 (.cells #[.int .u64 x.a, .int .u64 x.b, .int .u64 x.c, .int .u64 x.d, .int .u64 x.e] 27)).mono O.size)
  refine (oft_no t _ ht).mono ?_
  rintro _ w2 ⟨rfl, hb⟩
  replace O := O.trans (hb.mono O.size)
  clear hb
  generalize zeroE = y at *
  go_wp2_with fail
  replace O := O.trans ((new_below w2 (.cells #[.int .u64 y.a, .int .u64 y.b, .int .u64 y.c, .int .u64 y.d, .int .u64 y.e] 27)).mono O.size)
  refine (alive_any _).mono ?_
  rintro _ w3 ⟨rfl, hb⟩
  replace O := O.trans (hb.mono O.size)
  clear hb
  go_wp2
  go_ret
  exact ⟨rfl, O⟩

set_option maxRecDepth 100000 in
set_option maxHeartbeats 8000000 in
theorem reckons_yes (s t : ByteArray) (w : World) (hs : s.size = 32) (ht : t.size = 32) :
    Calls Try.prog 4 #[.string s, .string t] w fun r w' => r = .returned (.bool true) ∧ Below w.heap.size w w' := by
  have kx := ofF_ok s
  have ky := ofF_ok t
  have nx := ofF_n s
  have ny := ofF_n t
  go_enter Try.func4, Try.ntmps4
  go_wp2_with fail
  refine (oft_yes s _ hs).mono ?_
  rintro _ w1 ⟨rfl, O⟩
  generalize ofF s = x at *
  go_wp2_with fail
  have A := EAt.new w1 x 27
  replace O := O.trans ((new_below w1 (.cells #[.int .u64 x.a, .int .u64 x.b, .int .u64 x.c, .int .u64 x.d, .int .u64 x.e] 27)).mono O.size)
  refine (oft_yes t _ ht).mono ?_
  rintro _ w2 ⟨rfl, hb⟩
  replace A := A.keep hb
  replace O := O.trans (hb.mono O.size)
  clear hb
  generalize ofF t = y at *
  generalize w1.heap.size = ga at *
  go_wp2_with fail
  have B := EAt.new w2 y 27
  replace A := A.keep (new_below w2 (.cells #[.int .u64 y.a, .int .u64 y.b, .int .u64 y.c, .int .u64 y.d, .int .u64 y.e] 27))
  replace O := O.trans ((new_below w2 (.cells #[.int .u64 y.a, .int .u64 y.b, .int .u64 y.c, .int .u64 y.d, .int .u64 y.e] 27)).mono O.size)
  refine (rof_any s _ hs).mono ?_
  rintro _ w3 ⟨rfl, hb⟩
  replace A := A.keep hb
  replace B := B.keep hb
  replace O := O.trans (hb.mono O.size)
  clear hb
  generalize w2.heap.size = gb at *
  have df := d16_dig (val s % Pm) 16
  have Sf := dS (val s)
  have dg := d16_dig (val t % Pm) 16
  have Sg := dS (val t)
  have Fq := hide (eqd (x := val s) (y := val t))
  generalize hf : d16 (val s % Pm) = f at *
  generalize hg : d16 (val t % Pm) = g at *
  have Hg := hide hg
  clear hf hg
  have lf : S f 16 < Pm := by rw [Sf]; exact Int.emod_lt_of_pos _ Pm_pos
  have lg : S g 16 < Pm := by rw [Sg]; exact Int.emod_lt_of_pos _ Pm_pos
  have cx : Cg x.n (S f 16) := by rw [Sf]; exact nx.trans (cg_emod _).symm
  have cy : Cg y.n (S g 16) := by rw [Sg]; exact ny.trans (cg_emod _).symm
  have HH := hide (And.intro df (And.intro dg (And.intro lf (And.intro lg (And.intro cx (And.intro cy (And.intro kx (And.intro ky (And.intro nx ny)))))))))
  clear df dg lf lg cx cy kx ky nx ny Sf Sg

  have RF : Row (w3.alloc (.cells #[Value.int IntKind.u64 0, Value.int IntKind.u64 0, Value.int IntKind.u64 0, Value.int IntKind.u64 0, Value.int IntKind.u64 0, Value.int IntKind.u64 0, Value.int IntKind.u64 0, Value.int IntKind.u64 0, Value.int IntKind.u64 0, Value.int IntKind.u64 0, Value.int IntKind.u64 0, Value.int IntKind.u64 0, Value.int IntKind.u64 0, Value.int IntKind.u64 0, Value.int IntKind.u64 0, Value.int IntKind.u64 0] 35)) w3.heap.size 35 16 (fun _ => 0) := Row.new w3 35 16 (fun _ => 0)
  have RR := hide (RF.setAll f)
  have BB := below_setCells (g := w3.heap.size) (Nat.le_refl _) (arr 16 f).toList 0 (new_below w3 (.cells #[Value.int IntKind.u64 0, Value.int IntKind.u64 0, Value.int IntKind.u64 0, Value.int IntKind.u64 0, Value.int IntKind.u64 0, Value.int IntKind.u64 0, Value.int IntKind.u64 0, Value.int IntKind.u64 0, Value.int IntKind.u64 0, Value.int IntKind.u64 0, Value.int IntKind.u64 0, Value.int IntKind.u64 0, Value.int IntKind.u64 0, Value.int IntKind.u64 0, Value.int IntKind.u64 0, Value.int IntKind.u64 0] 35))
  have A' := hide (A.keep BB)
  have B' := hide (B.keep BB)
  have O' := hide (O.trans (BB.mono O.size))
  clear A B O BB
  go_wp2_with (refine wpList_store_mid rfl 35 _ _ rfl w3.heap.size 0 (arr 16 f) rfl rfl ?there (info35 _) (arr_one _ _) ?_)
  case there => rw [arr_size]; exact RF.there
  try rw [show ∀ (a : Act) (v : Value), a.put none v = a from fun _ _ => rfl]
  have A := A'.out
  have B := B'.out
  have O := O'.out
  replace RF := RR.out
  clear A' B' O' RR
  generalize w3.heap.size = gf at *
  generalize (w3.alloc (.cells #[Value.int IntKind.u64 0, Value.int IntKind.u64 0, Value.int IntKind.u64 0, Value.int IntKind.u64 0, Value.int IntKind.u64 0, Value.int IntKind.u64 0, Value.int IntKind.u64 0, Value.int IntKind.u64 0, Value.int IntKind.u64 0, Value.int IntKind.u64 0, Value.int IntKind.u64 0, Value.int IntKind.u64 0, Value.int IntKind.u64 0, Value.int IntKind.u64 0, Value.int IntKind.u64 0, Value.int IntKind.u64 0] 35)).setCells gf 0 (arr 16 f).toList = Wgf at *
  refine (rof_any t _ ht).mono ?_
  rintro _ w4 ⟨rfl, hb⟩
  replace A := A.keep hb
  replace B := B.keep hb
  replace RF := RF.keep hb
  replace O := O.trans (hb.mono O.size)
  clear hb
  rw [Hg.out]
  clear Hg
  have RG : Row (w4.alloc (.cells #[Value.int IntKind.u64 0, Value.int IntKind.u64 0, Value.int IntKind.u64 0, Value.int IntKind.u64 0, Value.int IntKind.u64 0, Value.int IntKind.u64 0, Value.int IntKind.u64 0, Value.int IntKind.u64 0, Value.int IntKind.u64 0, Value.int IntKind.u64 0, Value.int IntKind.u64 0, Value.int IntKind.u64 0, Value.int IntKind.u64 0, Value.int IntKind.u64 0, Value.int IntKind.u64 0, Value.int IntKind.u64 0] 35)) w4.heap.size 35 16 (fun _ => 0) := Row.new w4 35 16 (fun _ => 0)
  have RR := hide (RG.setAll g)
  have BB := below_setCells (g := w4.heap.size) (Nat.le_refl _) (arr 16 g).toList 0 (new_below w4 (.cells #[Value.int IntKind.u64 0, Value.int IntKind.u64 0, Value.int IntKind.u64 0, Value.int IntKind.u64 0, Value.int IntKind.u64 0, Value.int IntKind.u64 0, Value.int IntKind.u64 0, Value.int IntKind.u64 0, Value.int IntKind.u64 0, Value.int IntKind.u64 0, Value.int IntKind.u64 0, Value.int IntKind.u64 0, Value.int IntKind.u64 0, Value.int IntKind.u64 0, Value.int IntKind.u64 0, Value.int IntKind.u64 0] 35))
  have A' := hide (A.keep BB)
  have B' := hide (B.keep BB)
  have RF' := hide (RF.keep BB)
  have O' := hide (O.trans (BB.mono O.size))
  clear A B RF O BB
  go_wp2_with (refine wpList_store_mid rfl 35 _ _ rfl w4.heap.size 0 (arr 16 g) rfl rfl ?there (info35 _) (arr_one _ _) ?_)
  case there => rw [arr_size]; exact RG.there
  try rw [show ∀ (a : Act) (v : Value), a.put none v = a from fun _ _ => rfl]
  have A := A'.out
  have B := B'.out
  have RF := RF'.out
  have O := O'.out
  replace RG := RR.out
  clear A' B' RF' O' RR
  generalize w4.heap.size = gg at *
  generalize (w4.alloc (.cells #[Value.int IntKind.u64 0, Value.int IntKind.u64 0, Value.int IntKind.u64 0, Value.int IntKind.u64 0, Value.int IntKind.u64 0, Value.int IntKind.u64 0, Value.int IntKind.u64 0, Value.int IntKind.u64 0, Value.int IntKind.u64 0, Value.int IntKind.u64 0, Value.int IntKind.u64 0, Value.int IntKind.u64 0, Value.int IntKind.u64 0, Value.int IntKind.u64 0, Value.int IntKind.u64 0, Value.int IntKind.u64 0] 35)).setCells gg 0 (arr 16 g).toList = Wgg at *
  have hne := KW.some Wgg
  have a0 := A.k0
  have a1 := A.k1
  have a2 := A.k2
  have a3 := A.k3
  have a4 := A.k4
  have b0 := B.k0
  have b1 := B.k1
  have b2 := B.k2
  have b3 := B.k3
  have b4 := B.k4
  have hgf : ∀ w', (∃ s : KW Wgg, w' = s.w) → w'.heap[gf]? = some (.cells (arr 16 f) 35 (0, 0)) := by
    rintro _ ⟨s, rfl⟩
    exact RF.keep s.keep
  have hgg : ∀ w', (∃ s : KW Wgg, w' = s.w) → w'.heap[gg]? = some (.cells (arr 16 g) 35 (0, 0)) := by
    rintro _ ⟨s, rfl⟩
    exact RG.keep s.keep
  have HF := hide hgf
  have HG := hide hgg
  have HO := hide O
  clear hgf hgg A B RF RG O
  obtain ⟨df, dg, lf, lg, cx, cy, kx, ky, nx, ny⟩ := HH.out
  clear HH
  have E1 : ∀ w, Calls Try.prog 12 #[(addF x y).v, .agg (arr 16 (d16 ((S f 16 + S g 16) % Pm)))] w fun r w' => r = .returned (.bool true) ∧ Below w.heap.size w w' := fun w => is_cg _ _ w (addF_ok kx ky) ((addF_n x y).trans (cx.add cy))
  have E2 : ∀ w, Calls Try.prog 12 #[(subF x y).v, .agg (arr 16 (d16 ((S f 16 - S g 16) % Pm)))] w fun r w' => r = .returned (.bool true) ∧ Below w.heap.size w w' := fun w => is_cg _ _ w (subF_ok kx ky) ((subF_n x y).trans (cx.sub cy))
  have E3 : ∀ w, Calls Try.prog 12 #[(mulF x y).v, .agg (arr 16 (d16 ((S f 16 * S g 16) % Pm)))] w fun r w' => r = .returned (.bool true) ∧ Below w.heap.size w w' := fun w => is_cg _ _ w (mulF_ok kx ky) ((mulF_n x y).trans (cx.mul cy))
  have E4 : ∀ w, Calls Try.prog 12 #[(negF x).v, .agg (arr 16 (d16 ((- S f 16) % Pm)))] w fun r w' => r = .returned (.bool true) ∧ Below w.heap.size w w' := fun w => is_cg _ _ w (negF_ok kx) ((negF_n x).trans cx.neg)
  have q1 : (x.n % Pm == y.n % Pm) = eqw f g 0 16 := by rw [Fq.out, nx.emod, ny.emod]
  have q2 : ((subF x y).n % Pm == zeroE.n % Pm) = eqw f g 0 16 := by
    rw [← q1, (subF_n x y).emod, zeroE_n, Bool.eq_iff_iff, beq_iff_eq, beq_iff_eq]
    constructor
    · intro h
      have := (Cg.of_emod h).add (Cg.refl y.n)
      rw [show x.n - y.n + y.n = x.n by omega, show 0 + y.n = y.n by omega] at this
      exact this.emod
    · intro h
      have := (Cg.of_emod h).sub (Cg.refl y.n)
      rw [show y.n - y.n = 0 by omega] at this
      exact this.emod
  have E5' : ∀ w, Calls Try.prog 15 #[x.v, y.v] w fun r w' => r = .returned (.bool (eqw f g 0 16)) ∧ Below w.heap.size w w' := fun w => by
    have := same_any x y w kx ky
    rwa [q1] at this
  have E6 : ∀ w, Calls Try.prog 15 #[(subF x y).v, zeroE.v] w fun r w' => r = .returned (.bool (eqw f g 0 16)) ∧ Below w.heap.size w w' := fun w => by
    have := same_any (subF x y) zeroE w (subF_ok kx ky) zeroE_ok
    rwa [q2] at this
  have C1 := hide fun w => add_any x y w kx ky
  have C2 := hide fun w => sub_any x y w kx ky
  have C3 := hide fun w => mul_any x y w kx ky
  have C4 := hide fun w => neg_any x w kx
  have D1 := hide fun w => radd_any f g w df dg
  have D2 := hide fun w => rsub_any f g w df dg lg
  have D3 := hide fun w => rmul_any f g w df dg
  have D4 := hide fun w => rneg_any f w df lf
  have F1 := hide E1
  have F2 := hide E2
  have F3 := hide E3
  have F4 := hide E4
  have F5 := hide E5'
  have F6 := hide E6
  have hq : (eqw f g 0 16 == eqw f g 0 16) = true := by simp
  clear E1 E2 E3 E4 E5' E6 q1 q2 cx cy lf lg df dg nx ny kx ky Fq
  generalize d16 ((S f 16 + S g 16) % Pm) = r1 at *
  generalize d16 ((S f 16 - S g 16) % Pm) = r2 at *
  generalize d16 ((S f 16 * S g 16) % Pm) = r3 at *
  generalize d16 ((- S f 16) % Pm) = r4 at *
  generalize addF x y = z1 at *
  generalize subF x y = z2 at *
  generalize mulF x y = z3 at *
  generalize negF x = z4 at *
  generalize hqq : eqw f g 0 16 = q at *
  have HQ := hide hqq
  clear hqq
  refine wp_region_keep (by kernel_rfl) (by kernel_rfl) ?_
  go_big_quiet_step (fail)
  go_big_quiet_step (fail)
  go_big_quiet_step ((exact keep_of (C1.out _)))
  go_big_quiet_want
  refine quiet_load_row 35 _ rfl gf rfl 35 (arr 16 f) (0, 0) _ HF.out Try.underlying35 rfl (info35 _) ?_
  go_simp
  go_big_quiet_on
  go_big_quiet_want
  refine quiet_load_row 35 _ rfl gg rfl 35 (arr 16 g) (0, 0) _ HG.out Try.underlying35 rfl (info35 _) ?_
  go_simp
  go_big_quiet_on
  go_big_quiet_step ((exact keep_of (D1.out _)))
  go_big_quiet_step ((exact keep_of (F1.out _)))
  go_big_quiet_step (fail)
  go_big_quiet_step (fail)
  go_big_quiet_step (fail)
  go_big_quiet_step ((exact keep_of (C2.out _)))
  go_big_quiet_want
  refine quiet_load_row 35 _ rfl gf rfl 35 (arr 16 f) (0, 0) _ HF.out Try.underlying35 rfl (info35 _) ?_
  go_simp
  go_big_quiet_on
  go_big_quiet_want
  refine quiet_load_row 35 _ rfl gg rfl 35 (arr 16 g) (0, 0) _ HG.out Try.underlying35 rfl (info35 _) ?_
  go_simp
  go_big_quiet_on
  go_big_quiet_step ((exact keep_of (D2.out _)))
  go_big_quiet_step ((exact keep_of (F2.out _)))
  go_big_quiet_step (fail)
  go_big_quiet_step (fail)
  go_big_quiet_step (fail)
  go_big_quiet_step (fail)
  go_big_quiet_step ((exact keep_of (C3.out _)))
  go_big_quiet_want
  refine quiet_load_row 35 _ rfl gf rfl 35 (arr 16 f) (0, 0) _ HF.out Try.underlying35 rfl (info35 _) ?_
  go_simp
  go_big_quiet_on
  go_big_quiet_want
  refine quiet_load_row 35 _ rfl gg rfl 35 (arr 16 g) (0, 0) _ HG.out Try.underlying35 rfl (info35 _) ?_
  go_simp
  go_big_quiet_on
  go_big_quiet_step ((exact keep_of (D3.out _)))
  go_big_quiet_step ((exact keep_of (F3.out _)))
  go_big_quiet_step (fail)
  go_big_quiet_step (fail)
  go_big_quiet_step (fail)
  go_big_quiet_step ((exact keep_of (C4.out _)))
  go_big_quiet_want
  refine quiet_load_row 35 _ rfl gf rfl 35 (arr 16 f) (0, 0) _ HF.out Try.underlying35 rfl (info35 _) ?_
  go_simp
  go_big_quiet_on
  go_big_quiet_step ((exact keep_of (D4.out _)))
  go_big_quiet_step ((exact keep_of (F4.out _)))
  go_big_quiet_step (fail)
  go_big_quiet_step (fail)
  go_big_quiet_step (fail)
  go_big_quiet_step (fail)
  go_big_quiet_step ((exact keep_of (F5.out _)))
  go_big_quiet_want
  refine quiet_load_row 35 _ rfl gf rfl 35 (arr 16 f) (0, 0) _ HF.out Try.underlying35 rfl (info35 _) ?_
  go_simp
  go_big_quiet_on
  go_big_quiet_want
  refine quiet_load_row 35 _ rfl gg rfl 35 (arr 16 g) (0, 0) _ HG.out Try.underlying35 rfl (info35 _) ?_
  go_simp
  go_big_quiet_on
  go_big_quiet_want
  refine quiet_eql f g _ _ _ rfl rfl rfl ?_
  rw [HQ.out]
  go_simp
  go_big_quiet_on
  go_big_quiet_step (fail)
  go_big_quiet_step (fail)
  go_big_quiet_step (fail)
  go_big_quiet_step (fail)
  go_big_quiet_step (fail)
  go_big_quiet_step ((exact keep_of (C2.out _)))
  go_big_quiet_step (fail)
  go_big_quiet_step ((exact keep_of (F6.out _)))
  go_big_quiet_want
  refine quiet_load_row 35 _ rfl gf rfl 35 (arr 16 f) (0, 0) _ HF.out Try.underlying35 rfl (info35 _) ?_
  go_simp
  go_big_quiet_on
  go_big_quiet_want
  refine quiet_load_row 35 _ rfl gg rfl 35 (arr 16 g) (0, 0) _ HG.out Try.underlying35 rfl (info35 _) ?_
  go_simp
  go_big_quiet_on
  go_big_quiet_want
  refine quiet_eql f g _ _ _ rfl rfl rfl ?_
  rw [HQ.out]
  go_simp
  go_big_quiet_on
  go_big_quiet_step (fail)
  go_big_quiet_step (fail)
  go_big_quiet_step (fail)
  go_big_quiet_step ((exact keep_of (alive_any _)))
  go_big_quiet_step (fail)
  go_big_quiet_step (fail)
  refine wpQuiet_nil ?_
  intro s
  have hw := HO.out.trans (s.keep.mono HO.out.size)
  clear HF HG hne a0 a1 a2 a3 a4 b0 b1 b2 b3 b4 HO HQ hq C1 C2 C3 C4 D1 D2 D3 D4 F1 F2 F3 F4 F5 F6
  go_wp2
  go_ret
  exact ⟨rfl, hw⟩

end Go.Proofs.Ytamokcoobfmogaa
