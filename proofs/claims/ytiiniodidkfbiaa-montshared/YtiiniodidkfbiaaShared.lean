/- The contracts of coordinate, Shared and Public. -/
import Derived.Test.YtiiniodidkfbiaaBytes
import Derived.Deep.Cut
namespace Go.Proofs.Ytiiniodidkfbiaa
open Go.RowKit

theorem and127_bd {x : Int} (h0 : 0 ≤ x) (h1 : x < 256) : 0 ≤ bits .and .u8 x 127 ∧ bits .and .u8 x 127 < 256 := by
  obtain ⟨X, rfl⟩ := Int.eq_ofNat_of_zero_le h0
  have hX : X < 256 := by omega
  have h : ∀ n : Fin 256, 0 ≤ bits .and .u8 ((n.val : Nat) : Int) 127 ∧ bits .and .u8 ((n.val : Nat) : Int) 127 < 256 := by decide +kernel
  exact h ⟨X, hX⟩

/-- A public key without its highest bit. -/
def mkF (s : ByteArray) : Nat → Int := upd (bt s) 31 (bits .and .u8 (bt s 31) 127)
def mkS (s : ByteArray) : ByteArray := bs ((List.range 32).map (mkF s))
theorem mkF_bd (s : ByteArray) (i : Nat) : 0 ≤ mkF s i ∧ mkF s i < 256 := by
  unfold mkF upd
  by_cases h1 : i = 31
  · rw [if_pos h1]
    exact and127_bd (bt_bd s 31).1 (bt_bd s 31).2
  · rw [if_neg h1]
    exact bt_bd s i
theorem mkS_size (s : ByteArray) : (mkS s).size = 32 := by unfold mkS; rw [bs_size]; simp

theorem results_ct {P : Program} {fn : Func} {p s : Tmp} {ty : TypeId} (h : fn.results = #[.cell p ty, .tmp s]) (tmps : Array Value) (w : World) (g : Nat) (t : TypeId) (cs : Array Value) (fr : Nat × Nat) (d : TypeDesc) (v : Value)
    (hp : tmps.getD p undef = .pointer (some ⟨g, 0, none⟩)) (hs : tmps.getD s undef = v) (hg : w.heap[g]? = some (.cells cs t fr))
    (hu : P.underlying ty = some d) (hd : (match d with | .struct _ | .array _ _ => true | _ => false) = true) (hi : (P.info? ty).map (·.size) = some cs.size) :
    (results fn tmps).run P w = .ok (.tuple #[.agg cs, v]) w := results_cell_tmp h tmps w g t cs fr d v hp hs hg hu hd hi

set_option maxRecDepth 100000 in
set_option maxHeartbeats 1000000 in
theorem coord_yes (s : ByteArray) (w : World) (hs : s.size = 32) :
    Calls Try.prog 15 #[.string s] w fun r w' => r = .returned (.tuple #[.agg (arr 5 (ofF (mkS s)).f), .int .i64 0]) ∧ Below w.heap.size w w' := by
  have HO : Hid (∀ w, Calls Try.prog 24 #[.string (mkS s)] w fun r w' => r = .returned (.tuple #[.agg (arr 5 (ofF (mkS s)).f), .int .i64 0]) ∧ Below w.heap.size w w') := hide fun w => of_yes (mkS s) w (mkS_size s)
  have n0 : ((s.size : Int) != 32) = false := by simp [hs]
  have R : Row (w.alloc (.cells #[Value.int IntKind.u64 0, Value.int IntKind.u64 0, Value.int IntKind.u64 0, Value.int IntKind.u64 0, Value.int IntKind.u64 0] 41)) w.heap.size 41 5 (fun _ => 0) := Row.new w 41 5 (fun _ => 0)
  have O : Below w.heap.size w (w.alloc (.cells #[Value.int IntKind.u64 0, Value.int IntKind.u64 0, Value.int IntKind.u64 0, Value.int IntKind.u64 0, Value.int IntKind.u64 0] 41)) := new_below w _
  obtain ⟨cap, W1, hcv, B, hb⟩ := conv_str (w.alloc (.cells #[Value.int IntKind.u64 0, Value.int IntKind.u64 0, Value.int IntKind.u64 0, Value.int IntKind.u64 0, Value.int IntKind.u64 0] 41)) s
  rw [show (w.alloc (.cells #[Value.int IntKind.u64 0, Value.int IntKind.u64 0, Value.int IntKind.u64 0, Value.int IntKind.u64 0, Value.int IntKind.u64 0] 41)).heap.size = w.heap.size + 1 by simp] at hcv B
  rw [hs] at B
  have c31 := B.c 31 (by omega)
  have f31 := B.fz 31 (by omega)
  have gl := B.lt
  have B2 := B.set (k := 31) (by omega) (bits .and .u8 (bt s 31) 127)
  have hbk := conv_back (f := mkF s) B2 cap (fun i _ => mkF_bd s i)
  rw [show bs ((List.range 32).map (mkF s)) = mkS s from rfl] at hbk
  replace R := (R.keep hb).other (a := ⟨w.heap.size + 1, 31, none⟩) (by simp) (.int .u8 (bits .and .u8 (bt s 31) 127))
  replace O := (O.trans (hb.mono O.size)).setCell (p := ⟨w.heap.size + 1, 31, none⟩) (by simp) (.int .u8 (bits .and .u8 (bt s 31) 127))
  have HR := hide (And.intro R O)
  clear B2 B hb R O
  generalize mkS s = C at *
  generalize (ofF C).f = x at *
  go_enter Try.func15, Try.ntmps15
  go_wp2_with fail
  refine (HO.out _).mono ?_
  rintro _ w1 ⟨rfl, hb⟩
  obtain ⟨R, O⟩ := HR.out
  replace R := R.keep hb
  replace O := O.trans (hb.mono O.size)
  clear hb HO HR hcv hbk c31 f31 gl n0
  have RR := hide (R.setAll x)
  have OO := hide (below_setCells (g := w.heap.size) (Nat.le_refl _) (arr 5 x).toList 0 O)
  clear O
  go_wp2_with (refine wpList_store_mid rfl 41 _ _ rfl w.heap.size 0 (arr 5 x) rfl rfl ?thc (inf41 _) (arr_one _ _) ?_)
  case thc => rw [arr_size]; exact R.there
  exact bodyPost_ret (v := .tuple #[.agg (arr 5 x), .int .i64 0]) (results_ct Try.results15 _ _ w.heap.size 41 (arr 5 x) (0, 0) _ _ rfl rfl RR.out Try.underlying41 rfl (inf41 _)) rfl ⟨rfl, OO.out⟩

set_option maxHeartbeats 400000 in
theorem coord_no (s : ByteArray) (w : World) (hs : s.size ≠ 32) :
    Calls Try.prog 15 #[.string s] w fun r w' => r = .returned (.tuple #[.agg (arr 5 fun _ => 0), .int .i64 2]) ∧ Below w.heap.size w w' := by
  have n0 : ((s.size : Int) != 32) = true := by simp; omega
  go_enter Try.func15, Try.ntmps15
  go_wp2
  exact bodyPost_ret (v := .tuple #[.agg (arr 5 fun _ => 0), .int .i64 2]) (by simp [results, Try.results15, go_sem]; rfl) rfl ⟨rfl, (Below.refl _ _).alloc (Nat.le_refl _) _⟩

/-- What a secret and a public key make, as a number. -/
def shE (s p : ByteArray) : E5 := mulF (ladF (clS s) (ofF (mkS p)) 255).dx (invF (ladF (clS s) (ofF (mkS p)) 255).dz)
theorem shE_ok (s p : ByteArray) : (shE s p).Ok := by
  have h := ladF_ok (clS s) (ofF_ok (mkS p)) 255
  exact mulF_ok h.dx (invF_ok h.dz)
/-- The bytes and the error that Shared answers. -/
def shS (s p : ByteArray) : ByteArray := if (shE s p).n % Pm = 0 then ⟨#[]⟩ else lebytes ((shE s p).n % Pm)
def shC (s p : ByteArray) : Int := if (shE s p).n % Pm = 0 then 30 else 0

set_option maxRecDepth 100000 in
set_option maxHeartbeats 2000000 in
theorem shared_yes (s p : ByteArray) (w : World) (hs : s.size = 32) (hp : p.size = 32) :
    Calls Try.prog 8 #[.string s, .string p] w fun r w' => r = .returned (.tuple #[.string (shS s p), .int .i64 (shC s p)]) ∧ Below w.heap.size w w' := by
  have H1 : Hid (∀ w, Calls Try.prog 14 #[.string s] w fun r w' => r = .returned (.tuple #[.string (clS s), .int .i64 0]) ∧ Below w.heap.size w w') := hide fun w => clamp_yes s w hs
  have H2 : Hid (∀ w, Calls Try.prog 15 #[.string p] w fun r w' => r = .returned (.tuple #[.agg (arr 5 (ofF (mkS p)).f), .int .i64 0]) ∧ Below w.heap.size w w') := hide fun w => coord_yes p w hp
  have H3 : Hid (∀ w, Calls Try.prog 16 #[.string (clS s), .agg (arr 5 (ofF (mkS p)).f)] w fun r w' => r = .returned (.agg (arr 5 (shE s p).f)) ∧ Below w.heap.size w w') := hide fun w => times_any (clS s) (ofF (mkS p)) w (clS_size s) (ofF_ok _)
  have H4 : Hid (∀ w, Calls Try.prog 17 #[.agg (arr 5 (shE s p).f), .agg #[Value.int IntKind.u64 0, Value.int IntKind.u64 0, Value.int IntKind.u64 0, Value.int IntKind.u64 0, Value.int IntKind.u64 0]] w fun r w' => r = .returned (.bool ((shE s p).n % Pm == 0)) ∧ Below w.heap.size w w') := hide fun w => by
    have h := same_any (shE s p) zeroE w (shE_ok s p) zeroE_ok
    rw [zeroE_n] at h
    exact h
  have H5 : Hid (∀ w, Calls Try.prog 18 #[.agg (arr 5 (shE s p).f)] w fun r w' => r = .returned (.string (lebytes ((shE s p).n % Pm))) ∧ Below w.heap.size w w') := hide fun w => bytes_any (shE s p) w (shE_ok s p)
  have V : Hid (((shE s p).n % Pm == 0) = true ∧ shS s p = ⟨#[]⟩ ∧ shC s p = 30 ∨ ((shE s p).n % Pm == 0) = false ∧ shS s p = lebytes ((shE s p).n % Pm) ∧ shC s p = 0) := hide (by
    unfold shS shC
    by_cases h : (shE s p).n % Pm = 0
    · left
      rw [if_pos h, if_pos h]
      exact ⟨by simp [h], rfl, rfl⟩
    · right
      rw [if_neg h, if_neg h]
      exact ⟨by simp [h], rfl, rfl⟩)
  generalize ((shE s p).n % Pm == 0) = z at *
  generalize lebytes ((shE s p).n % Pm) = L at *
  generalize (shE s p).f = m at *
  generalize (ofF (mkS p)).f = x at *
  generalize clS s = C at *
  go_enter Try.func8, Try.ntmps8
  go_wp2_with fail
  refine (H1.out _).mono ?_
  rintro _ w1 ⟨rfl, O⟩
  clear H1
  go_upto_region 4 with fail
  refine wp_region_lit ?_
  refine wpList_value rfl (.string p) (fun _ => by kernel_rfl) ?_
  refine wpList_call rfl 15 #[.string p] (.tuple #[.agg (arr 5 x), .int .i64 0]) (fun _ => by kernel_rfl) H2.out ?_
  intro w2 hb
  replace O := O.trans (hb.mono O.size)
  clear hb H2
  refine wpList_value rfl (.tuple #[.agg (arr 5 x), .int .i64 0]) (fun _ => by kernel_rfl) ?_
  refine wpList_value rfl (.agg (arr 5 x)) (fun _ => by kernel_rfl) ?_
  refine wpList_value rfl (.int .i64 0) (fun _ => by kernel_rfl) ?_
  refine wpList_new rfl (fun g => .pointer (some ⟨g, 0, none⟩)) (.cells #[Value.int IntKind.u64 0, Value.int IntKind.u64 0, Value.int IntKind.u64 0, Value.int IntKind.u64 0, Value.int IntKind.u64 0] 41) (fun _ => by kernel_rfl) ?_
  intro g8 w3 R8 n8 hb
  replace R8 : Row w3 g8 41 5 (fun _ => 0) := R8
  have lo := O.size
  replace O := O.trans (hb.mono O.size)
  clear hb
  refine wpList_put rfl R8 x 41 _ _ rfl (by kernel_rfl) (by kernel_rfl) info41 ?_
  intro w4 R8 _ hu
  replace O := hu _ _ (by omega) O
  clear hu n8 lo
  refine wpList_value rfl (.int .i64 0) (fun _ => by kernel_rfl) ?_
  refine wpList_nil ?_
  go_simp
  go_upto_region 7 with fail
  refine wp_region_lit ?_
  refine wpList_value rfl (.string C) (fun _ => by kernel_rfl) ?_
  refine wpList_part rfl 41 _ rfl g8 0 (by kernel_rfl) 5 x R8.all _ Try.underlying41 rfl info41 ?_
  refine wpList_call rfl 16 #[.string C, .agg (arr 5 x)] (.agg (arr 5 m)) (fun _ => by kernel_rfl) H3.out ?_
  intro w5 hb
  replace O := O.trans (hb.mono O.size)
  clear hb H3 R8
  refine wpList_new rfl (fun g => .pointer (some ⟨g, 0, none⟩)) (.cells #[Value.int IntKind.u64 0, Value.int IntKind.u64 0, Value.int IntKind.u64 0, Value.int IntKind.u64 0, Value.int IntKind.u64 0] 41) (fun _ => by kernel_rfl) ?_
  intro g9 w6 R9 n9 hb
  replace R9 : Row w6 g9 41 5 (fun _ => 0) := R9
  have lo := O.size
  replace O := O.trans (hb.mono O.size)
  clear hb
  refine wpList_put rfl R9 m 41 _ _ rfl (by kernel_rfl) (by kernel_rfl) info41 ?_
  intro w7 R9 _ hu
  replace O := hu _ _ (by omega) O
  clear hu n9 lo
  refine wpList_nil ?_
  go_simp
  go_upto_region 8 with fail
  refine wp_region_lit ?_
  refine wpList_part rfl 41 _ rfl g9 0 (by kernel_rfl) 5 m R9.all _ Try.underlying41 rfl info41 ?_
  refine wpList_value rfl (.agg #[Value.int IntKind.u64 0, Value.int IntKind.u64 0, Value.int IntKind.u64 0, Value.int IntKind.u64 0, Value.int IntKind.u64 0]) (fun _ => by kernel_rfl) ?_
  refine wpList_call rfl 17 #[.agg (arr 5 m), .agg #[Value.int IntKind.u64 0, Value.int IntKind.u64 0, Value.int IntKind.u64 0, Value.int IntKind.u64 0, Value.int IntKind.u64 0]] (.bool z) (fun _ => by kernel_rfl) H4.out ?_
  intro w8 hb
  replace R9 := R9.keep hb
  replace O := O.trans (hb.mono O.size)
  clear hb H4
  refine wpList_nil ?_
  rcases V.out with ⟨hz, hS, hC⟩ | ⟨hz, hS, hC⟩
  · subst hz
    have HS := hide hS
    have HC := hide hC
    clear V R9 H5 hS hC
    go_simp
    go_wp2_with fail
    exact bodyPost_ret (v := .tuple #[.string ⟨#[]⟩, .int .i64 30]) (by simp [results, Try.results8, go_sem]) rfl ⟨by rw [HS.out, HC.out], O⟩
  · subst hz
    have HS := hide hS
    have HC := hide hC
    clear V hS hC
    go_simp
    go_upto_region 10 with fail
    refine wp_region_lit ?_
    refine wpList_part rfl 41 _ rfl g9 0 (by kernel_rfl) 5 m R9.all _ Try.underlying41 rfl info41 ?_
    refine wpList_call rfl 18 #[.agg (arr 5 m)] (.string L) (fun _ => by kernel_rfl) H5.out ?_
    intro w9 hb
    replace O := O.trans (hb.mono O.size)
    clear hb H5 R9
    refine wpList_value rfl (.string L) (fun _ => by kernel_rfl) ?_
    refine wpList_value rfl (.int .i64 0) (fun _ => by kernel_rfl) ?_
    refine wpList_nil ?_
    go_simp
    go_wp2_with fail
    exact bodyPost_ret (v := .tuple #[.string L, .int .i64 0]) (by simp [results, Try.results8, go_sem]) rfl ⟨by rw [HS.out, HC.out], O⟩

set_option maxHeartbeats 1000000 in
theorem shared_no1 (s p : ByteArray) (w : World) (hs : s.size ≠ 32) :
    Calls Try.prog 8 #[.string s, .string p] w fun r w' => r = .returned (.tuple #[.string ⟨#[]⟩, .int .i64 2]) ∧ Below w.heap.size w w' := by
  have H1 := hide fun w => clamp_no s w hs
  clear hs
  go_enter Try.func8, Try.ntmps8
  go_wp2_with fail
  refine (H1.out _).mono ?_
  rintro _ w1 ⟨rfl, O⟩
  clear H1
  go_wp2_with fail
  exact bodyPost_ret (v := .tuple #[.string ⟨#[]⟩, .int .i64 2]) (by simp [results, Try.results8, go_sem]) rfl ⟨rfl, O⟩

set_option maxRecDepth 100000 in
set_option maxHeartbeats 1000000 in
theorem shared_no2 (s p : ByteArray) (w : World) (hs : s.size = 32) (hp : p.size ≠ 32) :
    Calls Try.prog 8 #[.string s, .string p] w fun r w' => r = .returned (.tuple #[.string ⟨#[]⟩, .int .i64 2]) ∧ Below w.heap.size w w' := by
  have H1 : Hid (∀ w, Calls Try.prog 14 #[.string s] w fun r w' => r = .returned (.tuple #[.string (clS s), .int .i64 0]) ∧ Below w.heap.size w w') := hide fun w => clamp_yes s w hs
  have H2 := hide fun w => coord_no p w hp
  clear hs hp
  generalize clS s = C at *
  generalize (fun _ => (0 : Int)) = x at *
  go_enter Try.func8, Try.ntmps8
  go_wp2_with fail
  refine (H1.out _).mono ?_
  rintro _ w1 ⟨rfl, O⟩
  clear H1
  go_upto_region 4 with fail
  refine wp_region_lit ?_
  refine wpList_value rfl (.string p) (fun _ => by kernel_rfl) ?_
  refine wpList_call rfl 15 #[.string p] (.tuple #[.agg (arr 5 x), .int .i64 2]) (fun _ => by kernel_rfl) H2.out ?_
  intro w2 hb
  replace O := O.trans (hb.mono O.size)
  clear hb H2
  refine wpList_value rfl (.tuple #[.agg (arr 5 x), .int .i64 2]) (fun _ => by kernel_rfl) ?_
  refine wpList_value rfl (.agg (arr 5 x)) (fun _ => by kernel_rfl) ?_
  refine wpList_value rfl (.int .i64 2) (fun _ => by kernel_rfl) ?_
  refine wpList_new rfl (fun g => .pointer (some ⟨g, 0, none⟩)) (.cells #[Value.int IntKind.u64 0, Value.int IntKind.u64 0, Value.int IntKind.u64 0, Value.int IntKind.u64 0, Value.int IntKind.u64 0] 41) (fun _ => by kernel_rfl) ?_
  intro g8 w3 R8 n8 hb
  replace R8 : Row w3 g8 41 5 (fun _ => 0) := R8
  have lo := O.size
  replace O := O.trans (hb.mono O.size)
  clear hb
  refine wpList_put rfl R8 x 41 _ _ rfl (by kernel_rfl) (by kernel_rfl) info41 ?_
  intro w4 R8 _ hu
  replace O := hu _ _ (by omega) O
  clear hu n8 lo R8
  refine wpList_value rfl (.int .i64 2) (fun _ => by kernel_rfl) ?_
  refine wpList_nil ?_
  go_simp
  go_wp2_with fail
  exact bodyPost_ret (v := .tuple #[.string ⟨#[]⟩, .int .i64 2]) (by simp [results, Try.results8, go_sem]) rfl ⟨rfl, O⟩

/-- The bytes of 9. -/
def nineS : ByteArray := lebytes ((smallF 9).n % Pm)
theorem nineS_size : nineS.size = 32 := by decide +kernel

set_option maxHeartbeats 1000000 in
theorem public_gen (s S : ByteArray) (c : Int) (w : World) (H : ∀ w, Calls Try.prog 8 #[.string s, .string nineS] w fun r w' => r = .returned (.tuple #[.string S, .int .i64 c]) ∧ Below w.heap.size w w') :
    Calls Try.prog 10 #[.string s] w fun r w' => r = .returned (.tuple #[.string S, .int .i64 c]) ∧ Below w.heap.size w w' := by
  have H1 := hide H
  clear H
  have H2 : Hid (∀ w, Calls Try.prog 20 #[.int .u32 9] w fun r w' => r = .returned (.agg (arr 5 (smallF 9).f)) ∧ Below w.heap.size w w') := hide fun w => small_any 9 w (by decide) (by decide)
  have H3 : Hid (∀ w, Calls Try.prog 18 #[.agg (arr 5 (smallF 9).f)] w fun r w' => r = .returned (.string nineS) ∧ Below w.heap.size w w') := hide fun w => bytes_any (smallF 9) w (smallF_ok (by decide) (by decide))
  generalize (smallF 9).f = x at *
  generalize nineS = N at *
  go_enter Try.func10, Try.ntmps10
  go_wp2_with fail
  refine (H2.out _).mono ?_
  rintro _ w1 ⟨rfl, O⟩
  clear H2
  go_wp2_with fail
  refine (H3.out _).mono ?_
  rintro _ w2 ⟨rfl, hb⟩
  replace O := O.trans (hb.mono O.size)
  clear hb H3
  go_wp2_with fail
  refine (H1.out _).mono ?_
  rintro _ w3 ⟨rfl, hb⟩
  replace O := O.trans (hb.mono O.size)
  clear hb H1
  go_wp2_with fail
  exact bodyPost_ret (v := .tuple #[.string S, .int .i64 c]) (by simp [results, Try.results10, go_sem]) rfl ⟨rfl, O⟩

end Go.Proofs.Ytiiniodidkfbiaa
