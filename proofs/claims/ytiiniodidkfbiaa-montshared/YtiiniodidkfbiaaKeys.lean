/- MontKeys answers true, whatever the secret, the public key and the byte. -/
import Derived.Test.YtiiniodidkfbiaaAlive
namespace Go.Proofs.Ytiiniodidkfbiaa
open Go.RowKit

theorem xor_bd {x y : Int} (h0 : 0 ≤ x) (h1 : x < 256) (hy : y = 128 ∨ y = 0 ∨ y = 64 ∨ y = 192) : 0 ≤ bits .xor .u8 x y ∧ bits .xor .u8 x y < 256 := by
  obtain ⟨X, rfl⟩ := Int.eq_ofNat_of_zero_le h0
  have hX : X < 256 := by omega
  have ha : ∀ n : Fin 256, 0 ≤ bits .xor .u8 ((n.val : Nat) : Int) 128 ∧ bits .xor .u8 ((n.val : Nat) : Int) 128 < 256 := by decide +kernel
  have hb : ∀ n : Fin 256, 0 ≤ bits .xor .u8 ((n.val : Nat) : Int) 0 ∧ bits .xor .u8 ((n.val : Nat) : Int) 0 < 256 := by decide +kernel
  have hc : ∀ n : Fin 256, 0 ≤ bits .xor .u8 ((n.val : Nat) : Int) 64 ∧ bits .xor .u8 ((n.val : Nat) : Int) 64 < 256 := by decide +kernel
  have hd : ∀ n : Fin 256, 0 ≤ bits .xor .u8 ((n.val : Nat) : Int) 192 ∧ bits .xor .u8 ((n.val : Nat) : Int) 192 < 256 := by decide +kernel
  rcases hy with rfl | rfl | rfl | rfl
  · exact ha ⟨X, hX⟩
  · exact hb ⟨X, hX⟩
  · exact hc ⟨X, hX⟩
  · exact hd ⟨X, hX⟩

theorem xor_and {x : Int} (h0 : 0 ≤ x) (h1 : x < 256) : bits .and .u8 (bits .xor .u8 x 128) 127 = bits .and .u8 x 127 := by
  obtain ⟨X, rfl⟩ := Int.eq_ofNat_of_zero_le h0
  have hX : X < 256 := by omega
  have h : ∀ n : Fin 256, bits .and .u8 (bits .xor .u8 ((n.val : Nat) : Int) 128) 127 = bits .and .u8 ((n.val : Nat) : Int) 127 := by decide +kernel
  exact h ⟨X, hX⟩

theorem and192 {x : Int} (h0 : 0 ≤ x) (h1 : x < 256) : bits .and .u8 x 192 = 128 ∨ bits .and .u8 x 192 = 0 ∨ bits .and .u8 x 192 = 64 ∨ bits .and .u8 x 192 = 192 := by
  obtain ⟨X, rfl⟩ := Int.eq_ofNat_of_zero_le h0
  have hX : X < 256 := by omega
  have h : ∀ n : Fin 256, bits .and .u8 ((n.val : Nat) : Int) 192 = 128 ∨ bits .and .u8 ((n.val : Nat) : Int) 192 = 0 ∨ bits .and .u8 ((n.val : Nat) : Int) 192 = 64 ∨ bits .and .u8 ((n.val : Nat) : Int) 192 = 192 := by decide +kernel
  exact h ⟨X, hX⟩

theorem and7 {x : Int} (h0 : 0 ≤ x) (h1 : x < 256) : 0 ≤ bits .and .u8 x 7 ∧ bits .and .u8 x 7 < 8 := by
  obtain ⟨X, rfl⟩ := Int.eq_ofNat_of_zero_le h0
  have hX : X < 256 := by omega
  have h : ∀ n : Fin 256, 0 ≤ bits .and .u8 ((n.val : Nat) : Int) 7 ∧ bits .and .u8 ((n.val : Nat) : Int) 7 < 8 := by decide +kernel
  exact h ⟨X, hX⟩

theorem and7m {x : Int} (h0 : 0 ≤ x) (h1 : x < 256) : bits .and .u8 x 7 = x % 8 := by
  obtain ⟨X, rfl⟩ := Int.eq_ofNat_of_zero_le h0
  have hX : X < 256 := by omega
  have h : ∀ n : Fin 256, bits .and .u8 ((n.val : Nat) : Int) 7 = ((n.val : Nat) : Int) % 8 := by decide +kernel
  exact h ⟨X, hX⟩

theorem xor7 {x y : Int} (h0 : 0 ≤ x) (h1 : x < 256) (h2 : 0 ≤ y) (h3 : y < 8) : (0 ≤ bits .xor .u8 x y ∧ bits .xor .u8 x y < 256) ∧ bits .and .u8 (bits .xor .u8 x y) 248 = bits .and .u8 x 248 := by
  obtain ⟨X, rfl⟩ := Int.eq_ofNat_of_zero_le h0
  obtain ⟨Y, rfl⟩ := Int.eq_ofNat_of_zero_le h2
  have hX : X < 256 := by omega
  have hY : Y < 8 := by omega
  have h : ∀ (n : Fin 256) (m : Fin 8), (0 ≤ bits .xor .u8 ((n.val : Nat) : Int) ((m.val : Nat) : Int) ∧ bits .xor .u8 ((n.val : Nat) : Int) ((m.val : Nat) : Int) < 256) ∧ bits .and .u8 (bits .xor .u8 ((n.val : Nat) : Int) ((m.val : Nat) : Int)) 248 = bits .and .u8 ((n.val : Nat) : Int) 248 := by decide +kernel
  exact h ⟨X, hX⟩ ⟨Y, hY⟩

theorem xor192 {x y : Int} (h0 : 0 ≤ x) (h1 : x < 256) (hy : y = 128 ∨ y = 0 ∨ y = 64 ∨ y = 192) : bits .or .u8 (bits .and .u8 (bits .xor .u8 x y) 127) 64 = bits .or .u8 (bits .and .u8 x 127) 64 := by
  obtain ⟨X, rfl⟩ := Int.eq_ofNat_of_zero_le h0
  have hX : X < 256 := by omega
  have ha : ∀ n : Fin 256, bits .or .u8 (bits .and .u8 (bits .xor .u8 ((n.val : Nat) : Int) 128) 127) 64 = bits .or .u8 (bits .and .u8 ((n.val : Nat) : Int) 127) 64 := by decide +kernel
  have hb : ∀ n : Fin 256, bits .or .u8 (bits .and .u8 (bits .xor .u8 ((n.val : Nat) : Int) 0) 127) 64 = bits .or .u8 (bits .and .u8 ((n.val : Nat) : Int) 127) 64 := by decide +kernel
  have hc : ∀ n : Fin 256, bits .or .u8 (bits .and .u8 (bits .xor .u8 ((n.val : Nat) : Int) 64) 127) 64 = bits .or .u8 (bits .and .u8 ((n.val : Nat) : Int) 127) 64 := by decide +kernel
  have hd : ∀ n : Fin 256, bits .or .u8 (bits .and .u8 (bits .xor .u8 ((n.val : Nat) : Int) 192) 127) 64 = bits .or .u8 (bits .and .u8 ((n.val : Nat) : Int) 127) 64 := by decide +kernel
  rcases hy with rfl | rfl | rfl | rfl
  · exact ha ⟨X, hX⟩
  · exact hb ⟨X, hX⟩
  · exact hc ⟨X, hX⟩
  · exact hd ⟨X, hX⟩

/-- The string of 32 bytes. -/
def bsF (f : Nat → Int) : ByteArray := bs ((List.range 32).map f)
theorem bsF_size (f : Nat → Int) : (bsF f).size = 32 := by unfold bsF; rw [bs_size]; simp
theorem bsF_bt {f : Nat → Int} (hf : ∀ i, i < 32 → 0 ≤ f i ∧ f i < 256) {i : Nat} (hi : i < 32) : bt (bsF f) i = f i :=
  bt_bs _ _ _ (by simp [hi]) (hf i hi).1 (hf i hi).2

/-- The public key with its highest bit turned. -/
def tuF (p : ByteArray) : Nat → Int := upd (bt p) 31 (bits .xor .u8 (bt p 31) 128)
theorem tuF_bd (p : ByteArray) (i : Nat) : 0 ≤ tuF p i ∧ tuF p i < 256 := by
  unfold tuF upd
  by_cases h : i = 31
  · rw [if_pos h]
    exact xor_bd (bt_bd p 31).1 (bt_bd p 31).2 (.inl rfl)
  · rw [if_neg h]
    exact bt_bd p i
theorem tu_mk (p : ByteArray) : mkS (bsF (tuF p)) = mkS p := by
  unfold mkS
  congr 1
  refine List.map_congr_left fun i hi => ?_
  have hi' : i < 32 := List.mem_range.1 hi
  unfold mkF upd
  rw [bsF_bt (fun i _ => tuF_bd p i) (show 31 < 32 by omega), bsF_bt (fun i _ => tuF_bd p i) hi']
  by_cases h : i = 31
  · rw [if_pos h, if_pos h]
    show bits .and .u8 (upd (bt p) 31 (bits .xor .u8 (bt p 31) 128) 31) 127 = _
    rw [show upd (bt p) 31 (bits .xor .u8 (bt p 31) 128) 31 = bits .xor .u8 (bt p 31) 128 by simp [upd], xor_and (bt_bd p 31).1 (bt_bd p 31).2]
  · rw [if_neg h, if_neg h]
    unfold tuF upd
    rw [if_neg h]
theorem tu_back (p : ByteArray) : bsF (upd (tuF p) 31 (bits .and .u8 (bits .xor .u8 (bt p 31) 128) 127)) = mkS p := by
  unfold mkS bsF
  congr 1
  refine List.map_congr_left fun i _ => ?_
  unfold mkF tuF upd
  by_cases h : i = 31
  · rw [if_pos h, if_pos h, xor_and (bt_bd p 31).1 (bt_bd p 31).2]
  · rw [if_neg h, if_neg h, if_neg h]

/-- The secret with clamped bits turned. -/
def tkF (s : ByteArray) (y : Int) : Nat → Int := upd (upd (bt s) 0 (bits .xor .u8 (bt s 0) (bits .and .u8 y 7))) 31 (bits .xor .u8 (bt s 31) (bits .and .u8 y 192))
theorem tkF_bd (s : ByteArray) {y : Int} (h0 : 0 ≤ y) (h1 : y < 256) (i : Nat) : 0 ≤ tkF s y i ∧ tkF s y i < 256 := by
  unfold tkF upd
  by_cases h : i = 31
  · rw [if_pos h]
    exact xor_bd (bt_bd s 31).1 (bt_bd s 31).2 (and192 h0 h1)
  · rw [if_neg h]
    by_cases h2 : i = 0
    · rw [if_pos h2]
      exact (xor7 (bt_bd s 0).1 (bt_bd s 0).2 (and7 h0 h1).1 (and7 h0 h1).2).1
    · rw [if_neg h2]
      exact bt_bd s i
theorem tk_cl (s : ByteArray) {y : Int} (h0 : 0 ≤ y) (h1 : y < 256) : clS (bsF (tkF s y)) = clS s := by
  unfold clS
  congr 1
  refine List.map_congr_left fun i hi => ?_
  have hi' : i < 32 := List.mem_range.1 hi
  have hb := fun i (_ : i < 32) => tkF_bd s h0 h1 i
  unfold clF upd
  rw [bsF_bt hb (show 31 < 32 by omega), bsF_bt hb (show 0 < 32 by omega), bsF_bt hb hi']
  by_cases h : i = 31
  · rw [if_pos h, if_pos h]
    rw [show tkF s y 31 = bits .xor .u8 (bt s 31) (bits .and .u8 y 192) by simp [tkF, upd], xor192 (bt_bd s 31).1 (bt_bd s 31).2 (and192 h0 h1)]
  · rw [if_neg h, if_neg h]
    by_cases h2 : i = 0
    · rw [if_pos h2, if_pos h2]
      rw [show tkF s y 0 = bits .xor .u8 (bt s 0) (bits .and .u8 y 7) by simp [tkF, upd], (xor7 (bt_bd s 0).1 (bt_bd s 0).2 (and7 h0 h1).1 (and7 h0 h1).2).2]
    · rw [if_neg h2, if_neg h2]
      unfold tkF upd
      rw [if_neg h, if_neg h2]

set_option maxRecDepth 100000 in
set_option maxHeartbeats 4000000 in
theorem keys_yes (s p : ByteArray) (y : Int) (w : World) (hs : s.size = 32) (hp : p.size = 32) (h0 : 0 ≤ y) (h1 : y < 256) :
    Calls Try.prog 6 #[.string s, .string p, .int .u8 y] w fun r w' => r = .returned (.bool true) ∧ Below w.heap.size w w' := by
  have n1 : ((s.size : Int) != 32) = false := by simp [hs]
  have n2 : ((p.size : Int) != 32) = false := by simp [hp]
  have H1 : Hid (∀ w, Calls Try.prog 8 #[.string s, .string p] w fun r w' => r = .returned (.tuple #[.string (sS (shV (clS s) (val (mkS p) % Pm))), .int .i64 (sC (shV (clS s) (val (mkS p) % Pm)))]) ∧ Below w.heap.size w w') := hide fun w => sh_any s p w _ hs hp rfl
  have H2 : Hid (∀ w, Calls Try.prog 8 #[.string s, .string (bsF (tuF p))] w fun r w' => r = .returned (.tuple #[.string (sS (shV (clS s) (val (mkS p) % Pm))), .int .i64 (sC (shV (clS s) (val (mkS p) % Pm)))]) ∧ Below w.heap.size w w') := hide fun w => sh_any s _ w _ hs (bsF_size _) (by rw [tu_mk])
  have H3 : Hid (∀ w, Calls Try.prog 12 #[.string (mkS p)] w fun r w' => r = .returned (.agg (arr 16 (d16 (val (mkS p) % Pm)))) ∧ Below w.heap.size w w') := hide fun w => rof_any (mkS p) w (mkS_size p)
  have H4 : Hid (∀ w, Calls Try.prog 13 #[.agg (arr 16 (d16 (val (mkS p) % Pm)))] w fun r w' => r = .returned (.string (bs (rb (d16 (val (mkS p) % Pm)) 32))) ∧ Below w.heap.size w w') := hide fun w => rbytes_any _ w (d16_dig _ 16)
  have H5 : Hid (∀ w, Calls Try.prog 8 #[.string s, .string (bs (rb (d16 (val (mkS p) % Pm)) 32))] w fun r w' => r = .returned (.tuple #[.string (sS (shV (clS s) (val (mkS p) % Pm))), .int .i64 (sC (shV (clS s) (val (mkS p) % Pm)))]) ∧ Below w.heap.size w w') := hide fun w => sh_any s _ w _ hs (by rw [bs_size, rb_len]) (by rw [mk_leb (pmod _)])
  have H6 : Hid (∀ w, Calls Try.prog 8 #[.string (bsF (tkF s y)), .string p] w fun r w' => r = .returned (.tuple #[.string (sS (shV (clS s) (val (mkS p) % Pm))), .int .i64 (sC (shV (clS s) (val (mkS p) % Pm)))]) ∧ Below w.heap.size w w') := hide fun w => sh_any _ p w _ (bsF_size _) hp (by rw [tk_cl s h0 h1])
  have HT := hide (tu_back p)
  have HU := hide (fun i (_ : i < 32) => tuF_bd p i)
  have HK := hide (fun i (_ : i < 32) => tkF_bd s h0 h1 i)
  have HU2 : Hid (∀ i, i < 32 → 0 ≤ upd (tuF p) 31 (bits .and .u8 (bits .xor .u8 (bt p 31) 128) 127) i ∧ upd (tuF p) 31 (bits .and .u8 (bits .xor .u8 (bt p 31) 128) 127) i < 256) := hide fun i _ => by
    unfold upd
    by_cases h : i = 31
    · rw [if_pos h, xor_and (bt_bd p 31).1 (bt_bd p 31).2]
      exact and127_bd (bt_bd p 31).1 (bt_bd p 31).2
    · rw [if_neg h]
      exact tuF_bd p i
  generalize sS (shV (clS s) (val (mkS p) % Pm)) = S1 at *
  generalize sC (shV (clS s) (val (mkS p) % Pm)) = c1 at *
  generalize bs (rb (d16 (val (mkS p) % Pm)) 32) = N at *
  generalize d16 (val (mkS p) % Pm) = f at *
  generalize mkS p = M at *
  go_enter Try.func6, Try.ntmps6
  go_wp2_with fail
  refine (H1.out _).mono ?_
  rintro _ w1 ⟨rfl, O⟩
  clear H1 n1 n2
  obtain ⟨cap, W1, hcv, B, hb⟩ := conv_str w1 p
  rw [hp] at B
  have c31 := B.c 31 (by omega)
  have f31 := B.fz 31 (by omega)
  have gl := B.lt
  have B2 : BC (W1.setCell ⟨w1.heap.size, 31, none⟩ (.int .u8 (bits .xor .u8 (bt p 31) 128))) w1.heap.size (tuF p) 32 := B.set (k := 31) (by omega) _
  have hbk := conv_back (f := tuF p) B2 cap HU.out
  rw [show bs ((List.range 32).map (tuF p)) = bsF (tuF p) from rfl] at hbk
  have lo := O.size
  replace O := (O.trans (hb.mono O.size)).setCell (p := ⟨w1.heap.size, 31, none⟩) (by simp; omega) (.int .u8 (bits .xor .u8 (bt p 31) 128))
  have HB := hide (And.intro B2 O)
  clear B2 B hb O
  generalize bsF (tuF p) = P1 at *
  go_wp2_with fail
  refine (H2.out _).mono ?_
  rintro _ w2 ⟨rfl, hb⟩
  obtain ⟨B, O⟩ := HB.out
  replace B := B.keep hb
  replace O := O.trans (hb.mono O.size)
  clear hb HB H2 hbk hcv c31 f31 gl
  generalize w1.heap.size = gb at *
  have c31 : w2.cell? ⟨gb, 31, none⟩ = some (.int .u8 (bits .xor .u8 (bt p 31) 128)) := by
    have := B.c 31 (by omega)
    rwa [show tuF p 31 = bits .xor .u8 (bt p 31) 128 by simp [tuF, upd]] at this
  have f31 := B.fz 31 (by omega)
  have gl := B.lt
  have B2 := B.set (k := 31) (by omega) (bits .and .u8 (bits .xor .u8 (bt p 31) 128) 127)
  have hbk := conv_back B2 cap HU2.out
  rw [show bs ((List.range 32).map (upd (tuF p) 31 (bits .and .u8 (bits .xor .u8 (bt p 31) 128) 127))) = M from HT.out] at hbk
  replace O := O.setCell (p := ⟨gb, 31, none⟩) (by simp; omega) (.int .u8 (bits .and .u8 (bits .xor .u8 (bt p 31) 128) 127))
  have HO := hide (And.intro hbk O)
  clear B2 B O hbk lo HT HU HU2
  go_upto_region 8 with fail
  obtain ⟨hbk, O⟩ := HO.out
  clear HO c31 f31 gl
  generalize w2.setCell ⟨gb, 31, none⟩ (.int .u8 (bits .and .u8 (bits .xor .u8 (bt p 31) 128) 127)) = w3 at *
  refine wp_region_lit ?_
  refine wpList_value rfl (.slice (some ⟨gb, 0, none⟩) 32 cap) (fun _ => by kernel_rfl) ?_
  refine wpList_to rfl (.string M) w3 (run_conv_op _ rfl (by kernel_rfl) hbk) ?_
  clear hbk
  refine wpList_call rfl 12 #[.string M] (.agg (arr 16 f)) (fun _ => by kernel_rfl) H3.out ?_
  intro w4 hb
  replace O := O.trans (hb.mono O.size)
  clear hb H3
  refine wpList_new rfl (fun g => .pointer (some ⟨g, 0, none⟩)) (.cells #[Value.int IntKind.u64 0, Value.int IntKind.u64 0, Value.int IntKind.u64 0, Value.int IntKind.u64 0, Value.int IntKind.u64 0, Value.int IntKind.u64 0, Value.int IntKind.u64 0, Value.int IntKind.u64 0, Value.int IntKind.u64 0, Value.int IntKind.u64 0, Value.int IntKind.u64 0, Value.int IntKind.u64 0, Value.int IntKind.u64 0, Value.int IntKind.u64 0, Value.int IntKind.u64 0, Value.int IntKind.u64 0] 35) (fun _ => by kernel_rfl) ?_
  intro gc w5 RC n1 hb
  replace RC : Row w5 gc 35 16 (fun _ => 0) := RC
  have lo := O.size
  replace O := O.trans (hb.mono O.size)
  clear hb
  refine wpList_put rfl RC f 35 _ _ rfl (by kernel_rfl) (by kernel_rfl) inf35 ?_
  intro w6 RC _ hu
  replace O := hu _ _ (by omega) O
  clear hu n1 lo
  refine wpList_nil ?_
  go_simp
  go_upto_region 9 with fail
  refine wp_region_lit ?_
  refine wpList_value rfl (.string s) (fun _ => by kernel_rfl) ?_
  refine wpList_part rfl 35 _ rfl gc 0 (by kernel_rfl) 16 f RC.all _ Try.underlying35 rfl inf35 ?_
  refine wpList_call rfl 13 #[.agg (arr 16 f)] (.string N) (fun _ => by kernel_rfl) H4.out ?_
  intro w7 hb
  replace O := O.trans (hb.mono O.size)
  clear hb H4 RC
  refine wpList_call rfl 8 #[.string s, .string N] (.tuple #[.string S1, .int .i64 c1]) (fun _ => by kernel_rfl) H5.out ?_
  intro w8 hb
  replace O := O.trans (hb.mono O.size)
  clear hb H5
  refine wpList_value rfl (.tuple #[.string S1, .int .i64 c1]) (fun _ => by kernel_rfl) ?_
  refine wpList_value rfl (.string S1) (fun _ => by kernel_rfl) ?_
  refine wpList_value rfl (.int .i64 c1) (fun _ => by kernel_rfl) ?_
  refine wpList_value rfl (.string S1) (fun _ => by kernel_rfl) ?_
  refine wpList_value rfl (.int .i64 c1) (fun _ => by kernel_rfl) ?_
  refine wpList_nil ?_
  go_simp
  obtain ⟨cap2, W2, hcv, B, hb⟩ := conv_str w8 s
  rw [hs] at B
  have c0 := B.c 0 (by omega)
  have f0 := B.fz 0 (by omega)
  have c31 := B.c 31 (by omega)
  have f31 := B.fz 31 (by omega)
  have gl := B.lt
  have B2 : BC ((W2.setCell ⟨w8.heap.size, 0, none⟩ (.int .u8 (bits .xor .u8 (bt s 0) (bits .and .u8 y 7)))).setCell ⟨w8.heap.size, 31, none⟩ (.int .u8 (bits .xor .u8 (bt s 31) (bits .and .u8 y 192)))) w8.heap.size (tkF s y) 32 := (B.set (k := 0) (by omega) _).set (k := 31) (by omega) _
  have hbk := conv_back (f := tkF s y) B2 cap2 HK.out
  rw [show bs ((List.range 32).map (tkF s y)) = bsF (tkF s y) from rfl] at hbk
  have lo := O.size
  replace O := ((O.trans (hb.mono O.size)).setCell (p := ⟨w8.heap.size, 0, none⟩) (by simp; omega) (.int .u8 (bits .xor .u8 (bt s 0) (bits .and .u8 y 7)))).setCell (p := ⟨w8.heap.size, 31, none⟩) (by simp; omega) (.int .u8 (bits .xor .u8 (bt s 31) (bits .and .u8 y 192)))
  rw [and7m h0 h1] at hbk O
  have HO := hide O
  clear B2 B hb O lo HK
  generalize bsF (tkF s y) = P2 at *
  go_wp2_with fail
  refine (H6.out _).mono ?_
  rintro _ w9 ⟨rfl, hb⟩
  have O := HO.out.trans (hb.mono HO.out.size)
  clear hb HO H6 hbk hcv c0 f0 c31 f31 gl
  have hcc : (S1.toList == S1.toList) = true := by simp
  go_wp2_with fail
  refine (alive_any _).mono ?_
  rintro _ w10 ⟨rfl, hb⟩
  replace O := O.trans (hb.mono O.size)
  clear hb
  go_wp2
  go_ret
  exact ⟨rfl, O⟩

set_option maxHeartbeats 1000000 in
theorem keys_no1 (s p : ByteArray) (y : Int) (w : World) (hs : s.size ≠ 32) :
    Calls Try.prog 6 #[.string s, .string p, .int .u8 y] w fun r w' => r = .returned (.bool true) ∧ Below w.heap.size w w' := by
  have n1 : ((s.size : Int) != 32) = true := by simp; omega
  go_enter Try.func6, Try.ntmps6
  go_wp2_with fail
  refine (alive_any _).mono ?_
  rintro _ w1 ⟨rfl, O⟩
  go_wp2
  go_ret
  exact ⟨rfl, O⟩

set_option maxHeartbeats 1000000 in
theorem keys_no2 (s p : ByteArray) (y : Int) (w : World) (hs : s.size = 32) (hp : p.size ≠ 32) :
    Calls Try.prog 6 #[.string s, .string p, .int .u8 y] w fun r w' => r = .returned (.bool true) ∧ Below w.heap.size w w' := by
  have n1 : ((s.size : Int) != 32) = false := by simp [hs]
  have n2 : ((p.size : Int) != 32) = true := by simp; omega
  go_enter Try.func6, Try.ntmps6
  go_wp2_with fail
  refine (alive_any _).mono ?_
  rintro _ w1 ⟨rfl, O⟩
  go_wp2
  go_ret
  exact ⟨rfl, O⟩

end Go.Proofs.Ytiiniodidkfbiaa
