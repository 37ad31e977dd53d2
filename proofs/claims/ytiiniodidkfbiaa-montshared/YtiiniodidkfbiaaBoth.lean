/- MontBoth and MontRow answer true, whatever the secrets. -/
import Derived.Test.YtiiniodidkfbiaaTell
import Derived.Test.YtiiniodidkfbiaaKeys
namespace Go.Proofs.Ytiiniodidkfbiaa
open Go.RowKit

theorem cl_bt (s : ByteArray) {i : Nat} (hi : i < 32) : bt (clS s) i = clF s i := bsF_bt (fun i _ => clF_bd s i) hi
theorem cl_low {x : Int} (h0 : 0 ≤ x) (h1 : x < 256) : bits .and .u8 x 248 % 8 = 0 ∧ bits .or .u8 (bits .and .u8 x 127) 64 / 64 % 2 = 1 := by
  obtain ⟨X, rfl⟩ := Int.eq_ofNat_of_zero_le h0
  have hX : X < 256 := by omega
  have h : ∀ n : Fin 256, bits .and .u8 ((n.val : Nat) : Int) 248 % 8 = 0 ∧ bits .or .u8 (bits .and .u8 ((n.val : Nat) : Int) 127) 64 / 64 % 2 = 1 := by decide +kernel
  exact h ⟨X, hX⟩
theorem cl_254 (s : ByteArray) : bit (clS s) 254 = 1 := by
  show bt (clS s) 31 / 2 ^ 6 % 2 = 1
  rw [cl_bt s (by omega), show clF s 31 = bits .or .u8 (bits .and .u8 (bt s 31) 127) 64 by simp [clF, upd]]
  exact (cl_low (bt_bd s 31).1 (bt_bd s 31).2).2
theorem cl_012 (s : ByteArray) : bit (clS s) 0 = 0 ∧ bit (clS s) 1 = 0 ∧ bit (clS s) 2 = 0 := by
  have h := (cl_low (bt_bd s 0).1 (bt_bd s 0).2).1
  have e : bt (clS s) 0 = bits .and .u8 (bt s 0) 248 := by
    rw [cl_bt s (by omega)]
    simp [clF, upd]
  refine ⟨?_, ?_, ?_⟩
  · show bt (clS s) 0 / 2 ^ 0 % 2 = 0
    rw [e]
    simp only [Int.pow_zero]
    omega
  · show bt (clS s) 0 / 2 ^ 1 % 2 = 0
    rw [e, show (2 : Int) ^ 1 = 2 by decide]
    omega
  · show bt (clS s) 0 / 2 ^ 2 % 2 = 0
    rw [e, show (2 : Int) ^ 2 = 4 by decide]
    omega
theorem nk_lt (K : ByteArray) : ∀ k, nk K k < 2 ^ k
  | 0 => by
    show 0 < 2 ^ 0
    decide
  | k + 1 => by
    have ih := nk_lt K k
    show 2 * nk K k + (bit K (254 - k)).toNat < _
    rw [Nat.pow_succ]
    rcases bit_two K (254 - k) with h | h <;> rw [h]
    · show 2 * nk K k + 0 < _
      omega
    · show 2 * nk K k + 1 < _
      omega
theorem nk_ge (K : ByteArray) (h : bit K 254 = 1) : ∀ k, 2 ^ k ≤ nk K (k + 1)
  | 0 => by
    show 1 ≤ 2 * 0 + (bit K 254).toNat
    rw [h]
    decide
  | k + 1 => by
    have ih := nk_ge K h k
    show _ ≤ 2 * nk K (k + 1) + (bit K (254 - (k + 1))).toNat
    rw [Nat.pow_succ]
    omega
theorem cl_n (s : ByteArray) : nk (clS s) 255 = 8 * nk (clS s) 252 := by
  obtain ⟨h0, h1, h2⟩ := cl_012 s
  show 2 * (2 * (2 * nk (clS s) 252 + (bit (clS s) 2).toNat) + (bit (clS s) 1).toNat) + (bit (clS s) 0).toNat = _
  rw [h0, h1, h2]
  show 2 * (2 * (2 * nk (clS s) 252 + 0) + 0) + 0 = _
  omega
theorem cl_nd (s : ByteArray) : ¬ oN ∣ nk (clS s) 255 := by
  rw [cl_n]
  intro h
  rcases isO_mul h with h1 | h1
  · revert h1
    decide
  · have h2 := nk_lt (clS s) 252
    have h3 : 2 ^ 251 ≤ nk (clS s) 252 := nk_ge (clS s) (cl_254 s) 251
    have h6 : 0 < nk (clS s) 252 := Nat.lt_of_lt_of_le (by decide) h3
    have h4 : oN ≤ nk (clS s) 252 := Nat.le_of_dvd h6 h1
    have h5 : (2 : Nat) ^ 252 < oN := by decide
    exact absurd (Nat.lt_of_le_of_lt h4 h2) (Nat.lt_asymm h5)
theorem nd_mul {a b : Nat} (ha : ¬ oN ∣ a) (hb : ¬ oN ∣ b) : ¬ oN ∣ a * b := fun h => by
  rcases isO_mul h with h | h
  · exact ha h
  · exact hb h

/-- What a secret tells. -/
theorem Tells.cl {V : Int} {m : Nat} (h : Tells V m) (s : ByteArray) : Tells (shV (clS s) V) (m * nk (clS s) 255) := h.lad _ (nd_mul h.nz (cl_nd s))
theorem Tells.swap {V : Int} {m : Nat} (h : Tells V m) (a b : ByteArray) : shV (clS a) (shV (clS b) V) = shV (clS b) (shV (clS a) V) := by
  have h1 := (h.cl b).cl a
  have h2 := (h.cl a).cl b
  rw [Nat.mul_assoc, Nat.mul_comm (nk (clS a) 255), ← Nat.mul_assoc] at h2
  exact h1.one h2

theorem sh_tells (s : ByteArray) {V : Int} {m : Nat} (h : Tells V m) (hs : s.size = 32) (w : World) :
    Calls Try.prog 8 #[.string s, .string (lebytes V)] w fun r w' => r = .returned (.tuple #[.string (lebytes (shV (clS s) V)), .int .i64 0]) ∧ Below w.heap.size w w' := by
  have h1 := sh_any s (lebytes V) w (shV (clS s) V) hs (leb_size _) (by rw [val_leb h.bd])
  rwa [sS_ne (h.cl s).ne0, sC_ne (h.cl s).ne0] at h1
theorem pub_tells (s : ByteArray) (hs : s.size = 32) (w : World) :
    Calls Try.prog 10 #[.string s] w fun r w' => r = .returned (.tuple #[.string (lebytes (shV (clS s) 9)), .int .i64 0]) ∧ Below w.heap.size w w' := by
  have h1 := pub_any s w (shV (clS s) 9) hs (by rw [v9])
  rwa [sS_ne (tells9.cl s).ne0, sC_ne (tells9.cl s).ne0] at h1

set_option maxRecDepth 100000 in
set_option maxHeartbeats 2000000 in
theorem both_yes (a b : ByteArray) (w : World) (ha : a.size = 32) (hb : b.size = 32) :
    Calls Try.prog 4 #[.string a, .string b] w fun r w' => r = .returned (.bool true) ∧ Below w.heap.size w w' := by
  have H1 := hide (pub_tells a ha)
  have H2 := hide (pub_tells b hb)
  have H3 := hide (sh_tells a (tells9.cl b) ha)
  have H4 := hide (sh_tells b (tells9.cl a) hb)
  have e := tells9.swap a b
  rw [e] at H3
  clear e ha hb
  generalize lebytes (shV (clS b) (shV (clS a) 9)) = S1 at *
  generalize lebytes (shV (clS a) 9) = P1 at *
  generalize lebytes (shV (clS b) 9) = P2 at *
  go_enter Try.func4, Try.ntmps4
  go_wp2_with fail
  refine (H1.out _).mono ?_
  rintro _ w1 ⟨rfl, O⟩
  go_wp2_with fail
  refine (H2.out _).mono ?_
  rintro _ w2 ⟨rfl, hb⟩
  replace O := O.trans (hb.mono O.size)
  clear hb
  go_wp2_with fail
  refine (H3.out _).mono ?_
  rintro _ w3 ⟨rfl, hb⟩
  replace O := O.trans (hb.mono O.size)
  clear hb
  go_wp2_with fail
  refine (H4.out _).mono ?_
  rintro _ w4 ⟨rfl, hb⟩
  replace O := O.trans (hb.mono O.size)
  clear hb
  clear H1 H2 H3 H4
  have hcc : (S1.toList == S1.toList) = true := by simp
  go_wp2_with fail
  refine (alive_any _).mono ?_
  rintro _ w5 ⟨rfl, hb⟩
  replace O := O.trans (hb.mono O.size)
  clear hb
  go_wp2
  go_ret
  exact ⟨rfl, O⟩

set_option maxRecDepth 100000 in
set_option maxHeartbeats 2000000 in
theorem both_no1 (a b S1 S2 : ByteArray) (c1 c2 : Int) (w : World) (n1 : ((a.size : Int) != 32) = true) (m1 : (c1 != 0) = true)
    (A1 : ∀ w, Calls Try.prog 10 #[.string a] w fun r w' => r = .returned (.tuple #[.string S1, .int .i64 c1]) ∧ Below w.heap.size w w') (A2 : ∀ w, Calls Try.prog 10 #[.string b] w fun r w' => r = .returned (.tuple #[.string S2, .int .i64 c2]) ∧ Below w.heap.size w w') :
    Calls Try.prog 4 #[.string a, .string b] w fun r w' => r = .returned (.bool true) ∧ Below w.heap.size w w' := by
  have H1 := hide A1
  have H2 := hide A2
  clear A1 A2
  go_enter Try.func4, Try.ntmps4
  go_wp2_with fail
  refine (H1.out _).mono ?_
  rintro _ w1 ⟨rfl, O⟩
  go_wp2_with fail
  refine (H2.out _).mono ?_
  rintro _ w2 ⟨rfl, hb⟩
  replace O := O.trans (hb.mono O.size)
  clear hb
  clear H1 H2
  go_wp2_with fail
  refine (alive_any _).mono ?_
  rintro _ w3 ⟨rfl, hb⟩
  replace O := O.trans (hb.mono O.size)
  clear hb
  go_wp2
  go_ret
  exact ⟨rfl, O⟩

set_option maxRecDepth 100000 in
set_option maxHeartbeats 2000000 in
theorem both_no2 (a b S1 S2 : ByteArray) (c1 c2 : Int) (w : World) (n1 : ((a.size : Int) != 32) = false) (n2 : ((b.size : Int) != 32) = true) (m1 : (c1 != 0) = false) (m2 : (c2 != 0) = true)
    (A1 : ∀ w, Calls Try.prog 10 #[.string a] w fun r w' => r = .returned (.tuple #[.string S1, .int .i64 c1]) ∧ Below w.heap.size w w') (A2 : ∀ w, Calls Try.prog 10 #[.string b] w fun r w' => r = .returned (.tuple #[.string S2, .int .i64 c2]) ∧ Below w.heap.size w w') :
    Calls Try.prog 4 #[.string a, .string b] w fun r w' => r = .returned (.bool true) ∧ Below w.heap.size w w' := by
  have H1 := hide A1
  have H2 := hide A2
  clear A1 A2
  go_enter Try.func4, Try.ntmps4
  go_wp2_with fail
  refine (H1.out _).mono ?_
  rintro _ w1 ⟨rfl, O⟩
  go_wp2_with fail
  refine (H2.out _).mono ?_
  rintro _ w2 ⟨rfl, hb⟩
  replace O := O.trans (hb.mono O.size)
  clear hb
  clear H1 H2
  go_wp2_with fail
  refine (alive_any _).mono ?_
  rintro _ w3 ⟨rfl, hb⟩
  replace O := O.trans (hb.mono O.size)
  clear hb
  go_wp2
  go_ret
  exact ⟨rfl, O⟩

theorem pub_all (s : ByteArray) : ∃ (S : ByteArray) (c : Int), ∀ w, Calls Try.prog 10 #[.string s] w fun r w' => r = .returned (.tuple #[.string S, .int .i64 c]) ∧ Below w.heap.size w w' := by
  by_cases h : s.size = 32
  · exact ⟨_, _, pub_tells s h⟩
  · exact ⟨_, _, fun w => pub_no s w h⟩

theorem both_any (a b : ByteArray) (w : World) :
    Calls Try.prog 4 #[.string a, .string b] w fun r w' => r = .returned (.bool true) ∧ Below w.heap.size w w' := by
  by_cases ha : a.size = 32
  · by_cases hb : b.size = 32
    · exact both_yes a b w ha hb
    · exact both_no2 a b _ _ 0 2 w (by simp [ha]) (by simp; omega) rfl rfl (pub_tells a ha) (fun w => pub_no b w hb)
  · obtain ⟨S, c, h⟩ := pub_all b
    exact both_no1 a b _ S 2 c w (by simp; omega) rfl (fun w => pub_no a w ha) h

set_option maxRecDepth 100000 in
set_option maxHeartbeats 2000000 in
theorem row_yes (a b c : ByteArray) (w : World) (ha : a.size = 32) (hb : b.size = 32) (hc : c.size = 32) :
    Calls Try.prog 5 #[.string a, .string b, .string c] w fun r w' => r = .returned (.bool true) ∧ Below w.heap.size w w' := by
  have H1 := hide (pub_tells a ha)
  have H2 := hide (sh_tells b (tells9.cl a) hb)
  have H3 := hide (sh_tells c (tells9.cl a) hc)
  have H4 := hide (sh_tells c ((tells9.cl a).cl b) hc)
  have H5 := hide (sh_tells b ((tells9.cl a).cl c) hb)
  have e := (tells9.cl a).swap c b
  rw [e] at H4
  have n1 : ((b.size : Int) != 32) = false := by simp [hb]
  have n2 : ((c.size : Int) != 32) = false := by simp [hc]
  clear e
  generalize lebytes (shV (clS b) (shV (clS c) (shV (clS a) 9))) = S1 at *
  generalize lebytes (shV (clS b) (shV (clS a) 9)) = S2 at *
  generalize lebytes (shV (clS c) (shV (clS a) 9)) = S3 at *
  generalize lebytes (shV (clS a) 9) = P1 at *
  go_enter Try.func5, Try.ntmps5
  go_wp2_with fail
  refine (H1.out _).mono ?_
  rintro _ w1 ⟨rfl, O⟩
  go_wp2_with fail
  refine (H2.out _).mono ?_
  rintro _ w2 ⟨rfl, hb⟩
  replace O := O.trans (hb.mono O.size)
  clear hb
  go_wp2_with fail
  refine (H3.out _).mono ?_
  rintro _ w3 ⟨rfl, hb⟩
  replace O := O.trans (hb.mono O.size)
  clear hb
  go_wp2_with fail
  refine (H4.out _).mono ?_
  rintro _ w4 ⟨rfl, hb⟩
  replace O := O.trans (hb.mono O.size)
  clear hb
  go_wp2_with fail
  refine (H5.out _).mono ?_
  rintro _ w5 ⟨rfl, hb⟩
  replace O := O.trans (hb.mono O.size)
  clear hb
  clear H1 H2 H3 H4 H5
  have hcc : (S1.toList == S1.toList) = true := by simp
  go_wp2_with fail
  refine (alive_any _).mono ?_
  rintro _ w6 ⟨rfl, hb⟩
  replace O := O.trans (hb.mono O.size)
  clear hb
  go_wp2
  go_ret
  exact ⟨rfl, O⟩

set_option maxRecDepth 100000 in
set_option maxHeartbeats 2000000 in
theorem row_no1 (a b c S1 : ByteArray) (c1 : Int) (w : World) (m1 : (c1 != 0) = true)
    (A1 : ∀ w, Calls Try.prog 10 #[.string a] w fun r w' => r = .returned (.tuple #[.string S1, .int .i64 c1]) ∧ Below w.heap.size w w') :
    Calls Try.prog 5 #[.string a, .string b, .string c] w fun r w' => r = .returned (.bool true) ∧ Below w.heap.size w w' := by
  have H1 := hide A1
  clear A1
  go_enter Try.func5, Try.ntmps5
  go_wp2_with fail
  refine (H1.out _).mono ?_
  rintro _ w1 ⟨rfl, O⟩
  clear H1
  go_wp2_with fail
  refine (alive_any _).mono ?_
  rintro _ w3 ⟨rfl, hb⟩
  replace O := O.trans (hb.mono O.size)
  clear hb
  go_wp2
  go_ret
  exact ⟨rfl, O⟩

set_option maxRecDepth 100000 in
set_option maxHeartbeats 2000000 in
theorem row_no2 (a b c S1 : ByteArray) (c1 : Int) (w : World) (m1 : (c1 != 0) = false) (n1 : ((b.size : Int) != 32) = true)
    (A1 : ∀ w, Calls Try.prog 10 #[.string a] w fun r w' => r = .returned (.tuple #[.string S1, .int .i64 c1]) ∧ Below w.heap.size w w') :
    Calls Try.prog 5 #[.string a, .string b, .string c] w fun r w' => r = .returned (.bool true) ∧ Below w.heap.size w w' := by
  have H1 := hide A1
  clear A1
  go_enter Try.func5, Try.ntmps5
  go_wp2_with fail
  refine (H1.out _).mono ?_
  rintro _ w1 ⟨rfl, O⟩
  clear H1
  go_wp2_with fail
  refine (alive_any _).mono ?_
  rintro _ w3 ⟨rfl, hb⟩
  replace O := O.trans (hb.mono O.size)
  clear hb
  go_wp2
  go_ret
  exact ⟨rfl, O⟩

set_option maxRecDepth 100000 in
set_option maxHeartbeats 2000000 in
theorem row_no3 (a b c S1 : ByteArray) (c1 : Int) (w : World) (m1 : (c1 != 0) = false) (n1 : ((b.size : Int) != 32) = false) (n2 : ((c.size : Int) != 32) = true)
    (A1 : ∀ w, Calls Try.prog 10 #[.string a] w fun r w' => r = .returned (.tuple #[.string S1, .int .i64 c1]) ∧ Below w.heap.size w w') :
    Calls Try.prog 5 #[.string a, .string b, .string c] w fun r w' => r = .returned (.bool true) ∧ Below w.heap.size w w' := by
  have H1 := hide A1
  clear A1
  go_enter Try.func5, Try.ntmps5
  go_wp2_with fail
  refine (H1.out _).mono ?_
  rintro _ w1 ⟨rfl, O⟩
  clear H1
  go_wp2_with fail
  refine (alive_any _).mono ?_
  rintro _ w3 ⟨rfl, hb⟩
  replace O := O.trans (hb.mono O.size)
  clear hb
  go_wp2
  go_ret
  exact ⟨rfl, O⟩

theorem row_any (a b c : ByteArray) (w : World) :
    Calls Try.prog 5 #[.string a, .string b, .string c] w fun r w' => r = .returned (.bool true) ∧ Below w.heap.size w w' := by
  by_cases ha : a.size = 32
  · by_cases hb : b.size = 32
    · by_cases hc : c.size = 32
      · exact row_yes a b c w ha hb hc
      · exact row_no3 a b c _ 0 w rfl (by simp [hb]) (by simp; omega) (pub_tells a ha)
    · exact row_no2 a b c _ 0 w rfl (by simp; omega) (pub_tells a ha)
  · exact row_no1 a b c _ 2 w rfl (fun w => pub_no a w ha)

end Go.Proofs.Ytiiniodidkfbiaa
