/- Part 4 of the walks and facts. -/
import Derived.Test.YtffimigpbcilbaaGreatDoorCpDef
import Derived.Test.YtffimigpbcilbaaGreatDoorCp3
set_option maxHeartbeats 16000000
set_option maxRecDepth 100000
namespace Go.Proofs.YtffimigpbcilbaaGreatDoor
open Go.RowKit
def dob (key nonce : Yb) (n : Int) (s : Yb) (i : Nat) : Int := xb (bt s i) (bt (dbk key nonce (va n ((i / 64 : Nat) : Int))) (i % 64))
def dl (s : Yb) (g : NI) (j : Nat) : List Int := (List.range s.size).map fun i => if i < j then g i else bt s i
theorem dl_length (s : Yb) (g : NI) (j : Nat) : (dl s g j).length = s.size := by simp [dl]
theorem dl_zero (s : Yb) (g : NI) : sb s = dl s g 0 := by
 refine List.ext_getElem? fun i => ?_
 by_cases h : i < s.size
 ·rw [sb_get s i h]
  simp [dl, h]
 ·rw [List.getElem?_eq_none (by rw [sb_length]; omega), List.getElem?_eq_none (by rw [dl_length]; omega)]
theorem dl_get (s : Yb) (g : NI) (j : Nat) (h : j < s.size) : (vs8 (dl s g j))[j]? = some (.int .u8 (bt s j)) := by
 simp [vs8, dl, h]
theorem dl_set (s : Yb) (g : NI) (j : Nat) (h : j < s.size) : (vs8 (dl s g j)).set j (.int .u8 (g j)) = vs8 (dl s g (j + 1)) := by
 refine List.ext_getElem? fun i => ?_
 rw [List.getElem?_set]
 by_cases e : j = i
 ·subst e
  rw [if_pos rfl, if_pos (by rw [vs8_length, dl_length]; exact h)]
  simp [vs8, dl, h]
 ·rw [if_neg e]
  by_cases hi : i < s.size
  ·simp only [vs8, dl, List.map_map, List.getElem?_map, List.getElem?_range hi]
   simp only [Option.map_some, Function.comp]
   by_cases h2 : i < j
   ·rw [if_pos h2, if_pos (by omega)]
   ·rw [if_neg h2, if_neg (by omega)]
  ·rw [List.getElem?_eq_none (by rw [vs8_length, dl_length]; omega), List.getElem?_eq_none (by rw [vs8_length, dl_length]; omega)]
theorem dl_full (s : Yb) (g : NI) : dl s g s.size = (List.range s.size).map g := List.map_congr_left fun _ hi => if_pos (List.mem_range.1 hi)
def dT (key nonce : Yb) (n : Int) (s : Yb) : ByteArray := bs ((List.range s.size).map (dob key nonce n s))
theorem dob_nn (key nonce : Yb) (n : Int) (s : Yb) : ∀ x ∈ (List.range s.size).map (dob key nonce n s), 0 ≤ x ∧ x < 256 := fun x hx => by
 obtain ⟨i, _, rfl⟩ := List.mem_map.1 hx
 exact xb_nn _ _
def kS (key nonce : Yb) (n : Int) : Nat → ByteArray
 | 0 => strE
 | j + 1 => dbk key nonce (va n ((j / 64 : Nat) : Int))
theorem kS_at (key nonce : Yb) (n : Int) (j : Nat) (h : j % 64 ≠ 0) : kS key nonce n j = dbk key nonce (va n ((j / 64 : Nat) : Int)) := by
 rcases j with _ | j
 ·exact absurd rfl h
 ·show dbk key nonce (va n ((j / 64 : Nat) : Int)) = _
  rw [show (j + 1) / 64 = j / 64 by omega]
theorem cvu32 (n : Nat) (h : n < 4294967296) : cv .u32 (n : Int) = (n : Int) := wrap32_nat n h
theorem d_TurnA (key nonce : Yb) (n : Nat) (hn : n < 4294967296) (s : Yb) (hz : s.size ≤ 200000) (hm : (key.size = 32 ∧ nonce.size = 12)) (hl : ¬ (4294967296 < n + (s.size + 63) / 64)) (w : World) (hL : Laid w)  : Cs 78 #[.string key, .string nonce, .int .u32 (n : Int), .string s] w (.tuple #[.string (dT key nonce (n : Int) s), .int .i64 0]) := by
 go_enter Tryz.func78, Tryz.ntmps78
 have M := Mem.start hL
 refine sq <| wp_seq <| sR <| rV 2 <| pC M 16 77 #[.string key, .string nonce] (.bool true) (fun w M => (by rw [← decide_eq_true hm]; exact d_may key nonce w M.laid)) fun u1 M => rV 1 <| nT <| cF <| wp_skip <| au_then <| sR <| rV 2 <| ZI 20 ((s.size : Int) + 63) ((s.size + 63 : Nat) : Int) <| ZQ 21 .u64 (cv .u64 ((s.size + 63 : Nat) : Int)) (cvu64 _ (by omega)) <| ZQ 22 .u64 (IntKind.wrap .u64 (((s.size + 63 : Nat) : Int).tdiv 64)) (quoU _ (by omega)) <| rV 1 ?_
 refine nT <| wp_seq <| sR <| rV 1 <| ZQ 24 .u64 (cv .u64 (n : Int)) (cvu64 _ (by omega)) <| rV 1 <| zJ 26 (.int .u64 ((n + (s.size + 63) / 64 : Nat) : Int)) (.int .u64 (IntKind.wrap .u64 ((n : Int) + (((s.size + 63) / 64 : Nat) : Int)))) (by rw [show (n : Int) + (((s.size + 63) / 64 : Nat) : Int) = ((n + (s.size + 63) / 64 : Nat) : Int) by omega, wu64 _ (by omega)]) <| ZF 27 ((4294967296 : Int) < ((n + (s.size + 63) / 64 : Nat) : Int)) <| nT <| cF <| wp_skip <| au_then <| sR <| rV 1 <| pl_conv M (want_no rfl) (some 29) rfl _ rfl s (by kernel_rfl) ?_
 intro gq capq Zq u2 hZq M
 rw [dl_zero s (dob key nonce (n : Int) s)] at hZq
 refine rV 1 <| nT <| sq <| wp_seq <| sq <| wp_block ?_
 refine au_loop (fun j a u => ∃ (v1 : NV) (Zq : Obj), a = (fm ([.string key, .string nonce, .int .u32 (n : Int), .string s] ++ und 4 ++ [.string ⟨#[]⟩, .int .i64 0, .int .u64 (((s.size + 63) / 64 : Nat) : Int), .slice (some ⟨gq, 0, none⟩) s.size capq, .string (kS key nonce (n : Int) j), .int .i64 (j : Int), .string key, .string nonce, .bool true, .bool false, .string s, .int .i64 (s.size : Int), .int .i64 ((s.size + 63 : Nat) : Int), .int .u64 ((s.size + 63 : Nat) : Int), .int .u64 (((s.size + 63) / 64 : Nat) : Int), .int .u32 (n : Int), .int .u64 (n : Int), .int .u64 (((s.size + 63) / 64 : Nat) : Int), .int .u64 ((n + (s.size + 63) / 64 : Nat) : Int), .bool false, .string s, .slice (some ⟨gq, 0, none⟩) s.size capq] ++ vr v1 30 29 ++ [undef, undef])) ∧ SB Zq capq (vs8 (dl s (dob key nonce (n : Int) s) j)) ∧ Mem ⟨w, []⟩ [⟨gq, Zq⟩] u) s.size (exS2 Zq ⟨hZq, M⟩) ?_ ?_
 ·intro j a u0 hj hI
  clear M hZq
  obtain ⟨v1, Zq, rfl, hZq, M⟩ := hI
  by_cases h64 : j % 64 = 0
  ·refine wp_seq <| sR <| rV 3 <| ZT 33 ((j : Int) < ((s.size : Nat) : Int)) <| nT <| cT <| wp_skip <| au_then <| wp_seq <| wp_block <| wp_seq <| sR <| rV 1 <| ZQ 37 .i64 (Int.tmod (j : Int) 64) (rem64 j) <| ZT 38 (((j % 64 : Nat) : Int) = 0) <| nT ?_
   refine cT <| rg_lit <| rV 4 <| ZQ 43 .i64 (IntKind.wrap .i64 ((j : Int).tdiv 64)) (quo64 j (by omega)) <| zJ 44 (.int .u32 ((j / 64 : Nat) : Int)) (.int .u32 (cv .u32 ((j / 64 : Nat) : Int))) (by rw [cvu32 _ (by omega)]) <| rV 1 <| pC M 46 108 #[.string key, .string nonce, .int .u32 (va (n : Int) ((j / 64 : Nat) : Int))] (.string (dbk key nonce (va (n : Int) ((j / 64 : Nat) : Int)))) (fun w M => d_Block key nonce _ hm.1 hm.2 w M.laid) fun u3 M => rV 1 <| nT <| rgh M [⟨gq, Zq⟩] 12 fun u4 M => qV M 0 47 (.slice (some ⟨gq, 0, none⟩) s.size capq) <| qV M 1 48 (.int .i64 (j : Int)) <| qV M 2 49 (.slice (some ⟨gq, 0, none⟩) s.size capq) <| qV M 3 50 (.int .i64 (j : Int)) <| qH M 4 51 (pJ gq j) (fun w _ => (run_ix0 61 5 Tryz.underlying61 inz5 _ _ rfl gq s.size capq (by kernel_rfl) .i64 j (by kernel_rfl) hj) w) <| qC M 5 52 gq j (.int .u8 (bt s j)) (fun w M => hZq.cell (M.get 0 rfl) (dl_get s (dob key nonce (n : Int) s) j hj)) ?_
   refine qV M 6 53 (.string (dbk key nonce (va (n : Int) ((j / 64 : Nat) : Int)))) <| qV M 7 54 (.int .i64 (j : Int)) <| qH M 8 55 (.int .i64 ((j % 64 : Nat) : Int)) (fun w _ => (fun w => Eq.trans (b := .ok (.value (.int .i64 (Int.tmod (j : Int) 64))) w) (by kernel_rfl) (by rw [rem64 j])) w) <| qH M 9 56 (.int .u8 (bt (dbk key nonce (va (n : Int) ((j / 64 : Nat) : Int))) (j % 64))) (fun w _ => (run_ixS 9 Tryz.underlying9 _ _ rfl (dbk key nonce (va (n : Int) ((j / 64 : Nat) : Int))) (by kernel_rfl) .i64 (j % 64) (by kernel_rfl) (by rw [dbk_size]; omega)) w) <| qH M 10 57 (.int .u8 (dob key nonce (n : Int) s j)) (fun w _ => (fun w => Eq.trans (b := .ok (.value (.int .u8 (xb (bt s j) (bt (dbk key nonce (va (n : Int) ((j / 64 : Nat) : Int))) (j % 64))))) w) (by kernel_rfl) (by unfold dob; rfl)) w) <| qH M 11 58 (pJ gq j) (fun w _ => (run_ix0 61 5 Tryz.underlying61 inz5 _ _ rfl gq s.size capq (by kernel_rfl) .i64 j (by kernel_rfl) hj) w) <| qZ ?_
   refine pl_putS M (want_no rfl) rfl 5 _ _ rfl 0 gq j (by kernel_rfl) Zq rfl capq _ hZq (by rw [vs8_length, dl_length]; exact hj) (.int .u8 (dob key nonce (n : Int) s j)) (by kernel_rfl) inz5 rfl rfl ?_
   intro Zp u5 hZp M
   rw [dl_set s (dob key nonce (n : Int) s) j hj] at hZp
   refine nT <| au_block <| au_then <| rg_lit <| rV 1 <| ZI 35 ((j : Int) + 1) ((j + 1 : Nat) : Int) <| rV 1 <| nT ?_
   exact exS2 Zp ⟨hZp, M⟩
  ·rw [kS_at key nonce (n : Int) j h64]
   refine wp_seq <| sR <| rV 3 <| ZT 33 ((j : Int) < ((s.size : Nat) : Int)) <| nT <| cT <| wp_skip <| au_then <| wp_seq <| wp_block <| wp_seq <| sR <| rV 1 <| ZQ 37 .i64 (Int.tmod (j : Int) 64) (rem64 j) <| ZF 38 (((j % 64 : Nat) : Int) = 0) <| nT ?_
   refine cF <| wp_skip <| au_then <| rgh M [⟨gq, Zq⟩] 12 fun u6 M => qV M 0 47 (.slice (some ⟨gq, 0, none⟩) s.size capq) <| qV M 1 48 (.int .i64 (j : Int)) <| qV M 2 49 (.slice (some ⟨gq, 0, none⟩) s.size capq) <| qV M 3 50 (.int .i64 (j : Int)) <| qH M 4 51 (pJ gq j) (fun w _ => (run_ix0 61 5 Tryz.underlying61 inz5 _ _ rfl gq s.size capq (by kernel_rfl) .i64 j (by kernel_rfl) hj) w) <| qC M 5 52 gq j (.int .u8 (bt s j)) (fun w M => hZq.cell (M.get 0 rfl) (dl_get s (dob key nonce (n : Int) s) j hj)) <| qV M 6 53 (.string (dbk key nonce (va (n : Int) ((j / 64 : Nat) : Int)))) <| qV M 7 54 (.int .i64 (j : Int)) <| qH M 8 55 (.int .i64 ((j % 64 : Nat) : Int)) (fun w _ => (fun w => Eq.trans (b := .ok (.value (.int .i64 (Int.tmod (j : Int) 64))) w) (by kernel_rfl) (by rw [rem64 j])) w) <| qH M 9 56 (.int .u8 (bt (dbk key nonce (va (n : Int) ((j / 64 : Nat) : Int))) (j % 64))) (fun w _ => (run_ixS 9 Tryz.underlying9 _ _ rfl (dbk key nonce (va (n : Int) ((j / 64 : Nat) : Int))) (by kernel_rfl) .i64 (j % 64) (by kernel_rfl) (by rw [dbk_size]; omega)) w) <| qH M 10 57 (.int .u8 (dob key nonce (n : Int) s j)) (fun w _ => (fun w => Eq.trans (b := .ok (.value (.int .u8 (xb (bt s j) (bt (dbk key nonce (va (n : Int) ((j / 64 : Nat) : Int))) (j % 64))))) w) (by kernel_rfl) (by unfold dob; rfl)) w) <| qH M 11 58 (pJ gq j) (fun w _ => (run_ix0 61 5 Tryz.underlying61 inz5 _ _ rfl gq s.size capq (by kernel_rfl) .i64 j (by kernel_rfl) hj) w) ?_
   refine qZ ?_
   refine pl_putS M (want_no rfl) rfl 5 _ _ rfl 0 gq j (by kernel_rfl) Zq rfl capq _ hZq (by rw [vs8_length, dl_length]; exact hj) (.int .u8 (dob key nonce (n : Int) s j)) (by kernel_rfl) inz5 rfl rfl ?_
   intro Zp u7 hZp M
   rw [dl_set s (dob key nonce (n : Int) s) j hj] at hZp
   refine nT <| au_block <| au_then <| rg_lit <| rV 1 <| ZI 35 ((j : Int) + 1) ((j + 1 : Nat) : Int) <| rV 1 <| nT ?_
   exact exS2 Zp ⟨hZp, M⟩
 ·intro a u0 hI
  clear M hZq
  obtain ⟨v1, Zq, rfl, hZq, M⟩ := hI
  refine wp_seq <| sR <| rV 3 <| ZF 33 ((s.size : Int) < ((s.size : Nat) : Int)) <| nT <| cF <| wp_exit <| au_then_exit <| au_then_exit <| au_block_exit <| au_then <| sR <| rV 1 <| pl_back M (want_no rfl) (some 60) rfl _ rfl 0 gq s.size capq (by kernel_rfl) _ rfl (dl s (dob key nonce (n : Int) s) s.size) capq hZq (dl_length _ _ _) (by rw [dl_full]; exact dob_nn _ _ _ _) ?_
  rw [dl_full]
  refine rV 2 <| nT <| wp_ret ?_
  exact b1 M
open Go.RowKit
theorem cv32 (c : Int) (h0 : 0 ≤ c) (h1 : c < 256) : cv .u32 c = c := by
 unfold cv
 obtain ⟨n, rfl⟩ : ∃ n : Nat, c = (n : Int) := ⟨c.toNat, by omega⟩
 exact wrap32_nat n (by omega)
theorem vl_nat (x k : Nat) (h : x * 2 ^ k < 4294967296) : vl (x : Int) k = ((x * 2 ^ k : Nat) : Int) := by
 unfold vl
 rw [← wrap32_nat _ h]
 congr 1
theorem vo_nat (x y : Nat) (hx : x < 4294967296) (hy : y < 4294967296) : vo (x : Int) (y : Int) = ((x ||| y : Nat) : Int) := by
 unfold vo
 have h1 : BitVec.ofInt 32 (x : Int) = BitVec.ofNat 32 x := by
  apply BitVec.eq_of_toNat_eq
  rw [BitVec.toNat_ofInt, BitVec.toNat_ofNat]
  omega
 have h2 : BitVec.ofInt 32 (y : Int) = BitVec.ofNat 32 y := by
  apply BitVec.eq_of_toNat_eq
  rw [BitVec.toNat_ofInt, BitVec.toNat_ofNat]
  omega
 rw [h1, h2, wrap32_nat _ (BitVec.isLt _), BitVec.toNat_or, BitVec.toNat_ofNat, BitVec.toNat_ofNat, Nat.mod_eq_of_lt (by omega), Nat.mod_eq_of_lt (by omega)]
theorem vo_add (k x c : Nat) (hx : x < 2 ^ k) (h : 2 ^ k * c + x < 4294967296) : vo (x : Int) ((2 ^ k * c : Nat) : Int) = ((2 ^ k * c + x : Nat) : Int) := by
 rw [vo_nat _ _ (by omega) (by omega), Nat.or_comm, Nat.two_pow_add_eq_or_of_lt hx c]
theorem vo_vl0 (x c : Int) (hx0 : 0 ≤ x) (hx : x < 1) (hc0 : 0 ≤ c) (hc : c < 256) : vo x (vl (cv .u32 c) 0) = x + 1 * c := by
 rw [cv32 c hc0 hc]
 obtain ⟨a, rfl⟩ : ∃ a : Nat, x = (a : Int) := ⟨x.toNat, by omega⟩
 obtain ⟨b, rfl⟩ : ∃ b : Nat, c = (b : Int) := ⟨c.toNat, by omega⟩
 rw [vl_nat b 0 (by omega), show b * 2 ^ 0 = 2 ^ 0 * b by omega, vo_add 0 a b (by omega) (by omega)]
 omega
theorem vo_vl1 (x c : Int) (hx0 : 0 ≤ x) (hx : x < 256) (hc0 : 0 ≤ c) (hc : c < 256) : vo x (vl (cv .u32 c) 8) = x + 256 * c := by
 rw [cv32 c hc0 hc]
 obtain ⟨a, rfl⟩ : ∃ a : Nat, x = (a : Int) := ⟨x.toNat, by omega⟩
 obtain ⟨b, rfl⟩ : ∃ b : Nat, c = (b : Int) := ⟨c.toNat, by omega⟩
 rw [vl_nat b 8 (by omega), show b * 2 ^ 8 = 2 ^ 8 * b by omega, vo_add 8 a b (by omega) (by omega)]
 omega
theorem vo_vl2 (x c : Int) (hx0 : 0 ≤ x) (hx : x < 65536) (hc0 : 0 ≤ c) (hc : c < 256) : vo x (vl (cv .u32 c) 16) = x + 65536 * c := by
 rw [cv32 c hc0 hc]
 obtain ⟨a, rfl⟩ : ∃ a : Nat, x = (a : Int) := ⟨x.toNat, by omega⟩
 obtain ⟨b, rfl⟩ : ∃ b : Nat, c = (b : Int) := ⟨c.toNat, by omega⟩
 rw [vl_nat b 16 (by omega), show b * 2 ^ 16 = 2 ^ 16 * b by omega, vo_add 16 a b (by omega) (by omega)]
 omega
theorem vo_vl3 (x c : Int) (hx0 : 0 ≤ x) (hx : x < 16777216) (hc0 : 0 ≤ c) (hc : c < 256) : vo x (vl (cv .u32 c) 24) = x + 16777216 * c := by
 rw [cv32 c hc0 hc]
 obtain ⟨a, rfl⟩ : ∃ a : Nat, x = (a : Int) := ⟨x.toNat, by omega⟩
 obtain ⟨b, rfl⟩ : ∃ b : Nat, c = (b : Int) := ⟨c.toNat, by omega⟩
 rw [vl_nat b 24 (by omega), show b * 2 ^ 24 = 2 ^ 24 * b by omega, vo_add 24 a b (by omega) (by omega)]
 omega
theorem va_comm (x y : Int) : va x y = va y x := by
 rw [va_eq, va_eq]
 omega
theorem pw_no (v : NI) (p : Nat) (b : NI) (t : Nat) : ∀ m, (∀ j, j < m → t ≠ p + j / 4) → pw v p b m t = v t
 | 0, _ => rfl
 | m + 1, h => by
  unfold pw
  rw [up_ne _ _ _ (h m (by omega)), pw_no v p b t m (fun j hj => h j (by omega))]
theorem pw_done (v : NI) (p : Nat) (b : NI) (q : Nat) : ∀ d, pw v p b (4 * q + 4 + d) (p + q) = pw v p b (4 * q + 4) (p + q)
 | 0 => rfl
 | d + 1 => by
  show upd (pw v p b (4 * q + 4 + d)) (p + (4 * q + 4 + d) / 4) _ (p + q) = _
  rw [up_ne _ _ _ (by omega), pw_done v p b q d]
def n4 (b0 b1 b2 b3 : Int) : Int := b0 + 256 * b1 + 65536 * b2 + 16777216 * b3
theorem pw_four (v : NI) (p : Nat) (b : NI) (hb : ∀ i, 0 ≤ b i ∧ b i < 256) (q : Nat) (h0 : v (p + q) = 0) : pw v p b (4 * q + 4) (p + q) = n4 (b (4 * q)) (b (4 * q + 1)) (b (4 * q + 2)) (b (4 * q + 3)) := by
 have c0 := hb (4 * q)
 have c1 := hb (4 * q + 1)
 have c2 := hb (4 * q + 2)
 have c3 := hb (4 * q + 3)
 have s0 : pw v p b (4 * q) (p + q) = 0 := by rw [pw_no v p b _ _ (fun j hj => by omega), h0]
 have s1 : pw v p b (4 * q + 1) (p + q) = b (4 * q) := by
  unfold pw
  rw [show p + 4 * q / 4 = p + q by omega, up_at, s0, show 4 * q % 4 * 8 = 0 by omega, vo_vl0 _ _ (by omega) (by omega) c0.1 c0.2]
  omega
 have s2 : pw v p b (4 * q + 2) (p + q) = b (4 * q) + 256 * b (4 * q + 1) := by
  show upd (pw v p b (4 * q + 1)) (p + (4 * q + 1) / 4) (vo (pw v p b (4 * q + 1) (p + (4 * q + 1) / 4)) (vl (cv .u32 (b (4 * q + 1))) ((4 * q + 1) % 4 * 8))) (p + q) = _
  rw [show p + (4 * q + 1) / 4 = p + q by omega, up_at, s1, show (4 * q + 1) % 4 * 8 = 8 by omega, vo_vl1 _ _ (by omega) (by omega) c1.1 c1.2]
 have s3 : pw v p b (4 * q + 3) (p + q) = b (4 * q) + 256 * b (4 * q + 1) + 65536 * b (4 * q + 2) := by
  show upd (pw v p b (4 * q + 2)) (p + (4 * q + 2) / 4) (vo (pw v p b (4 * q + 2) (p + (4 * q + 2) / 4)) (vl (cv .u32 (b (4 * q + 2))) ((4 * q + 2) % 4 * 8))) (p + q) = _
  rw [show p + (4 * q + 2) / 4 = p + q by omega, up_at, s2, show (4 * q + 2) % 4 * 8 = 16 by omega, vo_vl2 _ _ (by omega) (by omega) c2.1 c2.2]
 show upd (pw v p b (4 * q + 3)) (p + (4 * q + 3) / 4) (vo (pw v p b (4 * q + 3) (p + (4 * q + 3) / 4)) (vl (cv .u32 (b (4 * q + 3))) ((4 * q + 3) % 4 * 8))) (p + q) = _
 rw [show p + (4 * q + 3) / 4 = p + q by omega, up_at, s3, show (4 * q + 3) % 4 * 8 = 24 by omega, vo_vl3 _ _ (by omega) (by omega) c3.1 c3.2]
 rfl
theorem pw_word (v : NI) (p : Nat) (b : NI) (hb : ∀ i, 0 ≤ b i ∧ b i < 256) (m q : Nat) (hq : 4 * q + 4 ≤ m) (h0 : v (p + q) = 0) : pw v p b m (p + q) = n4 (b (4 * q)) (b (4 * q + 1)) (b (4 * q + 2)) (b (4 * q + 3)) := by
 obtain ⟨d, rfl⟩ : ∃ d, m = 4 * q + 4 + d := ⟨m - (4 * q + 4), by omega⟩
 rw [pw_done, pw_four v p b hb q h0]
theorem wd4_n4 (s : Yb) : wd4 s = n4 (bt s 0) (bt s 1) (bt s 2) (bt s 3) := by
 have c0 := bt_nn s 0
 have c1 := bt_nn s 1
 have c2 := bt_nn s 2
 have c3 := bt_nn s 3
 unfold wd4
 rw [cv32 (bt s 0) c0.1 c0.2, vo_vl1 _ _ c0.1 c0.2 c1.1 c1.2, vo_vl2 _ _ (by omega) (by omega) c2.1 c2.2, vo_vl3 _ _ (by omega) (by omega) c3.1 c3.2]
 rfl
theorem bt_sub (s : Yb) (p q j : Nat) (hj : j < q - p) (hq : q ≤ s.size) : bt (s.extract p q) j = bt s (p + j) := by
 unfold bt
 rw [ByteArray.data_extract, Array.getElem?_extract, if_pos (by show j < min q s.data.size - p; have : s.size = s.data.size := rfl; omega)]
theorem dx_at (al : Yb) : ∀ n, ∀ i, i < n → dx al n i = wd4 (al.extract (4 * i) (4 * i + 4))
 | 0, i, h => absurd h (by omega)
 | n + 1, i, h => by
  unfold dx upd
  by_cases e : i = n
  ·rw [if_pos e, e]
  ·rw [if_neg e, dx_at al n i (by omega)]
theorem dx_out (al : Yb) : ∀ n, ∀ i, n ≤ i → dx al n i = 0
 | 0, _, _ => rfl
 | n + 1, i, h => by
  unfold dx
  rw [up_ne _ _ _ (by omega), dx_out al n i (by omega)]
theorem dx_n4 (al : Yb) (ha : al.size = 64) (i : Nat) (hi : i < 16) : dx al 16 i = n4 (bt al (4 * i)) (bt al (4 * i + 1)) (bt al (4 * i + 2)) (bt al (4 * i + 3)) := by
 rw [dx_at al 16 i hi, wd4_n4, bt_sub _ _ _ _ (by omega) (by omega), bt_sub _ _ _ _ (by omega) (by omega), bt_sub _ _ _ _ (by omega) (by omega), bt_sub _ _ _ _ (by omega) (by omega), Nat.add_zero]
theorem bt_left (a b : Yb) (i : Nat) (h : i < a.size) : bt (a ++ b) i = bt a i := by
 unfold bt
 rw [ByteArray.data_append, Array.getElem?_append_left h]
theorem bt_right (a b : Yb) (i : Nat) (h : a.size ≤ i) : bt (a ++ b) i = bt b (i - a.size) := by
 unfold bt
 rw [ByteArray.data_append, Array.getElem?_append_right h]
 rfl
theorem bt_bs (l : List Int) (h : ∀ x ∈ l, 0 ≤ x ∧ x < 256) (i : Nat) : bt (bs l) i = l.getD i 0 := by rw [bt_of_sb, sb_bs l h]
theorem nb_n4 (n : Int) (h0 : 0 ≤ n) (h1 : n < 4294967296) : n4 (nb n 0) (nb n 1) (nb n 2) (nb n 3) = n := by
 obtain ⟨m, rfl⟩ : ∃ m : Nat, n = (m : Int) := ⟨n.toNat, by omega⟩
 have hc : ∀ k : Nat, cv .u8 (k : Int) = ((k % 256 : Nat) : Int) := fun k => by
  unfold cv
  simp [IntKind.wrap, IntKind.signed, IntKind.bits]
 have hs : ∀ k : Nat, sr (m : Int) k = ((m / 2 ^ k : Nat) : Int) := fun k => by
  unfold sr
  rw [Int.fdiv_eq_ediv_of_nonneg _ (by exact Int.le_of_lt (Int.pow_pos (by decide)))]
  simp
 show n4 (cv .u8 (m : Int)) (cv .u8 (sr (m : Int) 8)) (cv .u8 (sr (m : Int) 16)) (cv .u8 (sr (m : Int) 24)) = _
 rw [hs, hs, hs, hc, hc, hc, hc]
 unfold n4
 omega
def fw0 (key nonce : Yb) : Nat → Int := pw (f2 key) 13 (bt nonce) nonce.size
theorem pw_upd (v : NI) (x : Int) (b : NI) : ∀ m, pw (upd v 12 x) 13 b m = upd (pw v 13 b m) 12 x
 | 0 => rfl
 | m + 1 => by
  unfold pw
  rw [pw_upd v x b m, up_ne _ _ _ (by omega : 13 + m / 4 ≠ 12), up_comm _ (by omega)]
theorem fw_eq (key nonce : Yb) (n : Int) : fw key nonce n = upd (fw0 key nonce) 12 n := pw_upd _ _ _ _
theorem f1_at (q : Nat) (hq : q < 4) : f1 q = n4 (bt strK (4 * q)) (bt strK (4 * q + 1)) (bt strK (4 * q + 2)) (bt strK (4 * q + 3)) := by
 have h := pw_word (fun _ => 0) 0 (bt strK) (bt_nn strK) 16 q (by omega) rfl
 rw [Nat.zero_add] at h
 exact h
theorem f1_out (t : Nat) (ht : 4 ≤ t) : f1 t = 0 := pw_no (fun _ => 0) 0 (bt strK) t 16 (fun j hj => by omega)
theorem al_1 (key nonce : Yb) (n : Int) (hk : key.size = 32) (i : Nat) (h : i < 16) : bt (alS key nonce n) i = bt strK i := by
 have e1 : (strK ++ key).size = 48 := by rw [ByteArray.size_append, strK_size, hk]
 have e2 : (strK ++ key ++ nB n).size = 52 := by rw [ByteArray.size_append, e1, nB_size]
 unfold alS
 rw [bt_left _ _ _ (by omega), bt_left _ _ _ (by omega), bt_left _ _ _ (by rw [strK_size]; omega)]
theorem al_2 (key nonce : Yb) (n : Int) (hk : key.size = 32) (i : Nat) (h : 16 ≤ i) (h' : i < 48) : bt (alS key nonce n) i = bt key (i - 16) := by
 have e1 : (strK ++ key).size = 48 := by rw [ByteArray.size_append, strK_size, hk]
 have e2 : (strK ++ key ++ nB n).size = 52 := by rw [ByteArray.size_append, e1, nB_size]
 unfold alS
 rw [bt_left _ _ _ (by omega), bt_left _ _ _ (by omega), bt_right _ _ _ (by rw [strK_size]; omega), strK_size]
theorem al_3 (key nonce : Yb) (n : Int) (hk : key.size = 32) (i : Nat) (h : 48 ≤ i) (h' : i < 52) : bt (alS key nonce n) i = ((List.range 4).map (nb n)).getD (i - 48) 0 := by
 have e1 : (strK ++ key).size = 48 := by rw [ByteArray.size_append, strK_size, hk]
 have e2 : (strK ++ key ++ nB n).size = 52 := by rw [ByteArray.size_append, e1, nB_size]
 unfold alS
 rw [bt_left _ _ _ (by omega), bt_right _ _ _ (by omega), e1]
 unfold nB
 rw [bt_bs _ (nb_nn n)]
theorem al_4 (key nonce : Yb) (n : Int) (hk : key.size = 32) (i : Nat) (h : 52 ≤ i) : bt (alS key nonce n) i = bt nonce (i - 52) := by
 have e1 : (strK ++ key).size = 48 := by rw [ByteArray.size_append, strK_size, hk]
 have e2 : (strK ++ key ++ nB n).size = 52 := by rw [ByteArray.size_append, e1, nB_size]
 unfold alS
 rw [bt_right _ _ _ (by omega), e2]
theorem n4_congr {a b c d a' b' c' d' : Int} (h1 : a = a') (h2 : b = b') (h3 : c = c') (h4 : d = d') : n4 a b c d = n4 a' b' c' d' := by rw [h1, h2, h3, h4]
theorem fw_dx (key nonce : Yb) (n : Int) (hk : key.size = 32) (hn : nonce.size = 12) (h0 : 0 ≤ n) (h1 : n < 4294967296) : fw key nonce n = dx (alS key nonce n) 16 := by
 funext t
 rw [fw_eq]
 by_cases h16 : t < 16
 ·rw [dx_n4 _ (alS_size key nonce n hk hn) t h16]
  by_cases c13 : 13 ≤ t
  ·obtain ⟨q, rfl⟩ : ∃ q, t = 13 + q := ⟨t - 13, by omega⟩
   rw [up_ne _ _ _ (by omega)]
   unfold fw0
   rw [pw_word (f2 key) 13 (bt nonce) (bt_nn nonce) nonce.size q (by omega) (by unfold f2; rw [pw_no _ _ _ _ _ (fun j hj => by omega), f1_out _ (by omega)])]
   rw [al_4 key nonce n hk (4 * (13 + q)) (by omega), al_4 key nonce n hk (4 * (13 + q) + 1) (by omega), al_4 key nonce n hk (4 * (13 + q) + 2) (by omega), al_4 key nonce n hk (4 * (13 + q) + 3) (by omega)]
   refine n4_congr ?_ ?_ ?_ ?_ <;> congr 1 <;> omega
  ·by_cases c12 : t = 12
   ·subst c12
    rw [up_at]
    rw [al_3 key nonce n hk (4 * 12) (by omega) (by omega), al_3 key nonce n hk (4 * 12 + 1) (by omega) (by omega), al_3 key nonce n hk (4 * 12 + 2) (by omega) (by omega), al_3 key nonce n hk (4 * 12 + 3) (by omega) (by omega)]
    exact (nb_n4 n h0 h1).symm
   ·rw [up_ne _ _ _ c12]
    unfold fw0
    rw [pw_no _ _ _ _ _ (fun j hj => by omega)]
    by_cases c4 : 4 ≤ t
    ·obtain ⟨q, rfl⟩ : ∃ q, t = 4 + q := ⟨t - 4, by omega⟩
     unfold f2
     rw [pw_word f1 4 (bt key) (bt_nn key) key.size q (by omega) (f1_out _ (by omega))]
     rw [al_2 key nonce n hk (4 * (4 + q)) (by omega) (by omega), al_2 key nonce n hk (4 * (4 + q) + 1) (by omega) (by omega), al_2 key nonce n hk (4 * (4 + q) + 2) (by omega) (by omega), al_2 key nonce n hk (4 * (4 + q) + 3) (by omega) (by omega)]
     refine n4_congr ?_ ?_ ?_ ?_ <;> congr 1 <;> omega
    ·unfold f2
     rw [pw_no _ _ _ _ _ (fun j hj => by omega), f1_at t (by omega)]
     rw [al_1 key nonce n hk (4 * t) (by omega), al_1 key nonce n hk (4 * t + 1) (by omega), al_1 key nonce n hk (4 * t + 2) (by omega), al_1 key nonce n hk (4 * t + 3) (by omega)]
 ·rw [dx_out _ _ _ (by omega), up_ne _ _ _ (by omega)]
  unfold fw0
  rw [pw_no _ _ _ _ _ (fun j hj => by omega)]
  unfold f2
  rw [pw_no _ _ _ _ _ (fun j hj => by omega), f1_out _ (by omega)]
theorem bl_dbl (f : NI) (i : Nat) : bl f i = dbl f i := by
 unfold bl dbl
 rw [va_comm, Nat.mul_comm]
theorem blk_dbk (key nonce : Yb) (n : Int) (hk : key.size = 32) (hn : nonce.size = 12) (h0 : 0 ≤ n) (h1 : n < 4294967296) : blk (fw key nonce n) = dbk key nonce n := by
 unfold blk dbk
 rw [fw_dx key nonce n hk hn h0 h1]
 refine congrArg bs ?_
 exact List.map_congr_left fun i _ => bl_dbl _ i
theorem va_nn (x y : Int) : 0 ≤ va x y ∧ va x y < 4294967296 := by
 rw [va_eq]
 omega
theorem sw_fw (key nonce : Yb) (n : Int) (h0 : 0 ≤ n) (h1 : n < 4294967296) : ∀ j : Nat, sw (fw key nonce n) j = fw key nonce (va n (j : Int))
 | 0 => by
  show fw key nonce n = _
  congr 1
  rw [va_eq]
  omega
 | j + 1 => by
  unfold sw
  rw [sw_fw key nonce n h0 h1 j, fw_eq, fw_eq, up_at, up_up]
  congr 1
  rw [va_eq, va_eq, va_eq]
  omega
theorem ot_map (f : NI) (s : Yb) : ∀ n, ot f s n = (List.range n).map fun i => UInt8.ofNat (ob f s i).toNat
 | 0 => rfl
 | n + 1 => by
  unfold ot
  rw [ot_map f s n, List.range_succ, List.map_append]
  rfl
theorem oS_bs (f : NI) (s : Yb) : oS f s = bs ((List.range s.size).map (ob f s)) := by
 unfold oS bs
 rw [ot_map, List.map_map]
 rfl
theorem oS_size (f : NI) (s : Yb) : (oS f s).size = s.size := by
 rw [oS_bs, bs_size]
 simp
theorem oS_dT (key nonce : Yb) (n : Int) (s : Yb) (hk : key.size = 32) (hn : nonce.size = 12) (h0 : 0 ≤ n) (h1 : n < 4294967296) : oS (fw key nonce n) s = dT key nonce n s := by
 rw [oS_bs]
 unfold dT
 refine congrArg bs <| List.map_congr_left fun i _ => ?_
 unfold ob dob
 refine congrArg (xb (bt s i)) ?_
 have hv := va_nn n ((i / 64 : Nat) : Int)
 rw [sw_fw key nonce n h0 h1, ← blk_dbk key nonce _ hk hn hv.1 hv.2]
 unfold blk
 rw [bt_bs _ (blk_nn _)]
 have hi : i % 64 < 64 := by omega
 rw [List.getD_eq_getElem?_getD, List.getElem?_map, List.getElem?_range hi]
 rfl
end Go.Proofs.YtffimigpbcilbaaGreatDoor
