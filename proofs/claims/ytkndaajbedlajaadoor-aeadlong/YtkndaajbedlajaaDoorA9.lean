/- Texts that are too long: the walk of AeadLong. -/
import Derived.Test.YtkndaajbedlajaaDoorA7
namespace Go.Proofs.YtkndaajbedlajaaDoor
open Go.RowKit

theorem sf_arg {key nonce ad s : ByteArray} {m : Nat} (hm : ¬ (key.size = 32 ∧ nonce.size = 12)) : sf key nonce ad s m = 2 := by
  unfold sf
  rw [if_pos (by omega)]
theorem sf_short {key nonce ad s : ByteArray} (hm : key.size = 32 ∧ nonce.size = 12) (ha : ad.size ≤ 65536) (hs : s.size < 16) : sf key nonce ad s 16 = 100 := by
  unfold sf
  rw [if_neg (by omega), if_neg (by omega), if_pos hs]
theorem sf_long {key nonce ad s : ByteArray} {m : Nat} (hm : key.size = 32 ∧ nonce.size = 12) (h : 65536 < ad.size ∨ 65536 + m < s.size) : sf key nonce ad s m = 4 := by
  unfold sf
  rw [if_neg (by omega), if_pos h]
theorem c_SealE (key nonce ad s : ByteArray) (f : Int) (h : sf key nonce ad s 0 = f) (hf : f ≠ 0) (w : World) (hL : Laid w) : Calls Tryd.prog 7 #[.string key, .string nonce, .string ad, .string s] w fun r w' => r = .returned (.tuple #[.string ⟨#[]⟩, .int .i64 f]) ∧ Below w.heap.size w w' := by
  subst h
  exact c_SealB key nonce ad s hf w hL
theorem c_OpenE (key nonce ad s : ByteArray) (f : Int) (h : sf key nonce ad s 16 = f) (hf : f ≠ 0) (w : World) (hL : Laid w) : Calls Tryd.prog 9 #[.string key, .string nonce, .string ad, .string s] w fun r w' => r = .returned (.tuple #[.string ⟨#[]⟩, .int .i64 f]) ∧ Below w.heap.size w w' := by
  subst h
  exact c_OpenC key nonce ad s hf w hL

def sX : ByteArray := ⟨#[120]⟩
def n1 : ByteArray := nS 1
theorem n1_ok : (zB 32).size = 32 ∧ n1.size = 12 := ⟨zB_size 32, nS_size 1⟩
theorem cv8 {n : Int} (h0 : -128 ≤ n) (h1 : n ≤ 127) : cv .i64 n = n := wrap64 (by omega) (by omega)

set_option maxRecDepth 100000 in
set_option maxHeartbeats 4000000 in
theorem alA (n : Int) (h0 : -128 ≤ n) (h1 : n ≤ 127) (m : Nat) (hm : 65536 + n = (m : Int)) (h : 0 < n) (w : World) (hL : Laid w)  :
    Calls Tryd.prog 4 #[.int .i8 n, .bool true] w fun r w' => r = .returned (.bool true) ∧ Below w.heap.size w w' := by
  go_enter Tryd.func4, Tryd.ntmps4
  have M := Mem.start hL
  refine wp_seq ?_
  refine rg_lit ?_
  refine pl_val (want_no rfl) (some 4) rfl (.bool false) (fun _ => by kernel_rfl) ?_
  refine pl_nil ?_
  refine au_then ?_
  refine wp_seq ?_
  refine rg_lit ?_
  refine pl_mk M (want_no rfl) (some 18) rfl (fun g1 => .slice (some ⟨g1, 0, none⟩) 32 32) (.cells (av 32 (w8 (fun _ => 0))) 5) (fun _ => by kernel_rfl) ?_
  intro g1 u1 M
  replace M : Mem ⟨w, []⟩ [⟨g1, .cells (av 32 (w8 (fun _ => 0))) 5⟩] u1 := M
  refine pl_back M (want_no rfl) (some 19) rfl _ rfl 0 g1 32 32 (by kernel_rfl) _ rfl ((List.range 32).map fun _ => 0) 32 (sb_av 32 _ _) (by simp) (z_nn _) ?_
  refine pl_val (want_no rfl) (some 5) rfl (.string (zB 32)) (fun _ => by kernel_rfl) ?_
  refine pl_nil ?_
  refine au_then ?_
  refine wp_seq ?_
  refine rg_lit ?_
  refine pl_val (want_no rfl) (some 20) rfl (.int .i8 n) (fun _ => by kernel_rfl) ?_
  refine pl_val (want_no rfl) (some 21) rfl (.int .i64 n) (fun w => Eq.trans (b := .ok (.value (.int .i64 (cv .i64 n))) w) (by kernel_rfl) (by rw [cv8 h0 h1])) ?_
  refine pl_val (want_no rfl) (some 22) rfl (.int .i64 ((m : Nat) : Int)) (fun w => Eq.trans (b := .ok (.value (.int .i64 (IntKind.wrap .i64 (65536 + n)))) w) (by kernel_rfl) (by rw [wrap64 (by omega) (by omega), hm])) ?_
  obtain ⟨i0, hi0, hz0, hz1, hz2⟩ := info_parts repExtra.infoByte
  refine pl_makeZ M (want_no rfl) (some 23) rfl 32 5 i0 Tryd.underlying32 hi0 hz0 hz1 (by omega) _ _ rfl .i64 .i64 m (by kernel_rfl) (by kernel_rfl) (by omega) ?_
  intro g2 Z9 u2 hZ9 M
  replace M : Mem ⟨w, []⟩ [⟨g1, .cells (av 32 (w8 (fun _ => 0))) 5⟩, ⟨g2, Z9⟩] u2 := M
  rw [z_rep] at hZ9
  refine pl_back M (want_no rfl) (some 24) rfl _ rfl 1 g2 m m (by kernel_rfl) _ rfl ((List.range m).map fun _ => 0) _ hZ9 (by simp) (z_nn _) ?_
  refine pl_val (want_no rfl) (some 6) rfl (.string (zB m)) (fun _ => by kernel_rfl) ?_
  refine pl_nil ?_
  refine au_then ?_
  refine wp_seq ?_
  refine rg_lit ?_
  refine pl_call M (want_no rfl) (some 25) rfl 11 #[.int .u64 1] (.string n1) (fun _ => by kernel_rfl) (fun w M => c_Nonce 1 w M.laid) ?_
  intro u3 M
  refine pl_val (want_no rfl) (some 7) rfl (.string n1) (fun _ => by kernel_rfl) ?_
  refine pl_nil ?_
  refine au_then ?_
  refine wp_seq ?_
  refine wp_seq ?_
  refine rg_lit ?_
  refine pl_val (want_no rfl) (some 26) rfl (.bool true) (fun _ => by kernel_rfl) ?_
  refine pl_nil ?_
  refine au_then ?_
  refine wp_cond_true (by kernel_rfl) ?_
  refine wp_seq ?_
  refine rg_lit ?_
  refine pl_val (want_no rfl) (some 28) rfl (.string (zB 32)) (fun _ => by kernel_rfl) ?_
  refine pl_val (want_no rfl) (some 29) rfl (.string n1) (fun _ => by kernel_rfl) ?_
  refine pl_val (want_no rfl) (some 30) rfl (.string (zB m)) (fun _ => by kernel_rfl) ?_
  refine pl_call M (want_no rfl) (some 31) rfl 7 #[.string (zB 32), .string n1, .string (zB m), .string ⟨#[120]⟩] (.tuple #[.string ⟨#[]⟩, .int .i64 4]) (fun _ => by kernel_rfl) (fun w M => c_SealE (zB 32) n1 (zB m) sX 4 (sf_long n1_ok (.inl (by rw [zB_size]; omega))) (by decide) w M.laid) ?_
  intro u4 M
  refine pl_val (want_no rfl) (some 27) rfl (.tuple #[.string ⟨#[]⟩, .int .i64 4]) (fun _ => by kernel_rfl) ?_
  refine pl_val (want_no rfl) (some 32) rfl (.string ⟨#[]⟩) (fun _ => by kernel_rfl) ?_
  refine pl_val (want_no rfl) (some 33) rfl (.int .i64 4) (fun _ => by kernel_rfl) ?_
  refine pl_val (want_no rfl) (some 8) rfl (.string ⟨#[]⟩) (fun _ => by kernel_rfl) ?_
  refine pl_val (want_no rfl) (some 9) rfl (.int .i64 4) (fun _ => by kernel_rfl) ?_
  refine pl_nil ?_
  refine au_then ?_
  refine wp_seq ?_
  refine rg_lit ?_
  refine pl_val (want_no rfl) (some 35) rfl (.string (zB 32)) (fun _ => by kernel_rfl) ?_
  refine pl_val (want_no rfl) (some 36) rfl (.string n1) (fun _ => by kernel_rfl) ?_
  refine pl_val (want_no rfl) (some 37) rfl (.string (zB m)) (fun _ => by kernel_rfl) ?_
  refine pl_val (want_no rfl) (some 38) rfl (.string ⟨#[]⟩) (fun _ => by kernel_rfl) ?_
  refine pl_call M (want_no rfl) (some 39) rfl 9 #[.string (zB 32), .string n1, .string (zB m), .string ⟨#[]⟩] (.tuple #[.string ⟨#[]⟩, .int .i64 4]) (fun _ => by kernel_rfl) (fun w M => c_OpenE (zB 32) n1 (zB m) (⟨#[]⟩ : ByteArray) 4 (sf_long n1_ok (.inl (by rw [zB_size]; omega))) (by decide) w M.laid) ?_
  intro u5 M
  refine pl_val (want_no rfl) (some 34) rfl (.tuple #[.string ⟨#[]⟩, .int .i64 4]) (fun _ => by kernel_rfl) ?_
  refine pl_val (want_no rfl) (some 40) rfl (.string ⟨#[]⟩) (fun _ => by kernel_rfl) ?_
  refine pl_val (want_no rfl) (some 41) rfl (.int .i64 4) (fun _ => by kernel_rfl) ?_
  refine pl_val (want_no rfl) (some 10) rfl (.string ⟨#[]⟩) (fun _ => by kernel_rfl) ?_
  refine pl_val (want_no rfl) (some 11) rfl (.int .i64 4) (fun _ => by kernel_rfl) ?_
  refine pl_nil ?_
  refine au_then ?_
  refine wp_seq ?_
  refine rg_lit ?_
  refine pl_val (want_no rfl) (some 42) rfl (.int .i64 4) (fun _ => by kernel_rfl) ?_
  refine pl_val (want_no rfl) (some 43) rfl (.bool true) (fun _ => by kernel_rfl) ?_
  refine pl_val (want_no rfl) (some 44) rfl (.int .i8 n) (fun _ => by kernel_rfl) ?_
  refine pl_val (want_no rfl) (some 45) rfl (.bool true) (fun w => Eq.trans (b := .ok (.value (.bool (decide ((0 : Int) < n)))) w) (by kernel_rfl) (by rw [decide_eq_true (by omega)])) ?_
  refine pl_val (want_no rfl) (some 46) rfl (.bool true) (fun _ => by kernel_rfl) ?_
  refine pl_val (want_no rfl) (some 47) rfl (.bool true) (fun _ => by kernel_rfl) ?_
  refine pl_val (want_on 5 true rfl 47 rfl (by kernel_rfl)) (some 48) rfl (.int .i64 4) (fun _ => by kernel_rfl) ?_
  refine pl_val (want_on 5 true rfl 47 rfl (by kernel_rfl)) (some 49) rfl (.bool false) (fun _ => by kernel_rfl) ?_
  refine pl_val (want_on 5 true rfl 47 rfl (by kernel_rfl)) (some 50) rfl (.int .i8 n) (fun _ => by kernel_rfl) ?_
  refine pl_val (want_on 5 true rfl 47 rfl (by kernel_rfl)) (some 51) rfl (.bool false) (fun w => Eq.trans (b := .ok (.value (.bool (decide (n ≤ (0 : Int))))) w) (by kernel_rfl) (by rw [decide_eq_false (by omega)])) ?_
  refine pl_val (want_on 5 true rfl 47 rfl (by kernel_rfl)) (some 52) rfl (.bool true) (fun _ => by kernel_rfl) ?_
  refine pl_val (want_no rfl) (some 53) rfl (.bool true) (fun _ => by kernel_rfl) ?_
  refine pl_val (want_no rfl) (some 54) rfl (.bool true) (fun _ => by kernel_rfl) ?_
  refine pl_call M (want_on 12 true rfl 54 rfl (by kernel_rfl)) (some 55) rfl 6 #[] (.bool true) (fun _ => by kernel_rfl) (fun w M => c_alive w M.laid) ?_
  intro u6 M
  refine pl_val (want_no rfl) (some 56) rfl (.bool true) (fun _ => by kernel_rfl) ?_
  refine pl_val (want_no rfl) (some 4) rfl (.bool true) (fun _ => by kernel_rfl) ?_
  refine pl_nil ?_
  refine au_then ?_
  refine wp_ret ?_
  refine au_then_ret ?_
  exact bodyPost_ret (v := .bool true) (results_tmp1 Tryd.results4 _ _ _ (by kernel_rfl)) (by kernel_rfl) ⟨rfl, below_grown M.old⟩

set_option maxRecDepth 100000 in
set_option maxHeartbeats 4000000 in
theorem alB (n : Int) (h0 : -128 ≤ n) (h1 : n ≤ 127) (m : Nat) (hm : 65536 + n = (m : Int)) (h : ¬ 0 < n) (w : World) (hL : Laid w)  :
    Calls Tryd.prog 4 #[.int .i8 n, .bool true] w fun r w' => r = .returned (.bool true) ∧ Below w.heap.size w w' := by
  go_enter Tryd.func4, Tryd.ntmps4
  have M := Mem.start hL
  refine wp_seq ?_
  refine rg_lit ?_
  refine pl_val (want_no rfl) (some 4) rfl (.bool false) (fun _ => by kernel_rfl) ?_
  refine pl_nil ?_
  refine au_then ?_
  refine wp_seq ?_
  refine rg_lit ?_
  refine pl_mk M (want_no rfl) (some 18) rfl (fun g1 => .slice (some ⟨g1, 0, none⟩) 32 32) (.cells (av 32 (w8 (fun _ => 0))) 5) (fun _ => by kernel_rfl) ?_
  intro g1 u1 M
  replace M : Mem ⟨w, []⟩ [⟨g1, .cells (av 32 (w8 (fun _ => 0))) 5⟩] u1 := M
  refine pl_back M (want_no rfl) (some 19) rfl _ rfl 0 g1 32 32 (by kernel_rfl) _ rfl ((List.range 32).map fun _ => 0) 32 (sb_av 32 _ _) (by simp) (z_nn _) ?_
  refine pl_val (want_no rfl) (some 5) rfl (.string (zB 32)) (fun _ => by kernel_rfl) ?_
  refine pl_nil ?_
  refine au_then ?_
  refine wp_seq ?_
  refine rg_lit ?_
  refine pl_val (want_no rfl) (some 20) rfl (.int .i8 n) (fun _ => by kernel_rfl) ?_
  refine pl_val (want_no rfl) (some 21) rfl (.int .i64 n) (fun w => Eq.trans (b := .ok (.value (.int .i64 (cv .i64 n))) w) (by kernel_rfl) (by rw [cv8 h0 h1])) ?_
  refine pl_val (want_no rfl) (some 22) rfl (.int .i64 ((m : Nat) : Int)) (fun w => Eq.trans (b := .ok (.value (.int .i64 (IntKind.wrap .i64 (65536 + n)))) w) (by kernel_rfl) (by rw [wrap64 (by omega) (by omega), hm])) ?_
  obtain ⟨i0, hi0, hz0, hz1, hz2⟩ := info_parts repExtra.infoByte
  refine pl_makeZ M (want_no rfl) (some 23) rfl 32 5 i0 Tryd.underlying32 hi0 hz0 hz1 (by omega) _ _ rfl .i64 .i64 m (by kernel_rfl) (by kernel_rfl) (by omega) ?_
  intro g2 Z9 u2 hZ9 M
  replace M : Mem ⟨w, []⟩ [⟨g1, .cells (av 32 (w8 (fun _ => 0))) 5⟩, ⟨g2, Z9⟩] u2 := M
  rw [z_rep] at hZ9
  refine pl_back M (want_no rfl) (some 24) rfl _ rfl 1 g2 m m (by kernel_rfl) _ rfl ((List.range m).map fun _ => 0) _ hZ9 (by simp) (z_nn _) ?_
  refine pl_val (want_no rfl) (some 6) rfl (.string (zB m)) (fun _ => by kernel_rfl) ?_
  refine pl_nil ?_
  refine au_then ?_
  refine wp_seq ?_
  refine rg_lit ?_
  refine pl_call M (want_no rfl) (some 25) rfl 11 #[.int .u64 1] (.string n1) (fun _ => by kernel_rfl) (fun w M => c_Nonce 1 w M.laid) ?_
  intro u3 M
  refine pl_val (want_no rfl) (some 7) rfl (.string n1) (fun _ => by kernel_rfl) ?_
  refine pl_nil ?_
  refine au_then ?_
  refine wp_seq ?_
  refine wp_seq ?_
  refine rg_lit ?_
  refine pl_val (want_no rfl) (some 26) rfl (.bool true) (fun _ => by kernel_rfl) ?_
  refine pl_nil ?_
  refine au_then ?_
  refine wp_cond_true (by kernel_rfl) ?_
  refine wp_seq ?_
  refine rg_lit ?_
  refine pl_val (want_no rfl) (some 28) rfl (.string (zB 32)) (fun _ => by kernel_rfl) ?_
  refine pl_val (want_no rfl) (some 29) rfl (.string n1) (fun _ => by kernel_rfl) ?_
  refine pl_val (want_no rfl) (some 30) rfl (.string (zB m)) (fun _ => by kernel_rfl) ?_
  refine pl_call M (want_no rfl) (some 31) rfl 7 #[.string (zB 32), .string n1, .string (zB m), .string ⟨#[120]⟩] (.tuple #[.string (sealS (zB 32) n1 (zB m) sX), .int .i64 0]) (fun _ => by kernel_rfl) (fun w M => c_SealA (zB 32) n1 (zB m) sX (sf_ok n1_ok (by rw [zB_size]; omega) (by show 1 ≤ _; decide) (Nat.zero_le _)) w M.laid) ?_
  intro u4 M
  refine pl_val (want_no rfl) (some 27) rfl (.tuple #[.string (sealS (zB 32) n1 (zB m) sX), .int .i64 0]) (fun _ => by kernel_rfl) ?_
  refine pl_val (want_no rfl) (some 32) rfl (.string (sealS (zB 32) n1 (zB m) sX)) (fun _ => by kernel_rfl) ?_
  refine pl_val (want_no rfl) (some 33) rfl (.int .i64 0) (fun _ => by kernel_rfl) ?_
  refine pl_val (want_no rfl) (some 8) rfl (.string (sealS (zB 32) n1 (zB m) sX)) (fun _ => by kernel_rfl) ?_
  refine pl_val (want_no rfl) (some 9) rfl (.int .i64 0) (fun _ => by kernel_rfl) ?_
  refine pl_nil ?_
  refine au_then ?_
  refine wp_seq ?_
  refine rg_lit ?_
  refine pl_val (want_no rfl) (some 35) rfl (.string (zB 32)) (fun _ => by kernel_rfl) ?_
  refine pl_val (want_no rfl) (some 36) rfl (.string n1) (fun _ => by kernel_rfl) ?_
  refine pl_val (want_no rfl) (some 37) rfl (.string (zB m)) (fun _ => by kernel_rfl) ?_
  refine pl_val (want_no rfl) (some 38) rfl (.string (sealS (zB 32) n1 (zB m) sX)) (fun _ => by kernel_rfl) ?_
  refine pl_call M (want_no rfl) (some 39) rfl 9 #[.string (zB 32), .string n1, .string (zB m), .string (sealS (zB 32) n1 (zB m) sX)] (.tuple #[.string sX, .int .i64 0]) (fun _ => by kernel_rfl) (fun w M => c_back1 (zB 32) n1 (zB m) sX (sf_ok n1_ok (by rw [zB_size]; omega) (by show 1 ≤ _; decide) (Nat.zero_le _)) w M.laid) ?_
  intro u5 M
  refine pl_val (want_no rfl) (some 34) rfl (.tuple #[.string sX, .int .i64 0]) (fun _ => by kernel_rfl) ?_
  refine pl_val (want_no rfl) (some 40) rfl (.string sX) (fun _ => by kernel_rfl) ?_
  refine pl_val (want_no rfl) (some 41) rfl (.int .i64 0) (fun _ => by kernel_rfl) ?_
  refine pl_val (want_no rfl) (some 10) rfl (.string sX) (fun _ => by kernel_rfl) ?_
  refine pl_val (want_no rfl) (some 11) rfl (.int .i64 0) (fun _ => by kernel_rfl) ?_
  refine pl_nil ?_
  refine au_then ?_
  refine wp_seq ?_
  refine rg_lit ?_
  refine pl_val (want_no rfl) (some 42) rfl (.int .i64 0) (fun _ => by kernel_rfl) ?_
  refine pl_val (want_no rfl) (some 43) rfl (.bool false) (fun _ => by kernel_rfl) ?_
  refine pl_val (want_no rfl) (some 44) rfl (.int .i8 n) (fun _ => by kernel_rfl) ?_
  refine pl_val (want_no rfl) (some 45) rfl (.bool false) (fun w => Eq.trans (b := .ok (.value (.bool (decide ((0 : Int) < n)))) w) (by kernel_rfl) (by rw [decide_eq_false (by omega)])) ?_
  refine pl_val (want_no rfl) (some 46) rfl (.bool true) (fun _ => by kernel_rfl) ?_
  refine pl_val (want_no rfl) (some 47) rfl (.bool true) (fun _ => by kernel_rfl) ?_
  refine pl_val (want_on 5 true rfl 47 rfl (by kernel_rfl)) (some 48) rfl (.int .i64 0) (fun _ => by kernel_rfl) ?_
  refine pl_val (want_on 5 true rfl 47 rfl (by kernel_rfl)) (some 49) rfl (.bool true) (fun _ => by kernel_rfl) ?_
  refine pl_val (want_on 5 true rfl 47 rfl (by kernel_rfl)) (some 50) rfl (.int .i8 n) (fun _ => by kernel_rfl) ?_
  refine pl_val (want_on 5 true rfl 47 rfl (by kernel_rfl)) (some 51) rfl (.bool true) (fun w => Eq.trans (b := .ok (.value (.bool (decide (n ≤ (0 : Int))))) w) (by kernel_rfl) (by rw [decide_eq_true (by omega)])) ?_
  refine pl_val (want_on 5 true rfl 47 rfl (by kernel_rfl)) (some 52) rfl (.bool true) (fun _ => by kernel_rfl) ?_
  refine pl_val (want_no rfl) (some 53) rfl (.bool true) (fun _ => by kernel_rfl) ?_
  refine pl_val (want_no rfl) (some 54) rfl (.bool true) (fun _ => by kernel_rfl) ?_
  refine pl_call M (want_on 12 true rfl 54 rfl (by kernel_rfl)) (some 55) rfl 6 #[] (.bool true) (fun _ => by kernel_rfl) (fun w M => c_alive w M.laid) ?_
  intro u6 M
  refine pl_val (want_no rfl) (some 56) rfl (.bool true) (fun _ => by kernel_rfl) ?_
  refine pl_val (want_no rfl) (some 4) rfl (.bool true) (fun _ => by kernel_rfl) ?_
  refine pl_nil ?_
  refine au_then ?_
  refine wp_ret ?_
  refine au_then_ret ?_
  exact bodyPost_ret (v := .bool true) (results_tmp1 Tryd.results4 _ _ _ (by kernel_rfl)) (by kernel_rfl) ⟨rfl, below_grown M.old⟩

set_option maxRecDepth 100000 in
set_option maxHeartbeats 4000000 in
theorem alC (n : Int) (h0 : -128 ≤ n) (h1 : n ≤ 127) (m : Nat) (hm : 65536 + n = (m : Int)) (h : 0 < n) (w : World) (hL : Laid w)  :
    Calls Tryd.prog 4 #[.int .i8 n, .bool false] w fun r w' => r = .returned (.bool true) ∧ Below w.heap.size w w' := by
  go_enter Tryd.func4, Tryd.ntmps4
  have M := Mem.start hL
  refine wp_seq ?_
  refine rg_lit ?_
  refine pl_val (want_no rfl) (some 4) rfl (.bool false) (fun _ => by kernel_rfl) ?_
  refine pl_nil ?_
  refine au_then ?_
  refine wp_seq ?_
  refine rg_lit ?_
  refine pl_mk M (want_no rfl) (some 18) rfl (fun g1 => .slice (some ⟨g1, 0, none⟩) 32 32) (.cells (av 32 (w8 (fun _ => 0))) 5) (fun _ => by kernel_rfl) ?_
  intro g1 u1 M
  replace M : Mem ⟨w, []⟩ [⟨g1, .cells (av 32 (w8 (fun _ => 0))) 5⟩] u1 := M
  refine pl_back M (want_no rfl) (some 19) rfl _ rfl 0 g1 32 32 (by kernel_rfl) _ rfl ((List.range 32).map fun _ => 0) 32 (sb_av 32 _ _) (by simp) (z_nn _) ?_
  refine pl_val (want_no rfl) (some 5) rfl (.string (zB 32)) (fun _ => by kernel_rfl) ?_
  refine pl_nil ?_
  refine au_then ?_
  refine wp_seq ?_
  refine rg_lit ?_
  refine pl_val (want_no rfl) (some 20) rfl (.int .i8 n) (fun _ => by kernel_rfl) ?_
  refine pl_val (want_no rfl) (some 21) rfl (.int .i64 n) (fun w => Eq.trans (b := .ok (.value (.int .i64 (cv .i64 n))) w) (by kernel_rfl) (by rw [cv8 h0 h1])) ?_
  refine pl_val (want_no rfl) (some 22) rfl (.int .i64 ((m : Nat) : Int)) (fun w => Eq.trans (b := .ok (.value (.int .i64 (IntKind.wrap .i64 (65536 + n)))) w) (by kernel_rfl) (by rw [wrap64 (by omega) (by omega), hm])) ?_
  obtain ⟨i0, hi0, hz0, hz1, hz2⟩ := info_parts repExtra.infoByte
  refine pl_makeZ M (want_no rfl) (some 23) rfl 32 5 i0 Tryd.underlying32 hi0 hz0 hz1 (by omega) _ _ rfl .i64 .i64 m (by kernel_rfl) (by kernel_rfl) (by omega) ?_
  intro g2 Z9 u2 hZ9 M
  replace M : Mem ⟨w, []⟩ [⟨g1, .cells (av 32 (w8 (fun _ => 0))) 5⟩, ⟨g2, Z9⟩] u2 := M
  rw [z_rep] at hZ9
  refine pl_back M (want_no rfl) (some 24) rfl _ rfl 1 g2 m m (by kernel_rfl) _ rfl ((List.range m).map fun _ => 0) _ hZ9 (by simp) (z_nn _) ?_
  refine pl_val (want_no rfl) (some 6) rfl (.string (zB m)) (fun _ => by kernel_rfl) ?_
  refine pl_nil ?_
  refine au_then ?_
  refine wp_seq ?_
  refine rg_lit ?_
  refine pl_call M (want_no rfl) (some 25) rfl 11 #[.int .u64 1] (.string n1) (fun _ => by kernel_rfl) (fun w M => c_Nonce 1 w M.laid) ?_
  intro u3 M
  refine pl_val (want_no rfl) (some 7) rfl (.string n1) (fun _ => by kernel_rfl) ?_
  refine pl_nil ?_
  refine au_then ?_
  refine wp_seq ?_
  refine wp_seq ?_
  refine rg_lit ?_
  refine pl_val (want_no rfl) (some 26) rfl (.bool false) (fun _ => by kernel_rfl) ?_
  refine pl_nil ?_
  refine au_then ?_
  refine wp_cond_false (by kernel_rfl) ?_
  refine wp_skip ?_
  refine au_then ?_
  refine wp_seq ?_
  refine rg_lit ?_
  refine pl_val (want_no rfl) (some 58) rfl (.string (zB 32)) (fun _ => by kernel_rfl) ?_
  refine pl_val (want_no rfl) (some 59) rfl (.string n1) (fun _ => by kernel_rfl) ?_
  refine pl_val (want_no rfl) (some 60) rfl (.string (zB m)) (fun _ => by kernel_rfl) ?_
  refine pl_call M (want_no rfl) (some 61) rfl 7 #[.string (zB 32), .string n1, .string ⟨#[]⟩, .string (zB m)] (.tuple #[.string ⟨#[]⟩, .int .i64 4]) (fun _ => by kernel_rfl) (fun w M => c_SealE (zB 32) n1 (⟨#[]⟩ : ByteArray) (zB m) 4 (sf_long n1_ok (.inr (by rw [zB_size]; omega))) (by decide) w M.laid) ?_
  intro u4 M
  refine pl_val (want_no rfl) (some 57) rfl (.tuple #[.string ⟨#[]⟩, .int .i64 4]) (fun _ => by kernel_rfl) ?_
  refine pl_val (want_no rfl) (some 62) rfl (.string ⟨#[]⟩) (fun _ => by kernel_rfl) ?_
  refine pl_val (want_no rfl) (some 63) rfl (.int .i64 4) (fun _ => by kernel_rfl) ?_
  refine pl_val (want_no rfl) (some 12) rfl (.string ⟨#[]⟩) (fun _ => by kernel_rfl) ?_
  refine pl_val (want_no rfl) (some 13) rfl (.int .i64 4) (fun _ => by kernel_rfl) ?_
  refine pl_nil ?_
  refine au_then ?_
  refine wp_seq ?_
  refine wp_seq ?_
  refine rg_lit ?_
  refine pl_val (want_no rfl) (some 64) rfl (.int .i8 n) (fun _ => by kernel_rfl) ?_
  refine pl_val (want_no rfl) (some 65) rfl (.bool true) (fun w => Eq.trans (b := .ok (.value (.bool (decide ((0 : Int) < n)))) w) (by kernel_rfl) (by rw [decide_eq_true (by omega)])) ?_
  refine pl_nil ?_
  refine au_then ?_
  refine wp_cond_true (by kernel_rfl) ?_
  refine wp_seq ?_
  refine rg_lit ?_
  refine pl_val (want_no rfl) (some 67) rfl (.string (zB 32)) (fun _ => by kernel_rfl) ?_
  refine pl_val (want_no rfl) (some 68) rfl (.string n1) (fun _ => by kernel_rfl) ?_
  refine pl_val (want_no rfl) (some 69) rfl (.string (zB m)) (fun _ => by kernel_rfl) ?_
  refine pl_mk M (want_no rfl) (some 70) rfl (fun g3 => .slice (some ⟨g3, 0, none⟩) 16 16) (.cells (av 16 (w8 (fun _ => 0))) 5) (fun _ => by kernel_rfl) ?_
  intro g3 u5 M
  replace M : Mem ⟨w, []⟩ [⟨g1, .cells (av 32 (w8 (fun _ => 0))) 5⟩, ⟨g2, Z9⟩, ⟨g3, .cells (av 16 (w8 (fun _ => 0))) 5⟩] u5 := M
  refine pl_back M (want_no rfl) (some 71) rfl _ rfl 2 g3 16 16 (by kernel_rfl) _ rfl ((List.range 16).map fun _ => 0) 16 (sb_av 16 _ _) (by simp) (z_nn _) ?_
  refine pl_val (want_no rfl) (some 72) rfl (.string (zB m ++ zB 16)) (run_cat 9 9 _ _ rfl (zB m) (zB 16) (by kernel_rfl) (by kernel_rfl) (by rw [zB_size, zB_size]; omega)) ?_
  refine pl_call M (want_no rfl) (some 73) rfl 9 #[.string (zB 32), .string n1, .string ⟨#[]⟩, .string (zB m ++ zB 16)] (.tuple #[.string ⟨#[]⟩, .int .i64 4]) (fun _ => by kernel_rfl) (fun w M => c_OpenE (zB 32) n1 (⟨#[]⟩ : ByteArray) (zB m ++ zB 16) 4 (sf_long n1_ok (.inr (by rw [ByteArray.size_append, zB_size, zB_size]; omega))) (by decide) w M.laid) ?_
  intro u6 M
  refine pl_val (want_no rfl) (some 66) rfl (.tuple #[.string ⟨#[]⟩, .int .i64 4]) (fun _ => by kernel_rfl) ?_
  refine pl_val (want_no rfl) (some 74) rfl (.string ⟨#[]⟩) (fun _ => by kernel_rfl) ?_
  refine pl_val (want_no rfl) (some 75) rfl (.int .i64 4) (fun _ => by kernel_rfl) ?_
  refine pl_val (want_no rfl) (some 14) rfl (.string ⟨#[]⟩) (fun _ => by kernel_rfl) ?_
  refine pl_val (want_no rfl) (some 15) rfl (.int .i64 4) (fun _ => by kernel_rfl) ?_
  refine pl_nil ?_
  refine au_then ?_
  refine wp_seq ?_
  refine rg_lit ?_
  refine pl_val (want_no rfl) (some 76) rfl (.string ⟨#[]⟩) (fun _ => by kernel_rfl) ?_
  refine pl_val (want_no rfl) (some 77) rfl (.bool true) (fun w => Eq.trans (b := .ok (.value (.bool ((⟨#[]⟩ : ByteArray).toList == (⟨#[]⟩ : ByteArray).toList))) w) (by kernel_rfl) (by rw [beq_self_eq_true])) ?_
  refine pl_val (want_no rfl) (some 78) rfl (.bool true) (fun _ => by kernel_rfl) ?_
  refine pl_val (want_on 2 true rfl 78 rfl (by kernel_rfl)) (some 79) rfl (.int .i64 4) (fun _ => by kernel_rfl) ?_
  refine pl_val (want_on 2 true rfl 78 rfl (by kernel_rfl)) (some 80) rfl (.bool true) (fun _ => by kernel_rfl) ?_
  refine pl_val (want_no rfl) (some 81) rfl (.bool true) (fun _ => by kernel_rfl) ?_
  refine pl_val (want_no rfl) (some 82) rfl (.bool true) (fun _ => by kernel_rfl) ?_
  refine pl_val (want_on 6 true rfl 82 rfl (by kernel_rfl)) (some 83) rfl (.int .i64 4) (fun _ => by kernel_rfl) ?_
  refine pl_val (want_on 6 true rfl 82 rfl (by kernel_rfl)) (some 84) rfl (.bool true) (fun _ => by kernel_rfl) ?_
  refine pl_val (want_no rfl) (some 85) rfl (.bool true) (fun _ => by kernel_rfl) ?_
  refine pl_val (want_no rfl) (some 86) rfl (.bool true) (fun _ => by kernel_rfl) ?_
  refine pl_call M (want_on 10 true rfl 86 rfl (by kernel_rfl)) (some 87) rfl 6 #[] (.bool true) (fun _ => by kernel_rfl) (fun w M => c_alive w M.laid) ?_
  intro u7 M
  refine pl_val (want_no rfl) (some 88) rfl (.bool true) (fun _ => by kernel_rfl) ?_
  refine pl_val (want_no rfl) (some 4) rfl (.bool true) (fun _ => by kernel_rfl) ?_
  refine pl_nil ?_
  refine au_then ?_
  refine wp_ret ?_
  refine au_then_ret ?_
  exact bodyPost_ret (v := .bool true) (results_tmp1 Tryd.results4 _ _ _ (by kernel_rfl)) (by kernel_rfl) ⟨rfl, below_grown M.old⟩

set_option maxRecDepth 100000 in
set_option maxHeartbeats 4000000 in
theorem alD (n : Int) (h0 : -128 ≤ n) (h1 : n ≤ 127) (m : Nat) (hm : 65536 + n = (m : Int)) (h : ¬ 0 < n) (w : World) (hL : Laid w)  :
    Calls Tryd.prog 4 #[.int .i8 n, .bool false] w fun r w' => r = .returned (.bool true) ∧ Below w.heap.size w w' := by
  go_enter Tryd.func4, Tryd.ntmps4
  have M := Mem.start hL
  refine wp_seq ?_
  refine rg_lit ?_
  refine pl_val (want_no rfl) (some 4) rfl (.bool false) (fun _ => by kernel_rfl) ?_
  refine pl_nil ?_
  refine au_then ?_
  refine wp_seq ?_
  refine rg_lit ?_
  refine pl_mk M (want_no rfl) (some 18) rfl (fun g1 => .slice (some ⟨g1, 0, none⟩) 32 32) (.cells (av 32 (w8 (fun _ => 0))) 5) (fun _ => by kernel_rfl) ?_
  intro g1 u1 M
  replace M : Mem ⟨w, []⟩ [⟨g1, .cells (av 32 (w8 (fun _ => 0))) 5⟩] u1 := M
  refine pl_back M (want_no rfl) (some 19) rfl _ rfl 0 g1 32 32 (by kernel_rfl) _ rfl ((List.range 32).map fun _ => 0) 32 (sb_av 32 _ _) (by simp) (z_nn _) ?_
  refine pl_val (want_no rfl) (some 5) rfl (.string (zB 32)) (fun _ => by kernel_rfl) ?_
  refine pl_nil ?_
  refine au_then ?_
  refine wp_seq ?_
  refine rg_lit ?_
  refine pl_val (want_no rfl) (some 20) rfl (.int .i8 n) (fun _ => by kernel_rfl) ?_
  refine pl_val (want_no rfl) (some 21) rfl (.int .i64 n) (fun w => Eq.trans (b := .ok (.value (.int .i64 (cv .i64 n))) w) (by kernel_rfl) (by rw [cv8 h0 h1])) ?_
  refine pl_val (want_no rfl) (some 22) rfl (.int .i64 ((m : Nat) : Int)) (fun w => Eq.trans (b := .ok (.value (.int .i64 (IntKind.wrap .i64 (65536 + n)))) w) (by kernel_rfl) (by rw [wrap64 (by omega) (by omega), hm])) ?_
  obtain ⟨i0, hi0, hz0, hz1, hz2⟩ := info_parts repExtra.infoByte
  refine pl_makeZ M (want_no rfl) (some 23) rfl 32 5 i0 Tryd.underlying32 hi0 hz0 hz1 (by omega) _ _ rfl .i64 .i64 m (by kernel_rfl) (by kernel_rfl) (by omega) ?_
  intro g2 Z9 u2 hZ9 M
  replace M : Mem ⟨w, []⟩ [⟨g1, .cells (av 32 (w8 (fun _ => 0))) 5⟩, ⟨g2, Z9⟩] u2 := M
  rw [z_rep] at hZ9
  refine pl_back M (want_no rfl) (some 24) rfl _ rfl 1 g2 m m (by kernel_rfl) _ rfl ((List.range m).map fun _ => 0) _ hZ9 (by simp) (z_nn _) ?_
  refine pl_val (want_no rfl) (some 6) rfl (.string (zB m)) (fun _ => by kernel_rfl) ?_
  refine pl_nil ?_
  refine au_then ?_
  refine wp_seq ?_
  refine rg_lit ?_
  refine pl_call M (want_no rfl) (some 25) rfl 11 #[.int .u64 1] (.string n1) (fun _ => by kernel_rfl) (fun w M => c_Nonce 1 w M.laid) ?_
  intro u3 M
  refine pl_val (want_no rfl) (some 7) rfl (.string n1) (fun _ => by kernel_rfl) ?_
  refine pl_nil ?_
  refine au_then ?_
  refine wp_seq ?_
  refine wp_seq ?_
  refine rg_lit ?_
  refine pl_val (want_no rfl) (some 26) rfl (.bool false) (fun _ => by kernel_rfl) ?_
  refine pl_nil ?_
  refine au_then ?_
  refine wp_cond_false (by kernel_rfl) ?_
  refine wp_skip ?_
  refine au_then ?_
  refine wp_seq ?_
  refine rg_lit ?_
  refine pl_val (want_no rfl) (some 58) rfl (.string (zB 32)) (fun _ => by kernel_rfl) ?_
  refine pl_val (want_no rfl) (some 59) rfl (.string n1) (fun _ => by kernel_rfl) ?_
  refine pl_val (want_no rfl) (some 60) rfl (.string (zB m)) (fun _ => by kernel_rfl) ?_
  refine pl_call M (want_no rfl) (some 61) rfl 7 #[.string (zB 32), .string n1, .string ⟨#[]⟩, .string (zB m)] (.tuple #[.string (sealS (zB 32) n1 (⟨#[]⟩ : ByteArray) (zB m)), .int .i64 0]) (fun _ => by kernel_rfl) (fun w M => c_SealA (zB 32) n1 (⟨#[]⟩ : ByteArray) (zB m) (sf_ok n1_ok (Nat.zero_le _) (by rw [zB_size]; omega) (Nat.zero_le _)) w M.laid) ?_
  intro u4 M
  refine pl_val (want_no rfl) (some 57) rfl (.tuple #[.string (sealS (zB 32) n1 (⟨#[]⟩ : ByteArray) (zB m)), .int .i64 0]) (fun _ => by kernel_rfl) ?_
  refine pl_val (want_no rfl) (some 62) rfl (.string (sealS (zB 32) n1 (⟨#[]⟩ : ByteArray) (zB m))) (fun _ => by kernel_rfl) ?_
  refine pl_val (want_no rfl) (some 63) rfl (.int .i64 0) (fun _ => by kernel_rfl) ?_
  refine pl_val (want_no rfl) (some 12) rfl (.string (sealS (zB 32) n1 (⟨#[]⟩ : ByteArray) (zB m))) (fun _ => by kernel_rfl) ?_
  refine pl_val (want_no rfl) (some 13) rfl (.int .i64 0) (fun _ => by kernel_rfl) ?_
  refine pl_nil ?_
  refine au_then ?_
  refine wp_seq ?_
  refine wp_seq ?_
  refine rg_lit ?_
  refine pl_val (want_no rfl) (some 64) rfl (.int .i8 n) (fun _ => by kernel_rfl) ?_
  refine pl_val (want_no rfl) (some 65) rfl (.bool false) (fun w => Eq.trans (b := .ok (.value (.bool (decide ((0 : Int) < n)))) w) (by kernel_rfl) (by rw [decide_eq_false (by omega)])) ?_
  refine pl_nil ?_
  refine au_then ?_
  refine wp_cond_false (by kernel_rfl) ?_
  refine wp_skip ?_
  refine au_then ?_
  refine wp_seq ?_
  refine rg_lit ?_
  refine pl_val (want_no rfl) (some 90) rfl (.string (zB 32)) (fun _ => by kernel_rfl) ?_
  refine pl_val (want_no rfl) (some 91) rfl (.string n1) (fun _ => by kernel_rfl) ?_
  refine pl_val (want_no rfl) (some 92) rfl (.string (sealS (zB 32) n1 (⟨#[]⟩ : ByteArray) (zB m))) (fun _ => by kernel_rfl) ?_
  refine pl_call M (want_no rfl) (some 93) rfl 9 #[.string (zB 32), .string n1, .string ⟨#[]⟩, .string (sealS (zB 32) n1 (⟨#[]⟩ : ByteArray) (zB m))] (.tuple #[.string (zB m), .int .i64 0]) (fun _ => by kernel_rfl) (fun w M => c_back1 (zB 32) n1 (⟨#[]⟩ : ByteArray) (zB m) (sf_ok n1_ok (Nat.zero_le _) (by rw [zB_size]; omega) (Nat.zero_le _)) w M.laid) ?_
  intro u5 M
  refine pl_val (want_no rfl) (some 89) rfl (.tuple #[.string (zB m), .int .i64 0]) (fun _ => by kernel_rfl) ?_
  refine pl_val (want_no rfl) (some 94) rfl (.string (zB m)) (fun _ => by kernel_rfl) ?_
  refine pl_val (want_no rfl) (some 95) rfl (.int .i64 0) (fun _ => by kernel_rfl) ?_
  refine pl_val (want_no rfl) (some 16) rfl (.string (zB m)) (fun _ => by kernel_rfl) ?_
  refine pl_val (want_no rfl) (some 17) rfl (.int .i64 0) (fun _ => by kernel_rfl) ?_
  refine pl_nil ?_
  refine au_then ?_
  refine wp_seq ?_
  refine rg_lit ?_
  refine pl_val (want_no rfl) (some 96) rfl (.int .i64 0) (fun _ => by kernel_rfl) ?_
  refine pl_val (want_no rfl) (some 97) rfl (.bool true) (fun _ => by kernel_rfl) ?_
  refine pl_val (want_no rfl) (some 98) rfl (.bool true) (fun _ => by kernel_rfl) ?_
  refine pl_val (want_on 2 true rfl 98 rfl (by kernel_rfl)) (some 99) rfl (.int .i64 0) (fun _ => by kernel_rfl) ?_
  refine pl_val (want_on 2 true rfl 98 rfl (by kernel_rfl)) (some 100) rfl (.bool true) (fun _ => by kernel_rfl) ?_
  refine pl_val (want_no rfl) (some 101) rfl (.bool true) (fun _ => by kernel_rfl) ?_
  refine pl_val (want_no rfl) (some 102) rfl (.bool true) (fun _ => by kernel_rfl) ?_
  refine pl_val (want_on 6 true rfl 102 rfl (by kernel_rfl)) (some 103) rfl (.string (zB m)) (fun _ => by kernel_rfl) ?_
  refine pl_val (want_on 6 true rfl 102 rfl (by kernel_rfl)) (some 104) rfl (.string (zB m)) (fun _ => by kernel_rfl) ?_
  refine pl_val (want_on 6 true rfl 102 rfl (by kernel_rfl)) (some 105) rfl (.bool true) (fun w => Eq.trans (b := .ok (.value (.bool ((zB m).toList == (zB m).toList))) w) (by kernel_rfl) (by rw [beq_self_eq_true])) ?_
  refine pl_val (want_no rfl) (some 106) rfl (.bool true) (fun _ => by kernel_rfl) ?_
  refine pl_val (want_no rfl) (some 107) rfl (.bool true) (fun _ => by kernel_rfl) ?_
  refine pl_call M (want_on 11 true rfl 107 rfl (by kernel_rfl)) (some 108) rfl 6 #[] (.bool true) (fun _ => by kernel_rfl) (fun w M => c_alive w M.laid) ?_
  intro u6 M
  refine pl_val (want_no rfl) (some 109) rfl (.bool true) (fun _ => by kernel_rfl) ?_
  refine pl_val (want_no rfl) (some 4) rfl (.bool true) (fun _ => by kernel_rfl) ?_
  refine pl_nil ?_
  refine au_then ?_
  refine wp_ret ?_
  exact bodyPost_ret (v := .bool true) (results_tmp1 Tryd.results4 _ _ _ (by kernel_rfl)) (by kernel_rfl) ⟨rfl, below_grown M.old⟩

theorem c_long (n : Int) (h0 : -128 ≤ n) (h1 : n ≤ 127) (b : Bool) (w : World) (hL : Laid w) : Calls Tryd.prog 4 #[.int .i8 n, .bool b] w fun r w' => r = .returned (.bool true) ∧ Below w.heap.size w w' := by
  obtain ⟨m, hm⟩ : ∃ m : Nat, 65536 + n = (m : Int) := ⟨(65536 + n).toNat, by omega⟩
  cases b with
  | true =>
    by_cases h : 0 < n
    · exact alA n h0 h1 m hm h w hL
    · exact alB n h0 h1 m hm h w hL
  | false =>
    by_cases h : 0 < n
    · exact alC n h0 h1 m hm h w hL
    · exact alD n h0 h1 m hm h w hL

end Go.Proofs.YtkndaajbedlajaaDoor
