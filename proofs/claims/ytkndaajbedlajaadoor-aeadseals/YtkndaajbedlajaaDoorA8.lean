/- The walk of AeadSeals. -/
import Derived.Test.YtkndaajbedlajaaDoorA7
namespace Go.Proofs.YtkndaajbedlajaaDoor
open Go.RowKit

theorem sf_arg {key nonce ad s : ByteArray} {m : Nat} (hm : ¬ (key.size = 32 ∧ nonce.size = 12)) : sf key nonce ad s m = 2 := by
  unfold sf
  rw [if_pos (by omega)]
theorem sf_short {key nonce ad s : ByteArray} (hm : key.size = 32 ∧ nonce.size = 12) (ha : ad.size ≤ 65536) (hs : s.size < 16) : sf key nonce ad s 16 = 100 := by
  unfold sf
  rw [if_neg (by omega), if_neg (by omega), if_pos hs]
theorem sf_long {key nonce ad s : ByteArray} {m : Nat} (hm : key.size = 32 ∧ nonce.size = 12) (h : 65536 < ad.size ∨ 65536 + m < s.size) : sf key nonce ad s m = 4 := by
  unfold sf
  rw [if_neg (by omega), if_pos h]
theorem c_SealE (key nonce ad s : ByteArray) (f : Int) (h : sf key nonce ad s 0 = f) (hf : f ≠ 0) (w : World) (hL : Laid w) : Calls Tryd.prog 7 #[.string key, .string nonce, .string ad, .string s] w fun r w' => r = .returned (.tuple #[.string ⟨#[]⟩, .int .i64 f]) ∧ Below w.heap.size w w' := by
  subst h
  exact c_SealB key nonce ad s hf w hL
theorem c_OpenE (key nonce ad s : ByteArray) (f : Int) (h : sf key nonce ad s 16 = f) (hf : f ≠ 0) (w : World) (hL : Laid w) : Calls Tryd.prog 9 #[.string key, .string nonce, .string ad, .string s] w fun r w' => r = .returned (.tuple #[.string ⟨#[]⟩, .int .i64 f]) ∧ Below w.heap.size w w' := by
  subst h
  exact c_OpenC key nonce ad s hf w hL

set_option maxRecDepth 100000 in
set_option maxHeartbeats 4000000 in
theorem asA (key nonce ad s : ByteArray) (n : Int) (_bkey : key.size ≤ 140737488351232) (_bnonce : nonce.size ≤ 140737488351232) (_bad : ad.size ≤ 140737488351232) (_bs : s.size ≤ 140737488351232) (h : 4096 < key.size + nonce.size + ad.size + s.size) (w : World) (hL : Laid w)  :
    Calls Tryd.prog 3 #[.string key, .string nonce, .string ad, .string s, .int .u64 n] w fun r w' => r = .returned (.bool true) ∧ Below w.heap.size w w' := by
  go_enter Tryd.func3, Tryd.ntmps3
  have M := Mem.start hL
  refine wp_seq ?_
  refine rg_lit ?_
  refine pl_val (want_no rfl) (some 10) rfl (.bool false) (fun _ => by kernel_rfl) ?_
  refine pl_nil ?_
  refine au_then ?_
  refine wp_seq ?_
  refine wp_seq ?_
  refine rg_lit ?_
  refine pl_val (want_no rfl) (some 19) rfl (.string key) (fun _ => by kernel_rfl) ?_
  refine pl_val (want_no rfl) (some 20) rfl (.int .i64 (key.size : Int)) (fun _ => by kernel_rfl) ?_
  refine pl_val (want_no rfl) (some 21) rfl (.string nonce) (fun _ => by kernel_rfl) ?_
  refine pl_val (want_no rfl) (some 22) rfl (.int .i64 (nonce.size : Int)) (fun _ => by kernel_rfl) ?_
  refine pl_val (want_no rfl) (some 23) rfl (.int .i64 ((key.size + nonce.size : Nat) : Int)) (fun w => Eq.trans (b := .ok (.value (.int .i64 (IntKind.wrap .i64 ((key.size : Int) + (nonce.size : Int))))) w) (by kernel_rfl) (by rw [wrap64 (by omega) (by omega)]; congr 3)) ?_
  refine pl_val (want_no rfl) (some 24) rfl (.string ad) (fun _ => by kernel_rfl) ?_
  refine pl_val (want_no rfl) (some 25) rfl (.int .i64 (ad.size : Int)) (fun _ => by kernel_rfl) ?_
  refine pl_val (want_no rfl) (some 26) rfl (.int .i64 ((key.size + nonce.size + ad.size : Nat) : Int)) (fun w => Eq.trans (b := .ok (.value (.int .i64 (IntKind.wrap .i64 (((key.size + nonce.size : Nat) : Int) + (ad.size : Int))))) w) (by kernel_rfl) (by rw [wrap64 (by omega) (by omega)]; congr 3)) ?_
  refine pl_val (want_no rfl) (some 27) rfl (.string s) (fun _ => by kernel_rfl) ?_
  refine pl_val (want_no rfl) (some 28) rfl (.int .i64 (s.size : Int)) (fun _ => by kernel_rfl) ?_
  refine pl_val (want_no rfl) (some 29) rfl (.int .i64 ((key.size + nonce.size + ad.size + s.size : Nat) : Int)) (fun w => Eq.trans (b := .ok (.value (.int .i64 (IntKind.wrap .i64 (((key.size + nonce.size + ad.size : Nat) : Int) + (s.size : Int))))) w) (by kernel_rfl) (by rw [wrap64 (by omega) (by omega)]; congr 3)) ?_
  refine pl_val (want_no rfl) (some 30) rfl (.bool true) (fun w => Eq.trans (b := .ok (.value (.bool (decide ((4096 : Int) < ((key.size + nonce.size + ad.size + s.size : Nat) : Int))))) w) (by kernel_rfl) (by rw [decide_eq_true (by omega)])) ?_
  refine pl_nil ?_
  refine au_then ?_
  refine wp_cond_true (by kernel_rfl) ?_
  refine wp_seq ?_
  refine rg_lit ?_
  refine pl_call M (want_no rfl) (some 31) rfl 6 #[] (.bool true) (fun _ => by kernel_rfl) (fun w M => c_alive w M.laid) ?_
  intro u1 M
  refine pl_val (want_no rfl) (some 10) rfl (.bool true) (fun _ => by kernel_rfl) ?_
  refine pl_nil ?_
  refine au_then ?_
  refine wp_ret ?_
  refine au_then_ret ?_
  exact bodyPost_ret (v := .bool true) (results_tmp1 Tryd.results3 _ _ _ (by kernel_rfl)) (by kernel_rfl) ⟨rfl, below_grown M.old⟩

set_option maxRecDepth 100000 in
set_option maxHeartbeats 4000000 in
theorem asB (key nonce ad s : ByteArray) (n : Int) (_bkey : key.size ≤ 140737488351232) (_bnonce : nonce.size ≤ 140737488351232) (_bad : ad.size ≤ 140737488351232) (_bs : s.size ≤ 140737488351232) (h : ¬ 4096 < key.size + nonce.size + ad.size + s.size) (hm : ¬ (key.size = 32 ∧ nonce.size = 12)) (w : World) (hL : Laid w)  :
    Calls Tryd.prog 3 #[.string key, .string nonce, .string ad, .string s, .int .u64 n] w fun r w' => r = .returned (.bool true) ∧ Below w.heap.size w w' := by
  go_enter Tryd.func3, Tryd.ntmps3
  have M := Mem.start hL
  refine wp_seq ?_
  refine rg_lit ?_
  refine pl_val (want_no rfl) (some 10) rfl (.bool false) (fun _ => by kernel_rfl) ?_
  refine pl_nil ?_
  refine au_then ?_
  refine wp_seq ?_
  refine wp_seq ?_
  refine rg_lit ?_
  refine pl_val (want_no rfl) (some 19) rfl (.string key) (fun _ => by kernel_rfl) ?_
  refine pl_val (want_no rfl) (some 20) rfl (.int .i64 (key.size : Int)) (fun _ => by kernel_rfl) ?_
  refine pl_val (want_no rfl) (some 21) rfl (.string nonce) (fun _ => by kernel_rfl) ?_
  refine pl_val (want_no rfl) (some 22) rfl (.int .i64 (nonce.size : Int)) (fun _ => by kernel_rfl) ?_
  refine pl_val (want_no rfl) (some 23) rfl (.int .i64 ((key.size + nonce.size : Nat) : Int)) (fun w => Eq.trans (b := .ok (.value (.int .i64 (IntKind.wrap .i64 ((key.size : Int) + (nonce.size : Int))))) w) (by kernel_rfl) (by rw [wrap64 (by omega) (by omega)]; congr 3)) ?_
  refine pl_val (want_no rfl) (some 24) rfl (.string ad) (fun _ => by kernel_rfl) ?_
  refine pl_val (want_no rfl) (some 25) rfl (.int .i64 (ad.size : Int)) (fun _ => by kernel_rfl) ?_
  refine pl_val (want_no rfl) (some 26) rfl (.int .i64 ((key.size + nonce.size + ad.size : Nat) : Int)) (fun w => Eq.trans (b := .ok (.value (.int .i64 (IntKind.wrap .i64 (((key.size + nonce.size : Nat) : Int) + (ad.size : Int))))) w) (by kernel_rfl) (by rw [wrap64 (by omega) (by omega)]; congr 3)) ?_
  refine pl_val (want_no rfl) (some 27) rfl (.string s) (fun _ => by kernel_rfl) ?_
  refine pl_val (want_no rfl) (some 28) rfl (.int .i64 (s.size : Int)) (fun _ => by kernel_rfl) ?_
  refine pl_val (want_no rfl) (some 29) rfl (.int .i64 ((key.size + nonce.size + ad.size + s.size : Nat) : Int)) (fun w => Eq.trans (b := .ok (.value (.int .i64 (IntKind.wrap .i64 (((key.size + nonce.size + ad.size : Nat) : Int) + (s.size : Int))))) w) (by kernel_rfl) (by rw [wrap64 (by omega) (by omega)]; congr 3)) ?_
  refine pl_val (want_no rfl) (some 30) rfl (.bool false) (fun w => Eq.trans (b := .ok (.value (.bool (decide ((4096 : Int) < ((key.size + nonce.size + ad.size + s.size : Nat) : Int))))) w) (by kernel_rfl) (by rw [decide_eq_false (by omega)])) ?_
  refine pl_nil ?_
  refine au_then ?_
  refine wp_cond_false (by kernel_rfl) ?_
  refine wp_skip ?_
  refine au_then ?_
  refine wp_seq ?_
  refine rg_lit ?_
  refine pl_val (want_no rfl) (some 33) rfl (.string key) (fun _ => by kernel_rfl) ?_
  refine pl_val (want_no rfl) (some 34) rfl (.string nonce) (fun _ => by kernel_rfl) ?_
  refine pl_val (want_no rfl) (some 35) rfl (.string ad) (fun _ => by kernel_rfl) ?_
  refine pl_val (want_no rfl) (some 36) rfl (.string s) (fun _ => by kernel_rfl) ?_
  refine pl_call M (want_no rfl) (some 37) rfl 7 #[.string key, .string nonce, .string ad, .string s] (.tuple #[.string ⟨#[]⟩, .int .i64 2]) (fun _ => by kernel_rfl) (fun w M => c_SealE key nonce ad s 2 (sf_arg hm) (by decide) w M.laid) ?_
  intro u1 M
  refine pl_val (want_no rfl) (some 32) rfl (.tuple #[.string ⟨#[]⟩, .int .i64 2]) (fun _ => by kernel_rfl) ?_
  refine pl_val (want_no rfl) (some 38) rfl (.string ⟨#[]⟩) (fun _ => by kernel_rfl) ?_
  refine pl_val (want_no rfl) (some 39) rfl (.int .i64 2) (fun _ => by kernel_rfl) ?_
  refine pl_val (want_no rfl) (some 11) rfl (.string ⟨#[]⟩) (fun _ => by kernel_rfl) ?_
  refine pl_val (want_no rfl) (some 12) rfl (.int .i64 2) (fun _ => by kernel_rfl) ?_
  refine pl_nil ?_
  refine au_then ?_
  refine wp_seq ?_
  refine rg_lit ?_
  refine pl_val (want_no rfl) (some 41) rfl (.string key) (fun _ => by kernel_rfl) ?_
  refine pl_val (want_no rfl) (some 42) rfl (.string nonce) (fun _ => by kernel_rfl) ?_
  refine pl_val (want_no rfl) (some 43) rfl (.string ad) (fun _ => by kernel_rfl) ?_
  refine pl_val (want_no rfl) (some 44) rfl (.string s) (fun _ => by kernel_rfl) ?_
  refine pl_call M (want_no rfl) (some 45) rfl 8 #[.string key, .string nonce, .string ad, .string s] (.tuple #[.string ⟨#[]⟩, .int .i64 2]) (fun _ => by kernel_rfl) (fun w M => d_SealB key nonce ad s hm w M.laid) ?_
  intro u2 M
  refine pl_val (want_no rfl) (some 40) rfl (.tuple #[.string ⟨#[]⟩, .int .i64 2]) (fun _ => by kernel_rfl) ?_
  refine pl_val (want_no rfl) (some 46) rfl (.string ⟨#[]⟩) (fun _ => by kernel_rfl) ?_
  refine pl_val (want_no rfl) (some 47) rfl (.int .i64 2) (fun _ => by kernel_rfl) ?_
  refine pl_val (want_no rfl) (some 13) rfl (.string ⟨#[]⟩) (fun _ => by kernel_rfl) ?_
  refine pl_val (want_no rfl) (some 14) rfl (.int .i64 2) (fun _ => by kernel_rfl) ?_
  refine pl_nil ?_
  refine au_then ?_
  refine wp_seq ?_
  refine rg_lit ?_
  refine pl_val (want_no rfl) (some 49) rfl (.string key) (fun _ => by kernel_rfl) ?_
  refine pl_val (want_no rfl) (some 50) rfl (.string nonce) (fun _ => by kernel_rfl) ?_
  refine pl_val (want_no rfl) (some 51) rfl (.string ad) (fun _ => by kernel_rfl) ?_
  refine pl_val (want_no rfl) (some 52) rfl (.string s) (fun _ => by kernel_rfl) ?_
  refine pl_call M (want_no rfl) (some 53) rfl 9 #[.string key, .string nonce, .string ad, .string s] (.tuple #[.string ⟨#[]⟩, .int .i64 2]) (fun _ => by kernel_rfl) (fun w M => c_OpenE key nonce ad s 2 (sf_arg hm) (by decide) w M.laid) ?_
  intro u3 M
  refine pl_val (want_no rfl) (some 48) rfl (.tuple #[.string ⟨#[]⟩, .int .i64 2]) (fun _ => by kernel_rfl) ?_
  refine pl_val (want_no rfl) (some 54) rfl (.string ⟨#[]⟩) (fun _ => by kernel_rfl) ?_
  refine pl_val (want_no rfl) (some 55) rfl (.int .i64 2) (fun _ => by kernel_rfl) ?_
  refine pl_val (want_no rfl) (some 15) rfl (.string ⟨#[]⟩) (fun _ => by kernel_rfl) ?_
  refine pl_val (want_no rfl) (some 16) rfl (.int .i64 2) (fun _ => by kernel_rfl) ?_
  refine pl_nil ?_
  refine au_then ?_
  refine wp_seq ?_
  refine rg_lit ?_
  refine pl_val (want_no rfl) (some 57) rfl (.string key) (fun _ => by kernel_rfl) ?_
  refine pl_val (want_no rfl) (some 58) rfl (.string nonce) (fun _ => by kernel_rfl) ?_
  refine pl_val (want_no rfl) (some 59) rfl (.string ad) (fun _ => by kernel_rfl) ?_
  refine pl_val (want_no rfl) (some 60) rfl (.string s) (fun _ => by kernel_rfl) ?_
  refine pl_call M (want_no rfl) (some 61) rfl 10 #[.string key, .string nonce, .string ad, .string s] (.tuple #[.string ⟨#[]⟩, .int .i64 2]) (fun _ => by kernel_rfl) (fun w M => d_OpenD key nonce ad s hm w M.laid) ?_
  intro u4 M
  refine pl_val (want_no rfl) (some 56) rfl (.tuple #[.string ⟨#[]⟩, .int .i64 2]) (fun _ => by kernel_rfl) ?_
  refine pl_val (want_no rfl) (some 62) rfl (.string ⟨#[]⟩) (fun _ => by kernel_rfl) ?_
  refine pl_val (want_no rfl) (some 63) rfl (.int .i64 2) (fun _ => by kernel_rfl) ?_
  refine pl_val (want_no rfl) (some 17) rfl (.string ⟨#[]⟩) (fun _ => by kernel_rfl) ?_
  refine pl_val (want_no rfl) (some 18) rfl (.int .i64 2) (fun _ => by kernel_rfl) ?_
  refine pl_nil ?_
  refine au_then ?_
  refine wp_seq ?_
  refine rg_lit ?_
  refine pl_val (want_no rfl) (some 64) rfl (.string ⟨#[]⟩) (fun _ => by kernel_rfl) ?_
  refine pl_val (want_no rfl) (some 65) rfl (.string ⟨#[]⟩) (fun _ => by kernel_rfl) ?_
  refine pl_val (want_no rfl) (some 66) rfl (.bool true) (fun w => Eq.trans (b := .ok (.value (.bool ((⟨#[]⟩ : ByteArray).toList == (⟨#[]⟩ : ByteArray).toList))) w) (by kernel_rfl) (by rw [beq_self_eq_true])) ?_
  refine pl_val (want_no rfl) (some 67) rfl (.bool true) (fun _ => by kernel_rfl) ?_
  refine pl_val (want_on 3 true rfl 67 rfl (by kernel_rfl)) (some 68) rfl (.int .i64 2) (fun _ => by kernel_rfl) ?_
  refine pl_val (want_on 3 true rfl 67 rfl (by kernel_rfl)) (some 69) rfl (.int .i64 2) (fun _ => by kernel_rfl) ?_
  refine pl_val (want_on 3 true rfl 67 rfl (by kernel_rfl)) (some 70) rfl (.bool true) (fun _ => by kernel_rfl) ?_
  refine pl_val (want_no rfl) (some 71) rfl (.bool true) (fun _ => by kernel_rfl) ?_
  refine pl_val (want_no rfl) (some 72) rfl (.bool true) (fun _ => by kernel_rfl) ?_
  refine pl_val (want_on 8 true rfl 72 rfl (by kernel_rfl)) (some 73) rfl (.string ⟨#[]⟩) (fun _ => by kernel_rfl) ?_
  refine pl_val (want_on 8 true rfl 72 rfl (by kernel_rfl)) (some 74) rfl (.string ⟨#[]⟩) (fun _ => by kernel_rfl) ?_
  refine pl_val (want_on 8 true rfl 72 rfl (by kernel_rfl)) (some 75) rfl (.bool true) (fun w => Eq.trans (b := .ok (.value (.bool ((⟨#[]⟩ : ByteArray).toList == (⟨#[]⟩ : ByteArray).toList))) w) (by kernel_rfl) (by rw [beq_self_eq_true])) ?_
  refine pl_val (want_no rfl) (some 76) rfl (.bool true) (fun _ => by kernel_rfl) ?_
  refine pl_val (want_no rfl) (some 77) rfl (.bool true) (fun _ => by kernel_rfl) ?_
  refine pl_val (want_on 13 true rfl 77 rfl (by kernel_rfl)) (some 78) rfl (.int .i64 2) (fun _ => by kernel_rfl) ?_
  refine pl_val (want_on 13 true rfl 77 rfl (by kernel_rfl)) (some 79) rfl (.int .i64 2) (fun _ => by kernel_rfl) ?_
  refine pl_val (want_on 13 true rfl 77 rfl (by kernel_rfl)) (some 80) rfl (.bool true) (fun _ => by kernel_rfl) ?_
  refine pl_val (want_no rfl) (some 81) rfl (.bool true) (fun _ => by kernel_rfl) ?_
  refine pl_val (want_no rfl) (some 82) rfl (.bool true) (fun _ => by kernel_rfl) ?_
  refine pl_val (want_on 18 true rfl 82 rfl (by kernel_rfl)) (some 83) rfl (.int .u64 n) (fun _ => by kernel_rfl) ?_
  refine pl_call M (want_on 18 true rfl 82 rfl (by kernel_rfl)) (some 84) rfl 11 #[.int .u64 n] (.string (nS n)) (fun _ => by kernel_rfl) (fun w M => c_Nonce n w M.laid) ?_
  intro u5 M
  refine pl_val (want_on 18 true rfl 82 rfl (by kernel_rfl)) (some 85) rfl (.int .u64 n) (fun _ => by kernel_rfl) ?_
  refine pl_call M (want_on 18 true rfl 82 rfl (by kernel_rfl)) (some 86) rfl 12 #[.int .u64 n] (.string (nS n)) (fun _ => by kernel_rfl) (fun w M => d_Nonce n w M.laid) ?_
  intro u6 M
  refine pl_val (want_on 18 true rfl 82 rfl (by kernel_rfl)) (some 87) rfl (.bool true) (fun w => Eq.trans (b := .ok (.value (.bool ((nS n).toList == (nS n).toList))) w) (by kernel_rfl) (by rw [beq_self_eq_true])) ?_
  refine pl_val (want_no rfl) (some 88) rfl (.bool true) (fun _ => by kernel_rfl) ?_
  refine pl_val (want_no rfl) (some 89) rfl (.bool true) (fun _ => by kernel_rfl) ?_
  refine pl_call M (want_on 25 true rfl 89 rfl (by kernel_rfl)) (some 90) rfl 6 #[] (.bool true) (fun _ => by kernel_rfl) (fun w M => c_alive w M.laid) ?_
  intro u7 M
  refine pl_val (want_no rfl) (some 91) rfl (.bool true) (fun _ => by kernel_rfl) ?_
  refine pl_val (want_no rfl) (some 10) rfl (.bool true) (fun _ => by kernel_rfl) ?_
  refine pl_nil ?_
  refine au_then ?_
  refine wp_ret ?_
  exact bodyPost_ret (v := .bool true) (results_tmp1 Tryd.results3 _ _ _ (by kernel_rfl)) (by kernel_rfl) ⟨rfl, below_grown M.old⟩

set_option maxRecDepth 100000 in
set_option maxHeartbeats 4000000 in
theorem asC (key nonce ad s : ByteArray) (n : Int) (_bkey : key.size ≤ 140737488351232) (_bnonce : nonce.size ≤ 140737488351232) (_bad : ad.size ≤ 140737488351232) (_bs : s.size ≤ 140737488351232) (h : ¬ 4096 < key.size + nonce.size + ad.size + s.size) (hm : key.size = 32 ∧ nonce.size = 12) (hl : s.size < 16) (w : World) (hL : Laid w)  :
    Calls Tryd.prog 3 #[.string key, .string nonce, .string ad, .string s, .int .u64 n] w fun r w' => r = .returned (.bool true) ∧ Below w.heap.size w w' := by
  go_enter Tryd.func3, Tryd.ntmps3
  have M := Mem.start hL
  refine wp_seq ?_
  refine rg_lit ?_
  refine pl_val (want_no rfl) (some 10) rfl (.bool false) (fun _ => by kernel_rfl) ?_
  refine pl_nil ?_
  refine au_then ?_
  refine wp_seq ?_
  refine wp_seq ?_
  refine rg_lit ?_
  refine pl_val (want_no rfl) (some 19) rfl (.string key) (fun _ => by kernel_rfl) ?_
  refine pl_val (want_no rfl) (some 20) rfl (.int .i64 (key.size : Int)) (fun _ => by kernel_rfl) ?_
  refine pl_val (want_no rfl) (some 21) rfl (.string nonce) (fun _ => by kernel_rfl) ?_
  refine pl_val (want_no rfl) (some 22) rfl (.int .i64 (nonce.size : Int)) (fun _ => by kernel_rfl) ?_
  refine pl_val (want_no rfl) (some 23) rfl (.int .i64 ((key.size + nonce.size : Nat) : Int)) (fun w => Eq.trans (b := .ok (.value (.int .i64 (IntKind.wrap .i64 ((key.size : Int) + (nonce.size : Int))))) w) (by kernel_rfl) (by rw [wrap64 (by omega) (by omega)]; congr 3)) ?_
  refine pl_val (want_no rfl) (some 24) rfl (.string ad) (fun _ => by kernel_rfl) ?_
  refine pl_val (want_no rfl) (some 25) rfl (.int .i64 (ad.size : Int)) (fun _ => by kernel_rfl) ?_
  refine pl_val (want_no rfl) (some 26) rfl (.int .i64 ((key.size + nonce.size + ad.size : Nat) : Int)) (fun w => Eq.trans (b := .ok (.value (.int .i64 (IntKind.wrap .i64 (((key.size + nonce.size : Nat) : Int) + (ad.size : Int))))) w) (by kernel_rfl) (by rw [wrap64 (by omega) (by omega)]; congr 3)) ?_
  refine pl_val (want_no rfl) (some 27) rfl (.string s) (fun _ => by kernel_rfl) ?_
  refine pl_val (want_no rfl) (some 28) rfl (.int .i64 (s.size : Int)) (fun _ => by kernel_rfl) ?_
  refine pl_val (want_no rfl) (some 29) rfl (.int .i64 ((key.size + nonce.size + ad.size + s.size : Nat) : Int)) (fun w => Eq.trans (b := .ok (.value (.int .i64 (IntKind.wrap .i64 (((key.size + nonce.size + ad.size : Nat) : Int) + (s.size : Int))))) w) (by kernel_rfl) (by rw [wrap64 (by omega) (by omega)]; congr 3)) ?_
  refine pl_val (want_no rfl) (some 30) rfl (.bool false) (fun w => Eq.trans (b := .ok (.value (.bool (decide ((4096 : Int) < ((key.size + nonce.size + ad.size + s.size : Nat) : Int))))) w) (by kernel_rfl) (by rw [decide_eq_false (by omega)])) ?_
  refine pl_nil ?_
  refine au_then ?_
  refine wp_cond_false (by kernel_rfl) ?_
  refine wp_skip ?_
  refine au_then ?_
  refine wp_seq ?_
  refine rg_lit ?_
  refine pl_val (want_no rfl) (some 33) rfl (.string key) (fun _ => by kernel_rfl) ?_
  refine pl_val (want_no rfl) (some 34) rfl (.string nonce) (fun _ => by kernel_rfl) ?_
  refine pl_val (want_no rfl) (some 35) rfl (.string ad) (fun _ => by kernel_rfl) ?_
  refine pl_val (want_no rfl) (some 36) rfl (.string s) (fun _ => by kernel_rfl) ?_
  refine pl_call M (want_no rfl) (some 37) rfl 7 #[.string key, .string nonce, .string ad, .string s] (.tuple #[.string (sealS key nonce ad s), .int .i64 0]) (fun _ => by kernel_rfl) (fun w M => c_SealA key nonce ad s (sf_ok hm (by omega) (by omega) (by omega)) w M.laid) ?_
  intro u1 M
  refine pl_val (want_no rfl) (some 32) rfl (.tuple #[.string (sealS key nonce ad s), .int .i64 0]) (fun _ => by kernel_rfl) ?_
  refine pl_val (want_no rfl) (some 38) rfl (.string (sealS key nonce ad s)) (fun _ => by kernel_rfl) ?_
  refine pl_val (want_no rfl) (some 39) rfl (.int .i64 0) (fun _ => by kernel_rfl) ?_
  refine pl_val (want_no rfl) (some 11) rfl (.string (sealS key nonce ad s)) (fun _ => by kernel_rfl) ?_
  refine pl_val (want_no rfl) (some 12) rfl (.int .i64 0) (fun _ => by kernel_rfl) ?_
  refine pl_nil ?_
  refine au_then ?_
  refine wp_seq ?_
  refine rg_lit ?_
  refine pl_val (want_no rfl) (some 41) rfl (.string key) (fun _ => by kernel_rfl) ?_
  refine pl_val (want_no rfl) (some 42) rfl (.string nonce) (fun _ => by kernel_rfl) ?_
  refine pl_val (want_no rfl) (some 43) rfl (.string ad) (fun _ => by kernel_rfl) ?_
  refine pl_val (want_no rfl) (some 44) rfl (.string s) (fun _ => by kernel_rfl) ?_
  refine pl_call M (want_no rfl) (some 45) rfl 8 #[.string key, .string nonce, .string ad, .string s] (.tuple #[.string (sealS key nonce ad s), .int .i64 0]) (fun _ => by kernel_rfl) (fun w M => d_SealA key nonce ad s hm (by omega) w M.laid) ?_
  intro u2 M
  refine pl_val (want_no rfl) (some 40) rfl (.tuple #[.string (sealS key nonce ad s), .int .i64 0]) (fun _ => by kernel_rfl) ?_
  refine pl_val (want_no rfl) (some 46) rfl (.string (sealS key nonce ad s)) (fun _ => by kernel_rfl) ?_
  refine pl_val (want_no rfl) (some 47) rfl (.int .i64 0) (fun _ => by kernel_rfl) ?_
  refine pl_val (want_no rfl) (some 13) rfl (.string (sealS key nonce ad s)) (fun _ => by kernel_rfl) ?_
  refine pl_val (want_no rfl) (some 14) rfl (.int .i64 0) (fun _ => by kernel_rfl) ?_
  refine pl_nil ?_
  refine au_then ?_
  refine wp_seq ?_
  refine rg_lit ?_
  refine pl_val (want_no rfl) (some 49) rfl (.string key) (fun _ => by kernel_rfl) ?_
  refine pl_val (want_no rfl) (some 50) rfl (.string nonce) (fun _ => by kernel_rfl) ?_
  refine pl_val (want_no rfl) (some 51) rfl (.string ad) (fun _ => by kernel_rfl) ?_
  refine pl_val (want_no rfl) (some 52) rfl (.string s) (fun _ => by kernel_rfl) ?_
  refine pl_call M (want_no rfl) (some 53) rfl 9 #[.string key, .string nonce, .string ad, .string s] (.tuple #[.string ⟨#[]⟩, .int .i64 100]) (fun _ => by kernel_rfl) (fun w M => c_OpenE key nonce ad s 100 (sf_short hm (by omega) hl) (by decide) w M.laid) ?_
  intro u3 M
  refine pl_val (want_no rfl) (some 48) rfl (.tuple #[.string ⟨#[]⟩, .int .i64 100]) (fun _ => by kernel_rfl) ?_
  refine pl_val (want_no rfl) (some 54) rfl (.string ⟨#[]⟩) (fun _ => by kernel_rfl) ?_
  refine pl_val (want_no rfl) (some 55) rfl (.int .i64 100) (fun _ => by kernel_rfl) ?_
  refine pl_val (want_no rfl) (some 15) rfl (.string ⟨#[]⟩) (fun _ => by kernel_rfl) ?_
  refine pl_val (want_no rfl) (some 16) rfl (.int .i64 100) (fun _ => by kernel_rfl) ?_
  refine pl_nil ?_
  refine au_then ?_
  refine wp_seq ?_
  refine rg_lit ?_
  refine pl_val (want_no rfl) (some 57) rfl (.string key) (fun _ => by kernel_rfl) ?_
  refine pl_val (want_no rfl) (some 58) rfl (.string nonce) (fun _ => by kernel_rfl) ?_
  refine pl_val (want_no rfl) (some 59) rfl (.string ad) (fun _ => by kernel_rfl) ?_
  refine pl_val (want_no rfl) (some 60) rfl (.string s) (fun _ => by kernel_rfl) ?_
  refine pl_call M (want_no rfl) (some 61) rfl 10 #[.string key, .string nonce, .string ad, .string s] (.tuple #[.string ⟨#[]⟩, .int .i64 100]) (fun _ => by kernel_rfl) (fun w M => d_OpenC key nonce ad s hm (by omega) hl w M.laid) ?_
  intro u4 M
  refine pl_val (want_no rfl) (some 56) rfl (.tuple #[.string ⟨#[]⟩, .int .i64 100]) (fun _ => by kernel_rfl) ?_
  refine pl_val (want_no rfl) (some 62) rfl (.string ⟨#[]⟩) (fun _ => by kernel_rfl) ?_
  refine pl_val (want_no rfl) (some 63) rfl (.int .i64 100) (fun _ => by kernel_rfl) ?_
  refine pl_val (want_no rfl) (some 17) rfl (.string ⟨#[]⟩) (fun _ => by kernel_rfl) ?_
  refine pl_val (want_no rfl) (some 18) rfl (.int .i64 100) (fun _ => by kernel_rfl) ?_
  refine pl_nil ?_
  refine au_then ?_
  refine wp_seq ?_
  refine rg_lit ?_
  refine pl_val (want_no rfl) (some 64) rfl (.string (sealS key nonce ad s)) (fun _ => by kernel_rfl) ?_
  refine pl_val (want_no rfl) (some 65) rfl (.string (sealS key nonce ad s)) (fun _ => by kernel_rfl) ?_
  refine pl_val (want_no rfl) (some 66) rfl (.bool true) (fun w => Eq.trans (b := .ok (.value (.bool ((sealS key nonce ad s).toList == (sealS key nonce ad s).toList))) w) (by kernel_rfl) (by rw [beq_self_eq_true])) ?_
  refine pl_val (want_no rfl) (some 67) rfl (.bool true) (fun _ => by kernel_rfl) ?_
  refine pl_val (want_on 3 true rfl 67 rfl (by kernel_rfl)) (some 68) rfl (.int .i64 0) (fun _ => by kernel_rfl) ?_
  refine pl_val (want_on 3 true rfl 67 rfl (by kernel_rfl)) (some 69) rfl (.int .i64 0) (fun _ => by kernel_rfl) ?_
  refine pl_val (want_on 3 true rfl 67 rfl (by kernel_rfl)) (some 70) rfl (.bool true) (fun _ => by kernel_rfl) ?_
  refine pl_val (want_no rfl) (some 71) rfl (.bool true) (fun _ => by kernel_rfl) ?_
  refine pl_val (want_no rfl) (some 72) rfl (.bool true) (fun _ => by kernel_rfl) ?_
  refine pl_val (want_on 8 true rfl 72 rfl (by kernel_rfl)) (some 73) rfl (.string ⟨#[]⟩) (fun _ => by kernel_rfl) ?_
  refine pl_val (want_on 8 true rfl 72 rfl (by kernel_rfl)) (some 74) rfl (.string ⟨#[]⟩) (fun _ => by kernel_rfl) ?_
  refine pl_val (want_on 8 true rfl 72 rfl (by kernel_rfl)) (some 75) rfl (.bool true) (fun w => Eq.trans (b := .ok (.value (.bool ((⟨#[]⟩ : ByteArray).toList == (⟨#[]⟩ : ByteArray).toList))) w) (by kernel_rfl) (by rw [beq_self_eq_true])) ?_
  refine pl_val (want_no rfl) (some 76) rfl (.bool true) (fun _ => by kernel_rfl) ?_
  refine pl_val (want_no rfl) (some 77) rfl (.bool true) (fun _ => by kernel_rfl) ?_
  refine pl_val (want_on 13 true rfl 77 rfl (by kernel_rfl)) (some 78) rfl (.int .i64 100) (fun _ => by kernel_rfl) ?_
  refine pl_val (want_on 13 true rfl 77 rfl (by kernel_rfl)) (some 79) rfl (.int .i64 100) (fun _ => by kernel_rfl) ?_
  refine pl_val (want_on 13 true rfl 77 rfl (by kernel_rfl)) (some 80) rfl (.bool true) (fun _ => by kernel_rfl) ?_
  refine pl_val (want_no rfl) (some 81) rfl (.bool true) (fun _ => by kernel_rfl) ?_
  refine pl_val (want_no rfl) (some 82) rfl (.bool true) (fun _ => by kernel_rfl) ?_
  refine pl_val (want_on 18 true rfl 82 rfl (by kernel_rfl)) (some 83) rfl (.int .u64 n) (fun _ => by kernel_rfl) ?_
  refine pl_call M (want_on 18 true rfl 82 rfl (by kernel_rfl)) (some 84) rfl 11 #[.int .u64 n] (.string (nS n)) (fun _ => by kernel_rfl) (fun w M => c_Nonce n w M.laid) ?_
  intro u5 M
  refine pl_val (want_on 18 true rfl 82 rfl (by kernel_rfl)) (some 85) rfl (.int .u64 n) (fun _ => by kernel_rfl) ?_
  refine pl_call M (want_on 18 true rfl 82 rfl (by kernel_rfl)) (some 86) rfl 12 #[.int .u64 n] (.string (nS n)) (fun _ => by kernel_rfl) (fun w M => d_Nonce n w M.laid) ?_
  intro u6 M
  refine pl_val (want_on 18 true rfl 82 rfl (by kernel_rfl)) (some 87) rfl (.bool true) (fun w => Eq.trans (b := .ok (.value (.bool ((nS n).toList == (nS n).toList))) w) (by kernel_rfl) (by rw [beq_self_eq_true])) ?_
  refine pl_val (want_no rfl) (some 88) rfl (.bool true) (fun _ => by kernel_rfl) ?_
  refine pl_val (want_no rfl) (some 89) rfl (.bool true) (fun _ => by kernel_rfl) ?_
  refine pl_call M (want_on 25 true rfl 89 rfl (by kernel_rfl)) (some 90) rfl 6 #[] (.bool true) (fun _ => by kernel_rfl) (fun w M => c_alive w M.laid) ?_
  intro u7 M
  refine pl_val (want_no rfl) (some 91) rfl (.bool true) (fun _ => by kernel_rfl) ?_
  refine pl_val (want_no rfl) (some 10) rfl (.bool true) (fun _ => by kernel_rfl) ?_
  refine pl_nil ?_
  refine au_then ?_
  refine wp_ret ?_
  exact bodyPost_ret (v := .bool true) (results_tmp1 Tryd.results3 _ _ _ (by kernel_rfl)) (by kernel_rfl) ⟨rfl, below_grown M.old⟩

set_option maxRecDepth 100000 in
set_option maxHeartbeats 4000000 in
theorem asD (key nonce ad s : ByteArray) (n : Int) (_bkey : key.size ≤ 140737488351232) (_bnonce : nonce.size ≤ 140737488351232) (_bad : ad.size ≤ 140737488351232) (_bs : s.size ≤ 140737488351232) (h : ¬ 4096 < key.size + nonce.size + ad.size + s.size) (hm : key.size = 32 ∧ nonce.size = 12) (hl : ¬ s.size < 16) (e : tgX key nonce ad s = s.extract (s.size - 16) s.size) (w : World) (hL : Laid w)  :
    Calls Tryd.prog 3 #[.string key, .string nonce, .string ad, .string s, .int .u64 n] w fun r w' => r = .returned (.bool true) ∧ Below w.heap.size w w' := by
  go_enter Tryd.func3, Tryd.ntmps3
  have M := Mem.start hL
  refine wp_seq ?_
  refine rg_lit ?_
  refine pl_val (want_no rfl) (some 10) rfl (.bool false) (fun _ => by kernel_rfl) ?_
  refine pl_nil ?_
  refine au_then ?_
  refine wp_seq ?_
  refine wp_seq ?_
  refine rg_lit ?_
  refine pl_val (want_no rfl) (some 19) rfl (.string key) (fun _ => by kernel_rfl) ?_
  refine pl_val (want_no rfl) (some 20) rfl (.int .i64 (key.size : Int)) (fun _ => by kernel_rfl) ?_
  refine pl_val (want_no rfl) (some 21) rfl (.string nonce) (fun _ => by kernel_rfl) ?_
  refine pl_val (want_no rfl) (some 22) rfl (.int .i64 (nonce.size : Int)) (fun _ => by kernel_rfl) ?_
  refine pl_val (want_no rfl) (some 23) rfl (.int .i64 ((key.size + nonce.size : Nat) : Int)) (fun w => Eq.trans (b := .ok (.value (.int .i64 (IntKind.wrap .i64 ((key.size : Int) + (nonce.size : Int))))) w) (by kernel_rfl) (by rw [wrap64 (by omega) (by omega)]; congr 3)) ?_
  refine pl_val (want_no rfl) (some 24) rfl (.string ad) (fun _ => by kernel_rfl) ?_
  refine pl_val (want_no rfl) (some 25) rfl (.int .i64 (ad.size : Int)) (fun _ => by kernel_rfl) ?_
  refine pl_val (want_no rfl) (some 26) rfl (.int .i64 ((key.size + nonce.size + ad.size : Nat) : Int)) (fun w => Eq.trans (b := .ok (.value (.int .i64 (IntKind.wrap .i64 (((key.size + nonce.size : Nat) : Int) + (ad.size : Int))))) w) (by kernel_rfl) (by rw [wrap64 (by omega) (by omega)]; congr 3)) ?_
  refine pl_val (want_no rfl) (some 27) rfl (.string s) (fun _ => by kernel_rfl) ?_
  refine pl_val (want_no rfl) (some 28) rfl (.int .i64 (s.size : Int)) (fun _ => by kernel_rfl) ?_
  refine pl_val (want_no rfl) (some 29) rfl (.int .i64 ((key.size + nonce.size + ad.size + s.size : Nat) : Int)) (fun w => Eq.trans (b := .ok (.value (.int .i64 (IntKind.wrap .i64 (((key.size + nonce.size + ad.size : Nat) : Int) + (s.size : Int))))) w) (by kernel_rfl) (by rw [wrap64 (by omega) (by omega)]; congr 3)) ?_
  refine pl_val (want_no rfl) (some 30) rfl (.bool false) (fun w => Eq.trans (b := .ok (.value (.bool (decide ((4096 : Int) < ((key.size + nonce.size + ad.size + s.size : Nat) : Int))))) w) (by kernel_rfl) (by rw [decide_eq_false (by omega)])) ?_
  refine pl_nil ?_
  refine au_then ?_
  refine wp_cond_false (by kernel_rfl) ?_
  refine wp_skip ?_
  refine au_then ?_
  refine wp_seq ?_
  refine rg_lit ?_
  refine pl_val (want_no rfl) (some 33) rfl (.string key) (fun _ => by kernel_rfl) ?_
  refine pl_val (want_no rfl) (some 34) rfl (.string nonce) (fun _ => by kernel_rfl) ?_
  refine pl_val (want_no rfl) (some 35) rfl (.string ad) (fun _ => by kernel_rfl) ?_
  refine pl_val (want_no rfl) (some 36) rfl (.string s) (fun _ => by kernel_rfl) ?_
  refine pl_call M (want_no rfl) (some 37) rfl 7 #[.string key, .string nonce, .string ad, .string s] (.tuple #[.string (sealS key nonce ad s), .int .i64 0]) (fun _ => by kernel_rfl) (fun w M => c_SealA key nonce ad s (sf_ok hm (by omega) (by omega) (by omega)) w M.laid) ?_
  intro u1 M
  refine pl_val (want_no rfl) (some 32) rfl (.tuple #[.string (sealS key nonce ad s), .int .i64 0]) (fun _ => by kernel_rfl) ?_
  refine pl_val (want_no rfl) (some 38) rfl (.string (sealS key nonce ad s)) (fun _ => by kernel_rfl) ?_
  refine pl_val (want_no rfl) (some 39) rfl (.int .i64 0) (fun _ => by kernel_rfl) ?_
  refine pl_val (want_no rfl) (some 11) rfl (.string (sealS key nonce ad s)) (fun _ => by kernel_rfl) ?_
  refine pl_val (want_no rfl) (some 12) rfl (.int .i64 0) (fun _ => by kernel_rfl) ?_
  refine pl_nil ?_
  refine au_then ?_
  refine wp_seq ?_
  refine rg_lit ?_
  refine pl_val (want_no rfl) (some 41) rfl (.string key) (fun _ => by kernel_rfl) ?_
  refine pl_val (want_no rfl) (some 42) rfl (.string nonce) (fun _ => by kernel_rfl) ?_
  refine pl_val (want_no rfl) (some 43) rfl (.string ad) (fun _ => by kernel_rfl) ?_
  refine pl_val (want_no rfl) (some 44) rfl (.string s) (fun _ => by kernel_rfl) ?_
  refine pl_call M (want_no rfl) (some 45) rfl 8 #[.string key, .string nonce, .string ad, .string s] (.tuple #[.string (sealS key nonce ad s), .int .i64 0]) (fun _ => by kernel_rfl) (fun w M => d_SealA key nonce ad s hm (by omega) w M.laid) ?_
  intro u2 M
  refine pl_val (want_no rfl) (some 40) rfl (.tuple #[.string (sealS key nonce ad s), .int .i64 0]) (fun _ => by kernel_rfl) ?_
  refine pl_val (want_no rfl) (some 46) rfl (.string (sealS key nonce ad s)) (fun _ => by kernel_rfl) ?_
  refine pl_val (want_no rfl) (some 47) rfl (.int .i64 0) (fun _ => by kernel_rfl) ?_
  refine pl_val (want_no rfl) (some 13) rfl (.string (sealS key nonce ad s)) (fun _ => by kernel_rfl) ?_
  refine pl_val (want_no rfl) (some 14) rfl (.int .i64 0) (fun _ => by kernel_rfl) ?_
  refine pl_nil ?_
  refine au_then ?_
  refine wp_seq ?_
  refine rg_lit ?_
  refine pl_val (want_no rfl) (some 49) rfl (.string key) (fun _ => by kernel_rfl) ?_
  refine pl_val (want_no rfl) (some 50) rfl (.string nonce) (fun _ => by kernel_rfl) ?_
  refine pl_val (want_no rfl) (some 51) rfl (.string ad) (fun _ => by kernel_rfl) ?_
  refine pl_val (want_no rfl) (some 52) rfl (.string s) (fun _ => by kernel_rfl) ?_
  refine pl_call M (want_no rfl) (some 53) rfl 9 #[.string key, .string nonce, .string ad, .string s] (.tuple #[.string (opS key nonce s), .int .i64 0]) (fun _ => by kernel_rfl) (fun w M => c_OpenA key nonce ad s (sf_ok hm (by omega) (by omega) (by omega)) e w M.laid) ?_
  intro u3 M
  refine pl_val (want_no rfl) (some 48) rfl (.tuple #[.string (opS key nonce s), .int .i64 0]) (fun _ => by kernel_rfl) ?_
  refine pl_val (want_no rfl) (some 54) rfl (.string (opS key nonce s)) (fun _ => by kernel_rfl) ?_
  refine pl_val (want_no rfl) (some 55) rfl (.int .i64 0) (fun _ => by kernel_rfl) ?_
  refine pl_val (want_no rfl) (some 15) rfl (.string (opS key nonce s)) (fun _ => by kernel_rfl) ?_
  refine pl_val (want_no rfl) (some 16) rfl (.int .i64 0) (fun _ => by kernel_rfl) ?_
  refine pl_nil ?_
  refine au_then ?_
  refine wp_seq ?_
  refine rg_lit ?_
  refine pl_val (want_no rfl) (some 57) rfl (.string key) (fun _ => by kernel_rfl) ?_
  refine pl_val (want_no rfl) (some 58) rfl (.string nonce) (fun _ => by kernel_rfl) ?_
  refine pl_val (want_no rfl) (some 59) rfl (.string ad) (fun _ => by kernel_rfl) ?_
  refine pl_val (want_no rfl) (some 60) rfl (.string s) (fun _ => by kernel_rfl) ?_
  refine pl_call M (want_no rfl) (some 61) rfl 10 #[.string key, .string nonce, .string ad, .string s] (.tuple #[.string (opS key nonce s), .int .i64 0]) (fun _ => by kernel_rfl) (fun w M => d_OpenA key nonce ad s hm (by omega) hl e w M.laid) ?_
  intro u4 M
  refine pl_val (want_no rfl) (some 56) rfl (.tuple #[.string (opS key nonce s), .int .i64 0]) (fun _ => by kernel_rfl) ?_
  refine pl_val (want_no rfl) (some 62) rfl (.string (opS key nonce s)) (fun _ => by kernel_rfl) ?_
  refine pl_val (want_no rfl) (some 63) rfl (.int .i64 0) (fun _ => by kernel_rfl) ?_
  refine pl_val (want_no rfl) (some 17) rfl (.string (opS key nonce s)) (fun _ => by kernel_rfl) ?_
  refine pl_val (want_no rfl) (some 18) rfl (.int .i64 0) (fun _ => by kernel_rfl) ?_
  refine pl_nil ?_
  refine au_then ?_
  refine wp_seq ?_
  refine rg_lit ?_
  refine pl_val (want_no rfl) (some 64) rfl (.string (sealS key nonce ad s)) (fun _ => by kernel_rfl) ?_
  refine pl_val (want_no rfl) (some 65) rfl (.string (sealS key nonce ad s)) (fun _ => by kernel_rfl) ?_
  refine pl_val (want_no rfl) (some 66) rfl (.bool true) (fun w => Eq.trans (b := .ok (.value (.bool ((sealS key nonce ad s).toList == (sealS key nonce ad s).toList))) w) (by kernel_rfl) (by rw [beq_self_eq_true])) ?_
  refine pl_val (want_no rfl) (some 67) rfl (.bool true) (fun _ => by kernel_rfl) ?_
  refine pl_val (want_on 3 true rfl 67 rfl (by kernel_rfl)) (some 68) rfl (.int .i64 0) (fun _ => by kernel_rfl) ?_
  refine pl_val (want_on 3 true rfl 67 rfl (by kernel_rfl)) (some 69) rfl (.int .i64 0) (fun _ => by kernel_rfl) ?_
  refine pl_val (want_on 3 true rfl 67 rfl (by kernel_rfl)) (some 70) rfl (.bool true) (fun _ => by kernel_rfl) ?_
  refine pl_val (want_no rfl) (some 71) rfl (.bool true) (fun _ => by kernel_rfl) ?_
  refine pl_val (want_no rfl) (some 72) rfl (.bool true) (fun _ => by kernel_rfl) ?_
  refine pl_val (want_on 8 true rfl 72 rfl (by kernel_rfl)) (some 73) rfl (.string (opS key nonce s)) (fun _ => by kernel_rfl) ?_
  refine pl_val (want_on 8 true rfl 72 rfl (by kernel_rfl)) (some 74) rfl (.string (opS key nonce s)) (fun _ => by kernel_rfl) ?_
  refine pl_val (want_on 8 true rfl 72 rfl (by kernel_rfl)) (some 75) rfl (.bool true) (fun w => Eq.trans (b := .ok (.value (.bool ((opS key nonce s).toList == (opS key nonce s).toList))) w) (by kernel_rfl) (by rw [beq_self_eq_true])) ?_
  refine pl_val (want_no rfl) (some 76) rfl (.bool true) (fun _ => by kernel_rfl) ?_
  refine pl_val (want_no rfl) (some 77) rfl (.bool true) (fun _ => by kernel_rfl) ?_
  refine pl_val (want_on 13 true rfl 77 rfl (by kernel_rfl)) (some 78) rfl (.int .i64 0) (fun _ => by kernel_rfl) ?_
  refine pl_val (want_on 13 true rfl 77 rfl (by kernel_rfl)) (some 79) rfl (.int .i64 0) (fun _ => by kernel_rfl) ?_
  refine pl_val (want_on 13 true rfl 77 rfl (by kernel_rfl)) (some 80) rfl (.bool true) (fun _ => by kernel_rfl) ?_
  refine pl_val (want_no rfl) (some 81) rfl (.bool true) (fun _ => by kernel_rfl) ?_
  refine pl_val (want_no rfl) (some 82) rfl (.bool true) (fun _ => by kernel_rfl) ?_
  refine pl_val (want_on 18 true rfl 82 rfl (by kernel_rfl)) (some 83) rfl (.int .u64 n) (fun _ => by kernel_rfl) ?_
  refine pl_call M (want_on 18 true rfl 82 rfl (by kernel_rfl)) (some 84) rfl 11 #[.int .u64 n] (.string (nS n)) (fun _ => by kernel_rfl) (fun w M => c_Nonce n w M.laid) ?_
  intro u5 M
  refine pl_val (want_on 18 true rfl 82 rfl (by kernel_rfl)) (some 85) rfl (.int .u64 n) (fun _ => by kernel_rfl) ?_
  refine pl_call M (want_on 18 true rfl 82 rfl (by kernel_rfl)) (some 86) rfl 12 #[.int .u64 n] (.string (nS n)) (fun _ => by kernel_rfl) (fun w M => d_Nonce n w M.laid) ?_
  intro u6 M
  refine pl_val (want_on 18 true rfl 82 rfl (by kernel_rfl)) (some 87) rfl (.bool true) (fun w => Eq.trans (b := .ok (.value (.bool ((nS n).toList == (nS n).toList))) w) (by kernel_rfl) (by rw [beq_self_eq_true])) ?_
  refine pl_val (want_no rfl) (some 88) rfl (.bool true) (fun _ => by kernel_rfl) ?_
  refine pl_val (want_no rfl) (some 89) rfl (.bool true) (fun _ => by kernel_rfl) ?_
  refine pl_call M (want_on 25 true rfl 89 rfl (by kernel_rfl)) (some 90) rfl 6 #[] (.bool true) (fun _ => by kernel_rfl) (fun w M => c_alive w M.laid) ?_
  intro u7 M
  refine pl_val (want_no rfl) (some 91) rfl (.bool true) (fun _ => by kernel_rfl) ?_
  refine pl_val (want_no rfl) (some 10) rfl (.bool true) (fun _ => by kernel_rfl) ?_
  refine pl_nil ?_
  refine au_then ?_
  refine wp_ret ?_
  exact bodyPost_ret (v := .bool true) (results_tmp1 Tryd.results3 _ _ _ (by kernel_rfl)) (by kernel_rfl) ⟨rfl, below_grown M.old⟩

set_option maxRecDepth 100000 in
set_option maxHeartbeats 4000000 in
theorem asE (key nonce ad s : ByteArray) (n : Int) (_bkey : key.size ≤ 140737488351232) (_bnonce : nonce.size ≤ 140737488351232) (_bad : ad.size ≤ 140737488351232) (_bs : s.size ≤ 140737488351232) (h : ¬ 4096 < key.size + nonce.size + ad.size + s.size) (hm : key.size = 32 ∧ nonce.size = 12) (hl : ¬ s.size < 16) (e : tgX key nonce ad s ≠ s.extract (s.size - 16) s.size) (w : World) (hL : Laid w)  :
    Calls Tryd.prog 3 #[.string key, .string nonce, .string ad, .string s, .int .u64 n] w fun r w' => r = .returned (.bool true) ∧ Below w.heap.size w w' := by
  go_enter Tryd.func3, Tryd.ntmps3
  have M := Mem.start hL
  refine wp_seq ?_
  refine rg_lit ?_
  refine pl_val (want_no rfl) (some 10) rfl (.bool false) (fun _ => by kernel_rfl) ?_
  refine pl_nil ?_
  refine au_then ?_
  refine wp_seq ?_
  refine wp_seq ?_
  refine rg_lit ?_
  refine pl_val (want_no rfl) (some 19) rfl (.string key) (fun _ => by kernel_rfl) ?_
  refine pl_val (want_no rfl) (some 20) rfl (.int .i64 (key.size : Int)) (fun _ => by kernel_rfl) ?_
  refine pl_val (want_no rfl) (some 21) rfl (.string nonce) (fun _ => by kernel_rfl) ?_
  refine pl_val (want_no rfl) (some 22) rfl (.int .i64 (nonce.size : Int)) (fun _ => by kernel_rfl) ?_
  refine pl_val (want_no rfl) (some 23) rfl (.int .i64 ((key.size + nonce.size : Nat) : Int)) (fun w => Eq.trans (b := .ok (.value (.int .i64 (IntKind.wrap .i64 ((key.size : Int) + (nonce.size : Int))))) w) (by kernel_rfl) (by rw [wrap64 (by omega) (by omega)]; congr 3)) ?_
  refine pl_val (want_no rfl) (some 24) rfl (.string ad) (fun _ => by kernel_rfl) ?_
  refine pl_val (want_no rfl) (some 25) rfl (.int .i64 (ad.size : Int)) (fun _ => by kernel_rfl) ?_
  refine pl_val (want_no rfl) (some 26) rfl (.int .i64 ((key.size + nonce.size + ad.size : Nat) : Int)) (fun w => Eq.trans (b := .ok (.value (.int .i64 (IntKind.wrap .i64 (((key.size + nonce.size : Nat) : Int) + (ad.size : Int))))) w) (by kernel_rfl) (by rw [wrap64 (by omega) (by omega)]; congr 3)) ?_
  refine pl_val (want_no rfl) (some 27) rfl (.string s) (fun _ => by kernel_rfl) ?_
  refine pl_val (want_no rfl) (some 28) rfl (.int .i64 (s.size : Int)) (fun _ => by kernel_rfl) ?_
  refine pl_val (want_no rfl) (some 29) rfl (.int .i64 ((key.size + nonce.size + ad.size + s.size : Nat) : Int)) (fun w => Eq.trans (b := .ok (.value (.int .i64 (IntKind.wrap .i64 (((key.size + nonce.size + ad.size : Nat) : Int) + (s.size : Int))))) w) (by kernel_rfl) (by rw [wrap64 (by omega) (by omega)]; congr 3)) ?_
  refine pl_val (want_no rfl) (some 30) rfl (.bool false) (fun w => Eq.trans (b := .ok (.value (.bool (decide ((4096 : Int) < ((key.size + nonce.size + ad.size + s.size : Nat) : Int))))) w) (by kernel_rfl) (by rw [decide_eq_false (by omega)])) ?_
  refine pl_nil ?_
  refine au_then ?_
  refine wp_cond_false (by kernel_rfl) ?_
  refine wp_skip ?_
  refine au_then ?_
  refine wp_seq ?_
  refine rg_lit ?_
  refine pl_val (want_no rfl) (some 33) rfl (.string key) (fun _ => by kernel_rfl) ?_
  refine pl_val (want_no rfl) (some 34) rfl (.string nonce) (fun _ => by kernel_rfl) ?_
  refine pl_val (want_no rfl) (some 35) rfl (.string ad) (fun _ => by kernel_rfl) ?_
  refine pl_val (want_no rfl) (some 36) rfl (.string s) (fun _ => by kernel_rfl) ?_
  refine pl_call M (want_no rfl) (some 37) rfl 7 #[.string key, .string nonce, .string ad, .string s] (.tuple #[.string (sealS key nonce ad s), .int .i64 0]) (fun _ => by kernel_rfl) (fun w M => c_SealA key nonce ad s (sf_ok hm (by omega) (by omega) (by omega)) w M.laid) ?_
  intro u1 M
  refine pl_val (want_no rfl) (some 32) rfl (.tuple #[.string (sealS key nonce ad s), .int .i64 0]) (fun _ => by kernel_rfl) ?_
  refine pl_val (want_no rfl) (some 38) rfl (.string (sealS key nonce ad s)) (fun _ => by kernel_rfl) ?_
  refine pl_val (want_no rfl) (some 39) rfl (.int .i64 0) (fun _ => by kernel_rfl) ?_
  refine pl_val (want_no rfl) (some 11) rfl (.string (sealS key nonce ad s)) (fun _ => by kernel_rfl) ?_
  refine pl_val (want_no rfl) (some 12) rfl (.int .i64 0) (fun _ => by kernel_rfl) ?_
  refine pl_nil ?_
  refine au_then ?_
  refine wp_seq ?_
  refine rg_lit ?_
  refine pl_val (want_no rfl) (some 41) rfl (.string key) (fun _ => by kernel_rfl) ?_
  refine pl_val (want_no rfl) (some 42) rfl (.string nonce) (fun _ => by kernel_rfl) ?_
  refine pl_val (want_no rfl) (some 43) rfl (.string ad) (fun _ => by kernel_rfl) ?_
  refine pl_val (want_no rfl) (some 44) rfl (.string s) (fun _ => by kernel_rfl) ?_
  refine pl_call M (want_no rfl) (some 45) rfl 8 #[.string key, .string nonce, .string ad, .string s] (.tuple #[.string (sealS key nonce ad s), .int .i64 0]) (fun _ => by kernel_rfl) (fun w M => d_SealA key nonce ad s hm (by omega) w M.laid) ?_
  intro u2 M
  refine pl_val (want_no rfl) (some 40) rfl (.tuple #[.string (sealS key nonce ad s), .int .i64 0]) (fun _ => by kernel_rfl) ?_
  refine pl_val (want_no rfl) (some 46) rfl (.string (sealS key nonce ad s)) (fun _ => by kernel_rfl) ?_
  refine pl_val (want_no rfl) (some 47) rfl (.int .i64 0) (fun _ => by kernel_rfl) ?_
  refine pl_val (want_no rfl) (some 13) rfl (.string (sealS key nonce ad s)) (fun _ => by kernel_rfl) ?_
  refine pl_val (want_no rfl) (some 14) rfl (.int .i64 0) (fun _ => by kernel_rfl) ?_
  refine pl_nil ?_
  refine au_then ?_
  refine wp_seq ?_
  refine rg_lit ?_
  refine pl_val (want_no rfl) (some 49) rfl (.string key) (fun _ => by kernel_rfl) ?_
  refine pl_val (want_no rfl) (some 50) rfl (.string nonce) (fun _ => by kernel_rfl) ?_
  refine pl_val (want_no rfl) (some 51) rfl (.string ad) (fun _ => by kernel_rfl) ?_
  refine pl_val (want_no rfl) (some 52) rfl (.string s) (fun _ => by kernel_rfl) ?_
  refine pl_call M (want_no rfl) (some 53) rfl 9 #[.string key, .string nonce, .string ad, .string s] (.tuple #[.string ⟨#[]⟩, .int .i64 100]) (fun _ => by kernel_rfl) (fun w M => c_OpenB key nonce ad s (sf_ok hm (by omega) (by omega) (by omega)) e w M.laid) ?_
  intro u3 M
  refine pl_val (want_no rfl) (some 48) rfl (.tuple #[.string ⟨#[]⟩, .int .i64 100]) (fun _ => by kernel_rfl) ?_
  refine pl_val (want_no rfl) (some 54) rfl (.string ⟨#[]⟩) (fun _ => by kernel_rfl) ?_
  refine pl_val (want_no rfl) (some 55) rfl (.int .i64 100) (fun _ => by kernel_rfl) ?_
  refine pl_val (want_no rfl) (some 15) rfl (.string ⟨#[]⟩) (fun _ => by kernel_rfl) ?_
  refine pl_val (want_no rfl) (some 16) rfl (.int .i64 100) (fun _ => by kernel_rfl) ?_
  refine pl_nil ?_
  refine au_then ?_
  refine wp_seq ?_
  refine rg_lit ?_
  refine pl_val (want_no rfl) (some 57) rfl (.string key) (fun _ => by kernel_rfl) ?_
  refine pl_val (want_no rfl) (some 58) rfl (.string nonce) (fun _ => by kernel_rfl) ?_
  refine pl_val (want_no rfl) (some 59) rfl (.string ad) (fun _ => by kernel_rfl) ?_
  refine pl_val (want_no rfl) (some 60) rfl (.string s) (fun _ => by kernel_rfl) ?_
  refine pl_call M (want_no rfl) (some 61) rfl 10 #[.string key, .string nonce, .string ad, .string s] (.tuple #[.string ⟨#[]⟩, .int .i64 100]) (fun _ => by kernel_rfl) (fun w M => d_OpenB key nonce ad s hm (by omega) hl e w M.laid) ?_
  intro u4 M
  refine pl_val (want_no rfl) (some 56) rfl (.tuple #[.string ⟨#[]⟩, .int .i64 100]) (fun _ => by kernel_rfl) ?_
  refine pl_val (want_no rfl) (some 62) rfl (.string ⟨#[]⟩) (fun _ => by kernel_rfl) ?_
  refine pl_val (want_no rfl) (some 63) rfl (.int .i64 100) (fun _ => by kernel_rfl) ?_
  refine pl_val (want_no rfl) (some 17) rfl (.string ⟨#[]⟩) (fun _ => by kernel_rfl) ?_
  refine pl_val (want_no rfl) (some 18) rfl (.int .i64 100) (fun _ => by kernel_rfl) ?_
  refine pl_nil ?_
  refine au_then ?_
  refine wp_seq ?_
  refine rg_lit ?_
  refine pl_val (want_no rfl) (some 64) rfl (.string (sealS key nonce ad s)) (fun _ => by kernel_rfl) ?_
  refine pl_val (want_no rfl) (some 65) rfl (.string (sealS key nonce ad s)) (fun _ => by kernel_rfl) ?_
  refine pl_val (want_no rfl) (some 66) rfl (.bool true) (fun w => Eq.trans (b := .ok (.value (.bool ((sealS key nonce ad s).toList == (sealS key nonce ad s).toList))) w) (by kernel_rfl) (by rw [beq_self_eq_true])) ?_
  refine pl_val (want_no rfl) (some 67) rfl (.bool true) (fun _ => by kernel_rfl) ?_
  refine pl_val (want_on 3 true rfl 67 rfl (by kernel_rfl)) (some 68) rfl (.int .i64 0) (fun _ => by kernel_rfl) ?_
  refine pl_val (want_on 3 true rfl 67 rfl (by kernel_rfl)) (some 69) rfl (.int .i64 0) (fun _ => by kernel_rfl) ?_
  refine pl_val (want_on 3 true rfl 67 rfl (by kernel_rfl)) (some 70) rfl (.bool true) (fun _ => by kernel_rfl) ?_
  refine pl_val (want_no rfl) (some 71) rfl (.bool true) (fun _ => by kernel_rfl) ?_
  refine pl_val (want_no rfl) (some 72) rfl (.bool true) (fun _ => by kernel_rfl) ?_
  refine pl_val (want_on 8 true rfl 72 rfl (by kernel_rfl)) (some 73) rfl (.string ⟨#[]⟩) (fun _ => by kernel_rfl) ?_
  refine pl_val (want_on 8 true rfl 72 rfl (by kernel_rfl)) (some 74) rfl (.string ⟨#[]⟩) (fun _ => by kernel_rfl) ?_
  refine pl_val (want_on 8 true rfl 72 rfl (by kernel_rfl)) (some 75) rfl (.bool true) (fun w => Eq.trans (b := .ok (.value (.bool ((⟨#[]⟩ : ByteArray).toList == (⟨#[]⟩ : ByteArray).toList))) w) (by kernel_rfl) (by rw [beq_self_eq_true])) ?_
  refine pl_val (want_no rfl) (some 76) rfl (.bool true) (fun _ => by kernel_rfl) ?_
  refine pl_val (want_no rfl) (some 77) rfl (.bool true) (fun _ => by kernel_rfl) ?_
  refine pl_val (want_on 13 true rfl 77 rfl (by kernel_rfl)) (some 78) rfl (.int .i64 100) (fun _ => by kernel_rfl) ?_
  refine pl_val (want_on 13 true rfl 77 rfl (by kernel_rfl)) (some 79) rfl (.int .i64 100) (fun _ => by kernel_rfl) ?_
  refine pl_val (want_on 13 true rfl 77 rfl (by kernel_rfl)) (some 80) rfl (.bool true) (fun _ => by kernel_rfl) ?_
  refine pl_val (want_no rfl) (some 81) rfl (.bool true) (fun _ => by kernel_rfl) ?_
  refine pl_val (want_no rfl) (some 82) rfl (.bool true) (fun _ => by kernel_rfl) ?_
  refine pl_val (want_on 18 true rfl 82 rfl (by kernel_rfl)) (some 83) rfl (.int .u64 n) (fun _ => by kernel_rfl) ?_
  refine pl_call M (want_on 18 true rfl 82 rfl (by kernel_rfl)) (some 84) rfl 11 #[.int .u64 n] (.string (nS n)) (fun _ => by kernel_rfl) (fun w M => c_Nonce n w M.laid) ?_
  intro u5 M
  refine pl_val (want_on 18 true rfl 82 rfl (by kernel_rfl)) (some 85) rfl (.int .u64 n) (fun _ => by kernel_rfl) ?_
  refine pl_call M (want_on 18 true rfl 82 rfl (by kernel_rfl)) (some 86) rfl 12 #[.int .u64 n] (.string (nS n)) (fun _ => by kernel_rfl) (fun w M => d_Nonce n w M.laid) ?_
  intro u6 M
  refine pl_val (want_on 18 true rfl 82 rfl (by kernel_rfl)) (some 87) rfl (.bool true) (fun w => Eq.trans (b := .ok (.value (.bool ((nS n).toList == (nS n).toList))) w) (by kernel_rfl) (by rw [beq_self_eq_true])) ?_
  refine pl_val (want_no rfl) (some 88) rfl (.bool true) (fun _ => by kernel_rfl) ?_
  refine pl_val (want_no rfl) (some 89) rfl (.bool true) (fun _ => by kernel_rfl) ?_
  refine pl_call M (want_on 25 true rfl 89 rfl (by kernel_rfl)) (some 90) rfl 6 #[] (.bool true) (fun _ => by kernel_rfl) (fun w M => c_alive w M.laid) ?_
  intro u7 M
  refine pl_val (want_no rfl) (some 91) rfl (.bool true) (fun _ => by kernel_rfl) ?_
  refine pl_val (want_no rfl) (some 10) rfl (.bool true) (fun _ => by kernel_rfl) ?_
  refine pl_nil ?_
  refine au_then ?_
  refine wp_ret ?_
  exact bodyPost_ret (v := .bool true) (results_tmp1 Tryd.results3 _ _ _ (by kernel_rfl)) (by kernel_rfl) ⟨rfl, below_grown M.old⟩

theorem c_seals (key nonce ad s : ByteArray) (n : Int) (bkey : key.size ≤ 140737488351232) (bnonce : nonce.size ≤ 140737488351232) (bad : ad.size ≤ 140737488351232) (bs : s.size ≤ 140737488351232) (w : World) (hL : Laid w) : Calls Tryd.prog 3 #[.string key, .string nonce, .string ad, .string s, .int .u64 n] w fun r w' => r = .returned (.bool true) ∧ Below w.heap.size w w' := by
  by_cases h : 4096 < key.size + nonce.size + ad.size + s.size
  · exact asA key nonce ad s n bkey bnonce bad bs h w hL
  · by_cases hm : key.size = 32 ∧ nonce.size = 12
    · by_cases hl : s.size < 16
      · exact asC key nonce ad s n bkey bnonce bad bs h hm hl w hL
      · by_cases e : tgX key nonce ad s = s.extract (s.size - 16) s.size
        · exact asD key nonce ad s n bkey bnonce bad bs h hm hl e w hL
        · exact asE key nonce ad s n bkey bnonce bad bs h hm hl e w hL
    · exact asB key nonce ad s n bkey bnonce bad bs h hm w hL

end Go.Proofs.YtkndaajbedlajaaDoor
