/- The document: the walks of tag, Seal and Open. -/
import Derived.Test.YtkndaajbedlajaaDoorA5
namespace Go.Proofs.YtkndaajbedlajaaDoor
open Go.RowKit

theorem zB_list (n : Nat) : (zB n).data.toList = List.replicate n 0 := by
  unfold zB bs
  simp only [List.map_map]
  apply List.ext_getElem?
  intro i
  by_cases h : i < n
  · simp [h]
  · rw [List.getElem?_eq_none (by simp; omega), List.getElem?_eq_none (by simp; omega)]
theorem pn_shift (a b : Nat) (h : a % 16 = 0) : pn (a + b) = pn b := by
  unfold pn
  omega
def q1 (ad : ByteArray) : ByteArray := ad ++ zB (pn ad.size)
def q2 (ad c : ByteArray) : ByteArray := q1 ad ++ c
def q3 (ad c : ByteArray) : ByteArray := q2 ad c ++ zB (pn c.size)
def q4 (ad c : ByteArray) : ByteArray := q3 ad c ++ wS (ad.size : Int)
theorem q1_size (ad : ByteArray) : (q1 ad).size = ad.size + pn ad.size := by
  unfold q1
  rw [ByteArray.size_append, zB_size]
theorem q2_size (ad c : ByteArray) : (q2 ad c).size = ad.size + pn ad.size + c.size := by
  unfold q2
  rw [ByteArray.size_append, q1_size]
theorem q3_size (ad c : ByteArray) : (q3 ad c).size = ad.size + pn ad.size + c.size + pn c.size := by
  unfold q3
  rw [ByteArray.size_append, q2_size, zB_size]
theorem q4_size (ad c : ByteArray) : (q4 ad c).size = ad.size + pn ad.size + c.size + pn c.size + 8 := by
  unfold q4
  rw [ByteArray.size_append, q3_size, wS_size]
theorem jn_eq (ad c : ByteArray) : q4 ad c ++ wS (c.size : Int) = jn ad c := by
  apply ByteArray.ext
  apply Array.ext'
  show _ = j2 ad c ++ m2 ad c
  unfold q4 q3 q2 q1 j2 m2 m1 j1c j1
  rw [pn_shift _ _ (pn_sum ad.size)]
  simp only [ByteArray.data_append, Array.toList_append, zB_list, List.append_assoc]
theorem dotk (key nonce : ByteArray) (hm : key.size = 32 ∧ nonce.size = 12) : (dbk key nonce 0).extract 0 32 = otk key nonce := by
  unfold otk
  rw [blk_dbk key nonce 0 hm.1 hm.2 (by decide) (by decide)]
theorem d_Turn1 (key nonce s : ByteArray) (hm : key.size = 32 ∧ nonce.size = 12) (hz : s.size ≤ 65536) (w : World) (hL : Laid w) : Calls Tryd.prog 17 #[.string key, .string nonce, .int .u32 1, .string s] w fun r w' => r = .returned (.tuple #[.string (tn key nonce s), .int .i64 0]) ∧ Below w.heap.size w w' := by
  unfold tn
  rw [oS_dT key nonce 1 s hm.1 hm.2 (by decide) (by decide)]
  exact d_TurnA key nonce 1 (by decide) s (by omega) hm (by omega) w hL

set_option maxRecDepth 100000 in
set_option maxHeartbeats 4000000 in
theorem d_tag (key nonce ad c : ByteArray) (hm : key.size = 32 ∧ nonce.size = 12) (hz : ad.size + c.size ≤ 150000) (w : World) (hL : Laid w)  :
    Calls Tryd.prog 18 #[.string key, .string nonce, .string ad, .string c] w fun r w' => r = .returned (.string (tgO key nonce ad c)) ∧ Below w.heap.size w w' := by
  go_enter Tryd.func18, Tryd.ntmps18
  have M := Mem.start hL
  refine wp_seq ?_
  refine rg_lit ?_
  refine pl_val (want_no rfl) (some 8) rfl (.string ⟨#[]⟩) (fun _ => by kernel_rfl) ?_
  refine pl_nil ?_
  refine au_then ?_
  refine wp_seq ?_
  refine rg_held M [] 28 rfl (by kernel_rfl) (by kernel_rfl) (fun _ _ d _ _ h => by cases d <;> exact h) ?_
  intro u1 M
  replace M : Mem ⟨w, []⟩ [] u1 := M
  refine hl_val M 0 rfl (by decide) (by kernel_rfl) (by kernel_rfl) (want_no rfl) (some 12) rfl (.string key) (fun _ _ => by kernel_rfl) ?_
  refine hl_val M 1 rfl (by decide) (by kernel_rfl) (by kernel_rfl) (want_no rfl) (some 13) rfl (.string nonce) (fun _ _ => by kernel_rfl) ?_
  refine hl_val M 4 rfl (by decide) (by kernel_rfl) (by kernel_rfl) (want_no rfl) (some 16) rfl (.string ad) (fun _ _ => by kernel_rfl) ?_
  refine hl_val M 5 rfl (by decide) (by kernel_rfl) (by kernel_rfl) (want_no rfl) (some 17) rfl (.string ad) (fun _ _ => by kernel_rfl) ?_
  refine hl_val M 8 rfl (by decide) (by kernel_rfl) (by kernel_rfl) (want_no rfl) (some 20) rfl (.string c) (fun _ _ => by kernel_rfl) ?_
  refine hl_val M 10 rfl (by decide) (by kernel_rfl) (by kernel_rfl) (want_no rfl) (some 22) rfl (.string c) (fun _ _ => by kernel_rfl) ?_
  refine hl_val M 13 rfl (by decide) (by kernel_rfl) (by kernel_rfl) (want_no rfl) (some 25) rfl (.string ad) (fun _ _ => by kernel_rfl) ?_
  refine hl_val M 14 rfl (by decide) (by kernel_rfl) (by kernel_rfl) (want_no rfl) (some 26) rfl (.int .i64 (ad.size : Int)) (fun _ _ => by kernel_rfl) ?_
  refine hl_val M 15 rfl (by decide) (by kernel_rfl) (by kernel_rfl) (want_no rfl) (some 27) rfl (.int .u64 (ad.size : Int)) (fun w _ => (fun w => Eq.trans (b := .ok (.value (.int .u64 (cv .u64 (ad.size : Int)))) w) (by kernel_rfl) (by rw [cvu64 _ (by omega)])) w) ?_
  refine hl_val M 18 rfl (by decide) (by kernel_rfl) (by kernel_rfl) (want_no rfl) (some 30) rfl (.string c) (fun _ _ => by kernel_rfl) ?_
  refine hl_val M 19 rfl (by decide) (by kernel_rfl) (by kernel_rfl) (want_no rfl) (some 31) rfl (.int .i64 (c.size : Int)) (fun _ _ => by kernel_rfl) ?_
  refine hl_val M 20 rfl (by decide) (by kernel_rfl) (by kernel_rfl) (want_no rfl) (some 32) rfl (.int .u64 (c.size : Int)) (fun w _ => (fun w => Eq.trans (b := .ok (.value (.int .u64 (cv .u64 (c.size : Int)))) w) (by kernel_rfl) (by rw [cvu64 _ (by omega)])) w) ?_
  refine hl_one 2 (by decide) (by kernel_rfl) rfl ?_
  refine pl_call M (want_no rfl) (some 14) rfl 29 #[.string key, .string nonce, .int .u32 0] (.string (dbk key nonce 0)) (fun _ => by kernel_rfl) (fun w M => d_Block key nonce 0 hm.1 hm.2 w M.laid) ?_
  intro u2 M
  refine pl_nil ?_
  refine au_then ?_
  refine ⟨M, ?_⟩
  refine hl_val M 3 rfl (by decide) (by kernel_rfl) (by kernel_rfl) (want_no rfl) (some 15) rfl (.string (otk key nonce)) (fun w _ => (run_strh 9 Tryd.underlying9 _ _ rfl (dbk key nonce 0) (by kernel_rfl) .i64 32 (by kernel_rfl) (by rw [dbk_size]; decide) _ (dotk key nonce hm)) w) ?_
  refine hl_one 6 (by decide) (by kernel_rfl) rfl ?_
  refine pl_call M (want_no rfl) (some 18) rfl 31 #[.string ad] (.string (zB (pn ad.size))) (fun _ => by kernel_rfl) (fun w M => d_pad ad w M.laid) ?_
  intro u3 M
  refine pl_nil ?_
  refine au_then ?_
  refine ⟨M, ?_⟩
  refine hl_val M 7 rfl (by decide) (by kernel_rfl) (by kernel_rfl) (want_no rfl) (some 19) rfl (.string (q1 ad)) (fun w _ => (run_cat 9 9 _ _ rfl ad (zB (pn ad.size)) (by kernel_rfl) (by kernel_rfl) (by rw [zB_size]; have hpa := pn_lt ad.size; have hpc := pn_lt c.size; omega)) w) ?_
  refine hl_val M 9 rfl (by decide) (by kernel_rfl) (by kernel_rfl) (want_no rfl) (some 21) rfl (.string (q2 ad c)) (fun w _ => (run_cat 9 9 _ _ rfl (q1 ad) c (by kernel_rfl) (by kernel_rfl) (by rw [q1_size]; have hpa := pn_lt ad.size; have hpc := pn_lt c.size; omega)) w) ?_
  refine hl_one 11 (by decide) (by kernel_rfl) rfl ?_
  refine pl_call M (want_no rfl) (some 23) rfl 31 #[.string c] (.string (zB (pn c.size))) (fun _ => by kernel_rfl) (fun w M => d_pad c w M.laid) ?_
  intro u4 M
  refine pl_nil ?_
  refine au_then ?_
  refine ⟨M, ?_⟩
  refine hl_val M 12 rfl (by decide) (by kernel_rfl) (by kernel_rfl) (want_no rfl) (some 24) rfl (.string (q3 ad c)) (fun w _ => (run_cat 9 9 _ _ rfl (q2 ad c) (zB (pn c.size)) (by kernel_rfl) (by kernel_rfl) (by rw [q2_size, zB_size]; have hpa := pn_lt ad.size; have hpc := pn_lt c.size; omega)) w) ?_
  refine hl_one 16 (by decide) (by kernel_rfl) rfl ?_
  refine pl_call M (want_no rfl) (some 28) rfl 21 #[.int .u64 (ad.size : Int)] (.string (wS (ad.size : Int))) (fun _ => by kernel_rfl) (fun w M => d_eight _ w M.laid) ?_
  intro u5 M
  refine pl_nil ?_
  refine au_then ?_
  refine ⟨M, ?_⟩
  refine hl_val M 17 rfl (by decide) (by kernel_rfl) (by kernel_rfl) (want_no rfl) (some 29) rfl (.string (q4 ad c)) (fun w _ => (run_cat 9 9 _ _ rfl (q3 ad c) (wS (ad.size : Int)) (by kernel_rfl) (by kernel_rfl) (by rw [q3_size, wS_size]; have hpa := pn_lt ad.size; have hpc := pn_lt c.size; omega)) w) ?_
  refine hl_one 21 (by decide) (by kernel_rfl) rfl ?_
  refine pl_call M (want_no rfl) (some 33) rfl 21 #[.int .u64 (c.size : Int)] (.string (wS (c.size : Int))) (fun _ => by kernel_rfl) (fun w M => d_eight _ w M.laid) ?_
  intro u6 M
  refine pl_nil ?_
  refine au_then ?_
  refine ⟨M, ?_⟩
  refine hl_val M 22 rfl (by decide) (by kernel_rfl) (by kernel_rfl) (want_no rfl) (some 34) rfl (.string (jn ad c)) (fun w _ => (fun w => Eq.trans (run_cat 9 9 _ _ rfl (q4 ad c) (wS (c.size : Int)) (by kernel_rfl) (by kernel_rfl) (by rw [q4_size, wS_size]; have hpa := pn_lt ad.size; have hpc := pn_lt c.size; omega) w) (by rw [jn_eq])) w) ?_
  refine hl_one 23 (by decide) (by kernel_rfl) rfl ?_
  refine pl_call M (want_no rfl) (some 35) rfl 30 #[.string (otk key nonce), .string (jn ad c)] (.tuple #[.string (tgO key nonce ad c), .int .i64 0]) (fun _ => by kernel_rfl) (fun w M => Pol.d_Tag _ _ (otk_size key nonce) (by have := jn_size ad c; omega) w M.laid) ?_
  intro u7 M
  refine pl_nil ?_
  refine au_then ?_
  refine ⟨M, ?_⟩
  refine hl_val M 24 rfl (by decide) (by kernel_rfl) (by kernel_rfl) (want_no rfl) (some 11) rfl (.tuple #[.string (tgO key nonce ad c), .int .i64 0]) (fun _ _ => by kernel_rfl) ?_
  refine hl_val M 25 rfl (by decide) (by kernel_rfl) (by kernel_rfl) (want_no rfl) (some 36) rfl (.string (tgO key nonce ad c)) (fun _ _ => by kernel_rfl) ?_
  refine hl_val M 26 rfl (by decide) (by kernel_rfl) (by kernel_rfl) (want_no rfl) (some 37) rfl (.int .i64 0) (fun _ _ => by kernel_rfl) ?_
  refine hl_val M 27 rfl (by decide) (by kernel_rfl) (by kernel_rfl) (want_no rfl) (some 9) rfl (.string (tgO key nonce ad c)) (fun _ _ => by kernel_rfl) ?_
  refine hl_end (by kernel_rfl) (by kernel_rfl) rfl ?_
  refine pl_val (want_no rfl) (some 10) rfl (.int .i64 0) (fun _ => by kernel_rfl) ?_
  refine pl_nil ?_
  refine au_then ?_
  refine au_then ?_
  refine wp_seq ?_
  refine rg_lit ?_
  refine pl_val (want_no rfl) (some 38) rfl (.string (tgO key nonce ad c)) (fun _ => by kernel_rfl) ?_
  refine pl_val (want_no rfl) (some 8) rfl (.string (tgO key nonce ad c)) (fun _ => by kernel_rfl) ?_
  refine pl_nil ?_
  refine au_then ?_
  refine wp_ret ?_
  exact bodyPost_ret (v := .string (tgO key nonce ad c)) (results_tmp1 Tryd.results18 _ _ _ (by kernel_rfl)) (by kernel_rfl) ⟨rfl, below_grown M.old⟩

set_option maxRecDepth 100000 in
set_option maxHeartbeats 4000000 in
theorem d_SealA (key nonce ad s : ByteArray) (hm : key.size = 32 ∧ nonce.size = 12) (hz : ad.size + s.size ≤ 5000)  (w : World) (hL : Laid w)  :
    Calls Tryd.prog 8 #[.string key, .string nonce, .string ad, .string s] w fun r w' => r = .returned (.tuple #[.string (sealS key nonce ad s), .int .i64 0]) ∧ Below w.heap.size w w' := by
  go_enter Tryd.func8, Tryd.ntmps8
  have M := Mem.start hL
  refine wp_seq ?_
  refine rg_lit ?_
  refine pl_val (want_no rfl) (some 8) rfl (.string ⟨#[]⟩) (fun _ => by kernel_rfl) ?_
  refine pl_val (want_no rfl) (some 9) rfl (.int .i64 0) (fun _ => by kernel_rfl) ?_
  refine pl_nil ?_
  refine au_then ?_
  refine wp_seq ?_
  refine wp_seq ?_
  refine rg_lit ?_
  refine pl_val (want_no rfl) (some 12) rfl (.string key) (fun _ => by kernel_rfl) ?_
  refine pl_val (want_no rfl) (some 13) rfl (.string nonce) (fun _ => by kernel_rfl) ?_
  refine pl_call M (want_no rfl) (some 14) rfl 16 #[.string key, .string nonce] (.bool true) (fun _ => by kernel_rfl) (fun w M => (by rw [← decide_eq_true hm]; exact d_may key nonce w M.laid)) ?_
  intro u1 M
  refine pl_val (want_no rfl) (some 15) rfl (.bool false) (fun _ => by kernel_rfl) ?_
  refine pl_nil ?_
  refine au_then ?_
  refine wp_cond_false (by kernel_rfl) ?_
  refine wp_skip ?_
  refine au_then ?_
  refine wp_seq ?_
  refine wp_seq ?_
  refine rg_lit ?_
  refine pl_val (want_no rfl) (some 16) rfl (.string ad) (fun _ => by kernel_rfl) ?_
  refine pl_val (want_no rfl) (some 17) rfl (.int .i64 (ad.size : Int)) (fun _ => by kernel_rfl) ?_
  refine pl_val (want_no rfl) (some 18) rfl (.bool false) (fun w => Eq.trans (b := .ok (.value (.bool (decide ((65536 : Int) < (ad.size : Int))))) w) (by kernel_rfl) (by rw [decide_eq_false (by omega)])) ?_
  refine pl_val (want_no rfl) (some 19) rfl (.bool false) (fun _ => by kernel_rfl) ?_
  refine pl_val (want_on 3 false rfl 19 rfl (by kernel_rfl)) (some 20) rfl (.string s) (fun _ => by kernel_rfl) ?_
  refine pl_val (want_on 3 false rfl 19 rfl (by kernel_rfl)) (some 21) rfl (.int .i64 (s.size : Int)) (fun _ => by kernel_rfl) ?_
  refine pl_val (want_on 3 false rfl 19 rfl (by kernel_rfl)) (some 22) rfl (.bool false) (fun w => Eq.trans (b := .ok (.value (.bool (decide ((65536 : Int) < (s.size : Int))))) w) (by kernel_rfl) (by rw [decide_eq_false (by omega)])) ?_
  refine pl_val (want_no rfl) (some 23) rfl (.bool false) (fun _ => by kernel_rfl) ?_
  refine pl_nil ?_
  refine au_then ?_
  refine wp_cond_false (by kernel_rfl) ?_
  refine wp_skip ?_
  refine au_then ?_
  refine wp_seq ?_
  refine rg_lit ?_
  refine pl_val (want_no rfl) (some 25) rfl (.string key) (fun _ => by kernel_rfl) ?_
  refine pl_val (want_no rfl) (some 26) rfl (.string nonce) (fun _ => by kernel_rfl) ?_
  refine pl_val (want_no rfl) (some 27) rfl (.string s) (fun _ => by kernel_rfl) ?_
  refine pl_call M (want_no rfl) (some 28) rfl 17 #[.string key, .string nonce, .int .u32 1, .string s] (.tuple #[.string (tn key nonce s), .int .i64 0]) (fun _ => by kernel_rfl) (fun w M => d_Turn1 key nonce s hm (by omega) w M.laid) ?_
  intro u2 M
  refine pl_val (want_no rfl) (some 24) rfl (.tuple #[.string (tn key nonce s), .int .i64 0]) (fun _ => by kernel_rfl) ?_
  refine pl_val (want_no rfl) (some 29) rfl (.string (tn key nonce s)) (fun _ => by kernel_rfl) ?_
  refine pl_val (want_no rfl) (some 30) rfl (.int .i64 0) (fun _ => by kernel_rfl) ?_
  refine pl_val (want_no rfl) (some 10) rfl (.string (tn key nonce s)) (fun _ => by kernel_rfl) ?_
  refine pl_val (want_no rfl) (some 11) rfl (.int .i64 0) (fun _ => by kernel_rfl) ?_
  refine pl_nil ?_
  refine au_then ?_
  refine wp_seq ?_
  refine rg_lit ?_
  refine pl_val (want_no rfl) (some 31) rfl (.string (tn key nonce s)) (fun _ => by kernel_rfl) ?_
  refine pl_val (want_no rfl) (some 32) rfl (.string key) (fun _ => by kernel_rfl) ?_
  refine pl_val (want_no rfl) (some 33) rfl (.string nonce) (fun _ => by kernel_rfl) ?_
  refine pl_val (want_no rfl) (some 34) rfl (.string ad) (fun _ => by kernel_rfl) ?_
  refine pl_val (want_no rfl) (some 35) rfl (.string (tn key nonce s)) (fun _ => by kernel_rfl) ?_
  refine pl_call M (want_no rfl) (some 36) rfl 18 #[.string key, .string nonce, .string ad, .string (tn key nonce s)] (.string (tgO key nonce ad (tn key nonce s))) (fun _ => by kernel_rfl) (fun w M => d_tag key nonce ad (tn key nonce s) hm (by rw [tn_size]; omega) w M.laid) ?_
  intro u3 M
  refine pl_val (want_no rfl) (some 37) rfl (.string (sealS key nonce ad s)) (run_cat 9 9 _ _ rfl (tn key nonce s) (tgO key nonce ad (tn key nonce s)) (by kernel_rfl) (by kernel_rfl) (by rw [tn_size, tgO_size]; omega)) ?_
  refine pl_val (want_no rfl) (some 8) rfl (.string (sealS key nonce ad s)) (fun _ => by kernel_rfl) ?_
  refine pl_val (want_no rfl) (some 9) rfl (.int .i64 0) (fun _ => by kernel_rfl) ?_
  refine pl_nil ?_
  refine au_then ?_
  refine wp_ret ?_
  exact bodyPost_ret (v := .tuple #[.string (sealS key nonce ad s), .int .i64 0]) (results_tmp2 Tryd.results8 _ _ _ _ (by kernel_rfl) (by kernel_rfl)) (by kernel_rfl) ⟨rfl, below_grown M.old⟩

set_option maxRecDepth 100000 in
set_option maxHeartbeats 4000000 in
theorem d_SealB (key nonce ad s : ByteArray) (hm : ¬ (key.size = 32 ∧ nonce.size = 12))  (w : World) (hL : Laid w)  :
    Calls Tryd.prog 8 #[.string key, .string nonce, .string ad, .string s] w fun r w' => r = .returned (.tuple #[.string ⟨#[]⟩, .int .i64 2]) ∧ Below w.heap.size w w' := by
  go_enter Tryd.func8, Tryd.ntmps8
  have M := Mem.start hL
  refine wp_seq ?_
  refine rg_lit ?_
  refine pl_val (want_no rfl) (some 8) rfl (.string ⟨#[]⟩) (fun _ => by kernel_rfl) ?_
  refine pl_val (want_no rfl) (some 9) rfl (.int .i64 0) (fun _ => by kernel_rfl) ?_
  refine pl_nil ?_
  refine au_then ?_
  refine wp_seq ?_
  refine wp_seq ?_
  refine rg_lit ?_
  refine pl_val (want_no rfl) (some 12) rfl (.string key) (fun _ => by kernel_rfl) ?_
  refine pl_val (want_no rfl) (some 13) rfl (.string nonce) (fun _ => by kernel_rfl) ?_
  refine pl_call M (want_no rfl) (some 14) rfl 16 #[.string key, .string nonce] (.bool false) (fun _ => by kernel_rfl) (fun w M => (by rw [← decide_eq_false hm]; exact d_may key nonce w M.laid)) ?_
  intro u1 M
  refine pl_val (want_no rfl) (some 15) rfl (.bool true) (fun _ => by kernel_rfl) ?_
  refine pl_nil ?_
  refine au_then ?_
  refine wp_cond_true (by kernel_rfl) ?_
  refine wp_seq ?_
  refine rg_lit ?_
  refine pl_val (want_no rfl) (some 8) rfl (.string ⟨#[]⟩) (fun _ => by kernel_rfl) ?_
  refine pl_val (want_no rfl) (some 9) rfl (.int .i64 2) (fun _ => by kernel_rfl) ?_
  refine pl_nil ?_
  refine au_then ?_
  refine wp_ret ?_
  refine au_then_ret ?_
  exact bodyPost_ret (v := .tuple #[.string ⟨#[]⟩, .int .i64 2]) (results_tmp2 Tryd.results8 _ _ _ _ (by kernel_rfl) (by kernel_rfl)) (by kernel_rfl) ⟨rfl, below_grown M.old⟩

set_option maxRecDepth 100000 in
set_option maxHeartbeats 4000000 in
theorem d_OpenD (key nonce ad s : ByteArray) (hm : ¬ (key.size = 32 ∧ nonce.size = 12))  (w : World) (hL : Laid w)  :
    Calls Tryd.prog 10 #[.string key, .string nonce, .string ad, .string s] w fun r w' => r = .returned (.tuple #[.string ⟨#[]⟩, .int .i64 2]) ∧ Below w.heap.size w w' := by
  go_enter Tryd.func10, Tryd.ntmps10
  have M := Mem.start hL
  refine wp_seq ?_
  refine rg_lit ?_
  refine pl_val (want_no rfl) (some 8) rfl (.string ⟨#[]⟩) (fun _ => by kernel_rfl) ?_
  refine pl_val (want_no rfl) (some 9) rfl (.int .i64 0) (fun _ => by kernel_rfl) ?_
  refine pl_nil ?_
  refine au_then ?_
  refine wp_seq ?_
  refine wp_seq ?_
  refine rg_lit ?_
  refine pl_val (want_no rfl) (some 13) rfl (.string key) (fun _ => by kernel_rfl) ?_
  refine pl_val (want_no rfl) (some 14) rfl (.string nonce) (fun _ => by kernel_rfl) ?_
  refine pl_call M (want_no rfl) (some 15) rfl 16 #[.string key, .string nonce] (.bool false) (fun _ => by kernel_rfl) (fun w M => (by rw [← decide_eq_false hm]; exact d_may key nonce w M.laid)) ?_
  intro u1 M
  refine pl_val (want_no rfl) (some 16) rfl (.bool true) (fun _ => by kernel_rfl) ?_
  refine pl_nil ?_
  refine au_then ?_
  refine wp_cond_true (by kernel_rfl) ?_
  refine wp_seq ?_
  refine rg_lit ?_
  refine pl_val (want_no rfl) (some 8) rfl (.string ⟨#[]⟩) (fun _ => by kernel_rfl) ?_
  refine pl_val (want_no rfl) (some 9) rfl (.int .i64 2) (fun _ => by kernel_rfl) ?_
  refine pl_nil ?_
  refine au_then ?_
  refine wp_ret ?_
  refine au_then_ret ?_
  exact bodyPost_ret (v := .tuple #[.string ⟨#[]⟩, .int .i64 2]) (results_tmp2 Tryd.results10 _ _ _ _ (by kernel_rfl) (by kernel_rfl)) (by kernel_rfl) ⟨rfl, below_grown M.old⟩

set_option maxRecDepth 100000 in
set_option maxHeartbeats 4000000 in
theorem d_OpenA (key nonce ad s : ByteArray) (hm : key.size = 32 ∧ nonce.size = 12) (hz : ad.size + s.size ≤ 5000) (h : ¬ s.size < 16) (e : tgX key nonce ad s = s.extract (s.size - 16) s.size) (w : World) (hL : Laid w)  :
    Calls Tryd.prog 10 #[.string key, .string nonce, .string ad, .string s] w fun r w' => r = .returned (.tuple #[.string (opS key nonce s), .int .i64 0]) ∧ Below w.heap.size w w' := by
  go_enter Tryd.func10, Tryd.ntmps10
  have M := Mem.start hL
  refine wp_seq ?_
  refine rg_lit ?_
  refine pl_val (want_no rfl) (some 8) rfl (.string ⟨#[]⟩) (fun _ => by kernel_rfl) ?_
  refine pl_val (want_no rfl) (some 9) rfl (.int .i64 0) (fun _ => by kernel_rfl) ?_
  refine pl_nil ?_
  refine au_then ?_
  refine wp_seq ?_
  refine wp_seq ?_
  refine rg_lit ?_
  refine pl_val (want_no rfl) (some 13) rfl (.string key) (fun _ => by kernel_rfl) ?_
  refine pl_val (want_no rfl) (some 14) rfl (.string nonce) (fun _ => by kernel_rfl) ?_
  refine pl_call M (want_no rfl) (some 15) rfl 16 #[.string key, .string nonce] (.bool true) (fun _ => by kernel_rfl) (fun w M => (by rw [← decide_eq_true hm]; exact d_may key nonce w M.laid)) ?_
  intro u1 M
  refine pl_val (want_no rfl) (some 16) rfl (.bool false) (fun _ => by kernel_rfl) ?_
  refine pl_nil ?_
  refine au_then ?_
  refine wp_cond_false (by kernel_rfl) ?_
  refine wp_skip ?_
  refine au_then ?_
  refine wp_seq ?_
  refine wp_seq ?_
  refine rg_lit ?_
  refine pl_val (want_no rfl) (some 17) rfl (.string ad) (fun _ => by kernel_rfl) ?_
  refine pl_val (want_no rfl) (some 18) rfl (.int .i64 (ad.size : Int)) (fun _ => by kernel_rfl) ?_
  refine pl_val (want_no rfl) (some 19) rfl (.bool false) (fun w => Eq.trans (b := .ok (.value (.bool (decide ((65536 : Int) < (ad.size : Int))))) w) (by kernel_rfl) (by rw [decide_eq_false (by omega)])) ?_
  refine pl_val (want_no rfl) (some 20) rfl (.bool false) (fun _ => by kernel_rfl) ?_
  refine pl_val (want_on 3 false rfl 20 rfl (by kernel_rfl)) (some 21) rfl (.string s) (fun _ => by kernel_rfl) ?_
  refine pl_val (want_on 3 false rfl 20 rfl (by kernel_rfl)) (some 22) rfl (.int .i64 (s.size : Int)) (fun _ => by kernel_rfl) ?_
  refine pl_val (want_on 3 false rfl 20 rfl (by kernel_rfl)) (some 23) rfl (.bool false) (fun w => Eq.trans (b := .ok (.value (.bool (decide ((65552 : Int) < (s.size : Int))))) w) (by kernel_rfl) (by rw [decide_eq_false (by omega)])) ?_
  refine pl_val (want_no rfl) (some 24) rfl (.bool false) (fun _ => by kernel_rfl) ?_
  refine pl_nil ?_
  refine au_then ?_
  refine wp_cond_false (by kernel_rfl) ?_
  refine wp_skip ?_
  refine au_then ?_
  refine wp_seq ?_
  refine wp_seq ?_
  refine rg_lit ?_
  refine pl_val (want_no rfl) (some 25) rfl (.string s) (fun _ => by kernel_rfl) ?_
  refine pl_val (want_no rfl) (some 26) rfl (.int .i64 (s.size : Int)) (fun _ => by kernel_rfl) ?_
  refine pl_val (want_no rfl) (some 27) rfl (.bool false) (fun w => Eq.trans (b := .ok (.value (.bool (decide ((s.size : Int) < 16)))) w) (by kernel_rfl) (by rw [decide_eq_false (by omega)])) ?_
  refine pl_nil ?_
  refine au_then ?_
  refine wp_cond_false (by kernel_rfl) ?_
  refine wp_skip ?_
  refine au_then ?_
  refine wp_seq ?_
  refine rg_lit ?_
  refine pl_val (want_no rfl) (some 28) rfl (.string s) (fun _ => by kernel_rfl) ?_
  refine pl_val (want_no rfl) (some 29) rfl (.string s) (fun _ => by kernel_rfl) ?_
  refine pl_val (want_no rfl) (some 30) rfl (.int .i64 (s.size : Int)) (fun _ => by kernel_rfl) ?_
  refine pl_val (want_no rfl) (some 31) rfl (.int .i64 ((s.size - 16 : Nat) : Int)) (fun w => Eq.trans (b := .ok (.value (.int .i64 (IntKind.wrap .i64 ((s.size : Int) - 16)))) w) (by kernel_rfl) (by rw [wrap64 (by omega) (by omega)]; congr 3 <;> omega)) ?_
  refine pl_val (want_no rfl) (some 32) rfl (.string (s.extract 0 (s.size - 16))) (run_strh 9 Tryd.underlying9 _ _ rfl s (by kernel_rfl) .i64 (s.size - 16) (by kernel_rfl) (by omega) _ rfl) ?_
  refine pl_val (want_no rfl) (some 10) rfl (.string (s.extract 0 (s.size - 16))) (fun _ => by kernel_rfl) ?_
  refine pl_nil ?_
  refine au_then ?_
  refine wp_seq ?_
  refine wp_seq ?_
  refine rg_held M [] 10 rfl (by kernel_rfl) (by kernel_rfl) (fun _ _ d _ _ h => by cases d <;> exact h) ?_
  intro u2 M
  replace M : Mem ⟨w, []⟩ [] u2 := M
  refine hl_val M 0 rfl (by decide) (by kernel_rfl) (by kernel_rfl) (want_no rfl) (some 33) rfl (.string key) (fun _ _ => by kernel_rfl) ?_
  refine hl_val M 1 rfl (by decide) (by kernel_rfl) (by kernel_rfl) (want_no rfl) (some 34) rfl (.string nonce) (fun _ _ => by kernel_rfl) ?_
  refine hl_val M 2 rfl (by decide) (by kernel_rfl) (by kernel_rfl) (want_no rfl) (some 35) rfl (.string ad) (fun _ _ => by kernel_rfl) ?_
  refine hl_val M 3 rfl (by decide) (by kernel_rfl) (by kernel_rfl) (want_no rfl) (some 36) rfl (.string (s.extract 0 (s.size - 16))) (fun _ _ => by kernel_rfl) ?_
  refine hl_val M 5 rfl (by decide) (by kernel_rfl) (by kernel_rfl) (want_no rfl) (some 38) rfl (.string s) (fun _ _ => by kernel_rfl) ?_
  refine hl_val M 6 rfl (by decide) (by kernel_rfl) (by kernel_rfl) (want_no rfl) (some 39) rfl (.string s) (fun _ _ => by kernel_rfl) ?_
  refine hl_val M 7 rfl (by decide) (by kernel_rfl) (by kernel_rfl) (want_no rfl) (some 40) rfl (.int .i64 (s.size : Int)) (fun _ _ => by kernel_rfl) ?_
  refine hl_val M 8 rfl (by decide) (by kernel_rfl) (by kernel_rfl) (want_no rfl) (some 41) rfl (.int .i64 ((s.size - 16 : Nat) : Int)) (fun w _ => (fun w => Eq.trans (b := .ok (.value (.int .i64 (IntKind.wrap .i64 ((s.size : Int) - 16)))) w) (by kernel_rfl) (by rw [wrap64 (by omega) (by omega)]; congr 3 <;> omega)) w) ?_
  refine hl_val M 9 rfl (by decide) (by kernel_rfl) (by kernel_rfl) (want_no rfl) (some 42) rfl (.string (s.extract (s.size - 16) s.size)) (fun w _ => (run_strl 9 Tryd.underlying9 _ _ rfl s (by kernel_rfl) .i64 (s.size - 16) (by kernel_rfl) (by omega) _ rfl) w) ?_
  refine hl_one 4 (by decide) (by kernel_rfl) rfl ?_
  refine pl_call M (want_no rfl) (some 37) rfl 18 #[.string key, .string nonce, .string ad, .string (s.extract 0 (s.size - 16))] (.string (tgX key nonce ad s)) (fun _ => by kernel_rfl) (fun w M => d_tag key nonce ad (s.extract 0 (s.size - 16)) hm (by rw [cx_size]; omega) w M.laid) ?_
  intro u3 M
  refine pl_nil ?_
  refine au_then ?_
  refine ⟨M, ?_⟩
  refine hl_end (by kernel_rfl) (by kernel_rfl) rfl ?_
  refine pl_val (want_no rfl) (some 43) rfl (.bool false) (fun w => Eq.trans (b := .ok (.value (.bool (!((tgX key nonce ad s).toList == (s.extract (s.size - 16) s.size).toList)))) w) (by kernel_rfl) (by rw [e, beq_self_eq_true]; rfl)) ?_
  refine pl_nil ?_
  refine au_then ?_
  refine au_then ?_
  refine wp_cond_false (by kernel_rfl) ?_
  refine wp_skip ?_
  refine au_then ?_
  refine wp_seq ?_
  refine rg_lit ?_
  refine pl_val (want_no rfl) (some 45) rfl (.string key) (fun _ => by kernel_rfl) ?_
  refine pl_val (want_no rfl) (some 46) rfl (.string nonce) (fun _ => by kernel_rfl) ?_
  refine pl_val (want_no rfl) (some 47) rfl (.string (s.extract 0 (s.size - 16))) (fun _ => by kernel_rfl) ?_
  refine pl_call M (want_no rfl) (some 48) rfl 17 #[.string key, .string nonce, .int .u32 1, .string (s.extract 0 (s.size - 16))] (.tuple #[.string (opS key nonce s), .int .i64 0]) (fun _ => by kernel_rfl) (fun w M => d_Turn1 key nonce (s.extract 0 (s.size - 16)) hm (by rw [cx_size]; omega) w M.laid) ?_
  intro u4 M
  refine pl_val (want_no rfl) (some 44) rfl (.tuple #[.string (opS key nonce s), .int .i64 0]) (fun _ => by kernel_rfl) ?_
  refine pl_val (want_no rfl) (some 49) rfl (.string (opS key nonce s)) (fun _ => by kernel_rfl) ?_
  refine pl_val (want_no rfl) (some 50) rfl (.int .i64 0) (fun _ => by kernel_rfl) ?_
  refine pl_val (want_no rfl) (some 11) rfl (.string (opS key nonce s)) (fun _ => by kernel_rfl) ?_
  refine pl_val (want_no rfl) (some 12) rfl (.int .i64 0) (fun _ => by kernel_rfl) ?_
  refine pl_nil ?_
  refine au_then ?_
  refine wp_seq ?_
  refine rg_lit ?_
  refine pl_val (want_no rfl) (some 51) rfl (.string (opS key nonce s)) (fun _ => by kernel_rfl) ?_
  refine pl_val (want_no rfl) (some 8) rfl (.string (opS key nonce s)) (fun _ => by kernel_rfl) ?_
  refine pl_val (want_no rfl) (some 9) rfl (.int .i64 0) (fun _ => by kernel_rfl) ?_
  refine pl_nil ?_
  refine au_then ?_
  refine wp_ret ?_
  exact bodyPost_ret (v := .tuple #[.string (opS key nonce s), .int .i64 0]) (results_tmp2 Tryd.results10 _ _ _ _ (by kernel_rfl) (by kernel_rfl)) (by kernel_rfl) ⟨rfl, below_grown M.old⟩

set_option maxRecDepth 100000 in
set_option maxHeartbeats 4000000 in
theorem d_OpenB (key nonce ad s : ByteArray) (hm : key.size = 32 ∧ nonce.size = 12) (hz : ad.size + s.size ≤ 5000) (h : ¬ s.size < 16) (e : tgX key nonce ad s ≠ s.extract (s.size - 16) s.size) (w : World) (hL : Laid w)  :
    Calls Tryd.prog 10 #[.string key, .string nonce, .string ad, .string s] w fun r w' => r = .returned (.tuple #[.string ⟨#[]⟩, .int .i64 100]) ∧ Below w.heap.size w w' := by
  go_enter Tryd.func10, Tryd.ntmps10
  have M := Mem.start hL
  refine wp_seq ?_
  refine rg_lit ?_
  refine pl_val (want_no rfl) (some 8) rfl (.string ⟨#[]⟩) (fun _ => by kernel_rfl) ?_
  refine pl_val (want_no rfl) (some 9) rfl (.int .i64 0) (fun _ => by kernel_rfl) ?_
  refine pl_nil ?_
  refine au_then ?_
  refine wp_seq ?_
  refine wp_seq ?_
  refine rg_lit ?_
  refine pl_val (want_no rfl) (some 13) rfl (.string key) (fun _ => by kernel_rfl) ?_
  refine pl_val (want_no rfl) (some 14) rfl (.string nonce) (fun _ => by kernel_rfl) ?_
  refine pl_call M (want_no rfl) (some 15) rfl 16 #[.string key, .string nonce] (.bool true) (fun _ => by kernel_rfl) (fun w M => (by rw [← decide_eq_true hm]; exact d_may key nonce w M.laid)) ?_
  intro u1 M
  refine pl_val (want_no rfl) (some 16) rfl (.bool false) (fun _ => by kernel_rfl) ?_
  refine pl_nil ?_
  refine au_then ?_
  refine wp_cond_false (by kernel_rfl) ?_
  refine wp_skip ?_
  refine au_then ?_
  refine wp_seq ?_
  refine wp_seq ?_
  refine rg_lit ?_
  refine pl_val (want_no rfl) (some 17) rfl (.string ad) (fun _ => by kernel_rfl) ?_
  refine pl_val (want_no rfl) (some 18) rfl (.int .i64 (ad.size : Int)) (fun _ => by kernel_rfl) ?_
  refine pl_val (want_no rfl) (some 19) rfl (.bool false) (fun w => Eq.trans (b := .ok (.value (.bool (decide ((65536 : Int) < (ad.size : Int))))) w) (by kernel_rfl) (by rw [decide_eq_false (by omega)])) ?_
  refine pl_val (want_no rfl) (some 20) rfl (.bool false) (fun _ => by kernel_rfl) ?_
  refine pl_val (want_on 3 false rfl 20 rfl (by kernel_rfl)) (some 21) rfl (.string s) (fun _ => by kernel_rfl) ?_
  refine pl_val (want_on 3 false rfl 20 rfl (by kernel_rfl)) (some 22) rfl (.int .i64 (s.size : Int)) (fun _ => by kernel_rfl) ?_
  refine pl_val (want_on 3 false rfl 20 rfl (by kernel_rfl)) (some 23) rfl (.bool false) (fun w => Eq.trans (b := .ok (.value (.bool (decide ((65552 : Int) < (s.size : Int))))) w) (by kernel_rfl) (by rw [decide_eq_false (by omega)])) ?_
  refine pl_val (want_no rfl) (some 24) rfl (.bool false) (fun _ => by kernel_rfl) ?_
  refine pl_nil ?_
  refine au_then ?_
  refine wp_cond_false (by kernel_rfl) ?_
  refine wp_skip ?_
  refine au_then ?_
  refine wp_seq ?_
  refine wp_seq ?_
  refine rg_lit ?_
  refine pl_val (want_no rfl) (some 25) rfl (.string s) (fun _ => by kernel_rfl) ?_
  refine pl_val (want_no rfl) (some 26) rfl (.int .i64 (s.size : Int)) (fun _ => by kernel_rfl) ?_
  refine pl_val (want_no rfl) (some 27) rfl (.bool false) (fun w => Eq.trans (b := .ok (.value (.bool (decide ((s.size : Int) < 16)))) w) (by kernel_rfl) (by rw [decide_eq_false (by omega)])) ?_
  refine pl_nil ?_
  refine au_then ?_
  refine wp_cond_false (by kernel_rfl) ?_
  refine wp_skip ?_
  refine au_then ?_
  refine wp_seq ?_
  refine rg_lit ?_
  refine pl_val (want_no rfl) (some 28) rfl (.string s) (fun _ => by kernel_rfl) ?_
  refine pl_val (want_no rfl) (some 29) rfl (.string s) (fun _ => by kernel_rfl) ?_
  refine pl_val (want_no rfl) (some 30) rfl (.int .i64 (s.size : Int)) (fun _ => by kernel_rfl) ?_
  refine pl_val (want_no rfl) (some 31) rfl (.int .i64 ((s.size - 16 : Nat) : Int)) (fun w => Eq.trans (b := .ok (.value (.int .i64 (IntKind.wrap .i64 ((s.size : Int) - 16)))) w) (by kernel_rfl) (by rw [wrap64 (by omega) (by omega)]; congr 3 <;> omega)) ?_
  refine pl_val (want_no rfl) (some 32) rfl (.string (s.extract 0 (s.size - 16))) (run_strh 9 Tryd.underlying9 _ _ rfl s (by kernel_rfl) .i64 (s.size - 16) (by kernel_rfl) (by omega) _ rfl) ?_
  refine pl_val (want_no rfl) (some 10) rfl (.string (s.extract 0 (s.size - 16))) (fun _ => by kernel_rfl) ?_
  refine pl_nil ?_
  refine au_then ?_
  refine wp_seq ?_
  refine wp_seq ?_
  refine rg_held M [] 10 rfl (by kernel_rfl) (by kernel_rfl) (fun _ _ d _ _ h => by cases d <;> exact h) ?_
  intro u2 M
  replace M : Mem ⟨w, []⟩ [] u2 := M
  refine hl_val M 0 rfl (by decide) (by kernel_rfl) (by kernel_rfl) (want_no rfl) (some 33) rfl (.string key) (fun _ _ => by kernel_rfl) ?_
  refine hl_val M 1 rfl (by decide) (by kernel_rfl) (by kernel_rfl) (want_no rfl) (some 34) rfl (.string nonce) (fun _ _ => by kernel_rfl) ?_
  refine hl_val M 2 rfl (by decide) (by kernel_rfl) (by kernel_rfl) (want_no rfl) (some 35) rfl (.string ad) (fun _ _ => by kernel_rfl) ?_
  refine hl_val M 3 rfl (by decide) (by kernel_rfl) (by kernel_rfl) (want_no rfl) (some 36) rfl (.string (s.extract 0 (s.size - 16))) (fun _ _ => by kernel_rfl) ?_
  refine hl_val M 5 rfl (by decide) (by kernel_rfl) (by kernel_rfl) (want_no rfl) (some 38) rfl (.string s) (fun _ _ => by kernel_rfl) ?_
  refine hl_val M 6 rfl (by decide) (by kernel_rfl) (by kernel_rfl) (want_no rfl) (some 39) rfl (.string s) (fun _ _ => by kernel_rfl) ?_
  refine hl_val M 7 rfl (by decide) (by kernel_rfl) (by kernel_rfl) (want_no rfl) (some 40) rfl (.int .i64 (s.size : Int)) (fun _ _ => by kernel_rfl) ?_
  refine hl_val M 8 rfl (by decide) (by kernel_rfl) (by kernel_rfl) (want_no rfl) (some 41) rfl (.int .i64 ((s.size - 16 : Nat) : Int)) (fun w _ => (fun w => Eq.trans (b := .ok (.value (.int .i64 (IntKind.wrap .i64 ((s.size : Int) - 16)))) w) (by kernel_rfl) (by rw [wrap64 (by omega) (by omega)]; congr 3 <;> omega)) w) ?_
  refine hl_val M 9 rfl (by decide) (by kernel_rfl) (by kernel_rfl) (want_no rfl) (some 42) rfl (.string (s.extract (s.size - 16) s.size)) (fun w _ => (run_strl 9 Tryd.underlying9 _ _ rfl s (by kernel_rfl) .i64 (s.size - 16) (by kernel_rfl) (by omega) _ rfl) w) ?_
  refine hl_one 4 (by decide) (by kernel_rfl) rfl ?_
  refine pl_call M (want_no rfl) (some 37) rfl 18 #[.string key, .string nonce, .string ad, .string (s.extract 0 (s.size - 16))] (.string (tgX key nonce ad s)) (fun _ => by kernel_rfl) (fun w M => d_tag key nonce ad (s.extract 0 (s.size - 16)) hm (by rw [cx_size]; omega) w M.laid) ?_
  intro u3 M
  refine pl_nil ?_
  refine au_then ?_
  refine ⟨M, ?_⟩
  refine hl_end (by kernel_rfl) (by kernel_rfl) rfl ?_
  refine pl_val (want_no rfl) (some 43) rfl (.bool true) (fun w => Eq.trans (b := .ok (.value (.bool (!((tgX key nonce ad s).toList == (s.extract (s.size - 16) s.size).toList)))) w) (by kernel_rfl) (by rw [Pol.toList_ne e]; rfl)) ?_
  refine pl_nil ?_
  refine au_then ?_
  refine au_then ?_
  refine wp_cond_true (by kernel_rfl) ?_
  refine wp_seq ?_
  refine rg_lit ?_
  refine pl_val (want_no rfl) (some 8) rfl (.string ⟨#[]⟩) (fun _ => by kernel_rfl) ?_
  refine pl_val (want_no rfl) (some 9) rfl (.int .i64 100) (fun _ => by kernel_rfl) ?_
  refine pl_nil ?_
  refine au_then ?_
  refine wp_ret ?_
  refine au_then_ret ?_
  exact bodyPost_ret (v := .tuple #[.string ⟨#[]⟩, .int .i64 100]) (results_tmp2 Tryd.results10 _ _ _ _ (by kernel_rfl) (by kernel_rfl)) (by kernel_rfl) ⟨rfl, below_grown M.old⟩

set_option maxRecDepth 100000 in
set_option maxHeartbeats 4000000 in
theorem d_OpenC (key nonce ad s : ByteArray) (hm : key.size = 32 ∧ nonce.size = 12) (hz : ad.size + s.size ≤ 5000) (h : s.size < 16) (w : World) (hL : Laid w)  :
    Calls Tryd.prog 10 #[.string key, .string nonce, .string ad, .string s] w fun r w' => r = .returned (.tuple #[.string ⟨#[]⟩, .int .i64 100]) ∧ Below w.heap.size w w' := by
  go_enter Tryd.func10, Tryd.ntmps10
  have M := Mem.start hL
  refine wp_seq ?_
  refine rg_lit ?_
  refine pl_val (want_no rfl) (some 8) rfl (.string ⟨#[]⟩) (fun _ => by kernel_rfl) ?_
  refine pl_val (want_no rfl) (some 9) rfl (.int .i64 0) (fun _ => by kernel_rfl) ?_
  refine pl_nil ?_
  refine au_then ?_
  refine wp_seq ?_
  refine wp_seq ?_
  refine rg_lit ?_
  refine pl_val (want_no rfl) (some 13) rfl (.string key) (fun _ => by kernel_rfl) ?_
  refine pl_val (want_no rfl) (some 14) rfl (.string nonce) (fun _ => by kernel_rfl) ?_
  refine pl_call M (want_no rfl) (some 15) rfl 16 #[.string key, .string nonce] (.bool true) (fun _ => by kernel_rfl) (fun w M => (by rw [← decide_eq_true hm]; exact d_may key nonce w M.laid)) ?_
  intro u1 M
  refine pl_val (want_no rfl) (some 16) rfl (.bool false) (fun _ => by kernel_rfl) ?_
  refine pl_nil ?_
  refine au_then ?_
  refine wp_cond_false (by kernel_rfl) ?_
  refine wp_skip ?_
  refine au_then ?_
  refine wp_seq ?_
  refine wp_seq ?_
  refine rg_lit ?_
  refine pl_val (want_no rfl) (some 17) rfl (.string ad) (fun _ => by kernel_rfl) ?_
  refine pl_val (want_no rfl) (some 18) rfl (.int .i64 (ad.size : Int)) (fun _ => by kernel_rfl) ?_
  refine pl_val (want_no rfl) (some 19) rfl (.bool false) (fun w => Eq.trans (b := .ok (.value (.bool (decide ((65536 : Int) < (ad.size : Int))))) w) (by kernel_rfl) (by rw [decide_eq_false (by omega)])) ?_
  refine pl_val (want_no rfl) (some 20) rfl (.bool false) (fun _ => by kernel_rfl) ?_
  refine pl_val (want_on 3 false rfl 20 rfl (by kernel_rfl)) (some 21) rfl (.string s) (fun _ => by kernel_rfl) ?_
  refine pl_val (want_on 3 false rfl 20 rfl (by kernel_rfl)) (some 22) rfl (.int .i64 (s.size : Int)) (fun _ => by kernel_rfl) ?_
  refine pl_val (want_on 3 false rfl 20 rfl (by kernel_rfl)) (some 23) rfl (.bool false) (fun w => Eq.trans (b := .ok (.value (.bool (decide ((65552 : Int) < (s.size : Int))))) w) (by kernel_rfl) (by rw [decide_eq_false (by omega)])) ?_
  refine pl_val (want_no rfl) (some 24) rfl (.bool false) (fun _ => by kernel_rfl) ?_
  refine pl_nil ?_
  refine au_then ?_
  refine wp_cond_false (by kernel_rfl) ?_
  refine wp_skip ?_
  refine au_then ?_
  refine wp_seq ?_
  refine wp_seq ?_
  refine rg_lit ?_
  refine pl_val (want_no rfl) (some 25) rfl (.string s) (fun _ => by kernel_rfl) ?_
  refine pl_val (want_no rfl) (some 26) rfl (.int .i64 (s.size : Int)) (fun _ => by kernel_rfl) ?_
  refine pl_val (want_no rfl) (some 27) rfl (.bool true) (fun w => Eq.trans (b := .ok (.value (.bool (decide ((s.size : Int) < 16)))) w) (by kernel_rfl) (by rw [decide_eq_true (by omega)])) ?_
  refine pl_nil ?_
  refine au_then ?_
  refine wp_cond_true (by kernel_rfl) ?_
  refine wp_seq ?_
  refine rg_lit ?_
  refine pl_val (want_no rfl) (some 8) rfl (.string ⟨#[]⟩) (fun _ => by kernel_rfl) ?_
  refine pl_val (want_no rfl) (some 9) rfl (.int .i64 100) (fun _ => by kernel_rfl) ?_
  refine pl_nil ?_
  refine au_then ?_
  refine wp_ret ?_
  refine au_then_ret ?_
  exact bodyPost_ret (v := .tuple #[.string ⟨#[]⟩, .int .i64 100]) (results_tmp2 Tryd.results10 _ _ _ _ (by kernel_rfl) (by kernel_rfl)) (by kernel_rfl) ⟨rfl, below_grown M.old⟩


end Go.Proofs.YtkndaajbedlajaaDoor
