/- What the numbers and texts of both sides are to one another; CodeWrites. -/
import Derived.Test.YtoiodkhmkkhjcaaQ4
namespace Go.Proofs.Ytoiodkhmkkhjcaa
open Go.RowKit

theorem be2_u16 (x : Int) : be2 (cv .u64 (cv .u16 x)) = be2 x := by
  unfold be2
  simp only [cv_u8, cv_u16, cv_u64, sr_8]
  congr 2
  · omega
  · congr 1
    omega
theorem be2_u64 (x : Int) : be2 (cv .u64 x) = be2 x := by
  unfold be2
  simp only [cv_u8, cv_u64, sr_8]
  congr 2
  · omega
  · congr 1
    omega
theorem be4_u32 (x : Int) : be4 (cv .u64 (cv .u32 x)) = be4 x := by
  unfold be4
  simp only [cv_u8, cv_u32, cv_u64, sr_8]
  congr 2
  · omega
  · congr 1
    · omega
    · congr 1
      · omega
      · congr 1
        omega
theorem wtS_du (s : ByteArray) : wtS s = duS s := by
  unfold wtS duS
  rw [be2_u16, be2_u64]
theorem u8_cv64 (s : ByteArray) (j : Nat) : cv .u64 (bt s j) = bt s j := by
  have := bt_nn s j
  rw [cv_u64]
  omega
theorem uo_ua (x b : Int) (h0 : 0 ≤ b) (h1 : b < 256) : uo (sl x 8) b = ua (sl x 8) b := by
  rw [sl_8]
  have hm : (x * 256) % 18446744073709551616 = 256 * (x % 72057594037927936) := by omega
  have hk0 : 0 ≤ x % 72057594037927936 := by omega
  have hk1 : x % 72057594037927936 < 72057594037927936 := by omega
  rw [hm]
  generalize x % 72057594037927936 = m at *
  obtain ⟨k, rfl⟩ := Int.eq_ofNat_of_zero_le hk0
  obtain ⟨c, rfl⟩ := Int.eq_ofNat_of_zero_le h0
  have e := Nat.two_pow_add_eq_or_of_lt (i := 8) (b := c) (by omega) k
  have e1 : BitVec.ofInt 64 (256 * (k : Int)) = BitVec.ofNat 64 (256 * k) := by
    have : (256 * (k : Int)) = ((256 * k : Nat) : Int) := by omega
    rw [this]
    rfl
  have e2 : BitVec.ofInt 64 (c : Int) = BitVec.ofNat 64 c := rfl
  unfold uo ua
  rw [e1, e2, BitVec.toNat_or, BitVec.toNat_ofNat, BitVec.toNat_ofNat, Nat.mod_eq_of_lt (by omega), Nat.mod_eq_of_lt (by omega)]
  have e3 : 256 * k ||| c = 256 * k + c := e.symm
  rw [e3]
  congr 1
theorem bn_bd (s : ByteArray) (j : Nat) : bn s j = bd s j := by
  induction j with
  | zero => rfl
  | succ j ih =>
    have := bt_nn s j
    unfold bn bd
    rw [ih, u8_cv64, uo_ua _ _ this.1 this.2]
theorem bnv_bdv (s : ByteArray) : bnv s = bdv s := bn_bd s _
theorem ipow_le {j k : Nat} (h : j ≤ k) : (256 : Int) ^ j ≤ 256 ^ k := by
  have h1 := Nat.pow_le_pow_right (n := 256) (by decide) h
  have e : ∀ m : Nat, (256 : Int) ^ m = ((256 ^ m : Nat) : Int) := fun m => by
    induction m with
    | zero => rfl
    | succ m ih => rw [Int.pow_succ, ih, Nat.pow_succ]; rfl
  rw [e, e]
  exact Int.ofNat_le.2 h1
theorem tkF_ne (s : ByteArray) (f n : Int) (h : f ≠ 0) : tkF s f n = f := if_neg h
theorem tkS_ne (s : ByteArray) (f n : Int) (h : f ≠ 0) : tkS s f n = s := if_neg fun e => h e.1
theorem tkV_ne (s : ByteArray) (f n : Int) (h : f ≠ 0) : tkV s f n = ⟨#[]⟩ := if_neg fun e => h e.1
theorem bd_lt (s : ByteArray) (j : Nat) (h : j ≤ 8) : 0 ≤ bd s j ∧ bd s j < 256 ^ j := by
  induction j with
  | zero => unfold bd; simp
  | succ j ih =>
    obtain ⟨i0, i1⟩ := ih (by omega)
    have hb := bt_nn s j
    have hp : (256 : Int) ^ j ≤ 256 ^ 7 := ipow_le (by omega)
    have hs : (256 : Int) ^ (j + 1) = 256 ^ j * 256 := Int.pow_succ _ _
    unfold bd
    rw [u8_cv64, ua_eq, sl_8, hs]
    generalize (256 : Int) ^ j = p at *
    omega
theorem bdv_lt (s : ByteArray) (k : Nat) (hk : k ≤ 8) (h : s.size ≤ k) : 0 ≤ bdv s ∧ bdv s < 256 ^ k := by
  have h1 := bd_lt s s.size (by omega)
  have hp : (256 : Int) ^ s.size ≤ 256 ^ k := ipow_le h
  unfold bdv
  omega
theorem num1_eq (s : ByteArray) (f : Int) : cv .u64 (cv .u8 (bnv (tkV s f 1))) = bdv (tkV s f 1) := by
  have := bdv_lt (tkV s f 1) 1 (by decide) (tkV_le s f 1)
  rw [bnv_bdv, cv_u8, cv_u64]
  omega
theorem num2_eq (s : ByteArray) (f : Int) : cv .u64 (cv .u16 (bnv (tkV s f 2))) = bdv (tkV s f 2) := by
  have := bdv_lt (tkV s f 2) 2 (by decide) (tkV_le s f 2)
  rw [bnv_bdv, cv_u16, cv_u64]
  omega
theorem num4_eq (s : ByteArray) (f : Int) : cv .u64 (cv .u32 (bnv (tkV s f 4))) = bdv (tkV s f 4) := by
  have := bdv_lt (tkV s f 4) 4 (by decide) (tkV_le s f 4)
  rw [bnv_bdv, cv_u32, cv_u64]
  omega
theorem pxN_dx (s : ByteArray) : pxN s = dxN s 0 := by
  have := bdv_lt (tkV s 0 2) 2 (by decide) (tkV_le s 0 2)
  unfold pxN dxN
  rw [bnv_bdv, cv_u16]
  congr 1
  omega
theorem px_all (s : ByteArray) : pxV s = dxV s 0 ∧ pxS s = dxS s 0 ∧ pxF s = dxF s 0 := by
  by_cases hs : (s.size : Int) < 2
  · have hT : tkV s 0 2 = ⟨#[]⟩ := if_neg (by omega)
    have hS : tkS s 0 2 = s := if_neg (by omega)
    have hF : tkF s 0 2 = 7 := by simp [tkF, hs]
    have hN : dxN s 0 = 0 := by
      unfold dxN
      rw [hT]
      rfl
    have hG : dxG s 0 = 7 := by simp [dxG, hF]
    refine ⟨?_, ?_, ?_⟩
    · rw [pxV, dxV, pxN_dx, hN, hF, hG, tkV_ne _ 7 _ (by decide)]
      simp
    · rw [pxS, pxF, dxS, dxF, dxT, pxN_dx, hN, hF, hS, hG, tkF_ne _ 7 _ (by decide), tkS_ne _ 7 _ (by decide)]
      simp
    · rw [pxF, dxF, pxN_dx, hN, hF, hG, tkF_ne _ 7 _ (by decide)]
      simp
  · have hF : tkF s 0 2 = 0 := by simp [tkF]; omega
    have hS : (tkS s 0 2).size = s.size - 2 := by
      unfold tkS
      rw [if_pos (by omega), ByteArray.size_extract]
      have : (2 : Int).toNat = 2 := rfl
      omega
    by_cases hn : 32768 < dxN s 0
    · have hG : dxG s 0 = 4 := by simp [dxG, hF, hn]
      have hT : dxT s 0 = tkS s 0 2 := by rw [dxT, hG, tkS_ne _ 4 _ (by decide)]
      refine ⟨?_, ?_, ?_⟩
      · rw [pxV, dxV, pxN_dx, if_pos hn, hG, tkV_ne _ 4 _ (by decide)]
      · have : (tkS s 0 2).size < s.size := by omega
        rw [pxS, pxF, dxS, dxF, pxN_dx, if_pos hn, hF, hG, hT, tkF_ne _ 4 _ (by decide)]
        simp [ff, this]
      · rw [pxF, dxF, pxN_dx, if_pos hn, hF, hG, tkF_ne _ 4 _ (by decide)]
        rfl
    · have hG : dxG s 0 = 0 := by simp [dxG, hF, hn]
      refine ⟨?_, ?_, ?_⟩
      · simp [pxV, dxV, pxN_dx, hn, hF, hG]
      · by_cases hf : tkF (tkS s 0 2) 0 (dxN s 0) = 0
        · simp [pxS, pxF, dxS, dxF, dxT, pxN_dx, hn, hF, hG, hf]
        · have hT : tkS (tkS s 0 2) 0 (dxN s 0) = tkS s 0 2 := by
            refine if_neg fun h => hf ?_
            unfold tkF
            rw [if_pos rfl, if_neg (by omega), if_neg (by omega)]
          have : (tkS s 0 2).size < s.size := by omega
          simp [pxS, pxF, dxS, dxF, dxT, pxN_dx, hn, hF, hG, hf, hT, this]
      · simp [pxF, dxF, pxN_dx, hn, hF, hG]
theorem dx_fault (s : ByteArray) (f : Int) (hf : f ≠ 0) : dxV s f = ⟨#[]⟩ ∧ dxS s f = s ∧ dxF s f = f := by
  have hF : tkF s f 2 = f := tkF_ne _ _ _ hf
  have hS : tkS s f 2 = s := tkS_ne _ _ _ hf
  have hG : dxG s f = f := by simp [dxG, hF, hf]
  have hT : dxT s f = s := by rw [dxT, hS, hG, tkS_ne _ _ _ hf]
  refine ⟨?_, ?_, ?_⟩
  · rw [dxV, hS, hG, tkV_ne _ _ _ hf]
  · rw [dxS, dxF, hS, hG, hT, tkF_ne _ _ _ hf]
    simp
  · rw [dxF, hS, hG, tkF_ne _ _ _ hf]
/-- Text, whatever the fault. -/
theorem c_TextG (g : Nat) (s : ByteArray) (f : Int) (w : World) (hL : Laid w) (hg : w.heap[g]? = some (.cells (av 3 (ls [.bool true, .string s, .int .i64 f])) 59)) :
    Calls Try.prog 22 #[.pointer (some ⟨g, 0, none⟩)] w fun r w' => r = .returned (.string (dxV s f)) ∧ Grw w w' [g] ∧ w'.heap[g]? = some (.cells (av 3 (ls [.bool true, .string (dxS s f), .int .i64 (dxF s f)])) 59) := by
  by_cases hf : f = 0
  · subst hf
    have h := c_Text g s w hL hg
    obtain ⟨e1, e2, e3⟩ := px_all s
    rw [e1, e2, e3] at h
    exact h
  · obtain ⟨e1, e2, e3⟩ := dx_fault s f hf
    rw [e1, e2, e3]
    exact (c_TextF g s f hf w hL hg).mono fun e w' ⟨h1, h2⟩ => ⟨h1, grown_below h2 _, by rw [h2.block _ (Array.getElem?_eq_some_iff.1 hg).1]; exact hg⟩
set_option maxRecDepth 100000 in
set_option maxHeartbeats 4000000 in
set_option linter.unusedSimpArgs false in
theorem c_writes (x : Int) (s : ByteArray) (w : World) (hL : Laid w)  :
    Calls Try.prog 3 #[.int .u64 x, .string s] w fun r w' => r = .returned (.bool true) ∧ Below w.heap.size w w' := by
  go_enter Try.func3, Try.ntmps3
  have M := Mem.start hL
  refine wp_seq ?_
  refine rg_lit ?_
  refine pl_val (want_no rfl) (some 4) rfl (.bool false) (fun _ => by kernel_rfl) ?_
  refine pl_nil ?_
  refine au_then ?_
  refine wp_seq ?_
  refine wp_seq ?_
  refine rg_lit ?_
  refine pl_val (want_no rfl) (some 9) rfl (.string s) (fun _ => by kernel_rfl) ?_
  refine pl_val (want_no rfl) (some 10) rfl (.int .i64 (s.size : Int)) (fun _ => by kernel_rfl) ?_
  by_cases c0 : 131072 < (s.size : Int)
  · skip
    refine pl_val (want_no rfl) (some 11) rfl (.bool true) (fun w => Eq.trans (b := .ok (.value (.bool (decide (131072 < (s.size : Int))))) w) (by kernel_rfl) (by rw [decide_eq_true (c0)])) ?_
    refine pl_nil ?_
    refine au_then ?_
    refine wp_cond_true (by kernel_rfl) ?_
    refine wp_seq ?_
    refine rg_lit ?_
    refine pl_call M (want_no rfl) (some 12) rfl 7 #[] (.bool true) (fun _ => by kernel_rfl) (fun w M => c_works w M.laid) ?_
    intro u1 M
    refine pl_val (want_no rfl) (some 4) rfl (.bool true) (fun _ => by kernel_rfl) ?_
    refine pl_nil ?_
    refine au_then ?_
    refine wp_ret ?_
    refine au_then_ret ?_
    exact bodyPost_ret (v := .bool true) (results_tmp1 Try.results3 _ _ _ (by kernel_rfl)) (by kernel_rfl) ⟨rfl, below_grown M.old⟩
  · skip
    refine pl_val (want_no rfl) (some 11) rfl (.bool false) (fun w => Eq.trans (b := .ok (.value (.bool (decide (131072 < (s.size : Int))))) w) (by kernel_rfl) (by rw [decide_eq_false (c0)])) ?_
    refine pl_nil ?_
    refine au_then ?_
    refine wp_cond_false (by kernel_rfl) ?_
    refine wp_skip ?_
    refine au_then ?_
    refine wp_seq ?_
    refine rg_lit ?_
    refine pl_val (want_no rfl) (some 14) rfl (.string s) (fun _ => by kernel_rfl) ?_
    refine pl_call M (want_no rfl) (some 15) rfl 8 #[.string s] (.tuple #[.string (wtS s), .int .i64 (wtE s)]) (fun _ => by kernel_rfl) (fun w M => c_WText s w M.laid) ?_
    intro u1 M
    refine pl_val (want_no rfl) (some 13) rfl (.tuple #[.string (wtS s), .int .i64 (wtE s)]) (fun _ => by kernel_rfl) ?_
    refine pl_val (want_no rfl) (some 16) rfl (.string (wtS s)) (fun _ => by kernel_rfl) ?_
    refine pl_val (want_no rfl) (some 17) rfl (.int .i64 (wtE s)) (fun _ => by kernel_rfl) ?_
    refine pl_val (want_no rfl) (some 5) rfl (.string (wtS s)) (fun _ => by kernel_rfl) ?_
    refine pl_val (want_no rfl) (some 6) rfl (.int .i64 (wtE s)) (fun _ => by kernel_rfl) ?_
    refine pl_nil ?_
    refine au_then ?_
    refine wp_seq ?_
    refine rg_lit ?_
    refine pl_val (want_no rfl) (some 19) rfl (.string s) (fun _ => by kernel_rfl) ?_
    refine pl_call M (want_no rfl) (some 20) rfl 9 #[.string s] (.tuple #[.string (duS s), .int .i64 (wtE s)]) (fun _ => by kernel_rfl) (fun w M => d_WText s w M.laid) ?_
    intro u2 M
    refine pl_val (want_no rfl) (some 18) rfl (.tuple #[.string (duS s), .int .i64 (wtE s)]) (fun _ => by kernel_rfl) ?_
    refine pl_val (want_no rfl) (some 21) rfl (.string (duS s)) (fun _ => by kernel_rfl) ?_
    refine pl_val (want_no rfl) (some 22) rfl (.int .i64 (wtE s)) (fun _ => by kernel_rfl) ?_
    refine pl_val (want_no rfl) (some 7) rfl (.string (duS s)) (fun _ => by kernel_rfl) ?_
    refine pl_val (want_no rfl) (some 8) rfl (.int .i64 (wtE s)) (fun _ => by kernel_rfl) ?_
    refine pl_nil ?_
    refine au_then ?_
    refine wp_seq ?_
    refine rg_lit ?_
    refine pl_val (want_no rfl) (some 23) rfl (.int .u64 x) (fun _ => by kernel_rfl) ?_
    refine pl_val (want_no rfl) (some 24) rfl (.int .u16 (cv .u16 x)) (fun _ => by kernel_rfl) ?_
    refine pl_call M (want_no rfl) (some 25) rfl 10 #[.int .u16 (cv .u16 x)] (.string (be2 (cv .u64 (cv .u16 x)))) (fun _ => by kernel_rfl) (fun w M => c_U16 (cv .u16 x) w M.laid) ?_
    intro u3 M
    refine pl_val (want_no rfl) (some 26) rfl (.int .u64 x) (fun _ => by kernel_rfl) ?_
    refine pl_call M (want_no rfl) (some 27) rfl 11 #[.int .u64 x, .int .i64 2] (.string (be2 x)) (fun _ => by kernel_rfl) (fun w M => c_num2 x w M.laid) ?_
    intro u4 M
    refine pl_val (want_no rfl) (some 28) rfl (.bool true) (fun w => Eq.trans (b := .ok (.value (.bool (((be2 (cv .u64 (cv .u16 x))) : ByteArray).toList == ((be2 x) : ByteArray).toList))) w) (by kernel_rfl) (by rw [be2_u16, beq_self_eq_true])) ?_
    refine pl_val (want_no rfl) (some 29) rfl (.bool true) (fun _ => by kernel_rfl) ?_
    refine pl_val (want_on 6 true rfl 29 rfl (by kernel_rfl)) (some 30) rfl (.int .u64 x) (fun _ => by kernel_rfl) ?_
    refine pl_val (want_on 6 true rfl 29 rfl (by kernel_rfl)) (some 31) rfl (.int .u32 (cv .u32 x)) (fun _ => by kernel_rfl) ?_
    refine pl_call M (want_on 6 true rfl 29 rfl (by kernel_rfl)) (some 32) rfl 12 #[.int .u32 (cv .u32 x)] (.string (be4 (cv .u64 (cv .u32 x)))) (fun _ => by kernel_rfl) (fun w M => c_U32 (cv .u32 x) w M.laid) ?_
    intro u5 M
    refine pl_val (want_on 6 true rfl 29 rfl (by kernel_rfl)) (some 33) rfl (.int .u64 x) (fun _ => by kernel_rfl) ?_
    refine pl_call M (want_on 6 true rfl 29 rfl (by kernel_rfl)) (some 34) rfl 11 #[.int .u64 x, .int .i64 4] (.string (be4 x)) (fun _ => by kernel_rfl) (fun w M => c_num4 x w M.laid) ?_
    intro u6 M
    refine pl_val (want_on 6 true rfl 29 rfl (by kernel_rfl)) (some 35) rfl (.bool true) (fun w => Eq.trans (b := .ok (.value (.bool (((be4 (cv .u64 (cv .u32 x))) : ByteArray).toList == ((be4 x) : ByteArray).toList))) w) (by kernel_rfl) (by rw [be4_u32, beq_self_eq_true])) ?_
    refine pl_val (want_no rfl) (some 36) rfl (.bool true) (fun _ => by kernel_rfl) ?_
    refine pl_val (want_no rfl) (some 37) rfl (.bool true) (fun _ => by kernel_rfl) ?_
    refine pl_val (want_on 14 true rfl 37 rfl (by kernel_rfl)) (some 38) rfl (.int .u64 x) (fun _ => by kernel_rfl) ?_
    refine pl_call M (want_on 14 true rfl 37 rfl (by kernel_rfl)) (some 39) rfl 13 #[.int .u64 x] (.string (be8 x)) (fun _ => by kernel_rfl) (fun w M => c_U64 x w M.laid) ?_
    intro u7 M
    refine pl_val (want_on 14 true rfl 37 rfl (by kernel_rfl)) (some 40) rfl (.int .u64 x) (fun _ => by kernel_rfl) ?_
    refine pl_call M (want_on 14 true rfl 37 rfl (by kernel_rfl)) (some 41) rfl 11 #[.int .u64 x, .int .i64 8] (.string (be8 x)) (fun _ => by kernel_rfl) (fun w M => c_num8 x w M.laid) ?_
    intro u8 M
    refine pl_val (want_on 14 true rfl 37 rfl (by kernel_rfl)) (some 42) rfl (.bool true) (fun w => Eq.trans (b := .ok (.value (.bool ((be8 x).toList == (be8 x).toList))) w) (by kernel_rfl) (by rw [beq_self_eq_true])) ?_
    refine pl_val (want_no rfl) (some 43) rfl (.bool true) (fun _ => by kernel_rfl) ?_
    refine pl_val (want_no rfl) (some 44) rfl (.bool true) (fun _ => by kernel_rfl) ?_
    refine pl_val (want_on 21 true rfl 44 rfl (by kernel_rfl)) (some 45) rfl (.string (wtS s)) (fun _ => by kernel_rfl) ?_
    refine pl_val (want_on 21 true rfl 44 rfl (by kernel_rfl)) (some 46) rfl (.string (duS s)) (fun _ => by kernel_rfl) ?_
    refine pl_val (want_on 21 true rfl 44 rfl (by kernel_rfl)) (some 47) rfl (.bool true) (fun w => Eq.trans (b := .ok (.value (.bool (((wtS s) : ByteArray).toList == ((duS s) : ByteArray).toList))) w) (by kernel_rfl) (by rw [wtS_du, beq_self_eq_true])) ?_
    refine pl_val (want_no rfl) (some 48) rfl (.bool true) (fun _ => by kernel_rfl) ?_
    refine pl_val (want_no rfl) (some 49) rfl (.bool true) (fun _ => by kernel_rfl) ?_
    refine pl_val (want_on 26 true rfl 49 rfl (by kernel_rfl)) (some 50) rfl (.int .i64 (wtE s)) (fun _ => by kernel_rfl) ?_
    refine pl_val (want_on 26 true rfl 49 rfl (by kernel_rfl)) (some 51) rfl (.int .i64 (wtE s)) (fun _ => by kernel_rfl) ?_
    refine pl_val (want_on 26 true rfl 49 rfl (by kernel_rfl)) (some 52) rfl (.bool true) (fun w => Eq.trans (b := .ok (.value (.bool (decide ((wtE s) = (wtE s))))) w) (by kernel_rfl) (by rw [decide_eq_true (by omega)])) ?_
    refine pl_val (want_no rfl) (some 53) rfl (.bool true) (fun _ => by kernel_rfl) ?_
    refine pl_val (want_no rfl) (some 54) rfl (.bool true) (fun _ => by kernel_rfl) ?_
    refine pl_call M (want_on 31 true rfl 54 rfl (by kernel_rfl)) (some 55) rfl 7 #[] (.bool true) (fun _ => by kernel_rfl) (fun w M => c_works w M.laid) ?_
    intro u9 M
    refine pl_val (want_no rfl) (some 56) rfl (.bool true) (fun _ => by kernel_rfl) ?_
    refine pl_val (want_no rfl) (some 4) rfl (.bool true) (fun _ => by kernel_rfl) ?_
    refine pl_nil ?_
    refine au_then ?_
    refine wp_ret ?_
    exact bodyPost_ret (v := .bool true) (results_tmp1 Try.results3 _ _ _ (by kernel_rfl)) (by kernel_rfl) ⟨rfl, below_grown M.old⟩


end Go.Proofs.Ytoiodkhmkkhjcaa
