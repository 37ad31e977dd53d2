/- The walk of PolyEnds. -/
import Derived.Test.YtjfnfkphckimdaaP11
namespace Go.Proofs.Ytjfnfkphckimdaa
open Go.RowKit

theorem u8_of {n : Int} (h : (Lit.int .u8 n).wf = true) : 0 ≤ n ∧ n < 256 := by
  simp [Lit.wf, IntKind.min, IntKind.max, IntKind.bits, IntKind.signed] at h
  omega
def f8 : ByteArray := ⟨#[255, 255, 255, 255, 255, 255, 255, 255]⟩
/-- Eight bytes 255, so often. -/
def f8S : Nat → ByteArray
  | 0 => ⟨#[]⟩
  | j + 1 => f8S j ++ f8
theorem f8S_size : ∀ n, (f8S n).size = 8 * n
  | 0 => rfl
  | n + 1 => by
    show (f8S n ++ f8).size = 8 * (n + 1)
    rw [ByteArray.size_append, f8S_size n]
    rfl
def eS (n : Nat) (rest : ByteArray) : ByteArray := f8S (n % 40) ++ rest
theorem eS_size (n : Nat) (rest : ByteArray) (h : rest.size ≤ 256) : (eS n rest).size ≤ 5000 := by
  unfold eS
  rw [ByteArray.size_append, f8S_size]
  omega
def k1S (key : ByteArray) : ByteArray := b1 1 ++ zB 15 ++ key.extract 16 key.size
theorem k1S_size (key : ByteArray) (hk : key.size = 32) : (k1S key).size = 32 := by
  unfold k1S
  rw [ByteArray.size_append, ByteArray.size_append, zB_size, ByteArray.size_extract, hk]
  rfl
theorem rem40 (n : Nat) : Int.tmod (n : Int) 40 = ((n % 40 : Nat) : Int) := by
  rw [Int.tmod_eq_emod_of_nonneg (by omega)]
  omega
theorem cvi64 (n : Nat) (h : n < 256) : cv .i64 (n : Int) = (n : Int) := wrap64 (by omega) (by omega)

set_option maxRecDepth 100000 in
set_option maxHeartbeats 4000000 in
theorem peA (key : ByteArray) (n : Nat) (o : ByteArray) (h : key.size ≠ 32) (w : World) (hL : Laid w)  :
    Calls Try.prog 4 #[.string key, .int .u8 (n : Int), .string o] w fun r w' => r = .returned (.bool true) ∧ Below w.heap.size w w' := by
  go_enter Try.func4, Try.ntmps4
  have M := Mem.start hL
  refine wp_seq ?_
  refine rg_lit ?_
  refine pl_val (want_no rfl) (some 6) rfl (.bool false) (fun _ => by kernel_rfl) ?_
  refine pl_nil ?_
  refine au_then ?_
  refine wp_seq ?_
  refine wp_seq ?_
  refine rg_lit ?_
  refine pl_val (want_no rfl) (some 17) rfl (.string key) (fun _ => by kernel_rfl) ?_
  refine pl_val (want_no rfl) (some 18) rfl (.int .i64 (key.size : Int)) (fun _ => by kernel_rfl) ?_
  refine pl_val (want_no rfl) (some 19) rfl (.bool true) (fun w => Eq.trans (b := .ok (.value (.bool (!(decide ((key.size : Int) = 32))))) w) (by kernel_rfl) (by rw [decide_eq_false (by omega)]; rfl)) ?_
  refine pl_val (want_no rfl) (some 20) rfl (.bool true) (fun _ => by kernel_rfl) ?_
  refine pl_skip (want_off 3 false rfl 20 rfl (by kernel_rfl)) (some 21) rfl ?_
  refine pl_skip (want_off 3 false rfl 20 rfl (by kernel_rfl)) (some 22) rfl ?_
  refine pl_skip (want_off 3 false rfl 20 rfl (by kernel_rfl)) (some 23) rfl ?_
  refine pl_val (want_no rfl) (some 24) rfl (.bool true) (fun _ => by kernel_rfl) ?_
  refine pl_nil ?_
  refine au_then ?_
  refine wp_cond_true (by kernel_rfl) ?_
  refine wp_seq ?_
  refine rg_lit ?_
  refine pl_call M (want_no rfl) (some 25) rfl 6 #[] (.bool true) (fun _ => by kernel_rfl) (fun w M => c_alive w M.laid) ?_
  intro u1 M
  refine pl_val (want_no rfl) (some 6) rfl (.bool true) (fun _ => by kernel_rfl) ?_
  refine pl_nil ?_
  refine au_then ?_
  refine wp_ret ?_
  refine au_then_ret ?_
  exact bodyPost_ret (v := .bool true) (results_tmp1 Try.results4 _ _ _ (by kernel_rfl)) (by kernel_rfl) ⟨rfl, below_grown M.old⟩

set_option maxRecDepth 100000 in
set_option maxHeartbeats 4000000 in
theorem peB (key : ByteArray) (n : Nat) (o : ByteArray) (h : key.size = 32) (h2 : 256 < o.size) (w : World) (hL : Laid w)  :
    Calls Try.prog 4 #[.string key, .int .u8 (n : Int), .string o] w fun r w' => r = .returned (.bool true) ∧ Below w.heap.size w w' := by
  go_enter Try.func4, Try.ntmps4
  have M := Mem.start hL
  refine wp_seq ?_
  refine rg_lit ?_
  refine pl_val (want_no rfl) (some 6) rfl (.bool false) (fun _ => by kernel_rfl) ?_
  refine pl_nil ?_
  refine au_then ?_
  refine wp_seq ?_
  refine wp_seq ?_
  refine rg_lit ?_
  refine pl_val (want_no rfl) (some 17) rfl (.string key) (fun _ => by kernel_rfl) ?_
  refine pl_val (want_no rfl) (some 18) rfl (.int .i64 (key.size : Int)) (fun _ => by kernel_rfl) ?_
  refine pl_val (want_no rfl) (some 19) rfl (.bool false) (fun w => Eq.trans (b := .ok (.value (.bool (!(decide ((key.size : Int) = 32))))) w) (by kernel_rfl) (by rw [decide_eq_true (by omega)]; rfl)) ?_
  refine pl_val (want_no rfl) (some 20) rfl (.bool false) (fun _ => by kernel_rfl) ?_
  refine pl_val (want_on 3 false rfl 20 rfl (by kernel_rfl)) (some 21) rfl (.string o) (fun _ => by kernel_rfl) ?_
  refine pl_val (want_on 3 false rfl 20 rfl (by kernel_rfl)) (some 22) rfl (.int .i64 (o.size : Int)) (fun _ => by kernel_rfl) ?_
  refine pl_val (want_on 3 false rfl 20 rfl (by kernel_rfl)) (some 23) rfl (.bool true) (fun w => Eq.trans (b := .ok (.value (.bool (decide ((256 : Int) < (o.size : Int))))) w) (by kernel_rfl) (by rw [decide_eq_true (by omega)])) ?_
  refine pl_val (want_no rfl) (some 24) rfl (.bool true) (fun _ => by kernel_rfl) ?_
  refine pl_nil ?_
  refine au_then ?_
  refine wp_cond_true (by kernel_rfl) ?_
  refine wp_seq ?_
  refine rg_lit ?_
  refine pl_call M (want_no rfl) (some 25) rfl 6 #[] (.bool true) (fun _ => by kernel_rfl) (fun w M => c_alive w M.laid) ?_
  intro u1 M
  refine pl_val (want_no rfl) (some 6) rfl (.bool true) (fun _ => by kernel_rfl) ?_
  refine pl_nil ?_
  refine au_then ?_
  refine wp_ret ?_
  refine au_then_ret ?_
  exact bodyPost_ret (v := .bool true) (results_tmp1 Try.results4 _ _ _ (by kernel_rfl)) (by kernel_rfl) ⟨rfl, below_grown M.old⟩

set_option maxRecDepth 100000 in
set_option maxHeartbeats 4000000 in
theorem peC (key : ByteArray) (n : Nat) (o : ByteArray) (hn : n < 256) (h : key.size = 32) (h2 : ¬ 256 < o.size) (w : World) (hL : Laid w)  :
    Calls Try.prog 4 #[.string key, .int .u8 (n : Int), .string o] w fun r w' => r = .returned (.bool true) ∧ Below w.heap.size w w' := by
  go_enter Try.func4, Try.ntmps4
  have M := Mem.start hL
  refine wp_seq ?_
  refine rg_lit ?_
  refine pl_val (want_no rfl) (some 6) rfl (.bool false) (fun _ => by kernel_rfl) ?_
  refine pl_nil ?_
  refine au_then ?_
  refine wp_seq ?_
  refine wp_seq ?_
  refine rg_lit ?_
  refine pl_val (want_no rfl) (some 17) rfl (.string key) (fun _ => by kernel_rfl) ?_
  refine pl_val (want_no rfl) (some 18) rfl (.int .i64 (key.size : Int)) (fun _ => by kernel_rfl) ?_
  refine pl_val (want_no rfl) (some 19) rfl (.bool false) (fun w => Eq.trans (b := .ok (.value (.bool (!(decide ((key.size : Int) = 32))))) w) (by kernel_rfl) (by rw [decide_eq_true (by omega)]; rfl)) ?_
  refine pl_val (want_no rfl) (some 20) rfl (.bool false) (fun _ => by kernel_rfl) ?_
  refine pl_val (want_on 3 false rfl 20 rfl (by kernel_rfl)) (some 21) rfl (.string o) (fun _ => by kernel_rfl) ?_
  refine pl_val (want_on 3 false rfl 20 rfl (by kernel_rfl)) (some 22) rfl (.int .i64 (o.size : Int)) (fun _ => by kernel_rfl) ?_
  refine pl_val (want_on 3 false rfl 20 rfl (by kernel_rfl)) (some 23) rfl (.bool false) (fun w => Eq.trans (b := .ok (.value (.bool (decide ((256 : Int) < (o.size : Int))))) w) (by kernel_rfl) (by rw [decide_eq_false (by omega)])) ?_
  refine pl_val (want_no rfl) (some 24) rfl (.bool false) (fun _ => by kernel_rfl) ?_
  refine pl_nil ?_
  refine au_then ?_
  refine wp_cond_false (by kernel_rfl) ?_
  refine wp_skip ?_
  refine au_then ?_
  refine wp_seq ?_
  refine rg_lit ?_
  refine pl_val (want_no rfl) (some 7) rfl (.string ⟨#[]⟩) (fun _ => by kernel_rfl) ?_
  refine pl_nil ?_
  refine au_then ?_
  refine wp_seq ?_
  refine wp_seq ?_
  refine rg_lit ?_
  refine pl_val (want_no rfl) (some 8) rfl (.int .i64 0) (fun _ => by kernel_rfl) ?_
  refine pl_nil ?_
  refine au_then ?_
  refine wp_block ?_
  refine au_loop (fun j a w' => ∃ v1 : Nat → Value, a = ⟨#[.string key, .int .u8 (n : Int), .string o, undef, undef, undef, .bool false, .string (f8S j), .int .i64 (j : Int), undef, undef, undef, undef, undef, undef, undef, undef, .string key, .int .i64 (key.size : Int), .bool false, .bool false, .string o, .int .i64 (o.size : Int), .bool false, .bool false, undef, v1 26, v1 27, v1 28, v1 29, v1 30, v1 31, v1 32, v1 33, v1 34, undef, undef, undef, undef, undef, undef, undef, undef, undef, undef, undef, undef, undef, undef, undef, undef, undef, undef, undef, undef, undef, undef, undef, undef, undef, undef, undef, undef, undef, undef, undef, undef, undef, undef, undef, undef, undef, undef, undef, undef, undef, undef, undef, undef, undef, undef, undef, undef, undef, undef, undef, undef, undef, undef, undef, undef, undef, undef], []⟩ ∧ Mem ⟨w, []⟩ [] w') (n % 40) ⟨fun k_ => ([undef, undef, undef, undef, undef, undef, undef, undef, undef] : List Value).getD (k_ - 26) undef, by kernel_rfl, M⟩ ?_ ?_
  · intro j a u0 hj hI
    obtain ⟨v1, rfl, M⟩ := hI
    refine wp_seq ?_
    refine wp_seq ?_
    refine rg_lit ?_
    refine pl_val (want_no rfl) (some 26) rfl (.int .i64 (j : Int)) (fun _ => by kernel_rfl) ?_
    refine pl_val (want_no rfl) (some 27) rfl (.int .u8 (n : Int)) (fun _ => by kernel_rfl) ?_
    refine pl_val (want_no rfl) (some 28) rfl (.int .i64 ((n : Nat) : Int)) (fun w => Eq.trans (b := .ok (.value (.int .i64 (cv .i64 (n : Int)))) w) (by kernel_rfl) (by rw [cvi64 n hn])) ?_
    refine pl_val (want_no rfl) (some 29) rfl (.int .i64 ((n % 40 : Nat) : Int)) (fun w => Eq.trans (b := .ok (.value (.int .i64 (Int.tmod ((n : Nat) : Int) 40))) w) (by kernel_rfl) (by rw [rem40 (n)])) ?_
    refine pl_val (want_no rfl) (some 30) rfl (.bool true) (fun w => Eq.trans (b := .ok (.value (.bool (decide ((j : Int) < ((n % 40 : Nat) : Int))))) w) (by kernel_rfl) (by rw [decide_eq_true (by omega)])) ?_
    refine pl_nil ?_
    refine au_then ?_
    refine wp_cond_true (by kernel_rfl) ?_
    refine wp_skip ?_
    refine au_then ?_
    refine wp_seq ?_
    refine wp_block ?_
    refine rg_lit ?_
    refine pl_val (want_no rfl) (some 33) rfl (.string (f8S j)) (fun _ => by kernel_rfl) ?_
    refine pl_val (want_no rfl) (some 34) rfl (.string (f8S (j + 1))) (run_cat 9 9 _ _ rfl (f8S j) f8 (by kernel_rfl) (by kernel_rfl) (by rw [f8S_size]; show 8 * j + 8 ≤ _; omega)) ?_
    refine pl_val (want_no rfl) (some 7) rfl (.string (f8S (j + 1))) (fun _ => by kernel_rfl) ?_
    refine pl_nil ?_
    refine au_block ?_
    refine au_then ?_
    refine rg_lit ?_
    refine pl_val (want_no rfl) (some 31) rfl (.int .i64 (j : Int)) (fun _ => by kernel_rfl) ?_
    refine pl_val (want_no rfl) (some 32) rfl (.int .i64 ((j + 1 : Nat) : Int)) (fun w => Eq.trans (b := .ok (.value (.int .i64 (IntKind.wrap .i64 ((j : Int) + 1)))) w) (by kernel_rfl) (by rw [wrap64 (by omega) (by omega)]; congr 3)) ?_
    refine pl_val (want_no rfl) (some 8) rfl (.int .i64 ((j + 1 : Nat) : Int)) (fun _ => by kernel_rfl) ?_
    refine pl_nil ?_
    refine au_then ?_
    exact ⟨fun k_ => ([.int .i64 (j : Int), .int .u8 (n : Int), .int .i64 ((n : Nat) : Int), .int .i64 ((n % 40 : Nat) : Int), .bool true, .int .i64 (j : Int), .int .i64 ((j + 1 : Nat) : Int), .string (f8S j), .string (f8S (j + 1))] : List Value).getD (k_ - 26) undef, by kernel_rfl, M⟩
  · intro a u0 hI
    obtain ⟨v1, rfl, M⟩ := hI
    refine wp_seq ?_
    refine wp_seq ?_
    refine rg_lit ?_
    refine pl_val (want_no rfl) (some 26) rfl (.int .i64 (((n % 40) : Nat) : Int)) (fun _ => by kernel_rfl) ?_
    refine pl_val (want_no rfl) (some 27) rfl (.int .u8 (n : Int)) (fun _ => by kernel_rfl) ?_
    refine pl_val (want_no rfl) (some 28) rfl (.int .i64 ((n : Nat) : Int)) (fun w => Eq.trans (b := .ok (.value (.int .i64 (cv .i64 (n : Int)))) w) (by kernel_rfl) (by rw [cvi64 n hn])) ?_
    refine pl_val (want_no rfl) (some 29) rfl (.int .i64 ((n % 40 : Nat) : Int)) (fun w => Eq.trans (b := .ok (.value (.int .i64 (Int.tmod ((n : Nat) : Int) 40))) w) (by kernel_rfl) (by rw [rem40 (n)])) ?_
    refine pl_val (want_no rfl) (some 30) rfl (.bool false) (fun w => Eq.trans (b := .ok (.value (.bool (decide (((n % 40 : Nat) : Int) < ((n % 40 : Nat) : Int))))) w) (by kernel_rfl) (by rw [decide_eq_false (by omega)])) ?_
    refine pl_nil ?_
    refine au_then ?_
    refine wp_cond_false (by kernel_rfl) ?_
    refine wp_exit ?_
    refine au_then_exit ?_
    refine au_then_exit ?_
    refine au_block_exit ?_
    refine au_then ?_
    refine wp_seq ?_
    refine rg_lit ?_
    refine pl_val (want_no rfl) (some 35) rfl (.string (f8S (n % 40))) (fun _ => by kernel_rfl) ?_
    refine pl_val (want_no rfl) (some 36) rfl (.string o) (fun _ => by kernel_rfl) ?_
    refine pl_val (want_no rfl) (some 37) rfl (.string (eS n o)) (run_cat 9 9 _ _ rfl (f8S (n % 40)) o (by kernel_rfl) (by kernel_rfl) (by rw [f8S_size]; omega)) ?_
    refine pl_val (want_no rfl) (some 7) rfl (.string (eS n o)) (fun _ => by kernel_rfl) ?_
    refine pl_nil ?_
    refine au_then ?_
    refine wp_seq ?_
    refine rg_lit ?_
    refine pl_val (want_no rfl) (some 39) rfl (.string key) (fun _ => by kernel_rfl) ?_
    refine pl_val (want_no rfl) (some 40) rfl (.string (eS n o)) (fun _ => by kernel_rfl) ?_
    refine pl_call M (want_no rfl) (some 41) rfl 7 #[.string key, .string (eS n o)] (.tuple #[.string (tagS key (eS n o)), .int .i64 0]) (fun _ => by kernel_rfl) (fun w M => c_Tag key (eS n o) h (eS_size n o (by omega)) w M.laid) ?_
    intro u1 M
    refine pl_val (want_no rfl) (some 38) rfl (.tuple #[.string (tagS key (eS n o)), .int .i64 0]) (fun _ => by kernel_rfl) ?_
    refine pl_val (want_no rfl) (some 42) rfl (.string (tagS key (eS n o))) (fun _ => by kernel_rfl) ?_
    refine pl_val (want_no rfl) (some 43) rfl (.int .i64 0) (fun _ => by kernel_rfl) ?_
    refine pl_val (want_no rfl) (some 9) rfl (.string (tagS key (eS n o))) (fun _ => by kernel_rfl) ?_
    refine pl_val (want_no rfl) (some 10) rfl (.int .i64 0) (fun _ => by kernel_rfl) ?_
    refine pl_nil ?_
    refine au_then ?_
    refine wp_seq ?_
    refine rg_lit ?_
    refine pl_val (want_no rfl) (some 45) rfl (.string key) (fun _ => by kernel_rfl) ?_
    refine pl_val (want_no rfl) (some 46) rfl (.string (eS n o)) (fun _ => by kernel_rfl) ?_
    refine pl_call M (want_no rfl) (some 47) rfl 8 #[.string key, .string (eS n o)] (.tuple #[.string (tagS key (eS n o)), .int .i64 0]) (fun _ => by kernel_rfl) (fun w M => d_Tag key (eS n o) h (eS_size n o (by omega)) w M.laid) ?_
    intro u2 M
    refine pl_val (want_no rfl) (some 44) rfl (.tuple #[.string (tagS key (eS n o)), .int .i64 0]) (fun _ => by kernel_rfl) ?_
    refine pl_val (want_no rfl) (some 48) rfl (.string (tagS key (eS n o))) (fun _ => by kernel_rfl) ?_
    refine pl_val (want_no rfl) (some 49) rfl (.int .i64 0) (fun _ => by kernel_rfl) ?_
    refine pl_val (want_no rfl) (some 11) rfl (.string (tagS key (eS n o))) (fun _ => by kernel_rfl) ?_
    refine pl_val (want_no rfl) (some 12) rfl (.int .i64 0) (fun _ => by kernel_rfl) ?_
    refine pl_nil ?_
    refine au_then ?_
    refine wp_seq ?_
    refine rg_held M [] 12 rfl (by kernel_rfl) (by kernel_rfl) (fun _ _ d _ _ h => by cases d <;> exact h) ?_
    intro u3 M
    replace M : Mem ⟨w, []⟩ [] u3 := M
    refine hl_val M 3 rfl (by decide) (by kernel_rfl) (by kernel_rfl) (want_no rfl) (some 54) rfl (.string key) (fun _ _ => by kernel_rfl) ?_
    refine hl_val M 4 rfl (by decide) (by kernel_rfl) (by kernel_rfl) (want_no rfl) (some 55) rfl (.string (key.extract 16 key.size)) (fun w _ => (run_strl 9 Try.underlying9 _ _ rfl key (by kernel_rfl) .i64 16 (by kernel_rfl) (by omega) _ rfl) w) ?_
    refine hl_val M 6 rfl (by decide) (by kernel_rfl) (by kernel_rfl) (want_no rfl) (some 57) rfl (.string (eS n o)) (fun _ _ => by kernel_rfl) ?_
    refine hl_one 0 (by decide) (by kernel_rfl) rfl ?_
    refine pl_mk M (want_no rfl) (some 51) rfl (fun g1 => .slice (some ⟨g1, 0, none⟩) 15 15) (.cells (av 15 (w8 (fun _ => 0))) 5) (fun _ => by kernel_rfl) ?_
    intro g1 u4 M
    replace M : Mem ⟨w, []⟩ [⟨g1, .cells (av 15 (w8 (fun _ => 0))) 5⟩] u4 := M
    refine pl_nil ?_
    refine au_then ?_
    refine ⟨(M.drop (.cons _ (.slnil))), ?_⟩
    refine hl_one 1 (by decide) (by kernel_rfl) rfl ?_
    refine pl_back M (want_no rfl) (some 52) rfl _ rfl 0 g1 15 15 (by kernel_rfl) _ rfl ((List.range 15).map fun _ => 0) 15 (sb_av 15 _ _) (by simp) (z_nn _) ?_
    refine pl_nil ?_
    refine au_then ?_
    refine ⟨(M.drop (.cons _ (.slnil))), ?_⟩
    refine hl_val (M.drop (.cons _ (.slnil))) 2 rfl (by decide) (by kernel_rfl) (by kernel_rfl) (want_no rfl) (some 53) rfl (.string (b1 1 ++ zB 15)) (fun w _ => (run_cat 9 9 _ _ rfl (b1 1) (zB 15) (by kernel_rfl) (by kernel_rfl) (by rw [zB_size]; decide)) w) ?_
    refine hl_val (M.drop (.cons _ (.slnil))) 5 rfl (by decide) (by kernel_rfl) (by kernel_rfl) (want_no rfl) (some 56) rfl (.string (k1S key)) (fun w _ => (run_cat 9 9 _ _ rfl (b1 1 ++ zB 15) (key.extract 16 key.size) (by kernel_rfl) (by kernel_rfl) (by rw [ByteArray.size_append, zB_size, ByteArray.size_extract]; show 1 + 15 + _ ≤ _; omega)) w) ?_
    refine hl_one 7 (by decide) (by kernel_rfl) rfl ?_
    refine pl_call M (want_no rfl) (some 58) rfl 7 #[.string (k1S key), .string (eS n o)] (.tuple #[.string (tagS (k1S key) (eS n o)), .int .i64 0]) (fun _ => by kernel_rfl) (fun w M => c_Tag (k1S key) (eS n o) (k1S_size key h) (eS_size n o (by omega)) w M.laid) ?_
    intro u5 M
    refine pl_nil ?_
    refine au_then ?_
    refine ⟨(M.drop (.cons _ (.slnil))), ?_⟩
    refine hl_val (M.drop (.cons _ (.slnil))) 8 rfl (by decide) (by kernel_rfl) (by kernel_rfl) (want_no rfl) (some 50) rfl (.tuple #[.string (tagS (k1S key) (eS n o)), .int .i64 0]) (fun _ _ => by kernel_rfl) ?_
    refine hl_val (M.drop (.cons _ (.slnil))) 9 rfl (by decide) (by kernel_rfl) (by kernel_rfl) (want_no rfl) (some 59) rfl (.string (tagS (k1S key) (eS n o))) (fun _ _ => by kernel_rfl) ?_
    refine hl_val (M.drop (.cons _ (.slnil))) 10 rfl (by decide) (by kernel_rfl) (by kernel_rfl) (want_no rfl) (some 60) rfl (.int .i64 0) (fun _ _ => by kernel_rfl) ?_
    refine hl_val (M.drop (.cons _ (.slnil))) 11 rfl (by decide) (by kernel_rfl) (by kernel_rfl) (want_no rfl) (some 13) rfl (.string (tagS (k1S key) (eS n o))) (fun _ _ => by kernel_rfl) ?_
    refine hl_end (by kernel_rfl) (by kernel_rfl) rfl ?_
    refine pl_val (want_no rfl) (some 14) rfl (.int .i64 0) (fun _ => by kernel_rfl) ?_
    refine pl_nil ?_
    refine au_then ?_
    refine au_then ?_
    refine wp_seq ?_
    refine rg_held M [⟨g1, .cells (av 15 (w8 (fun _ => 0))) 5⟩] 12 rfl (by kernel_rfl) (by kernel_rfl) (fun _ _ d _ _ h => by cases d <;> exact h) ?_
    intro u6 M
    replace M : Mem ⟨w, []⟩ [⟨g1, .cells (av 15 (w8 (fun _ => 0))) 5⟩] u6 := M
    refine hl_val M 3 rfl (by decide) (by kernel_rfl) (by kernel_rfl) (want_no rfl) (some 65) rfl (.string key) (fun _ _ => by kernel_rfl) ?_
    refine hl_val M 4 rfl (by decide) (by kernel_rfl) (by kernel_rfl) (want_no rfl) (some 66) rfl (.string (key.extract 16 key.size)) (fun w _ => (run_strl 9 Try.underlying9 _ _ rfl key (by kernel_rfl) .i64 16 (by kernel_rfl) (by omega) _ rfl) w) ?_
    refine hl_val M 6 rfl (by decide) (by kernel_rfl) (by kernel_rfl) (want_no rfl) (some 68) rfl (.string (eS n o)) (fun _ _ => by kernel_rfl) ?_
    refine hl_one 0 (by decide) (by kernel_rfl) rfl ?_
    refine pl_mk M (want_no rfl) (some 62) rfl (fun g2 => .slice (some ⟨g2, 0, none⟩) 15 15) (.cells (av 15 (w8 (fun _ => 0))) 5) (fun _ => by kernel_rfl) ?_
    intro g2 u7 M
    replace M : Mem ⟨w, []⟩ [⟨g1, .cells (av 15 (w8 (fun _ => 0))) 5⟩, ⟨g2, .cells (av 15 (w8 (fun _ => 0))) 5⟩] u7 := M
    refine pl_nil ?_
    refine au_then ?_
    refine ⟨(M.drop (.cons_cons _ (.cons _ (.slnil)))), ?_⟩
    refine hl_one 1 (by decide) (by kernel_rfl) rfl ?_
    refine pl_back M (want_no rfl) (some 63) rfl _ rfl 1 g2 15 15 (by kernel_rfl) _ rfl ((List.range 15).map fun _ => 0) 15 (sb_av 15 _ _) (by simp) (z_nn _) ?_
    refine pl_nil ?_
    refine au_then ?_
    refine ⟨(M.drop (.cons_cons _ (.cons _ (.slnil)))), ?_⟩
    refine hl_val (M.drop (.cons_cons _ (.cons _ (.slnil)))) 2 rfl (by decide) (by kernel_rfl) (by kernel_rfl) (want_no rfl) (some 64) rfl (.string (b1 1 ++ zB 15)) (fun w _ => (run_cat 9 9 _ _ rfl (b1 1) (zB 15) (by kernel_rfl) (by kernel_rfl) (by rw [zB_size]; decide)) w) ?_
    refine hl_val (M.drop (.cons_cons _ (.cons _ (.slnil)))) 5 rfl (by decide) (by kernel_rfl) (by kernel_rfl) (want_no rfl) (some 67) rfl (.string (k1S key)) (fun w _ => (run_cat 9 9 _ _ rfl (b1 1 ++ zB 15) (key.extract 16 key.size) (by kernel_rfl) (by kernel_rfl) (by rw [ByteArray.size_append, zB_size, ByteArray.size_extract]; show 1 + 15 + _ ≤ _; omega)) w) ?_
    refine hl_one 7 (by decide) (by kernel_rfl) rfl ?_
    refine pl_call M (want_no rfl) (some 69) rfl 8 #[.string (k1S key), .string (eS n o)] (.tuple #[.string (tagS (k1S key) (eS n o)), .int .i64 0]) (fun _ => by kernel_rfl) (fun w M => d_Tag (k1S key) (eS n o) (k1S_size key h) (eS_size n o (by omega)) w M.laid) ?_
    intro u8 M
    refine pl_nil ?_
    refine au_then ?_
    refine ⟨(M.drop (.cons_cons _ (.cons _ (.slnil)))), ?_⟩
    refine hl_val (M.drop (.cons_cons _ (.cons _ (.slnil)))) 8 rfl (by decide) (by kernel_rfl) (by kernel_rfl) (want_no rfl) (some 61) rfl (.tuple #[.string (tagS (k1S key) (eS n o)), .int .i64 0]) (fun _ _ => by kernel_rfl) ?_
    refine hl_val (M.drop (.cons_cons _ (.cons _ (.slnil)))) 9 rfl (by decide) (by kernel_rfl) (by kernel_rfl) (want_no rfl) (some 70) rfl (.string (tagS (k1S key) (eS n o))) (fun _ _ => by kernel_rfl) ?_
    refine hl_val (M.drop (.cons_cons _ (.cons _ (.slnil)))) 10 rfl (by decide) (by kernel_rfl) (by kernel_rfl) (want_no rfl) (some 71) rfl (.int .i64 0) (fun _ _ => by kernel_rfl) ?_
    refine hl_val (M.drop (.cons_cons _ (.cons _ (.slnil)))) 11 rfl (by decide) (by kernel_rfl) (by kernel_rfl) (want_no rfl) (some 15) rfl (.string (tagS (k1S key) (eS n o))) (fun _ _ => by kernel_rfl) ?_
    refine hl_end (by kernel_rfl) (by kernel_rfl) rfl ?_
    refine pl_val (want_no rfl) (some 16) rfl (.int .i64 0) (fun _ => by kernel_rfl) ?_
    refine pl_nil ?_
    refine au_then ?_
    refine au_then ?_
    refine wp_seq ?_
    refine rg_lit ?_
    refine pl_val (want_no rfl) (some 72) rfl (.string (tagS key (eS n o))) (fun _ => by kernel_rfl) ?_
    refine pl_val (want_no rfl) (some 73) rfl (.string (tagS key (eS n o))) (fun _ => by kernel_rfl) ?_
    refine pl_val (want_no rfl) (some 74) rfl (.bool true) (fun w => Eq.trans (b := .ok (.value (.bool ((tagS key (eS n o)).toList == (tagS key (eS n o)).toList))) w) (by kernel_rfl) (by rw [beq_self_eq_true])) ?_
    refine pl_val (want_no rfl) (some 75) rfl (.bool true) (fun _ => by kernel_rfl) ?_
    refine pl_val (want_on 3 true rfl 75 rfl (by kernel_rfl)) (some 76) rfl (.int .i64 0) (fun _ => by kernel_rfl) ?_
    refine pl_val (want_on 3 true rfl 75 rfl (by kernel_rfl)) (some 77) rfl (.int .i64 0) (fun _ => by kernel_rfl) ?_
    refine pl_val (want_on 3 true rfl 75 rfl (by kernel_rfl)) (some 78) rfl (.bool true) (fun _ => by kernel_rfl) ?_
    refine pl_val (want_no rfl) (some 79) rfl (.bool true) (fun _ => by kernel_rfl) ?_
    refine pl_val (want_no rfl) (some 80) rfl (.bool true) (fun _ => by kernel_rfl) ?_
    refine pl_val (want_on 8 true rfl 80 rfl (by kernel_rfl)) (some 81) rfl (.string (tagS (k1S key) (eS n o))) (fun _ => by kernel_rfl) ?_
    refine pl_val (want_on 8 true rfl 80 rfl (by kernel_rfl)) (some 82) rfl (.string (tagS (k1S key) (eS n o))) (fun _ => by kernel_rfl) ?_
    refine pl_val (want_on 8 true rfl 80 rfl (by kernel_rfl)) (some 83) rfl (.bool true) (fun w => Eq.trans (b := .ok (.value (.bool ((tagS (k1S key) (eS n o)).toList == (tagS (k1S key) (eS n o)).toList))) w) (by kernel_rfl) (by rw [beq_self_eq_true])) ?_
    refine pl_val (want_no rfl) (some 84) rfl (.bool true) (fun _ => by kernel_rfl) ?_
    refine pl_val (want_no rfl) (some 85) rfl (.bool true) (fun _ => by kernel_rfl) ?_
    refine pl_val (want_on 13 true rfl 85 rfl (by kernel_rfl)) (some 86) rfl (.int .i64 0) (fun _ => by kernel_rfl) ?_
    refine pl_val (want_on 13 true rfl 85 rfl (by kernel_rfl)) (some 87) rfl (.int .i64 0) (fun _ => by kernel_rfl) ?_
    refine pl_val (want_on 13 true rfl 85 rfl (by kernel_rfl)) (some 88) rfl (.bool true) (fun _ => by kernel_rfl) ?_
    refine pl_val (want_no rfl) (some 89) rfl (.bool true) (fun _ => by kernel_rfl) ?_
    refine pl_val (want_no rfl) (some 90) rfl (.bool true) (fun _ => by kernel_rfl) ?_
    refine pl_call M (want_on 18 true rfl 90 rfl (by kernel_rfl)) (some 91) rfl 6 #[] (.bool true) (fun _ => by kernel_rfl) (fun w M => c_alive w M.laid) ?_
    intro u9 M
    refine pl_val (want_no rfl) (some 92) rfl (.bool true) (fun _ => by kernel_rfl) ?_
    refine pl_val (want_no rfl) (some 6) rfl (.bool true) (fun _ => by kernel_rfl) ?_
    refine pl_nil ?_
    refine au_then ?_
    refine wp_ret ?_
    exact bodyPost_ret (v := .bool true) (results_tmp1 Try.results4 _ _ _ (by kernel_rfl)) (by kernel_rfl) ⟨rfl, below_grown M.old⟩

theorem c_ends (key : ByteArray) (n : Int) (h0 : 0 ≤ n) (h1 : n < 256) (o : ByteArray) (w : World) (hL : Laid w) : Calls Try.prog 4 #[.string key, .int .u8 n, .string o] w fun r w' => r = .returned (.bool true) ∧ Below w.heap.size w w' := by
  obtain ⟨n, rfl⟩ : ∃ m : Nat, n = (m : Int) := ⟨n.toNat, by omega⟩
  by_cases h : key.size = 32
  · by_cases h2 : 256 < o.size
    · exact peB key n o h h2 w hL
    · exact peC key n o (by omega) h h2 w hL
  · exact peA key n o h w hL

end Go.Proofs.Ytjfnfkphckimdaa
