/- What is turned twice is the text; parts of it are turned as the whole is: the walk of ChachaBack. -/
import Derived.Test.YtenkabhnlidglaaDoorC10
namespace Go.Proofs.YtenkabhnlidglaaDoor
open Go.RowKit

theorem xb_xb (x k : Int) (h0 : 0 ≤ x) (h1 : x < 256) : xb (xb x k) k = x := by
  obtain ⟨a, rfl⟩ : ∃ a : Nat, x = (a : Int) := ⟨x.toNat, by omega⟩
  have hw : ∀ b : BitVec 8, IntKind.wrap .u8 (b.toNat : Int) = (b.toNat : Int) := fun b => by
    have := b.isLt
    simp [IntKind.wrap, IntKind.signed, IntKind.bits]
    omega
  have ho : ∀ b : BitVec 8, BitVec.ofInt 8 (b.toNat : Int) = b := fun b => by
    apply BitVec.eq_of_toNat_eq
    rw [BitVec.toNat_ofInt]
    have := b.isLt
    omega
  unfold xb
  rw [hw, hw, ho, BitVec.xor_assoc, BitVec.xor_self, BitVec.xor_zero, BitVec.toNat_ofInt]
  omega
theorem bt_oS (f : Nat → Int) (s : ByteArray) (i : Nat) (h : i < s.size) : bt (oS f s) i = ob f s i := by
  rw [oS_bs, bt_bs _ (fun x hx => by obtain ⟨j, _, rfl⟩ := List.mem_map.1 hx; exact ob_nn f s j), List.getD_eq_getElem?_getD, List.getElem?_map, List.getElem?_range h]
  rfl
theorem sb_map (s : ByteArray) : sb s = (List.range s.size).map (bt s) := by
  rw [dl_zero s (bt s)]
  exact List.map_congr_left fun i _ => if_neg (by omega)
/-- What is turned twice is the text. -/
theorem oS_oS (f : Nat → Int) (s : ByteArray) : oS f (oS f s) = s := by
  rw [oS_bs, oS_size]
  have e : (List.range s.size).map (ob f (oS f s)) = (List.range s.size).map (bt s) := List.map_congr_left fun i hi => by
    have hb := bt_nn s i
    show xb (bt (oS f s) i) (bl (sw f (i / 64)) (i % 64)) = _
    rw [bt_oS f s i (List.mem_range.1 hi)]
    exact xb_xb _ _ hb.1 hb.2
  rw [e, ← sb_map, bs_sb]
theorem bs_append (l m : List Int) : bs (l ++ m) = bs l ++ bs m := by
  apply ByteArray.ext
  rw [ByteArray.data_append]
  unfold bs
  simp
theorem range_cut (g : Nat → Int) (a b : Nat) : (List.range (a + b)).map g = (List.range a).map g ++ (List.range b).map (fun i => g (a + i)) := by
  induction b with
  | zero => simp
  | succ b ih => rw [← Nat.add_assoc, List.range_succ, List.map_append, ih, List.range_succ, List.map_append, List.append_assoc]; rfl
theorem ext0_size (s : ByteArray) (p : Nat) (h : p ≤ s.size) : (s.extract 0 p).size = p := by
  rw [ByteArray.size_extract]
  omega
theorem ext_all (s : ByteArray) : s.extract 0 s.size = s := by
  apply ByteArray.ext
  rw [ByteArray.data_extract]
  show s.data.extract 0 s.data.size = s.data
  simp
theorem ext_none (s : ByteArray) : s.extract s.size s.size = ⟨#[]⟩ := by
  apply ByteArray.ext
  rw [ByteArray.data_extract]
  simp
/-- Parts of a text, cut at a block's end, are turned as the whole is. -/
theorem oS_cut (key nonce : ByteArray) (n : Nat) (hn : n < 4294967296) (s : ByteArray) (q m : Nat) (hq : 64 * q ≤ s.size) (hm : va (n : Int) (q : Int) = (m : Int)) (hm1 : m < 4294967296) : oS (fw key nonce (n : Int)) (s.extract 0 (64 * q)) ++ oS (fw key nonce (m : Int)) (s.extract (64 * q) s.size) = oS (fw key nonce (n : Int)) s := by
  rw [oS_bs, oS_bs, oS_bs, ext0_size s _ hq, ext_size, ← bs_append]
  refine congrArg bs ?_
  rw [show s.size = 64 * q + (s.size - 64 * q) by omega, range_cut]
  rw [← show s.size = 64 * q + (s.size - 64 * q) by omega]
  refine congr (congrArg HAppend.hAppend ?_) ?_
  · refine List.map_congr_left fun i hi => ?_
    have hi := List.mem_range.1 hi
    unfold ob
    rw [bt_sub _ _ _ _ (by omega) (by omega), Nat.zero_add]
  · refine List.map_congr_left fun i _ => ?_
    unfold ob
    rw [bt_ext, show (64 * q + i) / 64 = q + i / 64 by omega, show (64 * q + i) % 64 = i % 64 by omega, sw_fw _ _ _ (by omega) (by omega), sw_fw _ _ _ (by omega) (by omega)]
    refine congrArg (fun x => xb (bt s (64 * q + i)) (bl (fw key nonce x) (i % 64))) ?_
    rw [← hm, va_eq, va_eq, va_eq]
    omega
/-- The lowest eight bits. -/
def lw (c : Int) : Int := IntKind.wrap .i64 (BitVec.ofInt 64 c &&& BitVec.ofInt 64 255).toNat
theorem lw_nat (c : Int) : ∃ m : Nat, m ≤ 255 ∧ lw c = (m : Int) := by
  refine ⟨(BitVec.ofInt 64 c &&& BitVec.ofInt 64 255).toNat, ?_, ?_⟩
  · rw [BitVec.toNat_and]
    exact Nat.le_trans Nat.and_le_right (by decide)
  · have h : (BitVec.ofInt 64 c &&& BitVec.ofInt 64 255).toNat ≤ 255 := by
      rw [BitVec.toNat_and]
      exact Nat.le_trans Nat.and_le_right (by decide)
    unfold lw
    exact wrap64 (by omega) (by omega)
theorem nonempty_ne (s : ByteArray) (p : Nat) (h : p < s.size) : ((s.extract p s.size).toList == (⟨#[]⟩ : ByteArray).toList) = false := by
  refine beq_eq_false_iff_ne.2 fun e => ?_
  have h1 : s.extract p s.size = (⟨#[]⟩ : ByteArray) := by
    rw [ByteArray.toList_eq, ByteArray.toList_eq] at e
    apply ByteArray.ext
    exact Array.toList_inj.1 e
  have h2 := congrArg ByteArray.size h1
  rw [ext_size] at h2
  have h3 : s.size - p = 0 := h2
  omega

set_option maxRecDepth 100000 in
set_option maxHeartbeats 4000000 in
theorem bcA (key nonce : ByteArray) (n : Nat) (s : ByteArray) (ct : Int) (h : key.size ≠ 32) (w : World) (hL : Laid w)  :
    Calls Tryd.prog 5 #[.string key, .string nonce, .int .u32 (n : Int), .string s, .int .i64 ct] w fun r w' => r = .returned (.bool true) ∧ Below w.heap.size w w' := by
  go_enter Tryd.func5, Tryd.ntmps5
  have M := Mem.start hL
  refine wp_seq ?_
  refine rg_lit ?_
  refine pl_val (want_no rfl) (some 10) rfl (.bool false) (fun _ => by kernel_rfl) ?_
  refine pl_nil ?_
  refine au_then ?_
  refine wp_seq ?_
  refine wp_seq ?_
  refine rg_lit ?_
  refine pl_val (want_no rfl) (some 20) rfl (.string key) (fun _ => by kernel_rfl) ?_
  refine pl_val (want_no rfl) (some 21) rfl (.int .i64 (key.size : Int)) (fun _ => by kernel_rfl) ?_
  refine pl_val (want_no rfl) (some 22) rfl (.bool true) (fun w => Eq.trans (b := .ok (.value (.bool (!(decide ((key.size : Int) = 32))))) w) (by kernel_rfl) (by rw [decide_eq_false (by omega)]; rfl)) ?_
  refine pl_val (want_no rfl) (some 23) rfl (.bool true) (fun _ => by kernel_rfl) ?_
  refine pl_skip (want_off 3 false rfl 23 rfl (by kernel_rfl)) (some 24) rfl ?_
  refine pl_skip (want_off 3 false rfl 23 rfl (by kernel_rfl)) (some 25) rfl ?_
  refine pl_skip (want_off 3 false rfl 23 rfl (by kernel_rfl)) (some 26) rfl ?_
  refine pl_val (want_no rfl) (some 27) rfl (.bool true) (fun _ => by kernel_rfl) ?_
  refine pl_val (want_no rfl) (some 28) rfl (.bool true) (fun _ => by kernel_rfl) ?_
  refine pl_skip (want_off 8 false rfl 28 rfl (by kernel_rfl)) (some 29) rfl ?_
  refine pl_skip (want_off 8 false rfl 28 rfl (by kernel_rfl)) (some 30) rfl ?_
  refine pl_skip (want_off 8 false rfl 28 rfl (by kernel_rfl)) (some 31) rfl ?_
  refine pl_val (want_no rfl) (some 32) rfl (.bool true) (fun _ => by kernel_rfl) ?_
  refine pl_nil ?_
  refine au_then ?_
  refine wp_cond_true (by kernel_rfl) ?_
  refine wp_seq ?_
  refine rg_lit ?_
  refine pl_call M (want_no rfl) (some 33) rfl 6 #[] (.bool true) (fun _ => by kernel_rfl) (fun w M => c_alive w M.laid) ?_
  intro u1 M
  refine pl_val (want_no rfl) (some 10) rfl (.bool true) (fun _ => by kernel_rfl) ?_
  refine pl_nil ?_
  refine au_then ?_
  refine wp_ret ?_
  refine au_then_ret ?_
  exact bodyPost_ret (v := .bool true) (results_tmp1 Tryd.results5 _ _ _ (by kernel_rfl)) (by kernel_rfl) ⟨rfl, below_grown M.old⟩

set_option maxRecDepth 100000 in
set_option maxHeartbeats 4000000 in
theorem bcB (key nonce : ByteArray) (n : Nat) (s : ByteArray) (ct : Int) (h : key.size = 32) (h2 : nonce.size ≠ 12) (w : World) (hL : Laid w)  :
    Calls Tryd.prog 5 #[.string key, .string nonce, .int .u32 (n : Int), .string s, .int .i64 ct] w fun r w' => r = .returned (.bool true) ∧ Below w.heap.size w w' := by
  go_enter Tryd.func5, Tryd.ntmps5
  have M := Mem.start hL
  refine wp_seq ?_
  refine rg_lit ?_
  refine pl_val (want_no rfl) (some 10) rfl (.bool false) (fun _ => by kernel_rfl) ?_
  refine pl_nil ?_
  refine au_then ?_
  refine wp_seq ?_
  refine wp_seq ?_
  refine rg_lit ?_
  refine pl_val (want_no rfl) (some 20) rfl (.string key) (fun _ => by kernel_rfl) ?_
  refine pl_val (want_no rfl) (some 21) rfl (.int .i64 (key.size : Int)) (fun _ => by kernel_rfl) ?_
  refine pl_val (want_no rfl) (some 22) rfl (.bool false) (fun w => Eq.trans (b := .ok (.value (.bool (!(decide ((key.size : Int) = 32))))) w) (by kernel_rfl) (by rw [decide_eq_true (by omega)]; rfl)) ?_
  refine pl_val (want_no rfl) (some 23) rfl (.bool false) (fun _ => by kernel_rfl) ?_
  refine pl_val (want_on 3 false rfl 23 rfl (by kernel_rfl)) (some 24) rfl (.string nonce) (fun _ => by kernel_rfl) ?_
  refine pl_val (want_on 3 false rfl 23 rfl (by kernel_rfl)) (some 25) rfl (.int .i64 (nonce.size : Int)) (fun _ => by kernel_rfl) ?_
  refine pl_val (want_on 3 false rfl 23 rfl (by kernel_rfl)) (some 26) rfl (.bool true) (fun w => Eq.trans (b := .ok (.value (.bool (!(decide ((nonce.size : Int) = 12))))) w) (by kernel_rfl) (by rw [decide_eq_false (by omega)]; rfl)) ?_
  refine pl_val (want_no rfl) (some 27) rfl (.bool true) (fun _ => by kernel_rfl) ?_
  refine pl_val (want_no rfl) (some 28) rfl (.bool true) (fun _ => by kernel_rfl) ?_
  refine pl_skip (want_off 8 false rfl 28 rfl (by kernel_rfl)) (some 29) rfl ?_
  refine pl_skip (want_off 8 false rfl 28 rfl (by kernel_rfl)) (some 30) rfl ?_
  refine pl_skip (want_off 8 false rfl 28 rfl (by kernel_rfl)) (some 31) rfl ?_
  refine pl_val (want_no rfl) (some 32) rfl (.bool true) (fun _ => by kernel_rfl) ?_
  refine pl_nil ?_
  refine au_then ?_
  refine wp_cond_true (by kernel_rfl) ?_
  refine wp_seq ?_
  refine rg_lit ?_
  refine pl_call M (want_no rfl) (some 33) rfl 6 #[] (.bool true) (fun _ => by kernel_rfl) (fun w M => c_alive w M.laid) ?_
  intro u1 M
  refine pl_val (want_no rfl) (some 10) rfl (.bool true) (fun _ => by kernel_rfl) ?_
  refine pl_nil ?_
  refine au_then ?_
  refine wp_ret ?_
  refine au_then_ret ?_
  exact bodyPost_ret (v := .bool true) (results_tmp1 Tryd.results5 _ _ _ (by kernel_rfl)) (by kernel_rfl) ⟨rfl, below_grown M.old⟩

set_option maxRecDepth 100000 in
set_option maxHeartbeats 4000000 in
theorem bcC (key nonce : ByteArray) (n : Nat) (s : ByteArray) (ct : Int) (h : key.size = 32) (h2 : nonce.size = 12) (h3 : 4096 < s.size) (w : World) (hL : Laid w)  :
    Calls Tryd.prog 5 #[.string key, .string nonce, .int .u32 (n : Int), .string s, .int .i64 ct] w fun r w' => r = .returned (.bool true) ∧ Below w.heap.size w w' := by
  go_enter Tryd.func5, Tryd.ntmps5
  have M := Mem.start hL
  refine wp_seq ?_
  refine rg_lit ?_
  refine pl_val (want_no rfl) (some 10) rfl (.bool false) (fun _ => by kernel_rfl) ?_
  refine pl_nil ?_
  refine au_then ?_
  refine wp_seq ?_
  refine wp_seq ?_
  refine rg_lit ?_
  refine pl_val (want_no rfl) (some 20) rfl (.string key) (fun _ => by kernel_rfl) ?_
  refine pl_val (want_no rfl) (some 21) rfl (.int .i64 (key.size : Int)) (fun _ => by kernel_rfl) ?_
  refine pl_val (want_no rfl) (some 22) rfl (.bool false) (fun w => Eq.trans (b := .ok (.value (.bool (!(decide ((key.size : Int) = 32))))) w) (by kernel_rfl) (by rw [decide_eq_true (by omega)]; rfl)) ?_
  refine pl_val (want_no rfl) (some 23) rfl (.bool false) (fun _ => by kernel_rfl) ?_
  refine pl_val (want_on 3 false rfl 23 rfl (by kernel_rfl)) (some 24) rfl (.string nonce) (fun _ => by kernel_rfl) ?_
  refine pl_val (want_on 3 false rfl 23 rfl (by kernel_rfl)) (some 25) rfl (.int .i64 (nonce.size : Int)) (fun _ => by kernel_rfl) ?_
  refine pl_val (want_on 3 false rfl 23 rfl (by kernel_rfl)) (some 26) rfl (.bool false) (fun w => Eq.trans (b := .ok (.value (.bool (!(decide ((nonce.size : Int) = 12))))) w) (by kernel_rfl) (by rw [decide_eq_true (by omega)]; rfl)) ?_
  refine pl_val (want_no rfl) (some 27) rfl (.bool false) (fun _ => by kernel_rfl) ?_
  refine pl_val (want_no rfl) (some 28) rfl (.bool false) (fun _ => by kernel_rfl) ?_
  refine pl_val (want_on 8 false rfl 28 rfl (by kernel_rfl)) (some 29) rfl (.string s) (fun _ => by kernel_rfl) ?_
  refine pl_val (want_on 8 false rfl 28 rfl (by kernel_rfl)) (some 30) rfl (.int .i64 (s.size : Int)) (fun _ => by kernel_rfl) ?_
  refine pl_val (want_on 8 false rfl 28 rfl (by kernel_rfl)) (some 31) rfl (.bool true) (fun w => Eq.trans (b := .ok (.value (.bool (decide ((4096 : Int) < (s.size : Int))))) w) (by kernel_rfl) (by rw [decide_eq_true (by omega)])) ?_
  refine pl_val (want_no rfl) (some 32) rfl (.bool true) (fun _ => by kernel_rfl) ?_
  refine pl_nil ?_
  refine au_then ?_
  refine wp_cond_true (by kernel_rfl) ?_
  refine wp_seq ?_
  refine rg_lit ?_
  refine pl_call M (want_no rfl) (some 33) rfl 6 #[] (.bool true) (fun _ => by kernel_rfl) (fun w M => c_alive w M.laid) ?_
  intro u1 M
  refine pl_val (want_no rfl) (some 10) rfl (.bool true) (fun _ => by kernel_rfl) ?_
  refine pl_nil ?_
  refine au_then ?_
  refine wp_ret ?_
  refine au_then_ret ?_
  exact bodyPost_ret (v := .bool true) (results_tmp1 Tryd.results5 _ _ _ (by kernel_rfl)) (by kernel_rfl) ⟨rfl, below_grown M.old⟩

set_option maxRecDepth 100000 in
set_option maxHeartbeats 4000000 in
theorem bcD (key nonce : ByteArray) (n : Nat) (s : ByteArray) (ct : Int) (h3 : ¬ 4096 < s.size) (hm : key.size = 32 ∧ nonce.size = 12) (hn : n < 4294967296) (hl : 4294967296 < n + (s.size + 63) / 64) (w : World) (hL : Laid w)  :
    Calls Tryd.prog 5 #[.string key, .string nonce, .int .u32 (n : Int), .string s, .int .i64 ct] w fun r w' => r = .returned (.bool true) ∧ Below w.heap.size w w' := by
  go_enter Tryd.func5, Tryd.ntmps5
  have M := Mem.start hL
  have h : key.size = 32 := hm.1
  have h2 : nonce.size = 12 := hm.2
  refine wp_seq ?_
  refine rg_lit ?_
  refine pl_val (want_no rfl) (some 10) rfl (.bool false) (fun _ => by kernel_rfl) ?_
  refine pl_nil ?_
  refine au_then ?_
  refine wp_seq ?_
  refine wp_seq ?_
  refine rg_lit ?_
  refine pl_val (want_no rfl) (some 20) rfl (.string key) (fun _ => by kernel_rfl) ?_
  refine pl_val (want_no rfl) (some 21) rfl (.int .i64 (key.size : Int)) (fun _ => by kernel_rfl) ?_
  refine pl_val (want_no rfl) (some 22) rfl (.bool false) (fun w => Eq.trans (b := .ok (.value (.bool (!(decide ((key.size : Int) = 32))))) w) (by kernel_rfl) (by rw [decide_eq_true (by omega)]; rfl)) ?_
  refine pl_val (want_no rfl) (some 23) rfl (.bool false) (fun _ => by kernel_rfl) ?_
  refine pl_val (want_on 3 false rfl 23 rfl (by kernel_rfl)) (some 24) rfl (.string nonce) (fun _ => by kernel_rfl) ?_
  refine pl_val (want_on 3 false rfl 23 rfl (by kernel_rfl)) (some 25) rfl (.int .i64 (nonce.size : Int)) (fun _ => by kernel_rfl) ?_
  refine pl_val (want_on 3 false rfl 23 rfl (by kernel_rfl)) (some 26) rfl (.bool false) (fun w => Eq.trans (b := .ok (.value (.bool (!(decide ((nonce.size : Int) = 12))))) w) (by kernel_rfl) (by rw [decide_eq_true (by omega)]; rfl)) ?_
  refine pl_val (want_no rfl) (some 27) rfl (.bool false) (fun _ => by kernel_rfl) ?_
  refine pl_val (want_no rfl) (some 28) rfl (.bool false) (fun _ => by kernel_rfl) ?_
  refine pl_val (want_on 8 false rfl 28 rfl (by kernel_rfl)) (some 29) rfl (.string s) (fun _ => by kernel_rfl) ?_
  refine pl_val (want_on 8 false rfl 28 rfl (by kernel_rfl)) (some 30) rfl (.int .i64 (s.size : Int)) (fun _ => by kernel_rfl) ?_
  refine pl_val (want_on 8 false rfl 28 rfl (by kernel_rfl)) (some 31) rfl (.bool false) (fun w => Eq.trans (b := .ok (.value (.bool (decide ((4096 : Int) < (s.size : Int))))) w) (by kernel_rfl) (by rw [decide_eq_false (by omega)])) ?_
  refine pl_val (want_no rfl) (some 32) rfl (.bool false) (fun _ => by kernel_rfl) ?_
  refine pl_nil ?_
  refine au_then ?_
  refine wp_cond_false (by kernel_rfl) ?_
  refine wp_skip ?_
  refine au_then ?_
  refine wp_seq ?_
  refine rg_lit ?_
  refine pl_val (want_no rfl) (some 35) rfl (.string key) (fun _ => by kernel_rfl) ?_
  refine pl_val (want_no rfl) (some 36) rfl (.string nonce) (fun _ => by kernel_rfl) ?_
  refine pl_val (want_no rfl) (some 37) rfl (.int .u32 (n : Int)) (fun _ => by kernel_rfl) ?_
  refine pl_val (want_no rfl) (some 38) rfl (.string s) (fun _ => by kernel_rfl) ?_
  refine pl_call M (want_no rfl) (some 39) rfl 10 #[.string key, .string nonce, .int .u32 (n : Int), .string s] (.tuple #[.string ⟨#[]⟩, .int .i64 4]) (fun _ => by kernel_rfl) (fun w M => c_TurnB key nonce n hn s (by omega) hm hl w M.laid) ?_
  intro u1 M
  refine pl_val (want_no rfl) (some 34) rfl (.tuple #[.string ⟨#[]⟩, .int .i64 4]) (fun _ => by kernel_rfl) ?_
  refine pl_val (want_no rfl) (some 40) rfl (.string ⟨#[]⟩) (fun _ => by kernel_rfl) ?_
  refine pl_val (want_no rfl) (some 41) rfl (.int .i64 4) (fun _ => by kernel_rfl) ?_
  refine pl_val (want_no rfl) (some 11) rfl (.string ⟨#[]⟩) (fun _ => by kernel_rfl) ?_
  refine pl_val (want_no rfl) (some 12) rfl (.int .i64 4) (fun _ => by kernel_rfl) ?_
  refine pl_nil ?_
  refine au_then ?_
  refine wp_seq ?_
  refine wp_seq ?_
  refine rg_lit ?_
  refine pl_val (want_no rfl) (some 42) rfl (.int .i64 4) (fun _ => by kernel_rfl) ?_
  refine pl_val (want_no rfl) (some 43) rfl (.bool true) (fun _ => by kernel_rfl) ?_
  refine pl_nil ?_
  refine au_then ?_
  refine wp_cond_true (by kernel_rfl) ?_
  refine wp_seq ?_
  refine rg_lit ?_
  refine pl_val (want_no rfl) (some 44) rfl (.string ⟨#[]⟩) (fun _ => by kernel_rfl) ?_
  refine pl_val (want_no rfl) (some 45) rfl (.bool true) (fun w => Eq.trans (b := .ok (.value (.bool ((⟨#[]⟩ : ByteArray).toList == (⟨#[]⟩ : ByteArray).toList))) w) (by kernel_rfl) (by rw [beq_self_eq_true])) ?_
  refine pl_val (want_no rfl) (some 46) rfl (.bool true) (fun _ => by kernel_rfl) ?_
  refine pl_val (want_on 2 true rfl 46 rfl (by kernel_rfl)) (some 47) rfl (.int .i64 4) (fun _ => by kernel_rfl) ?_
  refine pl_val (want_on 2 true rfl 46 rfl (by kernel_rfl)) (some 48) rfl (.bool true) (fun _ => by kernel_rfl) ?_
  refine pl_val (want_no rfl) (some 49) rfl (.bool true) (fun _ => by kernel_rfl) ?_
  refine pl_val (want_no rfl) (some 50) rfl (.bool true) (fun _ => by kernel_rfl) ?_
  refine pl_val (want_on 6 true rfl 50 rfl (by kernel_rfl)) (some 51) rfl (.int .u32 (n : Int)) (fun _ => by kernel_rfl) ?_
  refine pl_val (want_on 6 true rfl 50 rfl (by kernel_rfl)) (some 52) rfl (.int .u64 (n : Int)) (fun w => Eq.trans (b := .ok (.value (.int .u64 (cv .u64 (n : Int)))) w) (by kernel_rfl) (by rw [cvu64 _ (by omega)])) ?_
  refine pl_val (want_on 6 true rfl 50 rfl (by kernel_rfl)) (some 53) rfl (.string s) (fun _ => by kernel_rfl) ?_
  refine pl_val (want_on 6 true rfl 50 rfl (by kernel_rfl)) (some 54) rfl (.int .i64 (s.size : Int)) (fun _ => by kernel_rfl) ?_
  refine pl_val (want_on 6 true rfl 50 rfl (by kernel_rfl)) (some 55) rfl (.int .i64 ((s.size + 63 : Nat) : Int)) (fun w => Eq.trans (b := .ok (.value (.int .i64 (IntKind.wrap .i64 ((s.size : Int) + 63)))) w) (by kernel_rfl) (by rw [wrap64 (by omega) (by omega)]; congr 3 <;> omega)) ?_
  refine pl_val (want_on 6 true rfl 50 rfl (by kernel_rfl)) (some 56) rfl (.int .u64 ((s.size + 63 : Nat) : Int)) (fun w => Eq.trans (b := .ok (.value (.int .u64 (cv .u64 ((s.size + 63 : Nat) : Int)))) w) (by kernel_rfl) (by rw [cvu64 _ (by omega)])) ?_
  refine pl_val (want_on 6 true rfl 50 rfl (by kernel_rfl)) (some 57) rfl (.int .u64 (((s.size + 63) / 64 : Nat) : Int)) (fun w => Eq.trans (b := .ok (.value (.int .u64 (IntKind.wrap .u64 (((s.size + 63 : Nat) : Int).tdiv 64)))) w) (by kernel_rfl) (by rw [quoU _ (by omega)])) ?_
  refine pl_val (want_on 6 true rfl 50 rfl (by kernel_rfl)) (some 58) rfl (.int .u64 ((n + (s.size + 63) / 64 : Nat) : Int)) (fun w => Eq.trans (b := .ok (.value (.int .u64 (IntKind.wrap .u64 ((n : Int) + (((s.size + 63) / 64 : Nat) : Int))))) w) (by kernel_rfl) (by rw [show (n : Int) + (((s.size + 63) / 64 : Nat) : Int) = ((n + (s.size + 63) / 64 : Nat) : Int) by omega, wu64 _ (by omega)])) ?_
  refine pl_val (want_on 6 true rfl 50 rfl (by kernel_rfl)) (some 59) rfl (.bool true) (fun w => Eq.trans (b := .ok (.value (.bool (decide ((4294967296 : Int) < ((n + (s.size + 63) / 64 : Nat) : Int))))) w) (by kernel_rfl) (by rw [decide_eq_true (by omega)])) ?_
  refine pl_val (want_no rfl) (some 60) rfl (.bool true) (fun _ => by kernel_rfl) ?_
  refine pl_val (want_no rfl) (some 61) rfl (.bool true) (fun _ => by kernel_rfl) ?_
  refine pl_call M (want_on 17 true rfl 61 rfl (by kernel_rfl)) (some 62) rfl 6 #[] (.bool true) (fun _ => by kernel_rfl) (fun w M => c_alive w M.laid) ?_
  intro u2 M
  refine pl_val (want_no rfl) (some 63) rfl (.bool true) (fun _ => by kernel_rfl) ?_
  refine pl_val (want_no rfl) (some 10) rfl (.bool true) (fun _ => by kernel_rfl) ?_
  refine pl_nil ?_
  refine au_then ?_
  refine wp_ret ?_
  refine au_then_ret ?_
  exact bodyPost_ret (v := .bool true) (results_tmp1 Tryd.results5 _ _ _ (by kernel_rfl)) (by kernel_rfl) ⟨rfl, below_grown M.old⟩

set_option maxRecDepth 100000 in
set_option maxHeartbeats 4000000 in
theorem bcE (key nonce : ByteArray) (n : Nat) (s : ByteArray) (ct : Int) (h3 : ¬ 4096 < s.size) (hm : key.size = 32 ∧ nonce.size = 12) (hn : n < 4294967296) (hl : ¬ 4294967296 < n + (s.size + 63) / 64) (c q m : Nat) (hc : lw ct = (c : Int)) (hc1 : c ≤ 255) (hq : min (c * 64) (s.size / 64 * 64) = 64 * q) (hq2 : 64 * q ≤ s.size) (hv : va (n : Int) (q : Int) = (m : Int)) (hm1 : m < 4294967296) (hm2 : m + (s.size - 64 * q + 63) / 64 ≤ 4294967296) (hlt : 64 * q < s.size) (w : World) (hL : Laid w)  :
    Calls Tryd.prog 5 #[.string key, .string nonce, .int .u32 (n : Int), .string s, .int .i64 ct] w fun r w' => r = .returned (.bool true) ∧ Below w.heap.size w w' := by
  go_enter Tryd.func5, Tryd.ntmps5
  have M := Mem.start hL
  have h : key.size = 32 := hm.1
  have h2 : nonce.size = 12 := hm.2
  refine wp_seq ?_
  refine rg_lit ?_
  refine pl_val (want_no rfl) (some 10) rfl (.bool false) (fun _ => by kernel_rfl) ?_
  refine pl_nil ?_
  refine au_then ?_
  refine wp_seq ?_
  refine wp_seq ?_
  refine rg_lit ?_
  refine pl_val (want_no rfl) (some 20) rfl (.string key) (fun _ => by kernel_rfl) ?_
  refine pl_val (want_no rfl) (some 21) rfl (.int .i64 (key.size : Int)) (fun _ => by kernel_rfl) ?_
  refine pl_val (want_no rfl) (some 22) rfl (.bool false) (fun w => Eq.trans (b := .ok (.value (.bool (!(decide ((key.size : Int) = 32))))) w) (by kernel_rfl) (by rw [decide_eq_true (by omega)]; rfl)) ?_
  refine pl_val (want_no rfl) (some 23) rfl (.bool false) (fun _ => by kernel_rfl) ?_
  refine pl_val (want_on 3 false rfl 23 rfl (by kernel_rfl)) (some 24) rfl (.string nonce) (fun _ => by kernel_rfl) ?_
  refine pl_val (want_on 3 false rfl 23 rfl (by kernel_rfl)) (some 25) rfl (.int .i64 (nonce.size : Int)) (fun _ => by kernel_rfl) ?_
  refine pl_val (want_on 3 false rfl 23 rfl (by kernel_rfl)) (some 26) rfl (.bool false) (fun w => Eq.trans (b := .ok (.value (.bool (!(decide ((nonce.size : Int) = 12))))) w) (by kernel_rfl) (by rw [decide_eq_true (by omega)]; rfl)) ?_
  refine pl_val (want_no rfl) (some 27) rfl (.bool false) (fun _ => by kernel_rfl) ?_
  refine pl_val (want_no rfl) (some 28) rfl (.bool false) (fun _ => by kernel_rfl) ?_
  refine pl_val (want_on 8 false rfl 28 rfl (by kernel_rfl)) (some 29) rfl (.string s) (fun _ => by kernel_rfl) ?_
  refine pl_val (want_on 8 false rfl 28 rfl (by kernel_rfl)) (some 30) rfl (.int .i64 (s.size : Int)) (fun _ => by kernel_rfl) ?_
  refine pl_val (want_on 8 false rfl 28 rfl (by kernel_rfl)) (some 31) rfl (.bool false) (fun w => Eq.trans (b := .ok (.value (.bool (decide ((4096 : Int) < (s.size : Int))))) w) (by kernel_rfl) (by rw [decide_eq_false (by omega)])) ?_
  refine pl_val (want_no rfl) (some 32) rfl (.bool false) (fun _ => by kernel_rfl) ?_
  refine pl_nil ?_
  refine au_then ?_
  refine wp_cond_false (by kernel_rfl) ?_
  refine wp_skip ?_
  refine au_then ?_
  refine wp_seq ?_
  refine rg_lit ?_
  refine pl_val (want_no rfl) (some 35) rfl (.string key) (fun _ => by kernel_rfl) ?_
  refine pl_val (want_no rfl) (some 36) rfl (.string nonce) (fun _ => by kernel_rfl) ?_
  refine pl_val (want_no rfl) (some 37) rfl (.int .u32 (n : Int)) (fun _ => by kernel_rfl) ?_
  refine pl_val (want_no rfl) (some 38) rfl (.string s) (fun _ => by kernel_rfl) ?_
  refine pl_call M (want_no rfl) (some 39) rfl 10 #[.string key, .string nonce, .int .u32 (n : Int), .string s] (.tuple #[.string (oS (fw key nonce (n : Int)) s), .int .i64 0]) (fun _ => by kernel_rfl) (fun w M => c_TurnA key nonce n hn s (by omega) hm hl w M.laid) ?_
  intro u1 M
  refine pl_val (want_no rfl) (some 34) rfl (.tuple #[.string (oS (fw key nonce (n : Int)) s), .int .i64 0]) (fun _ => by kernel_rfl) ?_
  refine pl_val (want_no rfl) (some 40) rfl (.string (oS (fw key nonce (n : Int)) s)) (fun _ => by kernel_rfl) ?_
  refine pl_val (want_no rfl) (some 41) rfl (.int .i64 0) (fun _ => by kernel_rfl) ?_
  refine pl_val (want_no rfl) (some 11) rfl (.string (oS (fw key nonce (n : Int)) s)) (fun _ => by kernel_rfl) ?_
  refine pl_val (want_no rfl) (some 12) rfl (.int .i64 0) (fun _ => by kernel_rfl) ?_
  refine pl_nil ?_
  refine au_then ?_
  refine wp_seq ?_
  refine wp_seq ?_
  refine rg_lit ?_
  refine pl_val (want_no rfl) (some 42) rfl (.int .i64 0) (fun _ => by kernel_rfl) ?_
  refine pl_val (want_no rfl) (some 43) rfl (.bool false) (fun _ => by kernel_rfl) ?_
  refine pl_nil ?_
  refine au_then ?_
  refine wp_cond_false (by kernel_rfl) ?_
  refine wp_skip ?_
  refine au_then ?_
  refine wp_seq ?_
  refine rg_lit ?_
  refine pl_val (want_no rfl) (some 65) rfl (.string key) (fun _ => by kernel_rfl) ?_
  refine pl_val (want_no rfl) (some 66) rfl (.string nonce) (fun _ => by kernel_rfl) ?_
  refine pl_val (want_no rfl) (some 67) rfl (.int .u32 (n : Int)) (fun _ => by kernel_rfl) ?_
  refine pl_val (want_no rfl) (some 68) rfl (.string (oS (fw key nonce (n : Int)) s)) (fun _ => by kernel_rfl) ?_
  refine pl_call M (want_no rfl) (some 69) rfl 10 #[.string key, .string nonce, .int .u32 (n : Int), .string (oS (fw key nonce (n : Int)) s)] (.tuple #[.string s, .int .i64 0]) (fun _ => by kernel_rfl) (fun w M => (by have h9 := c_TurnA key nonce n hn (oS (fw key nonce (n : Int)) s) (by rw [oS_size]; omega) hm (by rw [oS_size]; exact hl) w M.laid; rw [oS_oS] at h9; exact h9)) ?_
  intro u2 M
  refine pl_val (want_no rfl) (some 64) rfl (.tuple #[.string s, .int .i64 0]) (fun _ => by kernel_rfl) ?_
  refine pl_val (want_no rfl) (some 70) rfl (.string s) (fun _ => by kernel_rfl) ?_
  refine pl_val (want_no rfl) (some 71) rfl (.int .i64 0) (fun _ => by kernel_rfl) ?_
  refine pl_val (want_no rfl) (some 13) rfl (.string s) (fun _ => by kernel_rfl) ?_
  refine pl_val (want_no rfl) (some 14) rfl (.int .i64 0) (fun _ => by kernel_rfl) ?_
  refine pl_nil ?_
  refine au_then ?_
  refine wp_seq ?_
  refine wp_seq ?_
  refine rg_lit ?_
  refine pl_val (want_no rfl) (some 72) rfl (.int .i64 0) (fun _ => by kernel_rfl) ?_
  refine pl_val (want_no rfl) (some 73) rfl (.bool false) (fun _ => by kernel_rfl) ?_
  refine pl_val (want_no rfl) (some 74) rfl (.bool false) (fun _ => by kernel_rfl) ?_
  refine pl_val (want_on 2 false rfl 74 rfl (by kernel_rfl)) (some 75) rfl (.string s) (fun _ => by kernel_rfl) ?_
  refine pl_val (want_on 2 false rfl 74 rfl (by kernel_rfl)) (some 76) rfl (.string s) (fun _ => by kernel_rfl) ?_
  refine pl_val (want_on 2 false rfl 74 rfl (by kernel_rfl)) (some 77) rfl (.bool false) (fun w => Eq.trans (b := .ok (.value (.bool (!(s.toList == s.toList)))) w) (by kernel_rfl) (by rw [beq_self_eq_true]; rfl)) ?_
  refine pl_val (want_no rfl) (some 78) rfl (.bool false) (fun _ => by kernel_rfl) ?_
  refine pl_val (want_no rfl) (some 79) rfl (.bool false) (fun _ => by kernel_rfl) ?_
  refine pl_val (want_on 7 false rfl 79 rfl (by kernel_rfl)) (some 80) rfl (.string (oS (fw key nonce (n : Int)) s)) (fun _ => by kernel_rfl) ?_
  refine pl_val (want_on 7 false rfl 79 rfl (by kernel_rfl)) (some 81) rfl (.int .i64 (s.size : Int)) (fun w => Eq.trans (b := .ok (.value (.int .i64 ((oS (fw key nonce (n : Int)) s).size : Int))) w) (by kernel_rfl) (by rw [oS_size])) ?_
  refine pl_val (want_on 7 false rfl 79 rfl (by kernel_rfl)) (some 82) rfl (.string s) (fun _ => by kernel_rfl) ?_
  refine pl_val (want_on 7 false rfl 79 rfl (by kernel_rfl)) (some 83) rfl (.int .i64 (s.size : Int)) (fun _ => by kernel_rfl) ?_
  refine pl_val (want_on 7 false rfl 79 rfl (by kernel_rfl)) (some 84) rfl (.bool false) (fun w => Eq.trans (b := .ok (.value (.bool (!(decide ((s.size : Int) = (s.size : Int)))))) w) (by kernel_rfl) (by rw [decide_eq_true (rfl)]; rfl)) ?_
  refine pl_val (want_no rfl) (some 85) rfl (.bool false) (fun _ => by kernel_rfl) ?_
  refine pl_nil ?_
  refine au_then ?_
  refine wp_cond_false (by kernel_rfl) ?_
  refine wp_skip ?_
  refine au_then ?_
  refine wp_seq ?_
  refine rg_lit ?_
  refine pl_val (want_no rfl) (some 86) rfl (.int .i64 ct) (fun _ => by kernel_rfl) ?_
  refine pl_val (want_no rfl) (some 87) rfl (.int .i64 (c : Int)) (fun w => Eq.trans (b := .ok (.value (.int .i64 (lw ct))) w) (by kernel_rfl) (by rw [hc])) ?_
  refine pl_val (want_no rfl) (some 88) rfl (.int .i64 ((c * 64 : Nat) : Int)) (fun w => Eq.trans (b := .ok (.value (.int .i64 (IntKind.wrap .i64 ((c : Int) * 64)))) w) (by kernel_rfl) (by rw [wrap64 (by omega) (by omega)]; congr 3 <;> omega)) ?_
  refine pl_val (want_no rfl) (some 89) rfl (.string s) (fun _ => by kernel_rfl) ?_
  refine pl_val (want_no rfl) (some 90) rfl (.int .i64 (s.size : Int)) (fun _ => by kernel_rfl) ?_
  refine pl_val (want_no rfl) (some 91) rfl (.int .i64 ((s.size / 64 : Nat) : Int)) (fun w => Eq.trans (b := .ok (.value (.int .i64 (IntKind.wrap .i64 ((s.size : Int).tdiv 64)))) w) (by kernel_rfl) (by rw [quo64 s.size (by omega)])) ?_
  refine pl_val (want_no rfl) (some 92) rfl (.int .i64 ((s.size / 64 * 64 : Nat) : Int)) (fun w => Eq.trans (b := .ok (.value (.int .i64 (IntKind.wrap .i64 (((s.size / 64 : Nat) : Int) * 64)))) w) (by kernel_rfl) (by rw [wrap64 (by omega) (by omega)]; congr 3 <;> omega)) ?_
  refine pl_val (want_no rfl) (some 93) rfl (.int .i64 ((64 * q : Nat) : Int)) (fun w => Eq.trans (b := .ok (.value (.int .i64 (if ((s.size / 64 * 64 : Nat) : Int) < ((c * 64 : Nat) : Int) then ((s.size / 64 * 64 : Nat) : Int) else ((c * 64 : Nat) : Int)))) w) (by kernel_rfl) (by rw [min_if (c * 64) (s.size / 64 * 64), hq])) ?_
  refine pl_val (want_no rfl) (some 15) rfl (.int .i64 ((64 * q : Nat) : Int)) (fun _ => by kernel_rfl) ?_
  refine pl_nil ?_
  refine au_then ?_
  refine wp_seq ?_
  refine rg_lit ?_
  refine pl_val (want_no rfl) (some 95) rfl (.string key) (fun _ => by kernel_rfl) ?_
  refine pl_val (want_no rfl) (some 96) rfl (.string nonce) (fun _ => by kernel_rfl) ?_
  refine pl_val (want_no rfl) (some 97) rfl (.int .u32 (n : Int)) (fun _ => by kernel_rfl) ?_
  refine pl_val (want_no rfl) (some 98) rfl (.string s) (fun _ => by kernel_rfl) ?_
  refine pl_val (want_no rfl) (some 99) rfl (.int .i64 ((64 * q : Nat) : Int)) (fun _ => by kernel_rfl) ?_
  refine pl_val (want_no rfl) (some 100) rfl (.string (s.extract 0 (64 * q))) (run_strh 9 Tryd.underlying9 _ _ rfl s (by kernel_rfl) .i64 (64 * q) (by kernel_rfl) hq2 _ rfl) ?_
  refine pl_call M (want_no rfl) (some 101) rfl 10 #[.string key, .string nonce, .int .u32 (n : Int), .string (s.extract 0 (64 * q))] (.tuple #[.string (oS (fw key nonce (n : Int)) (s.extract 0 (64 * q))), .int .i64 0]) (fun _ => by kernel_rfl) (fun w M => c_TurnA key nonce n hn (s.extract 0 (64 * q)) (by rw [ext0_size s _ hq2]; omega) hm (by rw [ext0_size s _ hq2]; omega) w M.laid) ?_
  intro u3 M
  refine pl_val (want_no rfl) (some 94) rfl (.tuple #[.string (oS (fw key nonce (n : Int)) (s.extract 0 (64 * q))), .int .i64 0]) (fun _ => by kernel_rfl) ?_
  refine pl_val (want_no rfl) (some 102) rfl (.string (oS (fw key nonce (n : Int)) (s.extract 0 (64 * q)))) (fun _ => by kernel_rfl) ?_
  refine pl_val (want_no rfl) (some 103) rfl (.int .i64 0) (fun _ => by kernel_rfl) ?_
  refine pl_val (want_no rfl) (some 16) rfl (.string (oS (fw key nonce (n : Int)) (s.extract 0 (64 * q)))) (fun _ => by kernel_rfl) ?_
  refine pl_val (want_no rfl) (some 17) rfl (.int .i64 0) (fun _ => by kernel_rfl) ?_
  refine pl_nil ?_
  refine au_then ?_
  refine wp_seq ?_
  refine rg_lit ?_
  refine pl_val (want_no rfl) (some 105) rfl (.string key) (fun _ => by kernel_rfl) ?_
  refine pl_val (want_no rfl) (some 106) rfl (.string nonce) (fun _ => by kernel_rfl) ?_
  refine pl_val (want_no rfl) (some 107) rfl (.int .u32 (n : Int)) (fun _ => by kernel_rfl) ?_
  refine pl_val (want_no rfl) (some 108) rfl (.int .i64 ((64 * q : Nat) : Int)) (fun _ => by kernel_rfl) ?_
  refine pl_val (want_no rfl) (some 109) rfl (.int .i64 ((q : Nat) : Int)) (fun w => Eq.trans (b := .ok (.value (.int .i64 (IntKind.wrap .i64 (((64 * q : Nat) : Int).tdiv 64)))) w) (by kernel_rfl) (by rw [quo64 (64 * q) (by omega), show 64 * q / 64 = q by omega])) ?_
  refine pl_val (want_no rfl) (some 110) rfl (.int .u32 (q : Int)) (fun w => Eq.trans (b := .ok (.value (.int .u32 (cv .u32 (q : Int)))) w) (by kernel_rfl) (by rw [cvu32 _ (by omega)])) ?_
  refine pl_val (want_no rfl) (some 111) rfl (.int .u32 (m : Int)) (fun w => Eq.trans (b := .ok (.value (.int .u32 (va (n : Int) (q : Int)))) w) (by kernel_rfl) (by rw [hv])) ?_
  refine pl_val (want_no rfl) (some 112) rfl (.string s) (fun _ => by kernel_rfl) ?_
  refine pl_val (want_no rfl) (some 113) rfl (.int .i64 ((64 * q : Nat) : Int)) (fun _ => by kernel_rfl) ?_
  refine pl_val (want_no rfl) (some 114) rfl (.string (s.extract (64 * q) s.size)) (run_strl 9 Tryd.underlying9 _ _ rfl s (by kernel_rfl) .i64 (64 * q) (by kernel_rfl) hq2 _ rfl) ?_
  refine pl_call M (want_no rfl) (some 115) rfl 10 #[.string key, .string nonce, .int .u32 (m : Int), .string (s.extract (64 * q) s.size)] (.tuple #[.string (oS (fw key nonce (m : Int)) (s.extract (64 * q) s.size)), .int .i64 0]) (fun _ => by kernel_rfl) (fun w M => c_TurnA key nonce m hm1 (s.extract (64 * q) s.size) (by rw [ext_size]; omega) hm (by rw [ext_size]; omega) w M.laid) ?_
  intro u4 M
  refine pl_val (want_no rfl) (some 104) rfl (.tuple #[.string (oS (fw key nonce (m : Int)) (s.extract (64 * q) s.size)), .int .i64 0]) (fun _ => by kernel_rfl) ?_
  refine pl_val (want_no rfl) (some 116) rfl (.string (oS (fw key nonce (m : Int)) (s.extract (64 * q) s.size))) (fun _ => by kernel_rfl) ?_
  refine pl_val (want_no rfl) (some 117) rfl (.int .i64 0) (fun _ => by kernel_rfl) ?_
  refine pl_val (want_no rfl) (some 18) rfl (.string (oS (fw key nonce (m : Int)) (s.extract (64 * q) s.size))) (fun _ => by kernel_rfl) ?_
  refine pl_val (want_no rfl) (some 19) rfl (.int .i64 0) (fun _ => by kernel_rfl) ?_
  refine pl_nil ?_
  refine au_then ?_
  refine wp_seq ?_
  refine wp_seq ?_
  refine rg_lit ?_
  refine pl_val (want_no rfl) (some 118) rfl (.int .i64 0) (fun _ => by kernel_rfl) ?_
  refine pl_val (want_no rfl) (some 119) rfl (.bool false) (fun _ => by kernel_rfl) ?_
  refine pl_val (want_no rfl) (some 120) rfl (.bool false) (fun _ => by kernel_rfl) ?_
  refine pl_val (want_on 2 false rfl 120 rfl (by kernel_rfl)) (some 121) rfl (.string s) (fun _ => by kernel_rfl) ?_
  refine pl_val (want_on 2 false rfl 120 rfl (by kernel_rfl)) (some 122) rfl (.int .i64 ((64 * q : Nat) : Int)) (fun _ => by kernel_rfl) ?_
  refine pl_val (want_on 2 false rfl 120 rfl (by kernel_rfl)) (some 123) rfl (.string (s.extract (64 * q) s.size)) (run_strl 9 Tryd.underlying9 _ _ rfl s (by kernel_rfl) .i64 (64 * q) (by kernel_rfl) hq2 _ rfl) ?_
  refine pl_val (want_on 2 false rfl 120 rfl (by kernel_rfl)) (some 124) rfl (.bool true) (fun w => Eq.trans (b := .ok (.value (.bool (!((s.extract (64 * q) s.size).toList == (⟨#[]⟩ : ByteArray).toList)))) w) (by kernel_rfl) (by rw [nonempty_ne s (64 * q) hlt]; rfl)) ?_
  refine pl_val (want_on 2 false rfl 120 rfl (by kernel_rfl)) (some 125) rfl (.bool true) (fun _ => by kernel_rfl) ?_
  refine pl_val (want_on 7 true rfl 125 rfl (by kernel_rfl)) (some 126) rfl (.int .i64 0) (fun _ => by kernel_rfl) ?_
  refine pl_val (want_on 7 true rfl 125 rfl (by kernel_rfl)) (some 127) rfl (.bool false) (fun _ => by kernel_rfl) ?_
  refine pl_val (want_on 7 true rfl 125 rfl (by kernel_rfl)) (some 128) rfl (.bool false) (fun _ => by kernel_rfl) ?_
  refine pl_val (want_on 10 false rfl 128 rfl (by kernel_rfl)) (some 129) rfl (.string (oS (fw key nonce (n : Int)) (s.extract 0 (64 * q)))) (fun _ => by kernel_rfl) ?_
  refine pl_val (want_on 10 false rfl 128 rfl (by kernel_rfl)) (some 130) rfl (.string (oS (fw key nonce (m : Int)) (s.extract (64 * q) s.size))) (fun _ => by kernel_rfl) ?_
  refine pl_val (want_on 10 false rfl 128 rfl (by kernel_rfl)) (some 131) rfl (.string (oS (fw key nonce (n : Int)) s)) (fun w => Eq.trans (run_cat 9 9 _ _ rfl (oS (fw key nonce (n : Int)) (s.extract 0 (64 * q))) (oS (fw key nonce (m : Int)) (s.extract (64 * q) s.size)) (by kernel_rfl) (by kernel_rfl) (by rw [oS_size, oS_size, ext_size, ext0_size s _ hq2]; omega) w) (by rw [oS_cut key nonce n hn s q m hq2 hv hm1])) ?_
  refine pl_val (want_on 10 false rfl 128 rfl (by kernel_rfl)) (some 132) rfl (.string (oS (fw key nonce (n : Int)) s)) (fun _ => by kernel_rfl) ?_
  refine pl_val (want_on 10 false rfl 128 rfl (by kernel_rfl)) (some 133) rfl (.bool false) (fun w => Eq.trans (b := .ok (.value (.bool (!((oS (fw key nonce (n : Int)) s).toList == (oS (fw key nonce (n : Int)) s).toList)))) w) (by kernel_rfl) (by rw [beq_self_eq_true]; rfl)) ?_
  refine pl_val (want_on 7 true rfl 125 rfl (by kernel_rfl)) (some 134) rfl (.bool false) (fun _ => by kernel_rfl) ?_
  refine pl_val (want_on 2 false rfl 120 rfl (by kernel_rfl)) (some 135) rfl (.bool false) (fun _ => by kernel_rfl) ?_
  refine pl_val (want_no rfl) (some 136) rfl (.bool false) (fun _ => by kernel_rfl) ?_
  refine pl_nil ?_
  refine au_then ?_
  refine wp_cond_false (by kernel_rfl) ?_
  refine wp_skip ?_
  refine au_then ?_
  refine wp_seq ?_
  refine rg_lit ?_
  refine pl_val (want_no rfl) (some 137) rfl (.string s) (fun _ => by kernel_rfl) ?_
  refine pl_val (want_no rfl) (some 138) rfl (.int .i64 ((64 * q : Nat) : Int)) (fun _ => by kernel_rfl) ?_
  refine pl_val (want_no rfl) (some 139) rfl (.string (s.extract (64 * q) s.size)) (run_strl 9 Tryd.underlying9 _ _ rfl s (by kernel_rfl) .i64 (64 * q) (by kernel_rfl) hq2 _ rfl) ?_
  refine pl_val (want_no rfl) (some 140) rfl (.bool true) (fun w => Eq.trans (b := .ok (.value (.bool (!((s.extract (64 * q) s.size).toList == (⟨#[]⟩ : ByteArray).toList)))) w) (by kernel_rfl) (by rw [nonempty_ne s (64 * q) hlt]; rfl)) ?_
  refine pl_val (want_no rfl) (some 141) rfl (.bool true) (fun _ => by kernel_rfl) ?_
  refine pl_skip (want_off 4 false rfl 141 rfl (by kernel_rfl)) (some 142) rfl ?_
  refine pl_skip (want_off 4 false rfl 141 rfl (by kernel_rfl)) (some 143) rfl ?_
  refine pl_skip (want_off 4 false rfl 141 rfl (by kernel_rfl)) (some 144) rfl ?_
  refine pl_val (want_no rfl) (some 145) rfl (.bool true) (fun _ => by kernel_rfl) ?_
  refine pl_val (want_no rfl) (some 146) rfl (.bool true) (fun _ => by kernel_rfl) ?_
  refine pl_call M (want_on 9 true rfl 146 rfl (by kernel_rfl)) (some 147) rfl 6 #[] (.bool true) (fun _ => by kernel_rfl) (fun w M => c_alive w M.laid) ?_
  intro u5 M
  refine pl_val (want_no rfl) (some 148) rfl (.bool true) (fun _ => by kernel_rfl) ?_
  refine pl_val (want_no rfl) (some 10) rfl (.bool true) (fun _ => by kernel_rfl) ?_
  refine pl_nil ?_
  refine au_then ?_
  refine wp_ret ?_
  exact bodyPost_ret (v := .bool true) (results_tmp1 Tryd.results5 _ _ _ (by kernel_rfl)) (by kernel_rfl) ⟨rfl, below_grown M.old⟩

set_option maxRecDepth 100000 in
set_option maxHeartbeats 4000000 in
theorem bcF (key nonce : ByteArray) (n : Nat) (s : ByteArray) (ct : Int) (h3 : ¬ 4096 < s.size) (hm : key.size = 32 ∧ nonce.size = 12) (hn : n < 4294967296) (hl : ¬ 4294967296 < n + (s.size + 63) / 64) (c q m : Nat) (hc : lw ct = (c : Int)) (hc1 : c ≤ 255) (hq : min (c * 64) (s.size / 64 * 64) = 64 * q) (hq2 : 64 * q ≤ s.size) (hv : va (n : Int) (q : Int) = (m : Int)) (hm1 : m < 4294967296) (hm2 : m + (s.size - 64 * q + 63) / 64 ≤ 4294967296) (hlt : 64 * q = s.size) (w : World) (hL : Laid w)  :
    Calls Tryd.prog 5 #[.string key, .string nonce, .int .u32 (n : Int), .string s, .int .i64 ct] w fun r w' => r = .returned (.bool true) ∧ Below w.heap.size w w' := by
  go_enter Tryd.func5, Tryd.ntmps5
  have M := Mem.start hL
  have h : key.size = 32 := hm.1
  have h2 : nonce.size = 12 := hm.2
  refine wp_seq ?_
  refine rg_lit ?_
  refine pl_val (want_no rfl) (some 10) rfl (.bool false) (fun _ => by kernel_rfl) ?_
  refine pl_nil ?_
  refine au_then ?_
  refine wp_seq ?_
  refine wp_seq ?_
  refine rg_lit ?_
  refine pl_val (want_no rfl) (some 20) rfl (.string key) (fun _ => by kernel_rfl) ?_
  refine pl_val (want_no rfl) (some 21) rfl (.int .i64 (key.size : Int)) (fun _ => by kernel_rfl) ?_
  refine pl_val (want_no rfl) (some 22) rfl (.bool false) (fun w => Eq.trans (b := .ok (.value (.bool (!(decide ((key.size : Int) = 32))))) w) (by kernel_rfl) (by rw [decide_eq_true (by omega)]; rfl)) ?_
  refine pl_val (want_no rfl) (some 23) rfl (.bool false) (fun _ => by kernel_rfl) ?_
  refine pl_val (want_on 3 false rfl 23 rfl (by kernel_rfl)) (some 24) rfl (.string nonce) (fun _ => by kernel_rfl) ?_
  refine pl_val (want_on 3 false rfl 23 rfl (by kernel_rfl)) (some 25) rfl (.int .i64 (nonce.size : Int)) (fun _ => by kernel_rfl) ?_
  refine pl_val (want_on 3 false rfl 23 rfl (by kernel_rfl)) (some 26) rfl (.bool false) (fun w => Eq.trans (b := .ok (.value (.bool (!(decide ((nonce.size : Int) = 12))))) w) (by kernel_rfl) (by rw [decide_eq_true (by omega)]; rfl)) ?_
  refine pl_val (want_no rfl) (some 27) rfl (.bool false) (fun _ => by kernel_rfl) ?_
  refine pl_val (want_no rfl) (some 28) rfl (.bool false) (fun _ => by kernel_rfl) ?_
  refine pl_val (want_on 8 false rfl 28 rfl (by kernel_rfl)) (some 29) rfl (.string s) (fun _ => by kernel_rfl) ?_
  refine pl_val (want_on 8 false rfl 28 rfl (by kernel_rfl)) (some 30) rfl (.int .i64 (s.size : Int)) (fun _ => by kernel_rfl) ?_
  refine pl_val (want_on 8 false rfl 28 rfl (by kernel_rfl)) (some 31) rfl (.bool false) (fun w => Eq.trans (b := .ok (.value (.bool (decide ((4096 : Int) < (s.size : Int))))) w) (by kernel_rfl) (by rw [decide_eq_false (by omega)])) ?_
  refine pl_val (want_no rfl) (some 32) rfl (.bool false) (fun _ => by kernel_rfl) ?_
  refine pl_nil ?_
  refine au_then ?_
  refine wp_cond_false (by kernel_rfl) ?_
  refine wp_skip ?_
  refine au_then ?_
  refine wp_seq ?_
  refine rg_lit ?_
  refine pl_val (want_no rfl) (some 35) rfl (.string key) (fun _ => by kernel_rfl) ?_
  refine pl_val (want_no rfl) (some 36) rfl (.string nonce) (fun _ => by kernel_rfl) ?_
  refine pl_val (want_no rfl) (some 37) rfl (.int .u32 (n : Int)) (fun _ => by kernel_rfl) ?_
  refine pl_val (want_no rfl) (some 38) rfl (.string s) (fun _ => by kernel_rfl) ?_
  refine pl_call M (want_no rfl) (some 39) rfl 10 #[.string key, .string nonce, .int .u32 (n : Int), .string s] (.tuple #[.string (oS (fw key nonce (n : Int)) s), .int .i64 0]) (fun _ => by kernel_rfl) (fun w M => c_TurnA key nonce n hn s (by omega) hm hl w M.laid) ?_
  intro u1 M
  refine pl_val (want_no rfl) (some 34) rfl (.tuple #[.string (oS (fw key nonce (n : Int)) s), .int .i64 0]) (fun _ => by kernel_rfl) ?_
  refine pl_val (want_no rfl) (some 40) rfl (.string (oS (fw key nonce (n : Int)) s)) (fun _ => by kernel_rfl) ?_
  refine pl_val (want_no rfl) (some 41) rfl (.int .i64 0) (fun _ => by kernel_rfl) ?_
  refine pl_val (want_no rfl) (some 11) rfl (.string (oS (fw key nonce (n : Int)) s)) (fun _ => by kernel_rfl) ?_
  refine pl_val (want_no rfl) (some 12) rfl (.int .i64 0) (fun _ => by kernel_rfl) ?_
  refine pl_nil ?_
  refine au_then ?_
  refine wp_seq ?_
  refine wp_seq ?_
  refine rg_lit ?_
  refine pl_val (want_no rfl) (some 42) rfl (.int .i64 0) (fun _ => by kernel_rfl) ?_
  refine pl_val (want_no rfl) (some 43) rfl (.bool false) (fun _ => by kernel_rfl) ?_
  refine pl_nil ?_
  refine au_then ?_
  refine wp_cond_false (by kernel_rfl) ?_
  refine wp_skip ?_
  refine au_then ?_
  refine wp_seq ?_
  refine rg_lit ?_
  refine pl_val (want_no rfl) (some 65) rfl (.string key) (fun _ => by kernel_rfl) ?_
  refine pl_val (want_no rfl) (some 66) rfl (.string nonce) (fun _ => by kernel_rfl) ?_
  refine pl_val (want_no rfl) (some 67) rfl (.int .u32 (n : Int)) (fun _ => by kernel_rfl) ?_
  refine pl_val (want_no rfl) (some 68) rfl (.string (oS (fw key nonce (n : Int)) s)) (fun _ => by kernel_rfl) ?_
  refine pl_call M (want_no rfl) (some 69) rfl 10 #[.string key, .string nonce, .int .u32 (n : Int), .string (oS (fw key nonce (n : Int)) s)] (.tuple #[.string s, .int .i64 0]) (fun _ => by kernel_rfl) (fun w M => (by have h9 := c_TurnA key nonce n hn (oS (fw key nonce (n : Int)) s) (by rw [oS_size]; omega) hm (by rw [oS_size]; exact hl) w M.laid; rw [oS_oS] at h9; exact h9)) ?_
  intro u2 M
  refine pl_val (want_no rfl) (some 64) rfl (.tuple #[.string s, .int .i64 0]) (fun _ => by kernel_rfl) ?_
  refine pl_val (want_no rfl) (some 70) rfl (.string s) (fun _ => by kernel_rfl) ?_
  refine pl_val (want_no rfl) (some 71) rfl (.int .i64 0) (fun _ => by kernel_rfl) ?_
  refine pl_val (want_no rfl) (some 13) rfl (.string s) (fun _ => by kernel_rfl) ?_
  refine pl_val (want_no rfl) (some 14) rfl (.int .i64 0) (fun _ => by kernel_rfl) ?_
  refine pl_nil ?_
  refine au_then ?_
  refine wp_seq ?_
  refine wp_seq ?_
  refine rg_lit ?_
  refine pl_val (want_no rfl) (some 72) rfl (.int .i64 0) (fun _ => by kernel_rfl) ?_
  refine pl_val (want_no rfl) (some 73) rfl (.bool false) (fun _ => by kernel_rfl) ?_
  refine pl_val (want_no rfl) (some 74) rfl (.bool false) (fun _ => by kernel_rfl) ?_
  refine pl_val (want_on 2 false rfl 74 rfl (by kernel_rfl)) (some 75) rfl (.string s) (fun _ => by kernel_rfl) ?_
  refine pl_val (want_on 2 false rfl 74 rfl (by kernel_rfl)) (some 76) rfl (.string s) (fun _ => by kernel_rfl) ?_
  refine pl_val (want_on 2 false rfl 74 rfl (by kernel_rfl)) (some 77) rfl (.bool false) (fun w => Eq.trans (b := .ok (.value (.bool (!(s.toList == s.toList)))) w) (by kernel_rfl) (by rw [beq_self_eq_true]; rfl)) ?_
  refine pl_val (want_no rfl) (some 78) rfl (.bool false) (fun _ => by kernel_rfl) ?_
  refine pl_val (want_no rfl) (some 79) rfl (.bool false) (fun _ => by kernel_rfl) ?_
  refine pl_val (want_on 7 false rfl 79 rfl (by kernel_rfl)) (some 80) rfl (.string (oS (fw key nonce (n : Int)) s)) (fun _ => by kernel_rfl) ?_
  refine pl_val (want_on 7 false rfl 79 rfl (by kernel_rfl)) (some 81) rfl (.int .i64 (s.size : Int)) (fun w => Eq.trans (b := .ok (.value (.int .i64 ((oS (fw key nonce (n : Int)) s).size : Int))) w) (by kernel_rfl) (by rw [oS_size])) ?_
  refine pl_val (want_on 7 false rfl 79 rfl (by kernel_rfl)) (some 82) rfl (.string s) (fun _ => by kernel_rfl) ?_
  refine pl_val (want_on 7 false rfl 79 rfl (by kernel_rfl)) (some 83) rfl (.int .i64 (s.size : Int)) (fun _ => by kernel_rfl) ?_
  refine pl_val (want_on 7 false rfl 79 rfl (by kernel_rfl)) (some 84) rfl (.bool false) (fun w => Eq.trans (b := .ok (.value (.bool (!(decide ((s.size : Int) = (s.size : Int)))))) w) (by kernel_rfl) (by rw [decide_eq_true (rfl)]; rfl)) ?_
  refine pl_val (want_no rfl) (some 85) rfl (.bool false) (fun _ => by kernel_rfl) ?_
  refine pl_nil ?_
  refine au_then ?_
  refine wp_cond_false (by kernel_rfl) ?_
  refine wp_skip ?_
  refine au_then ?_
  refine wp_seq ?_
  refine rg_lit ?_
  refine pl_val (want_no rfl) (some 86) rfl (.int .i64 ct) (fun _ => by kernel_rfl) ?_
  refine pl_val (want_no rfl) (some 87) rfl (.int .i64 (c : Int)) (fun w => Eq.trans (b := .ok (.value (.int .i64 (lw ct))) w) (by kernel_rfl) (by rw [hc])) ?_
  refine pl_val (want_no rfl) (some 88) rfl (.int .i64 ((c * 64 : Nat) : Int)) (fun w => Eq.trans (b := .ok (.value (.int .i64 (IntKind.wrap .i64 ((c : Int) * 64)))) w) (by kernel_rfl) (by rw [wrap64 (by omega) (by omega)]; congr 3 <;> omega)) ?_
  refine pl_val (want_no rfl) (some 89) rfl (.string s) (fun _ => by kernel_rfl) ?_
  refine pl_val (want_no rfl) (some 90) rfl (.int .i64 (s.size : Int)) (fun _ => by kernel_rfl) ?_
  refine pl_val (want_no rfl) (some 91) rfl (.int .i64 ((s.size / 64 : Nat) : Int)) (fun w => Eq.trans (b := .ok (.value (.int .i64 (IntKind.wrap .i64 ((s.size : Int).tdiv 64)))) w) (by kernel_rfl) (by rw [quo64 s.size (by omega)])) ?_
  refine pl_val (want_no rfl) (some 92) rfl (.int .i64 ((s.size / 64 * 64 : Nat) : Int)) (fun w => Eq.trans (b := .ok (.value (.int .i64 (IntKind.wrap .i64 (((s.size / 64 : Nat) : Int) * 64)))) w) (by kernel_rfl) (by rw [wrap64 (by omega) (by omega)]; congr 3 <;> omega)) ?_
  refine pl_val (want_no rfl) (some 93) rfl (.int .i64 ((64 * q : Nat) : Int)) (fun w => Eq.trans (b := .ok (.value (.int .i64 (if ((s.size / 64 * 64 : Nat) : Int) < ((c * 64 : Nat) : Int) then ((s.size / 64 * 64 : Nat) : Int) else ((c * 64 : Nat) : Int)))) w) (by kernel_rfl) (by rw [min_if (c * 64) (s.size / 64 * 64), hq])) ?_
  refine pl_val (want_no rfl) (some 15) rfl (.int .i64 ((64 * q : Nat) : Int)) (fun _ => by kernel_rfl) ?_
  refine pl_nil ?_
  refine au_then ?_
  refine wp_seq ?_
  refine rg_lit ?_
  refine pl_val (want_no rfl) (some 95) rfl (.string key) (fun _ => by kernel_rfl) ?_
  refine pl_val (want_no rfl) (some 96) rfl (.string nonce) (fun _ => by kernel_rfl) ?_
  refine pl_val (want_no rfl) (some 97) rfl (.int .u32 (n : Int)) (fun _ => by kernel_rfl) ?_
  refine pl_val (want_no rfl) (some 98) rfl (.string s) (fun _ => by kernel_rfl) ?_
  refine pl_val (want_no rfl) (some 99) rfl (.int .i64 ((64 * q : Nat) : Int)) (fun _ => by kernel_rfl) ?_
  refine pl_val (want_no rfl) (some 100) rfl (.string (s.extract 0 (64 * q))) (run_strh 9 Tryd.underlying9 _ _ rfl s (by kernel_rfl) .i64 (64 * q) (by kernel_rfl) hq2 _ rfl) ?_
  refine pl_call M (want_no rfl) (some 101) rfl 10 #[.string key, .string nonce, .int .u32 (n : Int), .string (s.extract 0 (64 * q))] (.tuple #[.string (oS (fw key nonce (n : Int)) (s.extract 0 (64 * q))), .int .i64 0]) (fun _ => by kernel_rfl) (fun w M => c_TurnA key nonce n hn (s.extract 0 (64 * q)) (by rw [ext0_size s _ hq2]; omega) hm (by rw [ext0_size s _ hq2]; omega) w M.laid) ?_
  intro u3 M
  refine pl_val (want_no rfl) (some 94) rfl (.tuple #[.string (oS (fw key nonce (n : Int)) (s.extract 0 (64 * q))), .int .i64 0]) (fun _ => by kernel_rfl) ?_
  refine pl_val (want_no rfl) (some 102) rfl (.string (oS (fw key nonce (n : Int)) (s.extract 0 (64 * q)))) (fun _ => by kernel_rfl) ?_
  refine pl_val (want_no rfl) (some 103) rfl (.int .i64 0) (fun _ => by kernel_rfl) ?_
  refine pl_val (want_no rfl) (some 16) rfl (.string (oS (fw key nonce (n : Int)) (s.extract 0 (64 * q)))) (fun _ => by kernel_rfl) ?_
  refine pl_val (want_no rfl) (some 17) rfl (.int .i64 0) (fun _ => by kernel_rfl) ?_
  refine pl_nil ?_
  refine au_then ?_
  refine wp_seq ?_
  refine rg_lit ?_
  refine pl_val (want_no rfl) (some 105) rfl (.string key) (fun _ => by kernel_rfl) ?_
  refine pl_val (want_no rfl) (some 106) rfl (.string nonce) (fun _ => by kernel_rfl) ?_
  refine pl_val (want_no rfl) (some 107) rfl (.int .u32 (n : Int)) (fun _ => by kernel_rfl) ?_
  refine pl_val (want_no rfl) (some 108) rfl (.int .i64 ((64 * q : Nat) : Int)) (fun _ => by kernel_rfl) ?_
  refine pl_val (want_no rfl) (some 109) rfl (.int .i64 ((q : Nat) : Int)) (fun w => Eq.trans (b := .ok (.value (.int .i64 (IntKind.wrap .i64 (((64 * q : Nat) : Int).tdiv 64)))) w) (by kernel_rfl) (by rw [quo64 (64 * q) (by omega), show 64 * q / 64 = q by omega])) ?_
  refine pl_val (want_no rfl) (some 110) rfl (.int .u32 (q : Int)) (fun w => Eq.trans (b := .ok (.value (.int .u32 (cv .u32 (q : Int)))) w) (by kernel_rfl) (by rw [cvu32 _ (by omega)])) ?_
  refine pl_val (want_no rfl) (some 111) rfl (.int .u32 (m : Int)) (fun w => Eq.trans (b := .ok (.value (.int .u32 (va (n : Int) (q : Int)))) w) (by kernel_rfl) (by rw [hv])) ?_
  refine pl_val (want_no rfl) (some 112) rfl (.string s) (fun _ => by kernel_rfl) ?_
  refine pl_val (want_no rfl) (some 113) rfl (.int .i64 ((64 * q : Nat) : Int)) (fun _ => by kernel_rfl) ?_
  refine pl_val (want_no rfl) (some 114) rfl (.string (s.extract (64 * q) s.size)) (run_strl 9 Tryd.underlying9 _ _ rfl s (by kernel_rfl) .i64 (64 * q) (by kernel_rfl) hq2 _ rfl) ?_
  refine pl_call M (want_no rfl) (some 115) rfl 10 #[.string key, .string nonce, .int .u32 (m : Int), .string (s.extract (64 * q) s.size)] (.tuple #[.string (oS (fw key nonce (m : Int)) (s.extract (64 * q) s.size)), .int .i64 0]) (fun _ => by kernel_rfl) (fun w M => c_TurnA key nonce m hm1 (s.extract (64 * q) s.size) (by rw [ext_size]; omega) hm (by rw [ext_size]; omega) w M.laid) ?_
  intro u4 M
  refine pl_val (want_no rfl) (some 104) rfl (.tuple #[.string (oS (fw key nonce (m : Int)) (s.extract (64 * q) s.size)), .int .i64 0]) (fun _ => by kernel_rfl) ?_
  refine pl_val (want_no rfl) (some 116) rfl (.string (oS (fw key nonce (m : Int)) (s.extract (64 * q) s.size))) (fun _ => by kernel_rfl) ?_
  refine pl_val (want_no rfl) (some 117) rfl (.int .i64 0) (fun _ => by kernel_rfl) ?_
  refine pl_val (want_no rfl) (some 18) rfl (.string (oS (fw key nonce (m : Int)) (s.extract (64 * q) s.size))) (fun _ => by kernel_rfl) ?_
  refine pl_val (want_no rfl) (some 19) rfl (.int .i64 0) (fun _ => by kernel_rfl) ?_
  refine pl_nil ?_
  refine au_then ?_
  refine wp_seq ?_
  refine wp_seq ?_
  refine rg_lit ?_
  refine pl_val (want_no rfl) (some 118) rfl (.int .i64 0) (fun _ => by kernel_rfl) ?_
  refine pl_val (want_no rfl) (some 119) rfl (.bool false) (fun _ => by kernel_rfl) ?_
  refine pl_val (want_no rfl) (some 120) rfl (.bool false) (fun _ => by kernel_rfl) ?_
  refine pl_val (want_on 2 false rfl 120 rfl (by kernel_rfl)) (some 121) rfl (.string s) (fun _ => by kernel_rfl) ?_
  refine pl_val (want_on 2 false rfl 120 rfl (by kernel_rfl)) (some 122) rfl (.int .i64 ((64 * q : Nat) : Int)) (fun _ => by kernel_rfl) ?_
  refine pl_val (want_on 2 false rfl 120 rfl (by kernel_rfl)) (some 123) rfl (.string (s.extract (64 * q) s.size)) (run_strl 9 Tryd.underlying9 _ _ rfl s (by kernel_rfl) .i64 (64 * q) (by kernel_rfl) hq2 _ rfl) ?_
  refine pl_val (want_on 2 false rfl 120 rfl (by kernel_rfl)) (some 124) rfl (.bool false) (fun w => Eq.trans (b := .ok (.value (.bool (!((s.extract (64 * q) s.size).toList == (⟨#[]⟩ : ByteArray).toList)))) w) (by kernel_rfl) (by rw [hlt, ext_none, beq_self_eq_true]; rfl)) ?_
  refine pl_val (want_on 2 false rfl 120 rfl (by kernel_rfl)) (some 125) rfl (.bool false) (fun _ => by kernel_rfl) ?_
  refine pl_skip (want_off 7 true rfl 125 rfl (by kernel_rfl)) (some 126) rfl ?_
  refine pl_skip (want_off 7 true rfl 125 rfl (by kernel_rfl)) (some 127) rfl ?_
  refine pl_skip (want_off 7 true rfl 125 rfl (by kernel_rfl)) (some 128) rfl ?_
  refine pl_skip (want_und 10 false rfl 128 rfl (by kernel_rfl)) (some 129) rfl ?_
  refine pl_skip (want_und 10 false rfl 128 rfl (by kernel_rfl)) (some 130) rfl ?_
  refine pl_skip (want_und 10 false rfl 128 rfl (by kernel_rfl)) (some 131) rfl ?_
  refine pl_skip (want_und 10 false rfl 128 rfl (by kernel_rfl)) (some 132) rfl ?_
  refine pl_skip (want_und 10 false rfl 128 rfl (by kernel_rfl)) (some 133) rfl ?_
  refine pl_skip (want_off 7 true rfl 125 rfl (by kernel_rfl)) (some 134) rfl ?_
  refine pl_val (want_on 2 false rfl 120 rfl (by kernel_rfl)) (some 135) rfl (.bool false) (fun _ => by kernel_rfl) ?_
  refine pl_val (want_no rfl) (some 136) rfl (.bool false) (fun _ => by kernel_rfl) ?_
  refine pl_nil ?_
  refine au_then ?_
  refine wp_cond_false (by kernel_rfl) ?_
  refine wp_skip ?_
  refine au_then ?_
  refine wp_seq ?_
  refine rg_lit ?_
  refine pl_val (want_no rfl) (some 137) rfl (.string s) (fun _ => by kernel_rfl) ?_
  refine pl_val (want_no rfl) (some 138) rfl (.int .i64 ((64 * q : Nat) : Int)) (fun _ => by kernel_rfl) ?_
  refine pl_val (want_no rfl) (some 139) rfl (.string (s.extract (64 * q) s.size)) (run_strl 9 Tryd.underlying9 _ _ rfl s (by kernel_rfl) .i64 (64 * q) (by kernel_rfl) hq2 _ rfl) ?_
  refine pl_val (want_no rfl) (some 140) rfl (.bool false) (fun w => Eq.trans (b := .ok (.value (.bool (!((s.extract (64 * q) s.size).toList == (⟨#[]⟩ : ByteArray).toList)))) w) (by kernel_rfl) (by rw [hlt, ext_none, beq_self_eq_true]; rfl)) ?_
  refine pl_val (want_no rfl) (some 141) rfl (.bool false) (fun _ => by kernel_rfl) ?_
  refine pl_val (want_on 4 false rfl 141 rfl (by kernel_rfl)) (some 142) rfl (.string (oS (fw key nonce (n : Int)) (s.extract 0 (64 * q)))) (fun _ => by kernel_rfl) ?_
  refine pl_val (want_on 4 false rfl 141 rfl (by kernel_rfl)) (some 143) rfl (.string (oS (fw key nonce (n : Int)) s)) (fun _ => by kernel_rfl) ?_
  refine pl_val (want_on 4 false rfl 141 rfl (by kernel_rfl)) (some 144) rfl (.bool true) (fun w => Eq.trans (b := .ok (.value (.bool ((oS (fw key nonce (n : Int)) (s.extract 0 (64 * q))).toList == (oS (fw key nonce (n : Int)) s).toList))) w) (by kernel_rfl) (by rw [hlt, ext_all, beq_self_eq_true])) ?_
  refine pl_val (want_no rfl) (some 145) rfl (.bool true) (fun _ => by kernel_rfl) ?_
  refine pl_val (want_no rfl) (some 146) rfl (.bool true) (fun _ => by kernel_rfl) ?_
  refine pl_call M (want_on 9 true rfl 146 rfl (by kernel_rfl)) (some 147) rfl 6 #[] (.bool true) (fun _ => by kernel_rfl) (fun w M => c_alive w M.laid) ?_
  intro u5 M
  refine pl_val (want_no rfl) (some 148) rfl (.bool true) (fun _ => by kernel_rfl) ?_
  refine pl_val (want_no rfl) (some 10) rfl (.bool true) (fun _ => by kernel_rfl) ?_
  refine pl_nil ?_
  refine au_then ?_
  refine wp_ret ?_
  exact bodyPost_ret (v := .bool true) (results_tmp1 Tryd.results5 _ _ _ (by kernel_rfl)) (by kernel_rfl) ⟨rfl, below_grown M.old⟩

theorem c_back (key nonce : ByteArray) (n : Int) (h0 : 0 ≤ n) (h1 : n < 4294967296) (s : ByteArray) (ct : Int) (w : World) (hL : Laid w) : Calls Tryd.prog 5 #[.string key, .string nonce, .int .u32 n, .string s, .int .i64 ct] w fun r w' => r = .returned (.bool true) ∧ Below w.heap.size w w' := by
  obtain ⟨n, rfl⟩ : ∃ m : Nat, n = (m : Int) := ⟨n.toNat, by omega⟩
  by_cases h : key.size = 32
  · by_cases h2 : nonce.size = 12
    · by_cases h3 : 4096 < s.size
      · exact bcC key nonce n s ct h h2 h3 w hL
      · by_cases hl : 4294967296 < n + (s.size + 63) / 64
        · exact bcD key nonce n s ct h3 ⟨h, h2⟩ (by omega) hl w hL
        · obtain ⟨c, hc1, hc⟩ := lw_nat ct
          obtain ⟨q, hq, hq2⟩ : ∃ q, min (c * 64) (s.size / 64 * 64) = 64 * q ∧ 64 * q ≤ s.size := by
            by_cases e : c ≤ s.size / 64
            · exact ⟨c, by omega, by omega⟩
            · exact ⟨s.size / 64, by omega, by omega⟩
          have hv : va (n : Int) (q : Int) = (((n + q) % 4294967296 : Nat) : Int) := by
            rw [va_eq]
            omega
          by_cases hlt : 64 * q < s.size
          · exact bcE key nonce n s ct h3 ⟨h, h2⟩ (by omega) hl c q _ hc hc1 hq hq2 hv (by omega) (by omega) hlt w hL
          · exact bcF key nonce n s ct h3 ⟨h, h2⟩ (by omega) hl c q _ hc hc1 hq hq2 hv (by omega) (by omega) (by omega) w hL
    · exact bcB key nonce n s ct h h2 w hL
  · exact bcA key nonce n s ct h w hL


end Go.Proofs.YtenkabhnlidglaaDoor
