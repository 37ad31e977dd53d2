/- A key, with bytes 0 behind it; masked; the tag of a text: the walks of blockOf, masked, tag, Hmac and Extract. -/
import Derived.Test.YtpfneekmbednoaaDoorB9
namespace Go.Proofs.YtpfneekmbednoaaDoor
open Go.RowKit

theorem inz39 : (Tryd.prog.info? 39).map (·.size) = some 64 := by kernel_rfl
theorem inz31 : (Tryd.prog.info? 31).map (·.size) = some 1 := by kernel_rfl
theorem inz26 : (Tryd.prog.info? 26).map (·.size) = some 1 := by kernel_rfl
/-- Exclusive or, of bytes. -/
def xb (x y : Int) : Int := IntKind.wrap .u8 (BitVec.ofInt 8 x ^^^ BitVec.ofInt 8 y).toNat
theorem xb_nn (x y : Int) : 0 ≤ xb x y ∧ xb x y < 256 := cv8_nn _
/-- The block, masked up to a place. -/
def mkF (f : Nat → Int) (m : Int) : Nat → (Nat → Int)
  | 0 => f
  | j + 1 => upd (mkF f m j) j (xb (mkF f m j j) m)
theorem mkF_eq (f : Nat → Int) (m : Int) : ∀ j i, mkF f m j i = if i < j then xb (f i) m else f i
  | 0, i => by rw [if_neg (by omega)]; rfl
  | j + 1, i => by
    unfold mkF upd
    by_cases e : i = j
    · subst e
      rw [if_pos rfl, if_pos (by omega), mkF_eq f m i i, if_neg (by omega)]
    · rw [if_neg e, mkF_eq f m j i]
      by_cases h : i < j
      · rw [if_pos h, if_pos (by omega)]
      · rw [if_neg h, if_neg (by omega)]
/-- A masked block's bytes. -/
def mk (f : Nat → Int) (m : Int) : ByteArray := bs ((List.range 64).map fun i => xb (f i) m)
theorem mk_size (f : Nat → Int) (m : Int) : (mk f m).size = 64 := by rw [mk, bs_size]; simp
theorem sb_av (n : Nat) (F : Nat → Int) (T : TypeId) : SB (.cells (av n (w8 F)) T) n (vs8 ((List.range n).map F)) := ⟨_, T, (0, 0), rfl, by simp [vs8], by rw [av_size]; exact Nat.le_refl _, fun i hi => by
  simp [vs8] at hi
  simp [vs8, av, w8, hi], fun i _ => by simp⟩
theorem bl_size (s : ByteArray) : (blV 32 strE s).size = 32 := by
  unfold blV
  rw [sumV_eq, bs_size, List.length_take, loI_length]
  rfl
/-- The key, or its digest. -/
def keyV (key : ByteArray) : ByteArray := if 64 < key.size then blV 32 strE key else key
theorem keyV_le (key : ByteArray) : (keyV key).size ≤ 64 := by
  unfold keyV
  split
  · rw [bl_size]; decide
  · omega
/-- The tag of a text by a block. -/
def tagV (f : Nat → Int) (s : ByteArray) : ByteArray := blV 32 strE (mk f 92 ++ blV 32 strE (mk f 54 ++ s))
theorem tagV_size (f : Nat → Int) (s : ByteArray) : (tagV f s).size = 32 := bl_size _
def hmV (key s : ByteArray) : ByteArray := tagV (bt (keyV key)) s
theorem hmV_size (key s : ByteArray) : (hmV key s).size = 32 := bl_size _
theorem bt_cp (s : ByteArray) (hs : s.size ≤ 64) : ∀ j, j < 64 → (if 0 ≤ j ∧ j < 0 + Nat.min s.size 64 then w8 (bt s) (j - 0) else w8 (fun _ => 0) j) = w8 (bt s) j := fun j _ => by
  have e : Nat.min s.size 64 = s.size := Nat.min_eq_left hs
  rw [e, Nat.sub_zero]
  unfold w8
  by_cases h : j < s.size
  · rw [if_pos (by omega)]
  · rw [if_neg (by omega), bt_out s j (by omega)]

theorem mk_back (f : Nat → Int) (m : Int) : bs ((List.range 64).map (mkF f m 64)) = mk f m := by
  unfold mk
  refine congrArg bs ?_
  refine List.map_congr_left fun i hi => ?_
  rw [mkF_eq, if_pos (List.mem_range.1 hi)]
theorem mk_nn (f : Nat → Int) (m : Int) : ∀ x ∈ (List.range 64).map (mkF f m 64), 0 ≤ x ∧ x < 256 := fun x hx => by
  obtain ⟨i, hi, rfl⟩ := List.mem_map.1 hx
  rw [mkF_eq, if_pos (List.mem_range.1 hi)]
  exact xb_nn _ _

set_option maxRecDepth 100000 in
set_option maxHeartbeats 4000000 in
theorem c_masked (f : Nat → Int) (m : Int) (w : World) (hL : Laid w)  :
    Calls Tryd.prog 20 #[.agg (av 64 (w8 f)), .int .u8 m] w fun r w' => r = .returned (.string (mk f m)) ∧ Below w.heap.size w w' := by
  go_enter Tryd.func20, Tryd.ntmps20
  have M := Mem.start hL
  refine wp_seq ?_
  refine rg_lit ?_
  refine pl_new M (want_no rfl) (some 2) rfl (.cells (av 64 (w8 f)) 39) (fun _ => by kernel_rfl) ?_
  intro g1 u1 M
  replace M : Mem ⟨w, []⟩ [⟨g1, .cells (av 64 (w8 f)) 39⟩] u1 := M
  refine pl_val (want_no rfl) (some 4) rfl (.string ⟨#[]⟩) (fun _ => by kernel_rfl) ?_
  refine pl_nil ?_
  refine au_then ?_
  refine wp_seq ?_
  refine wp_seq ?_
  refine rg_lit ?_
  refine pl_val (want_no rfl) (some 6) rfl (.int .i64 0) (fun _ => by kernel_rfl) ?_
  refine pl_nil ?_
  refine au_then ?_
  refine wp_block ?_
  refine au_loop (fun j a w' => ∃ v1 : Nat → Value, a = ⟨#[.agg (av 64 (w8 f)), .int .u8 m, .pointer (some ⟨g1, 0, none⟩), undef, .string ⟨#[]⟩, v1 5, .int .i64 (j : Int), v1 7, v1 8, v1 9, v1 10, v1 11, v1 12, v1 13, v1 14, v1 15, undef, undef], []⟩ ∧ Mem ⟨w, []⟩ [⟨g1, .cells (av 64 (w8 (mkF f m j))) 39⟩] w') 64 ⟨fun k_ => ([undef, undef, undef, undef, undef, undef, undef, undef, undef, undef, undef] : List Value).getD (k_ - 5) undef, by kernel_rfl, M⟩ ?_ ?_
  · intro j a u0 hj hI
    obtain ⟨v1, rfl, M⟩ := hI
    refine wp_seq ?_
    refine rg_lit ?_
    refine pl_val (want_no rfl) (some 7) rfl (.bool true) (fun w => Eq.trans (b := .ok (.value (.bool (decide ((j : Int) < 64)))) w) (by kernel_rfl) (by rw [decide_eq_true (by omega)])) ?_
    refine pl_nil ?_
    refine au_then ?_
    refine wp_seq ?_
    refine wp_cond_true (by kernel_rfl) ?_
    refine wp_skip ?_
    refine au_then ?_
    refine wp_seq ?_
    refine wp_block ?_
    refine wp_seq ?_
    refine rg_lit ?_
    refine pl_val (want_no rfl) (some 8) rfl (.int .i64 (j : Int)) (fun _ => by kernel_rfl) ?_
    refine pl_val (want_no rfl) (some 5) rfl (.int .i64 (j : Int)) (fun _ => by kernel_rfl) ?_
    refine pl_nil ?_
    refine au_then ?_
    refine rg_lit ?_
    refine pl_val (want_no rfl) (some 9) rfl (.int .i64 (j : Int)) (fun _ => by kernel_rfl) ?_
    refine pl_val (want_no rfl) (some 10) rfl (.pointer (some ⟨g1, j, none⟩)) (run_ix1 39 64 5 Tryd.underlying39 inz5 _ _ rfl g1 (by kernel_rfl) .i64 (j) (by kernel_rfl) (by omega)) ?_
    refine pl_cell M (want_no rfl) (some 11) rfl 5 _ rfl g1 j (by kernel_rfl) (.int .u8 ((mkF f m j) j)) (fun _ => by kernel_rfl) (fun w M => M.cell 0 rfl (by omega) rfl) ?_
    refine pl_val (want_no rfl) (some 12) rfl (.int .u8 m) (fun _ => by kernel_rfl) ?_
    refine pl_val (want_no rfl) (some 13) rfl (.int .u8 (xb (mkF f m j j) m)) (fun _ => by kernel_rfl) ?_
    refine pl_val (want_no rfl) (some 14) rfl (.pointer (some ⟨g1, j, none⟩)) (run_ix1 39 64 5 Tryd.underlying39 inz5 _ _ rfl g1 (by kernel_rfl) .i64 (j) (by kernel_rfl) (by omega)) ?_
    refine pl_put1 M (want_no rfl) rfl 5 _ _ rfl 0 g1 j (by kernel_rfl) 64 39 (w8 (mkF f m j)) rfl (.int .u8 (xb (mkF f m j j) m)) (w8 (upd (mkF f m j) j (xb (mkF f m j j) m))) (by kernel_rfl) inz5 (by omega) rfl rfl (fun j _ => put_w8 _ _ _ j) ?_
    intro u2 M
    replace M : Mem ⟨w, []⟩ [⟨g1, .cells (av 64 (w8 (upd (mkF f m j) j (xb (mkF f m j j) m)))) 39⟩] u2 := M
    refine pl_nil ?_
    refine au_block ?_
    refine au_then ?_
    refine rg_lit ?_
    refine pl_val (want_no rfl) (some 15) rfl (.int .i64 ((j + 1 : Nat) : Int)) (fun w => Eq.trans (b := .ok (.value (.int .i64 (IntKind.wrap .i64 ((j : Int) + 1)))) w) (by kernel_rfl) (by rw [wrap64 (by omega) (by omega)]; congr 3)) ?_
    refine pl_val (want_no rfl) (some 6) rfl (.int .i64 ((j + 1 : Nat) : Int)) (fun _ => by kernel_rfl) ?_
    refine pl_nil ?_
    refine au_then ?_
    exact ⟨fun k_ => ([.int .i64 (j : Int), undef, .bool true, .int .i64 (j : Int), .int .i64 (j : Int), .pointer (some ⟨g1, j, none⟩), .int .u8 ((mkF f m j) j), .int .u8 m, .int .u8 (xb (mkF f m j j) m), .pointer (some ⟨g1, j, none⟩), .int .i64 ((j + 1 : Nat) : Int)] : List Value).getD (k_ - 5) undef, by kernel_rfl, M⟩
  · intro a u0 hI
    obtain ⟨v1, rfl, M⟩ := hI
    refine wp_seq ?_
    refine rg_lit ?_
    refine pl_val (want_no rfl) (some 7) rfl (.bool false) (fun w => Eq.trans (b := .ok (.value (.bool (decide ((64 : Int) < 64)))) w) (by kernel_rfl) (by rw [decide_eq_false (by omega)])) ?_
    refine pl_nil ?_
    refine au_then ?_
    refine wp_seq ?_
    refine wp_cond_false (by kernel_rfl) ?_
    refine wp_exit ?_
    refine au_then_exit ?_
    refine au_then_exit ?_
    refine au_block_exit ?_
    refine au_then ?_
    refine wp_seq ?_
    refine rg_lit ?_
    refine pl_val (want_no rfl) (some 16) rfl (.slice (some ⟨g1, 0, none⟩) 64 64) (fun _ => by kernel_rfl) ?_
    refine pl_back M (want_no rfl) (some 17) rfl _ rfl 0 g1 64 64 (by kernel_rfl) _ rfl ((List.range 64).map (mkF f m 64)) 64 (sb_av 64 _ _) (by simp) (mk_nn f m) ?_
    rw [mk_back]
    refine pl_val (want_no rfl) (some 4) rfl (.string (mk f m)) (fun _ => by kernel_rfl) ?_
    refine pl_nil ?_
    refine au_then ?_
    refine wp_ret ?_
    exact bodyPost_ret (v := .string (mk f m)) (results_tmp1 Tryd.results20 _ _ _ (by kernel_rfl)) (by kernel_rfl) ⟨rfl, below_grown M.old⟩

set_option maxRecDepth 100000 in
set_option maxHeartbeats 4000000 in
theorem c_blockA (key : ByteArray) (hk : 64 < key.size) (w : World) (hL : Laid w)  :
    Calls Tryd.prog 15 #[.string key] w fun r w' => r = .returned (.agg (av 64 (w8 (bt (keyV key))))) ∧ Below w.heap.size w w' := by
  go_enter Tryd.func15, Tryd.ntmps15
  have M := Mem.start hL
  obtain ⟨K, hK⟩ : ∃ K, blV 32 strE key = K := ⟨_, rfl⟩
  have hs : K.size ≤ 64 := by rw [← hK, bl_size]; decide
  refine wp_seq ?_
  refine rg_lit ?_
  refine pl_new M (want_no rfl) (some 2) rfl (.cells (av 64 (w8 (fun _ => 0))) 39) (fun _ => by kernel_rfl) ?_
  intro g1 u1 M
  replace M : Mem ⟨w, []⟩ [⟨g1, .cells (av 64 (w8 (fun _ => 0))) 39⟩] u1 := M
  refine pl_nil ?_
  refine au_then ?_
  refine wp_seq ?_
  refine wp_seq ?_
  refine rg_lit ?_
  refine pl_val (want_no rfl) (some 4) rfl (.string key) (fun _ => by kernel_rfl) ?_
  refine pl_val (want_no rfl) (some 5) rfl (.int .i64 (key.size : Int)) (fun _ => by kernel_rfl) ?_
  refine pl_val (want_no rfl) (some 6) rfl (.bool true) (fun w => Eq.trans (b := .ok (.value (.bool (decide ((64 : Int) < (key.size : Int))))) w) (by kernel_rfl) (by rw [decide_eq_true (by omega)])) ?_
  refine pl_nil ?_
  refine au_then ?_
  refine wp_cond_true (by kernel_rfl) ?_
  refine rg_lit ?_
  refine pl_val (want_no rfl) (some 7) rfl (.string key) (fun _ => by kernel_rfl) ?_
  refine pl_call M (want_no rfl) (some 8) rfl 19 #[.string key] (.string K) (fun _ => by kernel_rfl) (fun w M => (by rw [← hK]; exact c_of key w M.laid)) ?_
  intro u2 M
  refine pl_val (want_no rfl) (some 0) rfl (.string K) (fun _ => by kernel_rfl) ?_
  refine pl_nil ?_
  refine au_then ?_
  refine wp_seq ?_
  refine rg_lit ?_
  refine pl_new M (want_no rfl) (some 3) rfl (.cells (av 64 (w8 (fun _ => 0))) 39) (fun _ => by kernel_rfl) ?_
  intro g2 u3 M
  replace M : Mem ⟨w, []⟩ [⟨g1, .cells (av 64 (w8 (fun _ => 0))) 39⟩, ⟨g2, .cells (av 64 (w8 (fun _ => 0))) 39⟩] u3 := M
  refine pl_nil ?_
  refine au_then ?_
  refine wp_seq ?_
  refine rg_lit ?_
  refine pl_val (want_no rfl) (some 9) rfl (.slice (some ⟨g2, 0, none⟩) 64 64) (fun _ => by kernel_rfl) ?_
  refine pl_val (want_no rfl) (some 10) rfl (.string K) (fun _ => by kernel_rfl) ?_
  refine pl_copyS M (want_no rfl) (some 11) rfl 42 9 3 5 Tryd.underlying42 inz5 1 g2 64 39 (w8 (fun _ => 0)) rfl 0 64 64 K (Nat.min K.size 64) rfl (by rw [Nat.zero_add]; exact Nat.min_le_right _ _) (w8 (bt K)) (bt_cp K hs) (fun _ => by kernel_rfl) ?_
  intro u4 M
  replace M : Mem ⟨w, []⟩ [⟨g1, .cells (av 64 (w8 (fun _ => 0))) 39⟩, ⟨g2, .cells (av 64 (w8 (bt K))) 39⟩] u4 := M
  refine pl_nil ?_
  refine au_then ?_
  refine wp_seq ?_
  refine rg_lit ?_
  refine pl_load M (want_no rfl) (some 12) rfl 39 _ rfl 1 g2 0 (by kernel_rfl) 64 39 (w8 (bt K)) rfl 64 (w8 (bt K)) (fun j _ => by rw [Nat.zero_add]) (by decide) _ Tryd.underlying39 rfl inz39 ?_
  refine pl_put M (want_no rfl) rfl 39 _ _ rfl 0 g1 0 (by kernel_rfl) 64 39 (w8 (fun _ => 0)) rfl 64 (w8 (bt K)) (w8 (bt K)) (by kernel_rfl) inz39 (by decide) (fun _ _ => rfl) (fun j hj => by rw [if_pos (by omega), Nat.sub_zero]) ?_
  intro u5 M
  replace M : Mem ⟨w, []⟩ [⟨g1, .cells (av 64 (w8 (bt K))) 39⟩, ⟨g2, .cells (av 64 (w8 (bt K))) 39⟩] u5 := M
  refine pl_nil ?_
  refine au_then ?_
  refine wp_ret ?_
  have e : keyV key = K := by unfold keyV; rw [if_pos hk, hK]
  rw [e]
  exact bodyPost_ret (v := .agg (av 64 (w8 (bt K)))) (results_cell_row Tryd.results15 _ _ g1 39 (av 64 (w8 (bt K))) (0, 0) _ (by kernel_rfl) (M.get 0 rfl) Tryd.underlying39 rfl (by rw [av_size]; exact inz39)) (by kernel_rfl) ⟨rfl, below_grown M.old⟩

set_option maxRecDepth 100000 in
set_option maxHeartbeats 4000000 in
theorem c_blockB (key : ByteArray) (hs : ¬ 64 < key.size) (w : World) (hL : Laid w)  :
    Calls Tryd.prog 15 #[.string key] w fun r w' => r = .returned (.agg (av 64 (w8 (bt (keyV key))))) ∧ Below w.heap.size w w' := by
  go_enter Tryd.func15, Tryd.ntmps15
  have M := Mem.start hL
  have hs : key.size ≤ 64 := by omega
  refine wp_seq ?_
  refine rg_lit ?_
  refine pl_new M (want_no rfl) (some 2) rfl (.cells (av 64 (w8 (fun _ => 0))) 39) (fun _ => by kernel_rfl) ?_
  intro g1 u1 M
  replace M : Mem ⟨w, []⟩ [⟨g1, .cells (av 64 (w8 (fun _ => 0))) 39⟩] u1 := M
  refine pl_nil ?_
  refine au_then ?_
  refine wp_seq ?_
  refine wp_seq ?_
  refine rg_lit ?_
  refine pl_val (want_no rfl) (some 4) rfl (.string key) (fun _ => by kernel_rfl) ?_
  refine pl_val (want_no rfl) (some 5) rfl (.int .i64 (key.size : Int)) (fun _ => by kernel_rfl) ?_
  refine pl_val (want_no rfl) (some 6) rfl (.bool false) (fun w => Eq.trans (b := .ok (.value (.bool (decide ((64 : Int) < (key.size : Int))))) w) (by kernel_rfl) (by rw [decide_eq_false (by omega)])) ?_
  refine pl_nil ?_
  refine au_then ?_
  refine wp_cond_false (by kernel_rfl) ?_
  refine wp_skip ?_
  refine au_then ?_
  refine wp_seq ?_
  refine rg_lit ?_
  refine pl_new M (want_no rfl) (some 3) rfl (.cells (av 64 (w8 (fun _ => 0))) 39) (fun _ => by kernel_rfl) ?_
  intro g2 u2 M
  replace M : Mem ⟨w, []⟩ [⟨g1, .cells (av 64 (w8 (fun _ => 0))) 39⟩, ⟨g2, .cells (av 64 (w8 (fun _ => 0))) 39⟩] u2 := M
  refine pl_nil ?_
  refine au_then ?_
  refine wp_seq ?_
  refine rg_lit ?_
  refine pl_val (want_no rfl) (some 9) rfl (.slice (some ⟨g2, 0, none⟩) 64 64) (fun _ => by kernel_rfl) ?_
  refine pl_val (want_no rfl) (some 10) rfl (.string key) (fun _ => by kernel_rfl) ?_
  refine pl_copyS M (want_no rfl) (some 11) rfl 42 9 3 5 Tryd.underlying42 inz5 1 g2 64 39 (w8 (fun _ => 0)) rfl 0 64 64 key (Nat.min key.size 64) rfl (by rw [Nat.zero_add]; exact Nat.min_le_right _ _) (w8 (bt key)) (bt_cp key hs) (fun _ => by kernel_rfl) ?_
  intro u3 M
  replace M : Mem ⟨w, []⟩ [⟨g1, .cells (av 64 (w8 (fun _ => 0))) 39⟩, ⟨g2, .cells (av 64 (w8 (bt key))) 39⟩] u3 := M
  refine pl_nil ?_
  refine au_then ?_
  refine wp_seq ?_
  refine rg_lit ?_
  refine pl_load M (want_no rfl) (some 12) rfl 39 _ rfl 1 g2 0 (by kernel_rfl) 64 39 (w8 (bt key)) rfl 64 (w8 (bt key)) (fun j _ => by rw [Nat.zero_add]) (by decide) _ Tryd.underlying39 rfl inz39 ?_
  refine pl_put M (want_no rfl) rfl 39 _ _ rfl 0 g1 0 (by kernel_rfl) 64 39 (w8 (fun _ => 0)) rfl 64 (w8 (bt key)) (w8 (bt key)) (by kernel_rfl) inz39 (by decide) (fun _ _ => rfl) (fun j hj => by rw [if_pos (by omega), Nat.sub_zero]) ?_
  intro u4 M
  replace M : Mem ⟨w, []⟩ [⟨g1, .cells (av 64 (w8 (bt key))) 39⟩, ⟨g2, .cells (av 64 (w8 (bt key))) 39⟩] u4 := M
  refine pl_nil ?_
  refine au_then ?_
  refine wp_ret ?_
  have e : keyV key = key := by unfold keyV; rw [if_neg (by omega)]
  rw [e]
  exact bodyPost_ret (v := .agg (av 64 (w8 (bt key)))) (results_cell_row Tryd.results15 _ _ g1 39 (av 64 (w8 (bt key))) (0, 0) _ (by kernel_rfl) (M.get 0 rfl) Tryd.underlying39 rfl (by rw [av_size]; exact inz39)) (by kernel_rfl) ⟨rfl, below_grown M.old⟩

theorem c_block (key : ByteArray) (w : World) (hL : Laid w) : Calls Tryd.prog 15 #[.string key] w fun r w' => r = .returned (.agg (av 64 (w8 (bt (keyV key))))) ∧ Below w.heap.size w w' := by
  by_cases h : 64 < key.size
  · exact c_blockA key h w hL
  · exact c_blockB key h w hL

set_option maxRecDepth 100000 in
set_option maxHeartbeats 4000000 in
theorem c_tag (f : Nat → Int) (s : ByteArray) (hs : s.size < 100000) (w : World) (hL : Laid w)  :
    Calls Tryd.prog 16 #[.agg (av 64 (w8 f)), .string s] w fun r w' => r = .returned (.string (tagV f s)) ∧ Below w.heap.size w w' := by
  go_enter Tryd.func16, Tryd.ntmps16
  have M := Mem.start hL
  refine wp_seq ?_
  refine rg_lit ?_
  refine pl_new M (want_no rfl) (some 2) rfl (.cells (av 64 (w8 f)) 39) (fun _ => by kernel_rfl) ?_
  intro g1 u1 M
  replace M : Mem ⟨w, []⟩ [⟨g1, .cells (av 64 (w8 f)) 39⟩] u1 := M
  refine pl_val (want_no rfl) (some 4) rfl (.string ⟨#[]⟩) (fun _ => by kernel_rfl) ?_
  refine pl_nil ?_
  refine au_then ?_
  refine wp_seq ?_
  refine rg_tail M 9 (by kernel_rfl) (by kernel_rfl) ?_
  simp only [List.take_succ_cons, List.take_zero]
  refine k_load M (want_no rfl) (some 5) rfl 39 _ rfl 0 g1 0 (by kernel_rfl) 64 39 (w8 f) rfl 64 (w8 f) (fun j _ => by rw [Nat.zero_add]) (by decide) _ Tryd.underlying39 rfl inz39 ?_
  refine k_call M (want_no rfl) (some 6) rfl 20 #[.agg (av 64 (w8 f)), .int .u8 92] (.string (mk f 92)) (fun _ => by kernel_rfl) (fun w M => c_masked f 92 w M.laid) ?_
  refine k_load M (want_no rfl) (some 7) rfl 39 _ rfl 0 g1 0 (by kernel_rfl) 64 39 (w8 f) rfl 64 (w8 f) (fun j _ => by rw [Nat.zero_add]) (by decide) _ Tryd.underlying39 rfl inz39 ?_
  refine k_call M (want_no rfl) (some 8) rfl 20 #[.agg (av 64 (w8 f)), .int .u8 54] (.string (mk f 54)) (fun _ => by kernel_rfl) (fun w M => c_masked f 54 w M.laid) ?_
  refine k_val (want_no rfl) (some 9) rfl (.string s) (fun _ => by kernel_rfl) ?_
  refine k_val (want_no rfl) (some 10) rfl (.string ((mk f 54) ++ s)) (run_cat 9 9 _ _ rfl (mk f 54) s (by kernel_rfl) (by kernel_rfl) (by rw [mk_size]; omega)) ?_
  refine k_call M (want_no rfl) (some 11) rfl 19 #[.string ((mk f 54) ++ s)] (.string (blV 32 strE ((mk f 54) ++ s))) (fun _ => by kernel_rfl) (fun w M => c_of _ w M.laid) ?_
  refine k_val (want_no rfl) (some 12) rfl (.string ((mk f 92) ++ (blV 32 strE (mk f 54 ++ s)))) (run_cat 9 9 _ _ rfl (mk f 92) (blV 32 strE (mk f 54 ++ s)) (by kernel_rfl) (by kernel_rfl) (by rw [mk_size, bl_size]; decide)) ?_
  refine k_call M (want_no rfl) (some 13) rfl 19 #[.string ((mk f 92) ++ (blV 32 strE (mk f 54 ++ s)))] (.string (blV 32 strE ((mk f 92) ++ (blV 32 strE (mk f 54 ++ s))))) (fun _ => by kernel_rfl) (fun w M => c_of _ w M.laid) ?_
  refine kl_nil ?_
  intro u2 M
  replace M : Mem ⟨w, []⟩ [⟨g1, .cells (av 64 (w8 f)) 39⟩] u2 := M
  refine pl_val (want_no rfl) (some 4) rfl (.string (blV 32 strE ((mk f 92) ++ (blV 32 strE (mk f 54 ++ s))))) (fun _ => by kernel_rfl) ?_
  refine pl_nil ?_
  refine au_then ?_
  refine wp_ret ?_
  exact bodyPost_ret (v := .string (blV 32 strE ((mk f 92) ++ (blV 32 strE (mk f 54 ++ s))))) (results_tmp1 Tryd.results16 _ _ _ (by kernel_rfl)) (by kernel_rfl) ⟨rfl, below_grown M.old⟩

set_option maxRecDepth 100000 in
set_option maxHeartbeats 4000000 in
theorem c_hmac (key s : ByteArray) (hs : s.size < 100000) (w : World) (hL : Laid w)  :
    Calls Tryd.prog 8 #[.string key, .string s] w fun r w' => r = .returned (.string (hmV key s)) ∧ Below w.heap.size w w' := by
  go_enter Tryd.func8, Tryd.ntmps8
  have M := Mem.start hL
  refine wp_seq ?_
  refine rg_lit ?_
  refine pl_val (want_no rfl) (some 4) rfl (.string ⟨#[]⟩) (fun _ => by kernel_rfl) ?_
  refine pl_nil ?_
  refine au_then ?_
  refine wp_seq ?_
  refine rg_lit ?_
  refine pl_val (want_no rfl) (some 5) rfl (.string key) (fun _ => by kernel_rfl) ?_
  refine pl_call M (want_no rfl) (some 6) rfl 15 #[.string key] (.agg (av 64 (w8 (bt (keyV key))))) (fun _ => by kernel_rfl) (fun w M => c_block key w M.laid) ?_
  intro u1 M
  refine pl_val (want_no rfl) (some 7) rfl (.string s) (fun _ => by kernel_rfl) ?_
  refine pl_call M (want_no rfl) (some 8) rfl 16 #[.agg (av 64 (w8 (bt (keyV key)))), .string s] (.string (hmV key s)) (fun _ => by kernel_rfl) (fun w M => c_tag (bt (keyV key)) s hs w M.laid) ?_
  intro u2 M
  refine pl_val (want_no rfl) (some 4) rfl (.string (hmV key s)) (fun _ => by kernel_rfl) ?_
  refine pl_nil ?_
  refine au_then ?_
  refine wp_ret ?_
  exact bodyPost_ret (v := .string (hmV key s)) (results_tmp1 Tryd.results8 _ _ _ (by kernel_rfl)) (by kernel_rfl) ⟨rfl, below_grown M.old⟩

set_option maxRecDepth 100000 in
set_option maxHeartbeats 4000000 in
theorem c_extract (key s : ByteArray) (hs : s.size < 100000) (w : World) (hL : Laid w)  :
    Calls Tryd.prog 10 #[.string key, .string s] w fun r w' => r = .returned (.string (hmV key s)) ∧ Below w.heap.size w w' := by
  go_enter Tryd.func10, Tryd.ntmps10
  have M := Mem.start hL
  refine wp_seq ?_
  refine rg_lit ?_
  refine pl_val (want_no rfl) (some 4) rfl (.string ⟨#[]⟩) (fun _ => by kernel_rfl) ?_
  refine pl_nil ?_
  refine au_then ?_
  refine wp_seq ?_
  refine rg_lit ?_
  refine pl_val (want_no rfl) (some 5) rfl (.string key) (fun _ => by kernel_rfl) ?_
  refine pl_val (want_no rfl) (some 6) rfl (.string s) (fun _ => by kernel_rfl) ?_
  refine pl_call M (want_no rfl) (some 7) rfl 8 #[.string key, .string s] (.string (hmV key s)) (fun _ => by kernel_rfl) (fun w M => c_hmac key s hs w M.laid) ?_
  intro u1 M
  refine pl_val (want_no rfl) (some 4) rfl (.string (hmV key s)) (fun _ => by kernel_rfl) ?_
  refine pl_nil ?_
  refine au_then ?_
  refine wp_ret ?_
  exact bodyPost_ret (v := .string (hmV key s)) (results_tmp1 Tryd.results10 _ _ _ (by kernel_rfl)) (by kernel_rfl) ⟨rfl, below_grown M.old⟩


end Go.Proofs.YtpfneekmbednoaaDoor
