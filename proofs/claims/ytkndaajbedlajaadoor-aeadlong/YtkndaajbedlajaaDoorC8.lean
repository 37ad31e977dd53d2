/- The document: the walk of Turn. -/
import Derived.Test.YtkndaajbedlajaaDoorC7
namespace Go.Proofs.YtkndaajbedlajaaDoor
open Go.RowKit

/-- A byte of a text, as the document turns it. -/
def dob (key nonce : ByteArray) (n : Int) (s : ByteArray) (i : Nat) : Int := xb (bt s i) (bt (dbk key nonce (va n ((i / 64 : Nat) : Int))) (i % 64))
/-- The bytes, turned up to a place. -/
def dl (s : ByteArray) (g : Nat → Int) (j : Nat) : List Int := (List.range s.size).map fun i => if i < j then g i else bt s i
theorem dl_length (s : ByteArray) (g : Nat → Int) (j : Nat) : (dl s g j).length = s.size := by simp [dl]
theorem dl_zero (s : ByteArray) (g : Nat → Int) : sb s = dl s g 0 := by
  refine List.ext_getElem? fun i => ?_
  by_cases h : i < s.size
  · rw [sb_get s i h]
    simp [dl, h]
  · rw [List.getElem?_eq_none (by rw [sb_length]; omega), List.getElem?_eq_none (by rw [dl_length]; omega)]
theorem dl_get (s : ByteArray) (g : Nat → Int) (j : Nat) (h : j < s.size) : (vs8 (dl s g j))[j]? = some (.int .u8 (bt s j)) := by
  simp [vs8, dl, h]
theorem dl_set (s : ByteArray) (g : Nat → Int) (j : Nat) (h : j < s.size) : (vs8 (dl s g j)).set j (.int .u8 (g j)) = vs8 (dl s g (j + 1)) := by
  refine List.ext_getElem? fun i => ?_
  rw [List.getElem?_set]
  by_cases e : j = i
  · subst e
    rw [if_pos rfl, if_pos (by rw [vs8_length, dl_length]; exact h)]
    simp [vs8, dl, h]
  · rw [if_neg e]
    by_cases hi : i < s.size
    · simp only [vs8, dl, List.map_map, List.getElem?_map, List.getElem?_range hi]
      simp only [Option.map_some, Function.comp]
      by_cases h2 : i < j
      · rw [if_pos h2, if_pos (by omega)]
      · rw [if_neg h2, if_neg (by omega)]
    · rw [List.getElem?_eq_none (by rw [vs8_length, dl_length]; omega), List.getElem?_eq_none (by rw [vs8_length, dl_length]; omega)]
theorem dl_full (s : ByteArray) (g : Nat → Int) : dl s g s.size = (List.range s.size).map g := List.map_congr_left fun _ hi => if_pos (List.mem_range.1 hi)
/-- The document's text, turned. -/
def dT (key nonce : ByteArray) (n : Int) (s : ByteArray) : ByteArray := bs ((List.range s.size).map (dob key nonce n s))
theorem dob_nn (key nonce : ByteArray) (n : Int) (s : ByteArray) : ∀ x ∈ (List.range s.size).map (dob key nonce n s), 0 ≤ x ∧ x < 256 := fun x hx => by
  obtain ⟨i, _, rfl⟩ := List.mem_map.1 hx
  exact xb_nn _ _
/-- The block at hand ahead of a place. -/
def kS (key nonce : ByteArray) (n : Int) : Nat → ByteArray
  | 0 => strE
  | j + 1 => dbk key nonce (va n ((j / 64 : Nat) : Int))
theorem kS_at (key nonce : ByteArray) (n : Int) (j : Nat) (h : j % 64 ≠ 0) : kS key nonce n j = dbk key nonce (va n ((j / 64 : Nat) : Int)) := by
  rcases j with _ | j
  · exact absurd rfl h
  · show dbk key nonce (va n ((j / 64 : Nat) : Int)) = _
    rw [show (j + 1) / 64 = j / 64 by omega]
theorem cvu32 (n : Nat) (h : n < 4294967296) : cv .u32 (n : Int) = (n : Int) := wrap32_nat n h

set_option maxRecDepth 100000 in
set_option maxHeartbeats 4000000 in
theorem d_TurnA (key nonce : ByteArray) (n : Nat) (hn : n < 4294967296) (s : ByteArray) (hz : s.size ≤ 200000) (hm : (key.size = 32 ∧ nonce.size = 12)) (hl : ¬ (4294967296 < n + (s.size + 63) / 64)) (w : World) (hL : Laid w)  :
    Calls Tryd.prog 17 #[.string key, .string nonce, .int .u32 (n : Int), .string s] w fun r w' => r = .returned (.tuple #[.string (dT key nonce (n : Int) s), .int .i64 0]) ∧ Below w.heap.size w w' := by
  go_enter Tryd.func17, Tryd.ntmps17
  have M := Mem.start hL
  refine wp_seq ?_
  refine rg_lit ?_
  refine pl_val (want_no rfl) (some 8) rfl (.string ⟨#[]⟩) (fun _ => by kernel_rfl) ?_
  refine pl_val (want_no rfl) (some 9) rfl (.int .i64 0) (fun _ => by kernel_rfl) ?_
  refine pl_nil ?_
  refine au_then ?_
  refine wp_seq ?_
  refine wp_seq ?_
  refine rg_lit ?_
  refine pl_val (want_no rfl) (some 14) rfl (.string key) (fun _ => by kernel_rfl) ?_
  refine pl_val (want_no rfl) (some 15) rfl (.string nonce) (fun _ => by kernel_rfl) ?_
  refine pl_call M (want_no rfl) (some 16) rfl 16 #[.string key, .string nonce] (.bool true) (fun _ => by kernel_rfl) (fun w M => (by rw [← decide_eq_true hm]; exact d_may key nonce w M.laid)) ?_
  intro u1 M
  refine pl_val (want_no rfl) (some 17) rfl (.bool false) (fun _ => by kernel_rfl) ?_
  refine pl_nil ?_
  refine au_then ?_
  refine wp_cond_false (by kernel_rfl) ?_
  refine wp_skip ?_
  refine au_then ?_
  refine wp_seq ?_
  refine rg_lit ?_
  refine pl_val (want_no rfl) (some 18) rfl (.string s) (fun _ => by kernel_rfl) ?_
  refine pl_val (want_no rfl) (some 19) rfl (.int .i64 (s.size : Int)) (fun _ => by kernel_rfl) ?_
  refine pl_val (want_no rfl) (some 20) rfl (.int .i64 ((s.size + 63 : Nat) : Int)) (fun w => Eq.trans (b := .ok (.value (.int .i64 (IntKind.wrap .i64 ((s.size : Int) + 63)))) w) (by kernel_rfl) (by rw [wrap64 (by omega) (by omega)]; congr 3 <;> omega)) ?_
  refine pl_val (want_no rfl) (some 21) rfl (.int .u64 ((s.size + 63 : Nat) : Int)) (fun w => Eq.trans (b := .ok (.value (.int .u64 (cv .u64 ((s.size + 63 : Nat) : Int)))) w) (by kernel_rfl) (by rw [cvu64 _ (by omega)])) ?_
  refine pl_val (want_no rfl) (some 22) rfl (.int .u64 (((s.size + 63) / 64 : Nat) : Int)) (fun w => Eq.trans (b := .ok (.value (.int .u64 (IntKind.wrap .u64 (((s.size + 63 : Nat) : Int).tdiv 64)))) w) (by kernel_rfl) (by rw [quoU _ (by omega)])) ?_
  refine pl_val (want_no rfl) (some 10) rfl (.int .u64 (((s.size + 63) / 64 : Nat) : Int)) (fun _ => by kernel_rfl) ?_
  refine pl_nil ?_
  refine au_then ?_
  refine wp_seq ?_
  refine wp_seq ?_
  refine rg_lit ?_
  refine pl_val (want_no rfl) (some 23) rfl (.int .u32 (n : Int)) (fun _ => by kernel_rfl) ?_
  refine pl_val (want_no rfl) (some 24) rfl (.int .u64 (n : Int)) (fun w => Eq.trans (b := .ok (.value (.int .u64 (cv .u64 (n : Int)))) w) (by kernel_rfl) (by rw [cvu64 _ (by omega)])) ?_
  refine pl_val (want_no rfl) (some 25) rfl (.int .u64 (((s.size + 63) / 64 : Nat) : Int)) (fun _ => by kernel_rfl) ?_
  refine pl_val (want_no rfl) (some 26) rfl (.int .u64 ((n + (s.size + 63) / 64 : Nat) : Int)) (fun w => Eq.trans (b := .ok (.value (.int .u64 (IntKind.wrap .u64 ((n : Int) + (((s.size + 63) / 64 : Nat) : Int))))) w) (by kernel_rfl) (by rw [show (n : Int) + (((s.size + 63) / 64 : Nat) : Int) = ((n + (s.size + 63) / 64 : Nat) : Int) by omega, wu64 _ (by omega)])) ?_
  refine pl_val (want_no rfl) (some 27) rfl (.bool false) (fun w => Eq.trans (b := .ok (.value (.bool (decide ((4294967296 : Int) < ((n + (s.size + 63) / 64 : Nat) : Int))))) w) (by kernel_rfl) (by rw [decide_eq_false (by omega)])) ?_
  refine pl_nil ?_
  refine au_then ?_
  refine wp_cond_false (by kernel_rfl) ?_
  refine wp_skip ?_
  refine au_then ?_
  refine wp_seq ?_
  refine rg_lit ?_
  refine pl_val (want_no rfl) (some 28) rfl (.string s) (fun _ => by kernel_rfl) ?_
  refine pl_conv M (want_no rfl) (some 29) rfl _ rfl s (by kernel_rfl) ?_
  intro gq capq Zq u2 hZq M
  replace M : Mem ⟨w, []⟩ [⟨gq, Zq⟩] u2 := M
  rw [dl_zero s (dob key nonce (n : Int) s)] at hZq
  refine pl_val (want_no rfl) (some 11) rfl (.slice (some ⟨gq, 0, none⟩) s.size capq) (fun _ => by kernel_rfl) ?_
  refine pl_nil ?_
  refine au_then ?_
  refine wp_seq ?_
  refine rg_lit ?_
  refine pl_val (want_no rfl) (some 12) rfl (.string ⟨#[]⟩) (fun _ => by kernel_rfl) ?_
  refine pl_nil ?_
  refine au_then ?_
  refine wp_seq ?_
  refine wp_seq ?_
  refine rg_lit ?_
  refine pl_val (want_no rfl) (some 13) rfl (.int .i64 0) (fun _ => by kernel_rfl) ?_
  refine pl_nil ?_
  refine au_then ?_
  refine wp_block ?_
  refine au_loop (fun j a u => ∃ (v1 : Nat → Value) (Zq : Obj), a = ⟨#[.string key, .string nonce, .int .u32 (n : Int), .string s, undef, undef, undef, undef, .string ⟨#[]⟩, .int .i64 0, .int .u64 (((s.size + 63) / 64 : Nat) : Int), .slice (some ⟨gq, 0, none⟩) s.size capq, .string (kS key nonce (n : Int) j), .int .i64 (j : Int), .string key, .string nonce, .bool true, .bool false, .string s, .int .i64 (s.size : Int), .int .i64 ((s.size + 63 : Nat) : Int), .int .u64 ((s.size + 63 : Nat) : Int), .int .u64 (((s.size + 63) / 64 : Nat) : Int), .int .u32 (n : Int), .int .u64 (n : Int), .int .u64 (((s.size + 63) / 64 : Nat) : Int), .int .u64 ((n + (s.size + 63) / 64 : Nat) : Int), .bool false, .string s, .slice (some ⟨gq, 0, none⟩) s.size capq, v1 30, v1 31, v1 32, v1 33, v1 34, v1 35, v1 36, v1 37, v1 38, v1 39, v1 40, v1 41, v1 42, v1 43, v1 44, v1 45, v1 46, v1 47, v1 48, v1 49, v1 50, v1 51, v1 52, v1 53, v1 54, v1 55, v1 56, v1 57, v1 58, undef, undef], []⟩ ∧ SB Zq capq (vs8 (dl s (dob key nonce (n : Int) s) j)) ∧ Mem ⟨w, []⟩ [⟨gq, Zq⟩] u) s.size ⟨fun k_ => ([undef, undef, undef, undef, undef, undef, undef, undef, undef, undef, undef, undef, undef, undef, undef, undef, undef, undef, undef, undef, undef, undef, undef, undef, undef, undef, undef, undef, undef] : List Value).getD (k_ - 30) undef, Zq, by kernel_rfl, hZq, M⟩ ?_ ?_
  · intro j a u0 hj hI
    clear M hZq
    obtain ⟨v1, Zq, rfl, hZq, M⟩ := hI
    by_cases h64 : j % 64 = 0
    · skip
      refine wp_seq ?_
      refine wp_seq ?_
      refine rg_lit ?_
      refine pl_val (want_no rfl) (some 30) rfl (.int .i64 (j : Int)) (fun _ => by kernel_rfl) ?_
      refine pl_val (want_no rfl) (some 31) rfl (.slice (some ⟨gq, 0, none⟩) s.size capq) (fun _ => by kernel_rfl) ?_
      refine pl_val (want_no rfl) (some 32) rfl (.int .i64 ((s.size : Nat) : Int)) (fun _ => by kernel_rfl) ?_
      refine pl_val (want_no rfl) (some 33) rfl (.bool true) (fun w => Eq.trans (b := .ok (.value (.bool (decide ((j : Int) < ((s.size : Nat) : Int))))) w) (by kernel_rfl) (by rw [decide_eq_true (by omega)])) ?_
      refine pl_nil ?_
      refine au_then ?_
      refine wp_cond_true (by kernel_rfl) ?_
      refine wp_skip ?_
      refine au_then ?_
      refine wp_seq ?_
      refine wp_block ?_
      refine wp_seq ?_
      refine wp_seq ?_
      refine rg_lit ?_
      refine pl_val (want_no rfl) (some 36) rfl (.int .i64 (j : Int)) (fun _ => by kernel_rfl) ?_
      refine pl_val (want_no rfl) (some 37) rfl (.int .i64 ((j % 64 : Nat) : Int)) (fun w => Eq.trans (b := .ok (.value (.int .i64 (Int.tmod (j : Int) 64))) w) (by kernel_rfl) (by rw [rem64 j])) ?_
      refine pl_val (want_no rfl) (some 38) rfl (.bool true) (fun w => Eq.trans (b := .ok (.value (.bool (decide (((j % 64 : Nat) : Int) = 0)))) w) (by kernel_rfl) (by rw [decide_eq_true (by omega)])) ?_
      refine pl_nil ?_
      refine au_then ?_
      refine wp_cond_true (by kernel_rfl) ?_
      refine rg_lit ?_
      refine pl_val (want_no rfl) (some 39) rfl (.string key) (fun _ => by kernel_rfl) ?_
      refine pl_val (want_no rfl) (some 40) rfl (.string nonce) (fun _ => by kernel_rfl) ?_
      refine pl_val (want_no rfl) (some 41) rfl (.int .u32 (n : Int)) (fun _ => by kernel_rfl) ?_
      refine pl_val (want_no rfl) (some 42) rfl (.int .i64 (j : Int)) (fun _ => by kernel_rfl) ?_
      refine pl_val (want_no rfl) (some 43) rfl (.int .i64 ((j / 64 : Nat) : Int)) (fun w => Eq.trans (b := .ok (.value (.int .i64 (IntKind.wrap .i64 ((j : Int).tdiv 64)))) w) (by kernel_rfl) (by rw [quo64 j (by omega)])) ?_
      refine pl_val (want_no rfl) (some 44) rfl (.int .u32 ((j / 64 : Nat) : Int)) (fun w => Eq.trans (b := .ok (.value (.int .u32 (cv .u32 ((j / 64 : Nat) : Int)))) w) (by kernel_rfl) (by rw [cvu32 _ (by omega)])) ?_
      refine pl_val (want_no rfl) (some 45) rfl (.int .u32 (va (n : Int) ((j / 64 : Nat) : Int))) (fun _ => by kernel_rfl) ?_
      refine pl_call M (want_no rfl) (some 46) rfl 29 #[.string key, .string nonce, .int .u32 (va (n : Int) ((j / 64 : Nat) : Int))] (.string (dbk key nonce (va (n : Int) ((j / 64 : Nat) : Int)))) (fun _ => by kernel_rfl) (fun w M => d_Block key nonce _ hm.1 hm.2 w M.laid) ?_
      intro u3 M
      refine pl_val (want_no rfl) (some 12) rfl (.string (dbk key nonce (va (n : Int) ((j / 64 : Nat) : Int)))) (fun _ => by kernel_rfl) ?_
      refine pl_nil ?_
      refine au_then ?_
      refine rg_held M [⟨gq, Zq⟩] 12 rfl (by kernel_rfl) (by kernel_rfl) (fun _ _ d _ _ h => by cases d <;> exact h) ?_
      intro u4 M
      replace M : Mem ⟨w, []⟩ [⟨gq, Zq⟩] u4 := M
      refine hl_val M 0 rfl (by decide) (by kernel_rfl) (by kernel_rfl) (want_no rfl) (some 47) rfl (.slice (some ⟨gq, 0, none⟩) s.size capq) (fun _ _ => by kernel_rfl) ?_
      refine hl_val M 1 rfl (by decide) (by kernel_rfl) (by kernel_rfl) (want_no rfl) (some 48) rfl (.int .i64 (j : Int)) (fun _ _ => by kernel_rfl) ?_
      refine hl_val M 2 rfl (by decide) (by kernel_rfl) (by kernel_rfl) (want_no rfl) (some 49) rfl (.slice (some ⟨gq, 0, none⟩) s.size capq) (fun _ _ => by kernel_rfl) ?_
      refine hl_val M 3 rfl (by decide) (by kernel_rfl) (by kernel_rfl) (want_no rfl) (some 50) rfl (.int .i64 (j : Int)) (fun _ _ => by kernel_rfl) ?_
      refine hl_val M 4 rfl (by decide) (by kernel_rfl) (by kernel_rfl) (want_no rfl) (some 51) rfl (.pointer (some ⟨gq, j, none⟩)) (fun w _ => (run_ix0 32 5 Tryd.underlying32 inz5 _ _ rfl gq s.size capq (by kernel_rfl) .i64 j (by kernel_rfl) hj) w) ?_
      refine hl_cell M 5 rfl (by decide) (by kernel_rfl) (by kernel_rfl) (want_no rfl) (some 52) rfl 5 _ rfl gq j (by kernel_rfl) (.int .u8 (bt s j)) (fun _ => by kernel_rfl) (fun w M => hZq.cell (M.get 0 rfl) (dl_get s (dob key nonce (n : Int) s) j hj)) ?_
      refine hl_val M 6 rfl (by decide) (by kernel_rfl) (by kernel_rfl) (want_no rfl) (some 53) rfl (.string (dbk key nonce (va (n : Int) ((j / 64 : Nat) : Int)))) (fun _ _ => by kernel_rfl) ?_
      refine hl_val M 7 rfl (by decide) (by kernel_rfl) (by kernel_rfl) (want_no rfl) (some 54) rfl (.int .i64 (j : Int)) (fun _ _ => by kernel_rfl) ?_
      refine hl_val M 8 rfl (by decide) (by kernel_rfl) (by kernel_rfl) (want_no rfl) (some 55) rfl (.int .i64 ((j % 64 : Nat) : Int)) (fun w _ => (fun w => Eq.trans (b := .ok (.value (.int .i64 (Int.tmod (j : Int) 64))) w) (by kernel_rfl) (by rw [rem64 j])) w) ?_
      refine hl_val M 9 rfl (by decide) (by kernel_rfl) (by kernel_rfl) (want_no rfl) (some 56) rfl (.int .u8 (bt (dbk key nonce (va (n : Int) ((j / 64 : Nat) : Int))) (j % 64))) (fun w _ => (run_ixS 9 Tryd.underlying9 _ _ rfl (dbk key nonce (va (n : Int) ((j / 64 : Nat) : Int))) (by kernel_rfl) .i64 (j % 64) (by kernel_rfl) (by rw [dbk_size]; omega)) w) ?_
      refine hl_val M 10 rfl (by decide) (by kernel_rfl) (by kernel_rfl) (want_no rfl) (some 57) rfl (.int .u8 (dob key nonce (n : Int) s j)) (fun w _ => (fun w => Eq.trans (b := .ok (.value (.int .u8 (xb (bt s j) (bt (dbk key nonce (va (n : Int) ((j / 64 : Nat) : Int))) (j % 64))))) w) (by kernel_rfl) (by unfold dob; rfl)) w) ?_
      refine hl_val M 11 rfl (by decide) (by kernel_rfl) (by kernel_rfl) (want_no rfl) (some 58) rfl (.pointer (some ⟨gq, j, none⟩)) (fun w _ => (run_ix0 32 5 Tryd.underlying32 inz5 _ _ rfl gq s.size capq (by kernel_rfl) .i64 j (by kernel_rfl) hj) w) ?_
      refine hl_end (by kernel_rfl) (by kernel_rfl) rfl ?_
      refine pl_putS M (want_no rfl) rfl 5 _ _ rfl 0 gq j (by kernel_rfl) Zq rfl capq _ hZq (by rw [vs8_length, dl_length]; exact hj) (.int .u8 (dob key nonce (n : Int) s j)) (by kernel_rfl) inz5 rfl rfl ?_
      intro Zp u5 hZp M
      replace M : Mem ⟨w, []⟩ [⟨gq, Zp⟩] u5 := M
      rw [dl_set s (dob key nonce (n : Int) s) j hj] at hZp
      refine pl_nil ?_
      refine au_then ?_
      refine au_block ?_
      refine au_then ?_
      refine rg_lit ?_
      refine pl_val (want_no rfl) (some 34) rfl (.int .i64 (j : Int)) (fun _ => by kernel_rfl) ?_
      refine pl_val (want_no rfl) (some 35) rfl (.int .i64 ((j + 1 : Nat) : Int)) (fun w => Eq.trans (b := .ok (.value (.int .i64 (IntKind.wrap .i64 ((j : Int) + 1)))) w) (by kernel_rfl) (by rw [wrap64 (by omega) (by omega)]; congr 3)) ?_
      refine pl_val (want_no rfl) (some 13) rfl (.int .i64 ((j + 1 : Nat) : Int)) (fun _ => by kernel_rfl) ?_
      refine pl_nil ?_
      refine au_then ?_
      exact ⟨fun k_ => ([.int .i64 (j : Int), .slice (some ⟨gq, 0, none⟩) s.size capq, .int .i64 ((s.size : Nat) : Int), .bool true, .int .i64 (j : Int), .int .i64 ((j + 1 : Nat) : Int), .int .i64 (j : Int), .int .i64 ((j % 64 : Nat) : Int), .bool true, .string key, .string nonce, .int .u32 (n : Int), .int .i64 (j : Int), .int .i64 ((j / 64 : Nat) : Int), .int .u32 ((j / 64 : Nat) : Int), .int .u32 (va (n : Int) ((j / 64 : Nat) : Int)), .string (dbk key nonce (va (n : Int) ((j / 64 : Nat) : Int))), .slice (some ⟨gq, 0, none⟩) s.size capq, .int .i64 (j : Int), .slice (some ⟨gq, 0, none⟩) s.size capq, .int .i64 (j : Int), .pointer (some ⟨gq, j, none⟩), .int .u8 (bt s j), .string (dbk key nonce (va (n : Int) ((j / 64 : Nat) : Int))), .int .i64 (j : Int), .int .i64 ((j % 64 : Nat) : Int), .int .u8 (bt (dbk key nonce (va (n : Int) ((j / 64 : Nat) : Int))) (j % 64)), .int .u8 (dob key nonce (n : Int) s j), .pointer (some ⟨gq, j, none⟩)] : List Value).getD (k_ - 30) undef, Zp, by kernel_rfl, hZp, M⟩
    · skip
      rw [kS_at key nonce (n : Int) j h64]
      refine wp_seq ?_
      refine wp_seq ?_
      refine rg_lit ?_
      refine pl_val (want_no rfl) (some 30) rfl (.int .i64 (j : Int)) (fun _ => by kernel_rfl) ?_
      refine pl_val (want_no rfl) (some 31) rfl (.slice (some ⟨gq, 0, none⟩) s.size capq) (fun _ => by kernel_rfl) ?_
      refine pl_val (want_no rfl) (some 32) rfl (.int .i64 ((s.size : Nat) : Int)) (fun _ => by kernel_rfl) ?_
      refine pl_val (want_no rfl) (some 33) rfl (.bool true) (fun w => Eq.trans (b := .ok (.value (.bool (decide ((j : Int) < ((s.size : Nat) : Int))))) w) (by kernel_rfl) (by rw [decide_eq_true (by omega)])) ?_
      refine pl_nil ?_
      refine au_then ?_
      refine wp_cond_true (by kernel_rfl) ?_
      refine wp_skip ?_
      refine au_then ?_
      refine wp_seq ?_
      refine wp_block ?_
      refine wp_seq ?_
      refine wp_seq ?_
      refine rg_lit ?_
      refine pl_val (want_no rfl) (some 36) rfl (.int .i64 (j : Int)) (fun _ => by kernel_rfl) ?_
      refine pl_val (want_no rfl) (some 37) rfl (.int .i64 ((j % 64 : Nat) : Int)) (fun w => Eq.trans (b := .ok (.value (.int .i64 (Int.tmod (j : Int) 64))) w) (by kernel_rfl) (by rw [rem64 j])) ?_
      refine pl_val (want_no rfl) (some 38) rfl (.bool false) (fun w => Eq.trans (b := .ok (.value (.bool (decide (((j % 64 : Nat) : Int) = 0)))) w) (by kernel_rfl) (by rw [decide_eq_false (by omega)])) ?_
      refine pl_nil ?_
      refine au_then ?_
      refine wp_cond_false (by kernel_rfl) ?_
      refine wp_skip ?_
      refine au_then ?_
      refine rg_held M [⟨gq, Zq⟩] 12 rfl (by kernel_rfl) (by kernel_rfl) (fun _ _ d _ _ h => by cases d <;> exact h) ?_
      intro u6 M
      replace M : Mem ⟨w, []⟩ [⟨gq, Zq⟩] u6 := M
      refine hl_val M 0 rfl (by decide) (by kernel_rfl) (by kernel_rfl) (want_no rfl) (some 47) rfl (.slice (some ⟨gq, 0, none⟩) s.size capq) (fun _ _ => by kernel_rfl) ?_
      refine hl_val M 1 rfl (by decide) (by kernel_rfl) (by kernel_rfl) (want_no rfl) (some 48) rfl (.int .i64 (j : Int)) (fun _ _ => by kernel_rfl) ?_
      refine hl_val M 2 rfl (by decide) (by kernel_rfl) (by kernel_rfl) (want_no rfl) (some 49) rfl (.slice (some ⟨gq, 0, none⟩) s.size capq) (fun _ _ => by kernel_rfl) ?_
      refine hl_val M 3 rfl (by decide) (by kernel_rfl) (by kernel_rfl) (want_no rfl) (some 50) rfl (.int .i64 (j : Int)) (fun _ _ => by kernel_rfl) ?_
      refine hl_val M 4 rfl (by decide) (by kernel_rfl) (by kernel_rfl) (want_no rfl) (some 51) rfl (.pointer (some ⟨gq, j, none⟩)) (fun w _ => (run_ix0 32 5 Tryd.underlying32 inz5 _ _ rfl gq s.size capq (by kernel_rfl) .i64 j (by kernel_rfl) hj) w) ?_
      refine hl_cell M 5 rfl (by decide) (by kernel_rfl) (by kernel_rfl) (want_no rfl) (some 52) rfl 5 _ rfl gq j (by kernel_rfl) (.int .u8 (bt s j)) (fun _ => by kernel_rfl) (fun w M => hZq.cell (M.get 0 rfl) (dl_get s (dob key nonce (n : Int) s) j hj)) ?_
      refine hl_val M 6 rfl (by decide) (by kernel_rfl) (by kernel_rfl) (want_no rfl) (some 53) rfl (.string (dbk key nonce (va (n : Int) ((j / 64 : Nat) : Int)))) (fun _ _ => by kernel_rfl) ?_
      refine hl_val M 7 rfl (by decide) (by kernel_rfl) (by kernel_rfl) (want_no rfl) (some 54) rfl (.int .i64 (j : Int)) (fun _ _ => by kernel_rfl) ?_
      refine hl_val M 8 rfl (by decide) (by kernel_rfl) (by kernel_rfl) (want_no rfl) (some 55) rfl (.int .i64 ((j % 64 : Nat) : Int)) (fun w _ => (fun w => Eq.trans (b := .ok (.value (.int .i64 (Int.tmod (j : Int) 64))) w) (by kernel_rfl) (by rw [rem64 j])) w) ?_
      refine hl_val M 9 rfl (by decide) (by kernel_rfl) (by kernel_rfl) (want_no rfl) (some 56) rfl (.int .u8 (bt (dbk key nonce (va (n : Int) ((j / 64 : Nat) : Int))) (j % 64))) (fun w _ => (run_ixS 9 Tryd.underlying9 _ _ rfl (dbk key nonce (va (n : Int) ((j / 64 : Nat) : Int))) (by kernel_rfl) .i64 (j % 64) (by kernel_rfl) (by rw [dbk_size]; omega)) w) ?_
      refine hl_val M 10 rfl (by decide) (by kernel_rfl) (by kernel_rfl) (want_no rfl) (some 57) rfl (.int .u8 (dob key nonce (n : Int) s j)) (fun w _ => (fun w => Eq.trans (b := .ok (.value (.int .u8 (xb (bt s j) (bt (dbk key nonce (va (n : Int) ((j / 64 : Nat) : Int))) (j % 64))))) w) (by kernel_rfl) (by unfold dob; rfl)) w) ?_
      refine hl_val M 11 rfl (by decide) (by kernel_rfl) (by kernel_rfl) (want_no rfl) (some 58) rfl (.pointer (some ⟨gq, j, none⟩)) (fun w _ => (run_ix0 32 5 Tryd.underlying32 inz5 _ _ rfl gq s.size capq (by kernel_rfl) .i64 j (by kernel_rfl) hj) w) ?_
      refine hl_end (by kernel_rfl) (by kernel_rfl) rfl ?_
      refine pl_putS M (want_no rfl) rfl 5 _ _ rfl 0 gq j (by kernel_rfl) Zq rfl capq _ hZq (by rw [vs8_length, dl_length]; exact hj) (.int .u8 (dob key nonce (n : Int) s j)) (by kernel_rfl) inz5 rfl rfl ?_
      intro Zp u7 hZp M
      replace M : Mem ⟨w, []⟩ [⟨gq, Zp⟩] u7 := M
      rw [dl_set s (dob key nonce (n : Int) s) j hj] at hZp
      refine pl_nil ?_
      refine au_then ?_
      refine au_block ?_
      refine au_then ?_
      refine rg_lit ?_
      refine pl_val (want_no rfl) (some 34) rfl (.int .i64 (j : Int)) (fun _ => by kernel_rfl) ?_
      refine pl_val (want_no rfl) (some 35) rfl (.int .i64 ((j + 1 : Nat) : Int)) (fun w => Eq.trans (b := .ok (.value (.int .i64 (IntKind.wrap .i64 ((j : Int) + 1)))) w) (by kernel_rfl) (by rw [wrap64 (by omega) (by omega)]; congr 3)) ?_
      refine pl_val (want_no rfl) (some 13) rfl (.int .i64 ((j + 1 : Nat) : Int)) (fun _ => by kernel_rfl) ?_
      refine pl_nil ?_
      refine au_then ?_
      exact ⟨fun k_ => ([.int .i64 (j : Int), .slice (some ⟨gq, 0, none⟩) s.size capq, .int .i64 ((s.size : Nat) : Int), .bool true, .int .i64 (j : Int), .int .i64 ((j + 1 : Nat) : Int), .int .i64 (j : Int), .int .i64 ((j % 64 : Nat) : Int), .bool false, v1 39, v1 40, v1 41, v1 42, v1 43, v1 44, v1 45, v1 46, .slice (some ⟨gq, 0, none⟩) s.size capq, .int .i64 (j : Int), .slice (some ⟨gq, 0, none⟩) s.size capq, .int .i64 (j : Int), .pointer (some ⟨gq, j, none⟩), .int .u8 (bt s j), .string (dbk key nonce (va (n : Int) ((j / 64 : Nat) : Int))), .int .i64 (j : Int), .int .i64 ((j % 64 : Nat) : Int), .int .u8 (bt (dbk key nonce (va (n : Int) ((j / 64 : Nat) : Int))) (j % 64)), .int .u8 (dob key nonce (n : Int) s j), .pointer (some ⟨gq, j, none⟩)] : List Value).getD (k_ - 30) undef, Zp, by kernel_rfl, hZp, M⟩
  · intro a u0 hI
    clear M hZq
    obtain ⟨v1, Zq, rfl, hZq, M⟩ := hI
    refine wp_seq ?_
    refine wp_seq ?_
    refine rg_lit ?_
    refine pl_val (want_no rfl) (some 30) rfl (.int .i64 (s.size : Int)) (fun _ => by kernel_rfl) ?_
    refine pl_val (want_no rfl) (some 31) rfl (.slice (some ⟨gq, 0, none⟩) s.size capq) (fun _ => by kernel_rfl) ?_
    refine pl_val (want_no rfl) (some 32) rfl (.int .i64 ((s.size : Nat) : Int)) (fun _ => by kernel_rfl) ?_
    refine pl_val (want_no rfl) (some 33) rfl (.bool false) (fun w => Eq.trans (b := .ok (.value (.bool (decide ((s.size : Int) < ((s.size : Nat) : Int))))) w) (by kernel_rfl) (by rw [decide_eq_false (by omega)])) ?_
    refine pl_nil ?_
    refine au_then ?_
    refine wp_cond_false (by kernel_rfl) ?_
    refine wp_exit ?_
    refine au_then_exit ?_
    refine au_then_exit ?_
    refine au_block_exit ?_
    refine au_then ?_
    refine wp_seq ?_
    refine rg_lit ?_
    refine pl_val (want_no rfl) (some 59) rfl (.slice (some ⟨gq, 0, none⟩) s.size capq) (fun _ => by kernel_rfl) ?_
    refine pl_back M (want_no rfl) (some 60) rfl _ rfl 0 gq s.size capq (by kernel_rfl) _ rfl (dl s (dob key nonce (n : Int) s) s.size) capq hZq (dl_length _ _ _) (by rw [dl_full]; exact dob_nn _ _ _ _) ?_
    rw [dl_full]
    refine pl_val (want_no rfl) (some 8) rfl (.string (dT key nonce (n : Int) s)) (fun _ => by kernel_rfl) ?_
    refine pl_val (want_no rfl) (some 9) rfl (.int .i64 0) (fun _ => by kernel_rfl) ?_
    refine pl_nil ?_
    refine au_then ?_
    refine wp_ret ?_
    exact bodyPost_ret (v := .tuple #[.string (dT key nonce (n : Int) s), .int .i64 0]) (results_tmp2 Tryd.results17 _ _ _ _ (by kernel_rfl) (by kernel_rfl)) (by kernel_rfl) ⟨rfl, below_grown M.old⟩

set_option maxRecDepth 100000 in
set_option maxHeartbeats 4000000 in
theorem d_TurnB (key nonce : ByteArray) (n : Nat) (hn : n < 4294967296) (s : ByteArray) (hz : s.size ≤ 200000) (hm : (key.size = 32 ∧ nonce.size = 12)) (hl : (4294967296 < n + (s.size + 63) / 64)) (w : World) (hL : Laid w)  :
    Calls Tryd.prog 17 #[.string key, .string nonce, .int .u32 (n : Int), .string s] w fun r w' => r = .returned (.tuple #[.string ⟨#[]⟩, .int .i64 4]) ∧ Below w.heap.size w w' := by
  go_enter Tryd.func17, Tryd.ntmps17
  have M := Mem.start hL
  refine wp_seq ?_
  refine rg_lit ?_
  refine pl_val (want_no rfl) (some 8) rfl (.string ⟨#[]⟩) (fun _ => by kernel_rfl) ?_
  refine pl_val (want_no rfl) (some 9) rfl (.int .i64 0) (fun _ => by kernel_rfl) ?_
  refine pl_nil ?_
  refine au_then ?_
  refine wp_seq ?_
  refine wp_seq ?_
  refine rg_lit ?_
  refine pl_val (want_no rfl) (some 14) rfl (.string key) (fun _ => by kernel_rfl) ?_
  refine pl_val (want_no rfl) (some 15) rfl (.string nonce) (fun _ => by kernel_rfl) ?_
  refine pl_call M (want_no rfl) (some 16) rfl 16 #[.string key, .string nonce] (.bool true) (fun _ => by kernel_rfl) (fun w M => (by rw [← decide_eq_true hm]; exact d_may key nonce w M.laid)) ?_
  intro u1 M
  refine pl_val (want_no rfl) (some 17) rfl (.bool false) (fun _ => by kernel_rfl) ?_
  refine pl_nil ?_
  refine au_then ?_
  refine wp_cond_false (by kernel_rfl) ?_
  refine wp_skip ?_
  refine au_then ?_
  refine wp_seq ?_
  refine rg_lit ?_
  refine pl_val (want_no rfl) (some 18) rfl (.string s) (fun _ => by kernel_rfl) ?_
  refine pl_val (want_no rfl) (some 19) rfl (.int .i64 (s.size : Int)) (fun _ => by kernel_rfl) ?_
  refine pl_val (want_no rfl) (some 20) rfl (.int .i64 ((s.size + 63 : Nat) : Int)) (fun w => Eq.trans (b := .ok (.value (.int .i64 (IntKind.wrap .i64 ((s.size : Int) + 63)))) w) (by kernel_rfl) (by rw [wrap64 (by omega) (by omega)]; congr 3 <;> omega)) ?_
  refine pl_val (want_no rfl) (some 21) rfl (.int .u64 ((s.size + 63 : Nat) : Int)) (fun w => Eq.trans (b := .ok (.value (.int .u64 (cv .u64 ((s.size + 63 : Nat) : Int)))) w) (by kernel_rfl) (by rw [cvu64 _ (by omega)])) ?_
  refine pl_val (want_no rfl) (some 22) rfl (.int .u64 (((s.size + 63) / 64 : Nat) : Int)) (fun w => Eq.trans (b := .ok (.value (.int .u64 (IntKind.wrap .u64 (((s.size + 63 : Nat) : Int).tdiv 64)))) w) (by kernel_rfl) (by rw [quoU _ (by omega)])) ?_
  refine pl_val (want_no rfl) (some 10) rfl (.int .u64 (((s.size + 63) / 64 : Nat) : Int)) (fun _ => by kernel_rfl) ?_
  refine pl_nil ?_
  refine au_then ?_
  refine wp_seq ?_
  refine wp_seq ?_
  refine rg_lit ?_
  refine pl_val (want_no rfl) (some 23) rfl (.int .u32 (n : Int)) (fun _ => by kernel_rfl) ?_
  refine pl_val (want_no rfl) (some 24) rfl (.int .u64 (n : Int)) (fun w => Eq.trans (b := .ok (.value (.int .u64 (cv .u64 (n : Int)))) w) (by kernel_rfl) (by rw [cvu64 _ (by omega)])) ?_
  refine pl_val (want_no rfl) (some 25) rfl (.int .u64 (((s.size + 63) / 64 : Nat) : Int)) (fun _ => by kernel_rfl) ?_
  refine pl_val (want_no rfl) (some 26) rfl (.int .u64 ((n + (s.size + 63) / 64 : Nat) : Int)) (fun w => Eq.trans (b := .ok (.value (.int .u64 (IntKind.wrap .u64 ((n : Int) + (((s.size + 63) / 64 : Nat) : Int))))) w) (by kernel_rfl) (by rw [show (n : Int) + (((s.size + 63) / 64 : Nat) : Int) = ((n + (s.size + 63) / 64 : Nat) : Int) by omega, wu64 _ (by omega)])) ?_
  refine pl_val (want_no rfl) (some 27) rfl (.bool true) (fun w => Eq.trans (b := .ok (.value (.bool (decide ((4294967296 : Int) < ((n + (s.size + 63) / 64 : Nat) : Int))))) w) (by kernel_rfl) (by rw [decide_eq_true (by omega)])) ?_
  refine pl_nil ?_
  refine au_then ?_
  refine wp_cond_true (by kernel_rfl) ?_
  refine wp_seq ?_
  refine rg_lit ?_
  refine pl_val (want_no rfl) (some 8) rfl (.string ⟨#[]⟩) (fun _ => by kernel_rfl) ?_
  refine pl_val (want_no rfl) (some 9) rfl (.int .i64 4) (fun _ => by kernel_rfl) ?_
  refine pl_nil ?_
  refine au_then ?_
  refine wp_ret ?_
  refine au_then_ret ?_
  exact bodyPost_ret (v := .tuple #[.string ⟨#[]⟩, .int .i64 4]) (results_tmp2 Tryd.results17 _ _ _ _ (by kernel_rfl) (by kernel_rfl)) (by kernel_rfl) ⟨rfl, below_grown M.old⟩

set_option maxRecDepth 100000 in
set_option maxHeartbeats 4000000 in
theorem d_TurnC (key nonce : ByteArray) (n : Nat) (s : ByteArray) (hm : ¬ (key.size = 32 ∧ nonce.size = 12)) (w : World) (hL : Laid w)  :
    Calls Tryd.prog 17 #[.string key, .string nonce, .int .u32 (n : Int), .string s] w fun r w' => r = .returned (.tuple #[.string ⟨#[]⟩, .int .i64 2]) ∧ Below w.heap.size w w' := by
  go_enter Tryd.func17, Tryd.ntmps17
  have M := Mem.start hL
  refine wp_seq ?_
  refine rg_lit ?_
  refine pl_val (want_no rfl) (some 8) rfl (.string ⟨#[]⟩) (fun _ => by kernel_rfl) ?_
  refine pl_val (want_no rfl) (some 9) rfl (.int .i64 0) (fun _ => by kernel_rfl) ?_
  refine pl_nil ?_
  refine au_then ?_
  refine wp_seq ?_
  refine wp_seq ?_
  refine rg_lit ?_
  refine pl_val (want_no rfl) (some 14) rfl (.string key) (fun _ => by kernel_rfl) ?_
  refine pl_val (want_no rfl) (some 15) rfl (.string nonce) (fun _ => by kernel_rfl) ?_
  refine pl_call M (want_no rfl) (some 16) rfl 16 #[.string key, .string nonce] (.bool false) (fun _ => by kernel_rfl) (fun w M => (by rw [← decide_eq_false hm]; exact d_may key nonce w M.laid)) ?_
  intro u1 M
  refine pl_val (want_no rfl) (some 17) rfl (.bool true) (fun _ => by kernel_rfl) ?_
  refine pl_nil ?_
  refine au_then ?_
  refine wp_cond_true (by kernel_rfl) ?_
  refine wp_seq ?_
  refine rg_lit ?_
  refine pl_val (want_no rfl) (some 8) rfl (.string ⟨#[]⟩) (fun _ => by kernel_rfl) ?_
  refine pl_val (want_no rfl) (some 9) rfl (.int .i64 2) (fun _ => by kernel_rfl) ?_
  refine pl_nil ?_
  refine au_then ?_
  refine wp_ret ?_
  refine au_then_ret ?_
  exact bodyPost_ret (v := .tuple #[.string ⟨#[]⟩, .int .i64 2]) (results_tmp2 Tryd.results17 _ _ _ _ (by kernel_rfl) (by kernel_rfl)) (by kernel_rfl) ⟨rfl, below_grown M.old⟩


end Go.Proofs.YtkndaajbedlajaaDoor
