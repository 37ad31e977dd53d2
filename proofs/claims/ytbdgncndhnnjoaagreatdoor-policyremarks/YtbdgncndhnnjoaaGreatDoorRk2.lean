/- Part 2 of the walks and facts. -/
import Derived.Test.YtbdgncndhnnjoaaGreatDoorRk1
namespace Go.Proofs.YtbdgncndhnnjoaaGreatDoor.Ip
set_option linter.unusedSimpArgs false
open Go.RowKit
theorem ob8_nn (x y : Int) : 0 ≤ ob8 x y ∧ ob8 x y < 256 := by
 unfold ob8
 rw [IntKind.wrap_u8]
 omega
def dv (c : Int) : Int := if 48 ≤ c ∧ c ≤ 57 then c - 48 else if 97 ≤ ob8 c 32 ∧ ob8 c 32 ≤ 122 then ob8 c 32 - 97 + 10 else 99
theorem dv_d (c : Int) (h : 48 ≤ c ∧ c ≤ 57) : dv c = c - 48 := if_pos h
theorem dv_l (c : Int) (h : ¬ (48 ≤ c ∧ c ≤ 57)) (h2 : 97 ≤ ob8 c 32 ∧ ob8 c 32 ≤ 122) : dv c = ob8 c 32 - 97 + 10 := by
 unfold dv
 rw [if_neg h, if_pos h2]
theorem dv_n (c : Int) (h : ¬ (48 ≤ c ∧ c ≤ 57)) (h2 : ¬ (97 ≤ ob8 c 32 ∧ ob8 c 32 ≤ 122)) : dv c = 99 := by
 unfold dv
 rw [if_neg h, if_neg h2]
theorem dv_nn (c : Int) : 0 ≤ dv c ∧ dv c ≤ 99 := by
 have := ob8_nn c 32
 unfold dv
 split
 ·omega
 ·split <;> omega
def pz (b m : Int) (s : ByteArray) : Nat → Option Int
 | 0 => some 0
 | j + 1 => (pz b m s j).bind fun n => if dv (bt s j) < b then (if m < n * b + dv (bt s j) then none else some (n * b + dv (bt s j))) else none
def pv (b m : Int) (s : ByteArray) (j : Nat) : Int := (pz b m s j).getD 0
def prs (b m : Int) (s : ByteArray) : Option Int := if s = (⟨#[]⟩ : ByteArray) then none else pz b m s s.size
def nmb (b m : Int) (s : ByteArray) : Option Int := if (4 : Int) < (s.size : Int) then none else prs b m s
theorem pz_ok {b m : Int} {s : ByteArray} {j : Nat} {n d : Int} (h : pz b m s j = some n) (hd : dv (bt s j) = d) (h1 : d < b) (h2 : ¬ m < n * b + d) : pz b m s (j + 1) = some (n * b + d) := by
 unfold pz
 rw [h, hd]
 simp only [Option.bind_some]
 rw [if_pos h1, if_neg h2]
theorem pz_bad {b m : Int} {s : ByteArray} {j : Nat} {n d : Int} (h : pz b m s j = some n) (hd : dv (bt s j) = d) (h1 : ¬ d < b) : pz b m s (j + 1) = none := by
 unfold pz
 rw [h, hd]
 simp only [Option.bind_some]
 rw [if_neg h1]
theorem pz_big {b m : Int} {s : ByteArray} {j : Nat} {n d : Int} (h : pz b m s j = some n) (hd : dv (bt s j) = d) (h1 : d < b) (h2 : m < n * b + d) : pz b m s (j + 1) = none := by
 unfold pz
 rw [h, hd]
 simp only [Option.bind_some]
 rw [if_pos h1, if_pos h2]
theorem pz_none {b m : Int} {s : ByteArray} {j : Nat} (h : pz b m s j = none) (k : Nat) : pz b m s (j + k) = none := by
 induction k with
 | zero => exact h
 | succ k ih =>
  show pz b m s (j + k + 1) = none
  unfold pz
  rw [ih]
  rfl
theorem prs_none {b m : Int} {s : ByteArray} {j : Nat} (hj : j < s.size) (h : pz b m s (j + 1) = none) : prs b m s = none := by
 unfold prs
 split
 ·rfl
 ·obtain ⟨k, hk⟩ : ∃ k, s.size = j + 1 + k := ⟨s.size - (j + 1), by omega⟩
  rw [hk]
  exact pz_none h k
theorem pv_le {b m : Int} {s : ByteArray} (hm : 0 ≤ m) (hb : 0 ≤ b) (j : Nat) : 0 ≤ pv b m s j ∧ pv b m s j ≤ m := by
 unfold pv
 induction j with
 | zero => exact ⟨Int.le_refl 0, hm⟩
 | succ j ih =>
  unfold pz
  cases h : pz b m s j with
  | none => exact ⟨Int.le_refl 0, hm⟩
  | some n =>
   rw [h] at ih
   simp only [Option.bind_some, Option.getD_some] at ih ⊢
   have hd := dv_nn (bt s j)
   have hn : 0 ≤ n * b := Int.mul_nonneg ih.1 hb
   split
   ·split
    ·exact ⟨Int.le_refl 0, hm⟩
    ·simp only [Option.getD_some]
     omega
   ·exact ⟨Int.le_refl 0, hm⟩
theorem c_lower (c : Int) (w : World) : Calls Tryz.prog 220 #[.int .u8 c] w fun r w' => r = .returned (.int .u8 (ob8 c 32)) ∧ Below w.heap.size w w' :=
 (Any.internal_strconv_lower lays321 c w).mono fun _ _ ⟨he, hw⟩ => ⟨he, below_same hw⟩
set_option maxRecDepth 100000 in
set_option maxHeartbeats 4000000 in
set_option linter.unusedSimpArgs false in
theorem c_ipu10 (s : ByteArray) (hs : s.size ≤ 100000) (w : World) (hL : Laid w)  :
  Calls Tryz.prog 212 #[.string s, .int .i64 10, .int .i64 8] w fun r w' => ((∃ x : Int, prs 10 255 s = some x ∧ r = .returned (.tuple #[.int .u64 x, .nilIface])) ∨ (prs 10 255 s = none ∧ ∃ y k : Int, (k = 1 ∨ k = 2) ∧ r = .returned (.tuple #[.int .u64 y, .iface 255 (.int .i64 k)]))) ∧ Below w.heap.size w w' := by
 go_enter Tryz.func212, Tryz.ntmps212
 have M := Mem.start hL
 refine wp_seq ?_
 refine rg_lit ?_
 refine pl_val (want_no rfl) (some 6) rfl (.int .u64 0) (fun _ => by kernel_rfl) ?_
 refine pl_val (want_no rfl) (some 7) rfl (.nilIface) (fun _ => by kernel_rfl) ?_
 refine pl_nil ?_
 refine au_then ?_
 refine wp_seq ?_
 refine wp_seq ?_
 refine rg_lit ?_
 refine pl_val (want_no rfl) (some 18) rfl (.string s) (fun _ => by kernel_rfl) ?_
 by_cases c0 : s = (⟨#[]⟩ : ByteArray)
 ·skip
  refine pl_val (want_no rfl) (some 19) rfl (.bool true) (fun w => Eq.trans (b := .ok (.value (.bool (s.toList == (⟨#[]⟩ : ByteArray).toList))) w) (by kernel_rfl) (by rw [seq_pos c0])) ?_
  refine pl_nil ?_
  refine au_then ?_
  refine wp_cond_true (by kernel_rfl) ?_
  refine wp_seq ?_
  refine rg_lit ?_
  refine pl_val (want_no rfl) (some 20) rfl (.iface 255 (.int .i64 2)) (fun _ => by kernel_rfl) ?_
  refine pl_val (want_no rfl) (some 6) rfl (.int .u64 0) (fun _ => by kernel_rfl) ?_
  refine pl_val (want_no rfl) (some 7) rfl (.iface 255 (.int .i64 2)) (fun _ => by kernel_rfl) ?_
  refine pl_nil ?_
  refine au_then ?_
  refine wp_ret ?_
  refine au_then_ret ?_
  exact bodyPost_ret (v := .tuple #[.int .u64 0, .iface 255 (.int .i64 2)]) (results_tmp2 Tryz.results212 _ _ _ _ (by kernel_rfl) (by kernel_rfl)) (by kernel_rfl) ⟨.inr ⟨if_pos c0, 0, 2, .inr rfl, rfl⟩, below_grown M.old⟩
 ·skip
  refine pl_val (want_no rfl) (some 19) rfl (.bool false) (fun w => Eq.trans (b := .ok (.value (.bool (s.toList == (⟨#[]⟩ : ByteArray).toList))) w) (by kernel_rfl) (by rw [seq_neg c0])) ?_
  refine pl_nil ?_
  refine au_then ?_
  refine wp_cond_false (by kernel_rfl) ?_
  refine wp_skip ?_
  refine au_then ?_
  refine wp_seq ?_
  refine rg_lit ?_
  refine pl_val (want_no rfl) (some 21) rfl (.int .i64 10) (fun _ => by kernel_rfl) ?_
  refine pl_val (want_no rfl) (some 22) rfl (.bool false) (fun _ => by kernel_rfl) ?_
  refine pl_val (want_no rfl) (some 8) rfl (.bool false) (fun _ => by kernel_rfl) ?_
  refine pl_nil ?_
  refine au_then ?_
  refine wp_seq ?_
  refine rg_lit ?_
  refine pl_val (want_no rfl) (some 23) rfl (.string s) (fun _ => by kernel_rfl) ?_
  refine pl_val (want_no rfl) (some 9) rfl (.string s) (fun _ => by kernel_rfl) ?_
  refine pl_nil ?_
  refine au_then ?_
  refine wp_seq ?_
  refine wp_block ?_
  refine wp_seq ?_
  refine rg_lit ?_
  refine pl_val (want_no rfl) (some 26) rfl (.int .i64 10) (fun _ => by kernel_rfl) ?_
  refine pl_val (want_no rfl) (some 27) rfl (.bool true) (fun _ => by kernel_rfl) ?_
  refine pl_val (want_no rfl) (some 28) rfl (.bool true) (fun _ => by kernel_rfl) ?_
  refine pl_val (want_on 2 true rfl 28 rfl (by kernel_rfl)) (some 29) rfl (.int .i64 10) (fun _ => by kernel_rfl) ?_
  refine pl_val (want_on 2 true rfl 28 rfl (by kernel_rfl)) (some 30) rfl (.bool true) (fun _ => by kernel_rfl) ?_
  refine pl_val (want_no rfl) (some 31) rfl (.bool true) (fun _ => by kernel_rfl) ?_
  refine pl_val (want_no rfl) (some 25) rfl (.bool true) (fun _ => by kernel_rfl) ?_
  refine pl_nil ?_
  refine au_then ?_
  refine wp_cond_true (by kernel_rfl) ?_
  refine wp_skip ?_
  refine au_block ?_
  refine au_then ?_
  refine wp_seq ?_
  refine wp_seq ?_
  refine rg_lit ?_
  refine pl_val (want_no rfl) (some 76) rfl (.int .i64 8) (fun _ => by kernel_rfl) ?_
  refine pl_val (want_no rfl) (some 77) rfl (.bool false) (fun _ => by kernel_rfl) ?_
  refine pl_nil ?_
  refine au_then ?_
  refine wp_cond_false (by kernel_rfl) ?_
  refine wp_seq ?_
  refine rg_lit ?_
  refine pl_val (want_no rfl) (some 78) rfl (.int .i64 8) (fun _ => by kernel_rfl) ?_
  refine pl_val (want_no rfl) (some 79) rfl (.bool false) (fun _ => by kernel_rfl) ?_
  refine pl_val (want_no rfl) (some 80) rfl (.bool false) (fun _ => by kernel_rfl) ?_
  refine pl_val (want_on 2 false rfl 80 rfl (by kernel_rfl)) (some 81) rfl (.int .i64 8) (fun _ => by kernel_rfl) ?_
  refine pl_val (want_on 2 false rfl 80 rfl (by kernel_rfl)) (some 82) rfl (.bool false) (fun _ => by kernel_rfl) ?_
  refine pl_val (want_no rfl) (some 83) rfl (.bool false) (fun _ => by kernel_rfl) ?_
  refine pl_nil ?_
  refine au_then ?_
  refine wp_cond_false (by kernel_rfl) ?_
  refine wp_skip ?_
  refine au_then ?_
  refine wp_seq ?_
  refine rg_lit ?_
  refine pl_val (want_no rfl) (some 10) rfl (.int .u64 0) (fun _ => by kernel_rfl) ?_
  refine pl_nil ?_
  refine au_then ?_
  refine wp_seq ?_
  refine wp_seq ?_
  refine rg_lit ?_
  refine pl_val (want_no rfl) (some 85) rfl (.int .i64 10) (fun _ => by kernel_rfl) ?_
  refine pl_nil ?_
  refine au_then ?_
  refine wp_block ?_
  refine wp_seq ?_
  refine rg_lit ?_
  refine pl_val (want_no rfl) (some 91) rfl (.bool true) (fun _ => by kernel_rfl) ?_
  refine pl_val (want_no rfl) (some 90) rfl (.bool true) (fun _ => by kernel_rfl) ?_
  refine pl_nil ?_
  refine au_then ?_
  refine wp_cond_true (by kernel_rfl) ?_
  refine rg_lit ?_
  refine pl_val (want_no rfl) (some 10) rfl (.int .u64 1844674407370955162) (fun _ => by kernel_rfl) ?_
  refine pl_nil ?_
  refine au_block ?_
  refine au_then ?_
  refine wp_seq ?_
  refine rg_lit ?_
  refine pl_val (want_no rfl) (some 94) rfl (.int .i64 8) (fun _ => by kernel_rfl) ?_
  refine pl_val (want_no rfl) (some 95) rfl (.int .u64 8) (fun _ => by kernel_rfl) ?_
  refine pl_val (want_no rfl) (some 96) rfl (.int .u64 256) (fun _ => by kernel_rfl) ?_
  refine pl_val (want_no rfl) (some 97) rfl (.int .u64 255) (fun _ => by kernel_rfl) ?_
  refine pl_val (want_no rfl) (some 11) rfl (.int .u64 255) (fun _ => by kernel_rfl) ?_
  refine pl_nil ?_
  refine au_then ?_
  refine wp_seq ?_
  refine rg_lit ?_
  refine pl_val (want_no rfl) (some 12) rfl (.bool false) (fun _ => by kernel_rfl) ?_
  refine pl_nil ?_
  refine au_then ?_
  refine wp_seq ?_
  refine rg_lit ?_
  refine pl_val (want_no rfl) (some 13) rfl (.int .u64 0) (fun _ => by kernel_rfl) ?_
  refine pl_nil ?_
  refine au_then ?_
  refine wp_seq ?_
  refine wp_seq ?_
  refine rg_lit ?_
  refine pl_val (want_no rfl) (some 98) rfl (.string s) (fun _ => by kernel_rfl) ?_
  refine pl_conv M (want_no rfl) (some 99) rfl _ rfl s (by kernel_rfl) ?_
  intro g1 cap1 Z1 u1 hZ1 M
  replace M : Mem ⟨w, []⟩ [⟨g1, Z1⟩] u1 := M
  refine pl_val (want_no rfl) (some 100) rfl (.int .i64 ((s.size : Nat) : Int)) (fun _ => by kernel_rfl) ?_
  refine pl_val (want_no rfl) (some 101) rfl (.int .i64 0) (fun _ => by kernel_rfl) ?_
  refine pl_nil ?_
  refine au_then ?_
  refine wp_block ?_
  refine au_loop (fun j a w' => ∃ v1 : Nat → Value, a = ⟨#[.string s, .int .i64 10, .int .i64 8, undef, undef, undef, v1 6, v1 7, .bool false, .string s, .int .u64 1844674407370955162, .int .u64 255, .bool false, .int .u64 (pv 10 255 s j), undef, v1 15, v1 16, v1 17, .string s, .bool false, undef, .int .i64 10, .bool false, .string s, undef, .bool true, .int .i64 10, .bool true, .bool true, .int .i64 10, .bool true, .bool true, undef, undef, undef, undef, undef, undef, undef, undef, undef, undef, undef, undef, undef, undef, undef, undef, undef, undef, undef, undef, undef, undef, undef, undef, undef, undef, undef, undef, undef, undef, undef, undef, undef, undef, undef, undef, undef, undef, undef, undef, undef, undef, undef, undef, .int .i64 8, .bool false, .int .i64 8, .bool false, .bool false, .int .i64 8, .bool false, .bool false, undef, .int .i64 10, undef, undef, undef, undef, .bool true, .bool true, undef, undef, .int .i64 8, .int .u64 8, .int .u64 256, .int .u64 255, .string s, .slice (some ⟨g1, 0, none⟩) s.size cap1, .int .i64 ((s.size : Nat) : Int), .int .i64 (j : Int), v1 102, v1 103, v1 104, v1 105, v1 106, v1 107, v1 108, v1 109, v1 110, v1 111, v1 112, v1 113, v1 114, v1 115, v1 116, v1 117, v1 118, v1 119, v1 120, v1 121, v1 122, v1 123, v1 124, v1 125, v1 126, v1 127, v1 128, v1 129, v1 130, v1 131, v1 132, v1 133, v1 134, v1 135, v1 136, v1 137, v1 138, v1 139, v1 140, v1 141, v1 142, v1 143, v1 144, v1 145, v1 146, v1 147, v1 148, v1 149, v1 150, v1 151, v1 152, v1 153, v1 154, v1 155, v1 156, v1 157, v1 158, v1 159, v1 160, v1 161, v1 162, v1 163, undef, undef, undef, undef, undef, undef, undef, undef], []⟩ ∧ Mem ⟨w, []⟩ [⟨g1, Z1⟩] w' ∧ pz 10 255 s j = some (pv 10 255 s j)) s.size ⟨fun k_ => ([.int .u64 0, .nilIface, undef, undef, undef, undef, undef, undef, undef, undef, undef, undef, undef, undef, undef, undef, undef, undef, undef, undef, undef, undef, undef, undef, undef, undef, undef, undef, undef, undef, undef, undef, undef, undef, undef, undef, undef, undef, undef, undef, undef, undef, undef, undef, undef, undef, undef, undef, undef, undef, undef, undef, undef, undef, undef, undef, undef, undef, undef, undef, undef, undef, undef, undef, undef, undef, undef, undef, undef, undef, undef, undef, undef, undef, undef, undef, undef, undef, undef, undef, undef, undef, undef, undef, undef, undef, undef, undef, undef, undef, undef, undef, undef, undef, undef, undef, undef, undef, undef, undef, undef, undef, undef, undef, undef, undef, undef, undef, undef, undef, undef, undef, undef, undef, undef, undef, undef, undef, undef, undef, undef, undef, undef, undef, undef, undef, undef, undef, undef, undef, undef, undef, undef, undef, undef, undef, undef, undef, undef, undef, undef, undef, undef, undef, undef, undef, undef, undef, undef, undef, undef, undef, undef, undef, undef, undef, undef, undef] : List Value).getD (k_ - 6) undef, by kernel_rfl, M, rfl⟩ ?_ ?_
  ·intro j a u0 hj hI
   obtain ⟨v1, rfl, M, hx⟩ := hI
   have hb := bt_nn s j
   have ho := ob8_nn (bt s j) 32
   have hp := pv_le (b := 10) (m := 255) (s := s) (by decide) (by decide) j
   refine wp_seq ?_
   refine rg_lit ?_
   refine pl_val (want_no rfl) (some 102) rfl (.bool true) (fun w => Eq.trans (b := .ok (.value (.bool (decide ((j : Int) < ((s.size : Nat) : Int))))) w) (by kernel_rfl) (by rw [decide_eq_true (by omega)])) ?_
   refine pl_nil ?_
   refine au_then ?_
   refine wp_seq ?_
   refine wp_cond_true (by kernel_rfl) ?_
   refine wp_skip ?_
   refine au_then ?_
   refine wp_seq ?_
   refine wp_block ?_
   refine wp_seq ?_
   refine rg_lit ?_
   refine pl_val (want_no rfl) (some 103) rfl (.pointer (some ⟨g1, j, none⟩)) (run_ix0 41 5 Tryz.underlying41 inz5 _ _ rfl g1 s.size cap1 (by kernel_rfl) .i64 j (by kernel_rfl) (by omega)) ?_
   refine pl_cell M (want_no rfl) (some 104) rfl 5 _ rfl g1 j (by kernel_rfl) (.int .u8 (bt s j)) (fun _ => by kernel_rfl) (fun w M => hZ1.cell (M.get 0 rfl) (vs8_sb _ _ (by omega))) ?_
   refine pl_val (want_no rfl) (some 15) rfl (.int .u8 (bt s j)) (fun _ => by kernel_rfl) ?_
   refine pl_nil ?_
   refine au_then ?_
   refine wp_seq ?_
   refine rg_lit ?_
   refine pl_val (want_no rfl) (some 16) rfl (.int .u8 0) (fun _ => by kernel_rfl) ?_
   refine pl_nil ?_
   refine au_then ?_
   refine wp_seq ?_
   refine wp_block ?_
   refine wp_seq ?_
   refine rg_lit ?_
   refine pl_val (want_no rfl) (some 107) rfl (.int .u8 (bt s j)) (fun _ => by kernel_rfl) ?_
   by_cases c1 : (bt s j) = 95
   ·skip
    refine pl_val (want_no rfl) (some 108) rfl (.bool true) (fun w => Eq.trans (b := .ok (.value (.bool (decide ((bt s j) = 95)))) w) (by kernel_rfl) (by rw [decide_eq_true (c1)])) ?_
    refine pl_val (want_no rfl) (some 109) rfl (.bool true) (fun _ => by kernel_rfl) ?_
    refine pl_val (want_on 2 true rfl 109 rfl (by kernel_rfl)) (some 110) rfl (.bool false) (fun _ => by kernel_rfl) ?_
    refine pl_val (want_no rfl) (some 111) rfl (.bool false) (fun _ => by kernel_rfl) ?_
    refine pl_val (want_no rfl) (some 106) rfl (.bool false) (fun _ => by kernel_rfl) ?_
    refine pl_nil ?_
    refine au_then ?_
    refine wp_cond_false (by kernel_rfl) ?_
    refine wp_seq ?_
    refine rg_lit ?_
    refine pl_val (want_no rfl) (some 113) rfl (.int .u8 (bt s j)) (fun _ => by kernel_rfl) ?_
    by_cases c2 : (bt s j) < 48
    ·omega
    ·skip
     refine pl_val (want_no rfl) (some 114) rfl (.bool true) (fun w => Eq.trans (b := .ok (.value (.bool (decide (48 ≤ (bt s j))))) w) (by kernel_rfl) (by rw [decide_eq_true (by omega)])) ?_
     refine pl_val (want_no rfl) (some 115) rfl (.bool true) (fun _ => by kernel_rfl) ?_
     refine pl_val (want_on 2 true rfl 115 rfl (by kernel_rfl)) (some 116) rfl (.int .u8 (bt s j)) (fun _ => by kernel_rfl) ?_
     by_cases c3 : 57 < (bt s j)
     ·skip
      refine pl_val (want_on 2 true rfl 115 rfl (by kernel_rfl)) (some 117) rfl (.bool false) (fun w => Eq.trans (b := .ok (.value (.bool (decide ((bt s j) ≤ 57)))) w) (by kernel_rfl) (by rw [decide_eq_false (by omega)])) ?_
      refine pl_val (want_no rfl) (some 118) rfl (.bool false) (fun _ => by kernel_rfl) ?_
      refine pl_val (want_no rfl) (some 112) rfl (.bool false) (fun _ => by kernel_rfl) ?_
      refine pl_nil ?_
      refine au_then ?_
      refine wp_cond_false (by kernel_rfl) ?_
      refine wp_seq ?_
      refine rg_lit ?_
      refine pl_val (want_no rfl) (some 122) rfl (.int .u8 (bt s j)) (fun _ => by kernel_rfl) ?_
      refine pl_call M (want_no rfl) (some 123) rfl 220 #[.int .u8 (bt s j)] (.int .u8 (ob8 (bt s j) 32)) (fun _ => by kernel_rfl) (fun w M => c_lower (bt s j) w) ?_
      intro u2 M
      by_cases c4 : (ob8 (bt s j) 32) < 97
      ·exact absurd c4 (by rw [c1]; decide)
      ·skip
       refine pl_val (want_no rfl) (some 124) rfl (.bool true) (fun w => Eq.trans (b := .ok (.value (.bool (decide (97 ≤ (ob8 (bt s j) 32))))) w) (by kernel_rfl) (by rw [decide_eq_true (by omega)])) ?_
       refine pl_val (want_no rfl) (some 125) rfl (.bool true) (fun _ => by kernel_rfl) ?_
       refine pl_val (want_on 3 true rfl 125 rfl (by kernel_rfl)) (some 126) rfl (.int .u8 (bt s j)) (fun _ => by kernel_rfl) ?_
       refine pl_call M (want_on 3 true rfl 125 rfl (by kernel_rfl)) (some 127) rfl 220 #[.int .u8 (bt s j)] (.int .u8 (ob8 (bt s j) 32)) (fun _ => by kernel_rfl) (fun w M => c_lower (bt s j) w) ?_
       intro u3 M
       by_cases c5 : 122 < (ob8 (bt s j) 32)
       ·skip
        refine pl_val (want_on 3 true rfl 125 rfl (by kernel_rfl)) (some 128) rfl (.bool false) (fun w => Eq.trans (b := .ok (.value (.bool (decide ((ob8 (bt s j) 32) ≤ 122)))) w) (by kernel_rfl) (by rw [decide_eq_false (by omega)])) ?_
        refine pl_val (want_no rfl) (some 129) rfl (.bool false) (fun _ => by kernel_rfl) ?_
        refine pl_val (want_no rfl) (some 121) rfl (.bool false) (fun _ => by kernel_rfl) ?_
        refine pl_nil ?_
        refine au_then ?_
        refine wp_cond_false (by kernel_rfl) ?_
        refine wp_seq ?_
        refine rg_lit ?_
        refine pl_val (want_no rfl) (some 105) rfl (.iface 255 (.int .i64 2)) (fun _ => by kernel_rfl) ?_
        refine pl_val (want_no rfl) (some 6) rfl (.int .u64 0) (fun _ => by kernel_rfl) ?_
        refine pl_val (want_no rfl) (some 7) rfl (.iface 255 (.int .i64 2)) (fun _ => by kernel_rfl) ?_
        refine pl_nil ?_
        refine au_then ?_
        refine wp_ret ?_
        refine au_block_ret ?_
        refine au_then_ret ?_
        refine au_block_ret ?_
        refine au_then_ret ?_
        refine au_then_ret ?_
        refine au_block_ret ?_
        refine au_then_ret ?_
        exact bodyPost_ret (v := .tuple #[.int .u64 0, .iface 255 (.int .i64 2)]) (results_tmp2 Tryz.results212 _ _ _ _ (by kernel_rfl) (by kernel_rfl)) (by kernel_rfl) ⟨.inr ⟨prs_none hj (pz_bad hx (dv_n (bt s j) (by omega) (by omega)) (by omega)), 0, 2, .inr rfl, rfl⟩, below_grown M.old⟩
       ·exact absurd c5 (by rw [c1]; decide)
     ·omega
   ·skip
    refine pl_val (want_no rfl) (some 108) rfl (.bool false) (fun w => Eq.trans (b := .ok (.value (.bool (decide ((bt s j) = 95)))) w) (by kernel_rfl) (by rw [decide_eq_false (c1)])) ?_
    refine pl_val (want_no rfl) (some 109) rfl (.bool false) (fun _ => by kernel_rfl) ?_
    refine pl_skip (want_off 2 true rfl 109 rfl (by kernel_rfl)) (some 110) rfl ?_
    refine pl_val (want_no rfl) (some 111) rfl (.bool false) (fun _ => by kernel_rfl) ?_
    refine pl_val (want_no rfl) (some 106) rfl (.bool false) (fun _ => by kernel_rfl) ?_
    refine pl_nil ?_
    refine au_then ?_
    refine wp_cond_false (by kernel_rfl) ?_
    refine wp_seq ?_
    refine rg_lit ?_
    refine pl_val (want_no rfl) (some 113) rfl (.int .u8 (bt s j)) (fun _ => by kernel_rfl) ?_
    by_cases c2 : (bt s j) < 48
    ·skip
     refine pl_val (want_no rfl) (some 114) rfl (.bool false) (fun w => Eq.trans (b := .ok (.value (.bool (decide (48 ≤ (bt s j))))) w) (by kernel_rfl) (by rw [decide_eq_false (by omega)])) ?_
     refine pl_val (want_no rfl) (some 115) rfl (.bool false) (fun _ => by kernel_rfl) ?_
     refine pl_skip (want_off 2 true rfl 115 rfl (by kernel_rfl)) (some 116) rfl ?_
     refine pl_skip (want_off 2 true rfl 115 rfl (by kernel_rfl)) (some 117) rfl ?_
     refine pl_val (want_no rfl) (some 118) rfl (.bool false) (fun _ => by kernel_rfl) ?_
     refine pl_val (want_no rfl) (some 112) rfl (.bool false) (fun _ => by kernel_rfl) ?_
     refine pl_nil ?_
     refine au_then ?_
     refine wp_cond_false (by kernel_rfl) ?_
     refine wp_seq ?_
     refine rg_lit ?_
     refine pl_val (want_no rfl) (some 122) rfl (.int .u8 (bt s j)) (fun _ => by kernel_rfl) ?_
     refine pl_call M (want_no rfl) (some 123) rfl 220 #[.int .u8 (bt s j)] (.int .u8 (ob8 (bt s j) 32)) (fun _ => by kernel_rfl) (fun w M => c_lower (bt s j) w) ?_
     intro u2 M
     by_cases c3 : (ob8 (bt s j) 32) < 97
     ·skip
      refine pl_val (want_no rfl) (some 124) rfl (.bool false) (fun w => Eq.trans (b := .ok (.value (.bool (decide (97 ≤ (ob8 (bt s j) 32))))) w) (by kernel_rfl) (by rw [decide_eq_false (by omega)])) ?_
      refine pl_val (want_no rfl) (some 125) rfl (.bool false) (fun _ => by kernel_rfl) ?_
      refine pl_skip (want_off 3 true rfl 125 rfl (by kernel_rfl)) (some 126) rfl ?_
      refine pl_skip (want_off 3 true rfl 125 rfl (by kernel_rfl)) (some 127) rfl ?_
      refine pl_skip (want_off 3 true rfl 125 rfl (by kernel_rfl)) (some 128) rfl ?_
      refine pl_val (want_no rfl) (some 129) rfl (.bool false) (fun _ => by kernel_rfl) ?_
      refine pl_val (want_no rfl) (some 121) rfl (.bool false) (fun _ => by kernel_rfl) ?_
      refine pl_nil ?_
      refine au_then ?_
      refine wp_cond_false (by kernel_rfl) ?_
      refine wp_seq ?_
      refine rg_lit ?_
      refine pl_val (want_no rfl) (some 105) rfl (.iface 255 (.int .i64 2)) (fun _ => by kernel_rfl) ?_
      refine pl_val (want_no rfl) (some 6) rfl (.int .u64 0) (fun _ => by kernel_rfl) ?_
      refine pl_val (want_no rfl) (some 7) rfl (.iface 255 (.int .i64 2)) (fun _ => by kernel_rfl) ?_
      refine pl_nil ?_
      refine au_then ?_
      refine wp_ret ?_
      refine au_block_ret ?_
      refine au_then_ret ?_
      refine au_block_ret ?_
      refine au_then_ret ?_
      refine au_then_ret ?_
      refine au_block_ret ?_
      refine au_then_ret ?_
      exact bodyPost_ret (v := .tuple #[.int .u64 0, .iface 255 (.int .i64 2)]) (results_tmp2 Tryz.results212 _ _ _ _ (by kernel_rfl) (by kernel_rfl)) (by kernel_rfl) ⟨.inr ⟨prs_none hj (pz_bad hx (dv_n (bt s j) (by omega) (by omega)) (by omega)), 0, 2, .inr rfl, rfl⟩, below_grown M.old⟩
     ·skip
      refine pl_val (want_no rfl) (some 124) rfl (.bool true) (fun w => Eq.trans (b := .ok (.value (.bool (decide (97 ≤ (ob8 (bt s j) 32))))) w) (by kernel_rfl) (by rw [decide_eq_true (by omega)])) ?_
      refine pl_val (want_no rfl) (some 125) rfl (.bool true) (fun _ => by kernel_rfl) ?_
      refine pl_val (want_on 3 true rfl 125 rfl (by kernel_rfl)) (some 126) rfl (.int .u8 (bt s j)) (fun _ => by kernel_rfl) ?_
      refine pl_call M (want_on 3 true rfl 125 rfl (by kernel_rfl)) (some 127) rfl 220 #[.int .u8 (bt s j)] (.int .u8 (ob8 (bt s j) 32)) (fun _ => by kernel_rfl) (fun w M => c_lower (bt s j) w) ?_
      intro u3 M
      by_cases c4 : 122 < (ob8 (bt s j) 32)
      ·skip
       refine pl_val (want_on 3 true rfl 125 rfl (by kernel_rfl)) (some 128) rfl (.bool false) (fun w => Eq.trans (b := .ok (.value (.bool (decide ((ob8 (bt s j) 32) ≤ 122)))) w) (by kernel_rfl) (by rw [decide_eq_false (by omega)])) ?_
       refine pl_val (want_no rfl) (some 129) rfl (.bool false) (fun _ => by kernel_rfl) ?_
       refine pl_val (want_no rfl) (some 121) rfl (.bool false) (fun _ => by kernel_rfl) ?_
       refine pl_nil ?_
       refine au_then ?_
       refine wp_cond_false (by kernel_rfl) ?_
       refine wp_seq ?_
       refine rg_lit ?_
       refine pl_val (want_no rfl) (some 105) rfl (.iface 255 (.int .i64 2)) (fun _ => by kernel_rfl) ?_
       refine pl_val (want_no rfl) (some 6) rfl (.int .u64 0) (fun _ => by kernel_rfl) ?_
       refine pl_val (want_no rfl) (some 7) rfl (.iface 255 (.int .i64 2)) (fun _ => by kernel_rfl) ?_
       refine pl_nil ?_
       refine au_then ?_
       refine wp_ret ?_
       refine au_block_ret ?_
       refine au_then_ret ?_
       refine au_block_ret ?_
       refine au_then_ret ?_
       refine au_then_ret ?_
       refine au_block_ret ?_
       refine au_then_ret ?_
       exact bodyPost_ret (v := .tuple #[.int .u64 0, .iface 255 (.int .i64 2)]) (results_tmp2 Tryz.results212 _ _ _ _ (by kernel_rfl) (by kernel_rfl)) (by kernel_rfl) ⟨.inr ⟨prs_none hj (pz_bad hx (dv_n (bt s j) (by omega) (by omega)) (by omega)), 0, 2, .inr rfl, rfl⟩, below_grown M.old⟩
      ·skip
       refine pl_val (want_on 3 true rfl 125 rfl (by kernel_rfl)) (some 128) rfl (.bool true) (fun w => Eq.trans (b := .ok (.value (.bool (decide ((ob8 (bt s j) 32) ≤ 122)))) w) (by kernel_rfl) (by rw [decide_eq_true (by omega)])) ?_
       refine pl_val (want_no rfl) (some 129) rfl (.bool true) (fun _ => by kernel_rfl) ?_
       refine pl_val (want_no rfl) (some 121) rfl (.bool true) (fun _ => by kernel_rfl) ?_
       refine pl_nil ?_
       refine au_then ?_
       refine wp_cond_true (by kernel_rfl) ?_
       refine rg_lit ?_
       refine pl_val (want_no rfl) (some 130) rfl (.int .u8 (bt s j)) (fun _ => by kernel_rfl) ?_
       refine pl_call M (want_no rfl) (some 131) rfl 220 #[.int .u8 (bt s j)] (.int .u8 (ob8 (bt s j) 32)) (fun _ => by kernel_rfl) (fun w M => c_lower (bt s j) w) ?_
       intro u4 M
       refine pl_val (want_no rfl) (some 132) rfl (.int .u8 (ob8 (bt s j) 32 - 97)) (fun w => Eq.trans (b := .ok (.value (.int .u8 (cv .u8 (ob8 (bt s j) 32 - 97)))) w) (by kernel_rfl) (by rw [cv_u8]; congr 3; omega)) ?_
       refine pl_val (want_no rfl) (some 133) rfl (.int .u8 (ob8 (bt s j) 32 - 97 + 10)) (fun w => Eq.trans (b := .ok (.value (.int .u8 (cv .u8 (ob8 (bt s j) 32 - 97 + 10)))) w) (by kernel_rfl) (by rw [cv_u8]; congr 3; omega)) ?_
       refine pl_val (want_no rfl) (some 16) rfl (.int .u8 (ob8 (bt s j) 32 - 97 + 10)) (fun _ => by kernel_rfl) ?_
       refine pl_nil ?_
       refine au_block ?_
       refine au_then ?_
       refine wp_seq ?_
       refine wp_seq ?_
       refine rg_lit ?_
       refine pl_val (want_no rfl) (some 134) rfl (.int .u8 (ob8 (bt s j) 32 - 97 + 10)) (fun _ => by kernel_rfl) ?_
       refine pl_val (want_no rfl) (some 135) rfl (.int .i64 10) (fun _ => by kernel_rfl) ?_
       refine pl_val (want_no rfl) (some 136) rfl (.int .u8 10) (fun _ => by kernel_rfl) ?_
       by_cases c5 : (ob8 (bt s j) 32 - 97 + 10) < 10
       ·omega
       ·skip
        refine pl_val (want_no rfl) (some 137) rfl (.bool true) (fun w => Eq.trans (b := .ok (.value (.bool (decide (10 ≤ (ob8 (bt s j) 32 - 97 + 10))))) w) (by kernel_rfl) (by rw [decide_eq_true (by omega)])) ?_
        refine pl_nil ?_
        refine au_then ?_
        refine wp_cond_true (by kernel_rfl) ?_
        refine wp_seq ?_
        refine rg_lit ?_
        refine pl_val (want_no rfl) (some 138) rfl (.iface 255 (.int .i64 2)) (fun _ => by kernel_rfl) ?_
        refine pl_val (want_no rfl) (some 6) rfl (.int .u64 0) (fun _ => by kernel_rfl) ?_
        refine pl_val (want_no rfl) (some 7) rfl (.iface 255 (.int .i64 2)) (fun _ => by kernel_rfl) ?_
        refine pl_nil ?_
        refine au_then ?_
        refine wp_ret ?_
        refine au_then_ret ?_
        refine au_block_ret ?_
        refine au_then_ret ?_
        refine au_then_ret ?_
        refine au_block_ret ?_
        refine au_then_ret ?_
        exact bodyPost_ret (v := .tuple #[.int .u64 0, .iface 255 (.int .i64 2)]) (results_tmp2 Tryz.results212 _ _ _ _ (by kernel_rfl) (by kernel_rfl)) (by kernel_rfl) ⟨.inr ⟨prs_none hj (pz_bad hx (dv_l (bt s j) (by omega) (by omega)) (by omega)), 0, 2, .inr rfl, rfl⟩, below_grown M.old⟩
    ·skip
     refine pl_val (want_no rfl) (some 114) rfl (.bool true) (fun w => Eq.trans (b := .ok (.value (.bool (decide (48 ≤ (bt s j))))) w) (by kernel_rfl) (by rw [decide_eq_true (by omega)])) ?_
     refine pl_val (want_no rfl) (some 115) rfl (.bool true) (fun _ => by kernel_rfl) ?_
     refine pl_val (want_on 2 true rfl 115 rfl (by kernel_rfl)) (some 116) rfl (.int .u8 (bt s j)) (fun _ => by kernel_rfl) ?_
     by_cases c3 : 57 < (bt s j)
     ·skip
      refine pl_val (want_on 2 true rfl 115 rfl (by kernel_rfl)) (some 117) rfl (.bool false) (fun w => Eq.trans (b := .ok (.value (.bool (decide ((bt s j) ≤ 57)))) w) (by kernel_rfl) (by rw [decide_eq_false (by omega)])) ?_
      refine pl_val (want_no rfl) (some 118) rfl (.bool false) (fun _ => by kernel_rfl) ?_
      refine pl_val (want_no rfl) (some 112) rfl (.bool false) (fun _ => by kernel_rfl) ?_
      refine pl_nil ?_
      refine au_then ?_
      refine wp_cond_false (by kernel_rfl) ?_
      refine wp_seq ?_
      refine rg_lit ?_
      refine pl_val (want_no rfl) (some 122) rfl (.int .u8 (bt s j)) (fun _ => by kernel_rfl) ?_
      refine pl_call M (want_no rfl) (some 123) rfl 220 #[.int .u8 (bt s j)] (.int .u8 (ob8 (bt s j) 32)) (fun _ => by kernel_rfl) (fun w M => c_lower (bt s j) w) ?_
      intro u2 M
      by_cases c4 : (ob8 (bt s j) 32) < 97
      ·skip
       refine pl_val (want_no rfl) (some 124) rfl (.bool false) (fun w => Eq.trans (b := .ok (.value (.bool (decide (97 ≤ (ob8 (bt s j) 32))))) w) (by kernel_rfl) (by rw [decide_eq_false (by omega)])) ?_
       refine pl_val (want_no rfl) (some 125) rfl (.bool false) (fun _ => by kernel_rfl) ?_
       refine pl_skip (want_off 3 true rfl 125 rfl (by kernel_rfl)) (some 126) rfl ?_
       refine pl_skip (want_off 3 true rfl 125 rfl (by kernel_rfl)) (some 127) rfl ?_
       refine pl_skip (want_off 3 true rfl 125 rfl (by kernel_rfl)) (some 128) rfl ?_
       refine pl_val (want_no rfl) (some 129) rfl (.bool false) (fun _ => by kernel_rfl) ?_
       refine pl_val (want_no rfl) (some 121) rfl (.bool false) (fun _ => by kernel_rfl) ?_
       refine pl_nil ?_
       refine au_then ?_
       refine wp_cond_false (by kernel_rfl) ?_
       refine wp_seq ?_
       refine rg_lit ?_
       refine pl_val (want_no rfl) (some 105) rfl (.iface 255 (.int .i64 2)) (fun _ => by kernel_rfl) ?_
       refine pl_val (want_no rfl) (some 6) rfl (.int .u64 0) (fun _ => by kernel_rfl) ?_
       refine pl_val (want_no rfl) (some 7) rfl (.iface 255 (.int .i64 2)) (fun _ => by kernel_rfl) ?_
       refine pl_nil ?_
       refine au_then ?_
       refine wp_ret ?_
       refine au_block_ret ?_
       refine au_then_ret ?_
       refine au_block_ret ?_
       refine au_then_ret ?_
       refine au_then_ret ?_
       refine au_block_ret ?_
       refine au_then_ret ?_
       exact bodyPost_ret (v := .tuple #[.int .u64 0, .iface 255 (.int .i64 2)]) (results_tmp2 Tryz.results212 _ _ _ _ (by kernel_rfl) (by kernel_rfl)) (by kernel_rfl) ⟨.inr ⟨prs_none hj (pz_bad hx (dv_n (bt s j) (by omega) (by omega)) (by omega)), 0, 2, .inr rfl, rfl⟩, below_grown M.old⟩
      ·skip
       refine pl_val (want_no rfl) (some 124) rfl (.bool true) (fun w => Eq.trans (b := .ok (.value (.bool (decide (97 ≤ (ob8 (bt s j) 32))))) w) (by kernel_rfl) (by rw [decide_eq_true (by omega)])) ?_
       refine pl_val (want_no rfl) (some 125) rfl (.bool true) (fun _ => by kernel_rfl) ?_
       refine pl_val (want_on 3 true rfl 125 rfl (by kernel_rfl)) (some 126) rfl (.int .u8 (bt s j)) (fun _ => by kernel_rfl) ?_
       refine pl_call M (want_on 3 true rfl 125 rfl (by kernel_rfl)) (some 127) rfl 220 #[.int .u8 (bt s j)] (.int .u8 (ob8 (bt s j) 32)) (fun _ => by kernel_rfl) (fun w M => c_lower (bt s j) w) ?_
       intro u3 M
       by_cases c5 : 122 < (ob8 (bt s j) 32)
       ·skip
        refine pl_val (want_on 3 true rfl 125 rfl (by kernel_rfl)) (some 128) rfl (.bool false) (fun w => Eq.trans (b := .ok (.value (.bool (decide ((ob8 (bt s j) 32) ≤ 122)))) w) (by kernel_rfl) (by rw [decide_eq_false (by omega)])) ?_
        refine pl_val (want_no rfl) (some 129) rfl (.bool false) (fun _ => by kernel_rfl) ?_
        refine pl_val (want_no rfl) (some 121) rfl (.bool false) (fun _ => by kernel_rfl) ?_
        refine pl_nil ?_
        refine au_then ?_
        refine wp_cond_false (by kernel_rfl) ?_
        refine wp_seq ?_
        refine rg_lit ?_
        refine pl_val (want_no rfl) (some 105) rfl (.iface 255 (.int .i64 2)) (fun _ => by kernel_rfl) ?_
        refine pl_val (want_no rfl) (some 6) rfl (.int .u64 0) (fun _ => by kernel_rfl) ?_
        refine pl_val (want_no rfl) (some 7) rfl (.iface 255 (.int .i64 2)) (fun _ => by kernel_rfl) ?_
        refine pl_nil ?_
        refine au_then ?_
        refine wp_ret ?_
        refine au_block_ret ?_
        refine au_then_ret ?_
        refine au_block_ret ?_
        refine au_then_ret ?_
        refine au_then_ret ?_
        refine au_block_ret ?_
        refine au_then_ret ?_
        exact bodyPost_ret (v := .tuple #[.int .u64 0, .iface 255 (.int .i64 2)]) (results_tmp2 Tryz.results212 _ _ _ _ (by kernel_rfl) (by kernel_rfl)) (by kernel_rfl) ⟨.inr ⟨prs_none hj (pz_bad hx (dv_n (bt s j) (by omega) (by omega)) (by omega)), 0, 2, .inr rfl, rfl⟩, below_grown M.old⟩
       ·skip
        refine pl_val (want_on 3 true rfl 125 rfl (by kernel_rfl)) (some 128) rfl (.bool true) (fun w => Eq.trans (b := .ok (.value (.bool (decide ((ob8 (bt s j) 32) ≤ 122)))) w) (by kernel_rfl) (by rw [decide_eq_true (by omega)])) ?_
        refine pl_val (want_no rfl) (some 129) rfl (.bool true) (fun _ => by kernel_rfl) ?_
        refine pl_val (want_no rfl) (some 121) rfl (.bool true) (fun _ => by kernel_rfl) ?_
        refine pl_nil ?_
        refine au_then ?_
        refine wp_cond_true (by kernel_rfl) ?_
        refine rg_lit ?_
        refine pl_val (want_no rfl) (some 130) rfl (.int .u8 (bt s j)) (fun _ => by kernel_rfl) ?_
        refine pl_call M (want_no rfl) (some 131) rfl 220 #[.int .u8 (bt s j)] (.int .u8 (ob8 (bt s j) 32)) (fun _ => by kernel_rfl) (fun w M => c_lower (bt s j) w) ?_
        intro u4 M
        refine pl_val (want_no rfl) (some 132) rfl (.int .u8 (ob8 (bt s j) 32 - 97)) (fun w => Eq.trans (b := .ok (.value (.int .u8 (cv .u8 (ob8 (bt s j) 32 - 97)))) w) (by kernel_rfl) (by rw [cv_u8]; congr 3; omega)) ?_
        refine pl_val (want_no rfl) (some 133) rfl (.int .u8 (ob8 (bt s j) 32 - 97 + 10)) (fun w => Eq.trans (b := .ok (.value (.int .u8 (cv .u8 (ob8 (bt s j) 32 - 97 + 10)))) w) (by kernel_rfl) (by rw [cv_u8]; congr 3; omega)) ?_
        refine pl_val (want_no rfl) (some 16) rfl (.int .u8 (ob8 (bt s j) 32 - 97 + 10)) (fun _ => by kernel_rfl) ?_
        refine pl_nil ?_
        refine au_block ?_
        refine au_then ?_
        refine wp_seq ?_
        refine wp_seq ?_
        refine rg_lit ?_
        refine pl_val (want_no rfl) (some 134) rfl (.int .u8 (ob8 (bt s j) 32 - 97 + 10)) (fun _ => by kernel_rfl) ?_
        refine pl_val (want_no rfl) (some 135) rfl (.int .i64 10) (fun _ => by kernel_rfl) ?_
        refine pl_val (want_no rfl) (some 136) rfl (.int .u8 10) (fun _ => by kernel_rfl) ?_
        by_cases c6 : (ob8 (bt s j) 32 - 97 + 10) < 10
        ·omega
        ·skip
         refine pl_val (want_no rfl) (some 137) rfl (.bool true) (fun w => Eq.trans (b := .ok (.value (.bool (decide (10 ≤ (ob8 (bt s j) 32 - 97 + 10))))) w) (by kernel_rfl) (by rw [decide_eq_true (by omega)])) ?_
         refine pl_nil ?_
         refine au_then ?_
         refine wp_cond_true (by kernel_rfl) ?_
         refine wp_seq ?_
         refine rg_lit ?_
         refine pl_val (want_no rfl) (some 138) rfl (.iface 255 (.int .i64 2)) (fun _ => by kernel_rfl) ?_
         refine pl_val (want_no rfl) (some 6) rfl (.int .u64 0) (fun _ => by kernel_rfl) ?_
         refine pl_val (want_no rfl) (some 7) rfl (.iface 255 (.int .i64 2)) (fun _ => by kernel_rfl) ?_
         refine pl_nil ?_
         refine au_then ?_
         refine wp_ret ?_
         refine au_then_ret ?_
         refine au_block_ret ?_
         refine au_then_ret ?_
         refine au_then_ret ?_
         refine au_block_ret ?_
         refine au_then_ret ?_
         exact bodyPost_ret (v := .tuple #[.int .u64 0, .iface 255 (.int .i64 2)]) (results_tmp2 Tryz.results212 _ _ _ _ (by kernel_rfl) (by kernel_rfl)) (by kernel_rfl) ⟨.inr ⟨prs_none hj (pz_bad hx (dv_l (bt s j) (by omega) (by omega)) (by omega)), 0, 2, .inr rfl, rfl⟩, below_grown M.old⟩
     ·skip
      refine pl_val (want_on 2 true rfl 115 rfl (by kernel_rfl)) (some 117) rfl (.bool true) (fun w => Eq.trans (b := .ok (.value (.bool (decide ((bt s j) ≤ 57)))) w) (by kernel_rfl) (by rw [decide_eq_true (by omega)])) ?_
      refine pl_val (want_no rfl) (some 118) rfl (.bool true) (fun _ => by kernel_rfl) ?_
      refine pl_val (want_no rfl) (some 112) rfl (.bool true) (fun _ => by kernel_rfl) ?_
      refine pl_nil ?_
      refine au_then ?_
      refine wp_cond_true (by kernel_rfl) ?_
      refine rg_lit ?_
      refine pl_val (want_no rfl) (some 119) rfl (.int .u8 (bt s j)) (fun _ => by kernel_rfl) ?_
      refine pl_val (want_no rfl) (some 120) rfl (.int .u8 (bt s j - 48)) (fun w => Eq.trans (b := .ok (.value (.int .u8 (cv .u8 (bt s j - 48)))) w) (by kernel_rfl) (by rw [cv_u8]; congr 3; omega)) ?_
      refine pl_val (want_no rfl) (some 16) rfl (.int .u8 (bt s j - 48)) (fun _ => by kernel_rfl) ?_
      refine pl_nil ?_
      refine au_block ?_
      refine au_then ?_
      refine wp_seq ?_
      refine wp_seq ?_
      refine rg_lit ?_
      refine pl_val (want_no rfl) (some 134) rfl (.int .u8 (bt s j - 48)) (fun _ => by kernel_rfl) ?_
      refine pl_val (want_no rfl) (some 135) rfl (.int .i64 10) (fun _ => by kernel_rfl) ?_
      refine pl_val (want_no rfl) (some 136) rfl (.int .u8 10) (fun _ => by kernel_rfl) ?_
      by_cases c4 : (bt s j - 48) < 10
      ·skip
       refine pl_val (want_no rfl) (some 137) rfl (.bool false) (fun w => Eq.trans (b := .ok (.value (.bool (decide (10 ≤ (bt s j - 48))))) w) (by kernel_rfl) (by rw [decide_eq_false (by omega)])) ?_
       refine pl_nil ?_
       refine au_then ?_
       refine wp_cond_false (by kernel_rfl) ?_
       refine wp_skip ?_
       refine au_then ?_
       refine wp_seq ?_
       refine wp_seq ?_
       refine rg_lit ?_
       refine pl_val (want_no rfl) (some 139) rfl (.int .u64 (pv 10 255 s j)) (fun _ => by kernel_rfl) ?_
       refine pl_val (want_no rfl) (some 140) rfl (.int .u64 1844674407370955162) (fun _ => by kernel_rfl) ?_
       refine pl_val (want_no rfl) (some 141) rfl (.bool false) (fun w => Eq.trans (b := .ok (.value (.bool (decide (1844674407370955162 ≤ (pv 10 255 s j))))) w) (by kernel_rfl) (by rw [decide_eq_false (by omega)])) ?_
       refine pl_nil ?_
       refine au_then ?_
       refine wp_cond_false (by kernel_rfl) ?_
       refine wp_skip ?_
       refine au_then ?_
       refine wp_seq ?_
       refine rg_lit ?_
       refine pl_val (want_no rfl) (some 144) rfl (.int .u64 (pv 10 255 s j)) (fun _ => by kernel_rfl) ?_
       refine pl_val (want_no rfl) (some 145) rfl (.int .i64 10) (fun _ => by kernel_rfl) ?_
       refine pl_val (want_no rfl) (some 146) rfl (.int .u64 10) (fun _ => by kernel_rfl) ?_
       refine pl_val (want_no rfl) (some 147) rfl (.int .u64 (pv 10 255 s j * 10)) (fun w => Eq.trans (b := .ok (.value (.int .u64 (cv .u64 (pv 10 255 s j * 10)))) w) (by kernel_rfl) (by rw [cv_u64]; congr 3; omega)) ?_
       refine pl_val (want_no rfl) (some 13) rfl (.int .u64 (pv 10 255 s j * 10)) (fun _ => by kernel_rfl) ?_
       refine pl_nil ?_
       refine au_then ?_
       refine wp_seq ?_
       refine rg_lit ?_
       refine pl_val (want_no rfl) (some 148) rfl (.int .u64 (pv 10 255 s j * 10)) (fun _ => by kernel_rfl) ?_
       refine pl_val (want_no rfl) (some 149) rfl (.int .u8 (bt s j - 48)) (fun _ => by kernel_rfl) ?_
       refine pl_val (want_no rfl) (some 150) rfl (.int .u64 (bt s j - 48)) (fun w => Eq.trans (b := .ok (.value (.int .u64 (cv .u64 (bt s j - 48)))) w) (by kernel_rfl) (by rw [cv_u64]; congr 3; omega)) ?_
       refine pl_val (want_no rfl) (some 151) rfl (.int .u64 (pv 10 255 s j * 10 + (bt s j - 48))) (fun w => Eq.trans (b := .ok (.value (.int .u64 (cv .u64 (pv 10 255 s j * 10 + (bt s j - 48))))) w) (by kernel_rfl) (by rw [cv_u64]; congr 3; omega)) ?_
       refine pl_val (want_no rfl) (some 17) rfl (.int .u64 (pv 10 255 s j * 10 + (bt s j - 48))) (fun _ => by kernel_rfl) ?_
       refine pl_nil ?_
       refine au_then ?_
       refine wp_seq ?_
       refine wp_seq ?_
       refine rg_lit ?_
       refine pl_val (want_no rfl) (some 152) rfl (.int .u64 (pv 10 255 s j * 10 + (bt s j - 48))) (fun _ => by kernel_rfl) ?_
       refine pl_val (want_no rfl) (some 153) rfl (.int .u64 (pv 10 255 s j * 10)) (fun _ => by kernel_rfl) ?_
       refine pl_val (want_no rfl) (some 154) rfl (.bool false) (fun w => Eq.trans (b := .ok (.value (.bool (decide ((pv 10 255 s j * 10 + (bt s j - 48)) < (pv 10 255 s j * 10))))) w) (by kernel_rfl) (by rw [decide_eq_false (by omega)])) ?_
       refine pl_val (want_no rfl) (some 155) rfl (.bool false) (fun _ => by kernel_rfl) ?_
       refine pl_val (want_on 3 false rfl 155 rfl (by kernel_rfl)) (some 156) rfl (.int .u64 (pv 10 255 s j * 10 + (bt s j - 48))) (fun _ => by kernel_rfl) ?_
       refine pl_val (want_on 3 false rfl 155 rfl (by kernel_rfl)) (some 157) rfl (.int .u64 255) (fun _ => by kernel_rfl) ?_
       by_cases c5 : 255 < (pv 10 255 s j * 10 + (bt s j - 48))
       ·skip
        refine pl_val (want_on 3 false rfl 155 rfl (by kernel_rfl)) (some 158) rfl (.bool true) (fun w => Eq.trans (b := .ok (.value (.bool (decide (255 < (pv 10 255 s j * 10 + (bt s j - 48)))))) w) (by kernel_rfl) (by rw [decide_eq_true (c5)])) ?_
        refine pl_val (want_no rfl) (some 159) rfl (.bool true) (fun _ => by kernel_rfl) ?_
        refine pl_nil ?_
        refine au_then ?_
        refine wp_cond_true (by kernel_rfl) ?_
        refine wp_seq ?_
        refine rg_lit ?_
        refine pl_val (want_no rfl) (some 160) rfl (.int .u64 255) (fun _ => by kernel_rfl) ?_
        refine pl_val (want_no rfl) (some 161) rfl (.iface 255 (.int .i64 1)) (fun _ => by kernel_rfl) ?_
        refine pl_val (want_no rfl) (some 6) rfl (.int .u64 255) (fun _ => by kernel_rfl) ?_
        refine pl_val (want_no rfl) (some 7) rfl (.iface 255 (.int .i64 1)) (fun _ => by kernel_rfl) ?_
        refine pl_nil ?_
        refine au_then ?_
        refine wp_ret ?_
        refine au_then_ret ?_
        refine au_block_ret ?_
        refine au_then_ret ?_
        refine au_then_ret ?_
        refine au_block_ret ?_
        refine au_then_ret ?_
        exact bodyPost_ret (v := .tuple #[.int .u64 255, .iface 255 (.int .i64 1)]) (results_tmp2 Tryz.results212 _ _ _ _ (by kernel_rfl) (by kernel_rfl)) (by kernel_rfl) ⟨.inr ⟨prs_none hj (pz_big hx (dv_d (bt s j) (by omega)) (by omega) (by omega)), 255, 1, .inl rfl, rfl⟩, below_grown M.old⟩
       ·skip
        refine pl_val (want_on 3 false rfl 155 rfl (by kernel_rfl)) (some 158) rfl (.bool false) (fun w => Eq.trans (b := .ok (.value (.bool (decide (255 < (pv 10 255 s j * 10 + (bt s j - 48)))))) w) (by kernel_rfl) (by rw [decide_eq_false (c5)])) ?_
        refine pl_val (want_no rfl) (some 159) rfl (.bool false) (fun _ => by kernel_rfl) ?_
        refine pl_nil ?_
        refine au_then ?_
        refine wp_cond_false (by kernel_rfl) ?_
        refine wp_skip ?_
        refine au_then ?_
        refine rg_lit ?_
        refine pl_val (want_no rfl) (some 162) rfl (.int .u64 (pv 10 255 s j * 10 + (bt s j - 48))) (fun _ => by kernel_rfl) ?_
        have hpy := pz_ok hx (dv_d (bt s j) (by omega)) (by omega) (by omega)
        have hpv : pv 10 255 s (j + 1) = pv 10 255 s j * 10 + (bt s j - 48) := by unfold pv; rw [hpy]; rfl
        have hpz : pz 10 255 s (j + 1) = some (pv 10 255 s (j + 1)) := by rw [hpv]; exact hpy
        refine pl_val (want_no rfl) (some 13) rfl (.int .u64 (pv 10 255 s (j + 1))) (fun w => Eq.trans (b := .ok (.value (.int .u64 (pv 10 255 s j * 10 + (bt s j - 48)))) w) (by kernel_rfl) (by rw [hpv])) ?_
        refine pl_nil ?_
        refine au_block ?_
        refine au_then ?_
        refine rg_lit ?_
        refine pl_val (want_no rfl) (some 163) rfl (.int .i64 ((j + 1 : Nat) : Int)) (fun w => Eq.trans (b := .ok (.value (.int .i64 (IntKind.wrap .i64 ((j : Int) + 1)))) w) (by kernel_rfl) (by rw [wrap64 (by omega) (by omega)]; congr 3)) ?_
        refine pl_val (want_no rfl) (some 101) rfl (.int .i64 ((j + 1 : Nat) : Int)) (fun _ => by kernel_rfl) ?_
        refine pl_nil ?_
        refine au_then ?_
        exact ⟨fun k_ => ([v1 6, v1 7, undef, undef, undef, undef, undef, undef, undef, .int .u8 (bt s j), .int .u8 (bt s j - 48), .int .u64 (pv 10 255 s j * 10 + (bt s j - 48)), undef, undef, undef, undef, undef, undef, undef, undef, undef, undef, undef, undef, undef, undef, undef, undef, undef, undef, undef, undef, undef, undef, undef, undef, undef, undef, undef, undef, undef, undef, undef, undef, undef, undef, undef, undef, undef, undef, undef, undef, undef, undef, undef, undef, undef, undef, undef, undef, undef, undef, undef, undef, undef, undef, undef, undef, undef, undef, undef, undef, undef, undef, undef, undef, undef, undef, undef, undef, undef, undef, undef, undef, undef, undef, undef, undef, undef, undef, undef, undef, undef, undef, undef, undef, .bool true, .pointer (some ⟨g1, j, none⟩), .int .u8 (bt s j), v1 105, .bool false, .int .u8 (bt s j), .bool false, .bool false, undef, .bool false, .bool true, .int .u8 (bt s j), .bool true, .bool true, .int .u8 (bt s j), .bool true, .bool true, .int .u8 (bt s j), .int .u8 (bt s j - 48), v1 121, v1 122, v1 123, v1 124, v1 125, v1 126, v1 127, v1 128, v1 129, v1 130, v1 131, v1 132, v1 133, .int .u8 (bt s j - 48), .int .i64 10, .int .u8 10, .bool false, v1 138, .int .u64 (pv 10 255 s j), .int .u64 1844674407370955162, .bool false, v1 142, v1 143, .int .u64 (pv 10 255 s j), .int .i64 10, .int .u64 10, .int .u64 (pv 10 255 s j * 10), .int .u64 (pv 10 255 s j * 10), .int .u8 (bt s j - 48), .int .u64 (bt s j - 48), .int .u64 (pv 10 255 s j * 10 + (bt s j - 48)), .int .u64 (pv 10 255 s j * 10 + (bt s j - 48)), .int .u64 (pv 10 255 s j * 10), .bool false, .bool false, .int .u64 (pv 10 255 s j * 10 + (bt s j - 48)), .int .u64 255, .bool false, .bool false, v1 160, v1 161, .int .u64 (pv 10 255 s j * 10 + (bt s j - 48)), .int .i64 ((j + 1 : Nat) : Int)] : List Value).getD (k_ - 6) undef, by kernel_rfl, M, hpz⟩
      ·skip
       refine pl_val (want_no rfl) (some 137) rfl (.bool true) (fun w => Eq.trans (b := .ok (.value (.bool (decide (10 ≤ (bt s j - 48))))) w) (by kernel_rfl) (by rw [decide_eq_true (by omega)])) ?_
       refine pl_nil ?_
       refine au_then ?_
       refine wp_cond_true (by kernel_rfl) ?_
       refine wp_seq ?_
       refine rg_lit ?_
       refine pl_val (want_no rfl) (some 138) rfl (.iface 255 (.int .i64 2)) (fun _ => by kernel_rfl) ?_
       refine pl_val (want_no rfl) (some 6) rfl (.int .u64 0) (fun _ => by kernel_rfl) ?_
       refine pl_val (want_no rfl) (some 7) rfl (.iface 255 (.int .i64 2)) (fun _ => by kernel_rfl) ?_
       refine pl_nil ?_
       refine au_then ?_
       refine wp_ret ?_
       refine au_then_ret ?_
       refine au_block_ret ?_
       refine au_then_ret ?_
       refine au_then_ret ?_
       refine au_block_ret ?_
       refine au_then_ret ?_
       exact bodyPost_ret (v := .tuple #[.int .u64 0, .iface 255 (.int .i64 2)]) (results_tmp2 Tryz.results212 _ _ _ _ (by kernel_rfl) (by kernel_rfl)) (by kernel_rfl) ⟨.inr ⟨prs_none hj (pz_bad hx (dv_d (bt s j) (by omega)) (by omega)), 0, 2, .inr rfl, rfl⟩, below_grown M.old⟩
  ·intro a u0 hI
   obtain ⟨v1, rfl, M, hx⟩ := hI
   refine wp_seq ?_
   refine rg_lit ?_
   refine pl_val (want_no rfl) (some 102) rfl (.bool false) (fun w => Eq.trans (b := .ok (.value (.bool (decide (((s.size : Nat) : Int) < ((s.size : Nat) : Int))))) w) (by kernel_rfl) (by rw [decide_eq_false (by omega)])) ?_
   refine pl_nil ?_
   refine au_then ?_
   refine wp_seq ?_
   refine wp_cond_false (by kernel_rfl) ?_
   refine wp_exit ?_
   refine au_then_exit ?_
   refine au_then_exit ?_
   refine au_block_exit ?_
   refine au_then ?_
   refine wp_seq ?_
   refine wp_seq ?_
   refine rg_lit ?_
   refine pl_val (want_no rfl) (some 164) rfl (.bool false) (fun _ => by kernel_rfl) ?_
   refine pl_val (want_no rfl) (some 165) rfl (.bool false) (fun _ => by kernel_rfl) ?_
   refine pl_skip (want_off 1 true rfl 165 rfl (by kernel_rfl)) (some 166) rfl ?_
   refine pl_skip (want_off 1 true rfl 165 rfl (by kernel_rfl)) (some 167) rfl ?_
   refine pl_skip (want_off 1 true rfl 165 rfl (by kernel_rfl)) (some 168) rfl ?_
   refine pl_val (want_no rfl) (some 169) rfl (.bool false) (fun _ => by kernel_rfl) ?_
   refine pl_nil ?_
   refine au_then ?_
   refine wp_cond_false (by kernel_rfl) ?_
   refine wp_skip ?_
   refine au_then ?_
   refine wp_seq ?_
   refine rg_lit ?_
   refine pl_val (want_no rfl) (some 171) rfl (.int .u64 (pv 10 255 s (s.size))) (fun _ => by kernel_rfl) ?_
   refine pl_val (want_no rfl) (some 6) rfl (.int .u64 (pv 10 255 s (s.size))) (fun _ => by kernel_rfl) ?_
   refine pl_val (want_no rfl) (some 7) rfl (.nilIface) (fun _ => by kernel_rfl) ?_
   refine pl_nil ?_
   refine au_then ?_
   refine wp_ret ?_
   exact bodyPost_ret (v := .tuple #[.int .u64 (pv 10 255 s (s.size)), .nilIface]) (results_tmp2 Tryz.results212 _ _ _ _ (by kernel_rfl) (by kernel_rfl)) (by kernel_rfl) ⟨.inl ⟨(pv 10 255 s (s.size)), by unfold prs; rw [if_neg c0]; exact hx, rfl⟩, below_grown M.old⟩
set_option maxRecDepth 100000 in
set_option maxHeartbeats 4000000 in
set_option linter.unusedSimpArgs false in
theorem c_ipu16 (s : ByteArray) (hs : s.size ≤ 100000) (w : World) (hL : Laid w)  :
  Calls Tryz.prog 212 #[.string s, .int .i64 16, .int .i64 16] w fun r w' => ((∃ x : Int, prs 16 65535 s = some x ∧ r = .returned (.tuple #[.int .u64 x, .nilIface])) ∨ (prs 16 65535 s = none ∧ ∃ y k : Int, (k = 1 ∨ k = 2) ∧ r = .returned (.tuple #[.int .u64 y, .iface 255 (.int .i64 k)]))) ∧ Below w.heap.size w w' := by
 go_enter Tryz.func212, Tryz.ntmps212
 have M := Mem.start hL
 refine wp_seq ?_
 refine rg_lit ?_
 refine pl_val (want_no rfl) (some 6) rfl (.int .u64 0) (fun _ => by kernel_rfl) ?_
 refine pl_val (want_no rfl) (some 7) rfl (.nilIface) (fun _ => by kernel_rfl) ?_
 refine pl_nil ?_
 refine au_then ?_
 refine wp_seq ?_
 refine wp_seq ?_
 refine rg_lit ?_
 refine pl_val (want_no rfl) (some 18) rfl (.string s) (fun _ => by kernel_rfl) ?_
 by_cases c0 : s = (⟨#[]⟩ : ByteArray)
 ·skip
  refine pl_val (want_no rfl) (some 19) rfl (.bool true) (fun w => Eq.trans (b := .ok (.value (.bool (s.toList == (⟨#[]⟩ : ByteArray).toList))) w) (by kernel_rfl) (by rw [seq_pos c0])) ?_
  refine pl_nil ?_
  refine au_then ?_
  refine wp_cond_true (by kernel_rfl) ?_
  refine wp_seq ?_
  refine rg_lit ?_
  refine pl_val (want_no rfl) (some 20) rfl (.iface 255 (.int .i64 2)) (fun _ => by kernel_rfl) ?_
  refine pl_val (want_no rfl) (some 6) rfl (.int .u64 0) (fun _ => by kernel_rfl) ?_
  refine pl_val (want_no rfl) (some 7) rfl (.iface 255 (.int .i64 2)) (fun _ => by kernel_rfl) ?_
  refine pl_nil ?_
  refine au_then ?_
  refine wp_ret ?_
  refine au_then_ret ?_
  exact bodyPost_ret (v := .tuple #[.int .u64 0, .iface 255 (.int .i64 2)]) (results_tmp2 Tryz.results212 _ _ _ _ (by kernel_rfl) (by kernel_rfl)) (by kernel_rfl) ⟨.inr ⟨if_pos c0, 0, 2, .inr rfl, rfl⟩, below_grown M.old⟩
 ·skip
  refine pl_val (want_no rfl) (some 19) rfl (.bool false) (fun w => Eq.trans (b := .ok (.value (.bool (s.toList == (⟨#[]⟩ : ByteArray).toList))) w) (by kernel_rfl) (by rw [seq_neg c0])) ?_
  refine pl_nil ?_
  refine au_then ?_
  refine wp_cond_false (by kernel_rfl) ?_
  refine wp_skip ?_
  refine au_then ?_
  refine wp_seq ?_
  refine rg_lit ?_
  refine pl_val (want_no rfl) (some 21) rfl (.int .i64 16) (fun _ => by kernel_rfl) ?_
  refine pl_val (want_no rfl) (some 22) rfl (.bool false) (fun _ => by kernel_rfl) ?_
  refine pl_val (want_no rfl) (some 8) rfl (.bool false) (fun _ => by kernel_rfl) ?_
  refine pl_nil ?_
  refine au_then ?_
  refine wp_seq ?_
  refine rg_lit ?_
  refine pl_val (want_no rfl) (some 23) rfl (.string s) (fun _ => by kernel_rfl) ?_
  refine pl_val (want_no rfl) (some 9) rfl (.string s) (fun _ => by kernel_rfl) ?_
  refine pl_nil ?_
  refine au_then ?_
  refine wp_seq ?_
  refine wp_block ?_
  refine wp_seq ?_
  refine rg_lit ?_
  refine pl_val (want_no rfl) (some 26) rfl (.int .i64 16) (fun _ => by kernel_rfl) ?_
  refine pl_val (want_no rfl) (some 27) rfl (.bool true) (fun _ => by kernel_rfl) ?_
  refine pl_val (want_no rfl) (some 28) rfl (.bool true) (fun _ => by kernel_rfl) ?_
  refine pl_val (want_on 2 true rfl 28 rfl (by kernel_rfl)) (some 29) rfl (.int .i64 16) (fun _ => by kernel_rfl) ?_
  refine pl_val (want_on 2 true rfl 28 rfl (by kernel_rfl)) (some 30) rfl (.bool true) (fun _ => by kernel_rfl) ?_
  refine pl_val (want_no rfl) (some 31) rfl (.bool true) (fun _ => by kernel_rfl) ?_
  refine pl_val (want_no rfl) (some 25) rfl (.bool true) (fun _ => by kernel_rfl) ?_
  refine pl_nil ?_
  refine au_then ?_
  refine wp_cond_true (by kernel_rfl) ?_
  refine wp_skip ?_
  refine au_block ?_
  refine au_then ?_
  refine wp_seq ?_
  refine wp_seq ?_
  refine rg_lit ?_
  refine pl_val (want_no rfl) (some 76) rfl (.int .i64 16) (fun _ => by kernel_rfl) ?_
  refine pl_val (want_no rfl) (some 77) rfl (.bool false) (fun _ => by kernel_rfl) ?_
  refine pl_nil ?_
  refine au_then ?_
  refine wp_cond_false (by kernel_rfl) ?_
  refine wp_seq ?_
  refine rg_lit ?_
  refine pl_val (want_no rfl) (some 78) rfl (.int .i64 16) (fun _ => by kernel_rfl) ?_
  refine pl_val (want_no rfl) (some 79) rfl (.bool false) (fun _ => by kernel_rfl) ?_
  refine pl_val (want_no rfl) (some 80) rfl (.bool false) (fun _ => by kernel_rfl) ?_
  refine pl_val (want_on 2 false rfl 80 rfl (by kernel_rfl)) (some 81) rfl (.int .i64 16) (fun _ => by kernel_rfl) ?_
  refine pl_val (want_on 2 false rfl 80 rfl (by kernel_rfl)) (some 82) rfl (.bool false) (fun _ => by kernel_rfl) ?_
  refine pl_val (want_no rfl) (some 83) rfl (.bool false) (fun _ => by kernel_rfl) ?_
  refine pl_nil ?_
  refine au_then ?_
  refine wp_cond_false (by kernel_rfl) ?_
  refine wp_skip ?_
  refine au_then ?_
  refine wp_seq ?_
  refine rg_lit ?_
  refine pl_val (want_no rfl) (some 10) rfl (.int .u64 0) (fun _ => by kernel_rfl) ?_
  refine pl_nil ?_
  refine au_then ?_
  refine wp_seq ?_
  refine wp_seq ?_
  refine rg_lit ?_
  refine pl_val (want_no rfl) (some 85) rfl (.int .i64 16) (fun _ => by kernel_rfl) ?_
  refine pl_nil ?_
  refine au_then ?_
  refine wp_block ?_
  refine wp_seq ?_
  refine rg_lit ?_
  refine pl_val (want_no rfl) (some 91) rfl (.bool false) (fun _ => by kernel_rfl) ?_
  refine pl_val (want_no rfl) (some 90) rfl (.bool false) (fun _ => by kernel_rfl) ?_
  refine pl_nil ?_
  refine au_then ?_
  refine wp_cond_false (by kernel_rfl) ?_
  refine wp_seq ?_
  refine rg_lit ?_
  refine pl_val (want_no rfl) (some 93) rfl (.bool true) (fun _ => by kernel_rfl) ?_
  refine pl_val (want_no rfl) (some 92) rfl (.bool true) (fun _ => by kernel_rfl) ?_
  refine pl_nil ?_
  refine au_then ?_
  refine wp_cond_true (by kernel_rfl) ?_
  refine rg_lit ?_
  refine pl_val (want_no rfl) (some 10) rfl (.int .u64 1152921504606846976) (fun _ => by kernel_rfl) ?_
  refine pl_nil ?_
  refine au_block ?_
  refine au_then ?_
  refine wp_seq ?_
  refine rg_lit ?_
  refine pl_val (want_no rfl) (some 94) rfl (.int .i64 16) (fun _ => by kernel_rfl) ?_
  refine pl_val (want_no rfl) (some 95) rfl (.int .u64 16) (fun _ => by kernel_rfl) ?_
  refine pl_val (want_no rfl) (some 96) rfl (.int .u64 65536) (fun _ => by kernel_rfl) ?_
  refine pl_val (want_no rfl) (some 97) rfl (.int .u64 65535) (fun _ => by kernel_rfl) ?_
  refine pl_val (want_no rfl) (some 11) rfl (.int .u64 65535) (fun _ => by kernel_rfl) ?_
  refine pl_nil ?_
  refine au_then ?_
  refine wp_seq ?_
  refine rg_lit ?_
  refine pl_val (want_no rfl) (some 12) rfl (.bool false) (fun _ => by kernel_rfl) ?_
  refine pl_nil ?_
  refine au_then ?_
  refine wp_seq ?_
  refine rg_lit ?_
  refine pl_val (want_no rfl) (some 13) rfl (.int .u64 0) (fun _ => by kernel_rfl) ?_
  refine pl_nil ?_
  refine au_then ?_
  refine wp_seq ?_
  refine wp_seq ?_
  refine rg_lit ?_
  refine pl_val (want_no rfl) (some 98) rfl (.string s) (fun _ => by kernel_rfl) ?_
  refine pl_conv M (want_no rfl) (some 99) rfl _ rfl s (by kernel_rfl) ?_
  intro g1 cap1 Z1 u1 hZ1 M
  replace M : Mem ⟨w, []⟩ [⟨g1, Z1⟩] u1 := M
  refine pl_val (want_no rfl) (some 100) rfl (.int .i64 ((s.size : Nat) : Int)) (fun _ => by kernel_rfl) ?_
  refine pl_val (want_no rfl) (some 101) rfl (.int .i64 0) (fun _ => by kernel_rfl) ?_
  refine pl_nil ?_
  refine au_then ?_
  refine wp_block ?_
  refine au_loop (fun j a w' => ∃ v1 : Nat → Value, a = ⟨#[.string s, .int .i64 16, .int .i64 16, undef, undef, undef, v1 6, v1 7, .bool false, .string s, .int .u64 1152921504606846976, .int .u64 65535, .bool false, .int .u64 (pv 16 65535 s j), undef, v1 15, v1 16, v1 17, .string s, .bool false, undef, .int .i64 16, .bool false, .string s, undef, .bool true, .int .i64 16, .bool true, .bool true, .int .i64 16, .bool true, .bool true, undef, undef, undef, undef, undef, undef, undef, undef, undef, undef, undef, undef, undef, undef, undef, undef, undef, undef, undef, undef, undef, undef, undef, undef, undef, undef, undef, undef, undef, undef, undef, undef, undef, undef, undef, undef, undef, undef, undef, undef, undef, undef, undef, undef, .int .i64 16, .bool false, .int .i64 16, .bool false, .bool false, .int .i64 16, .bool false, .bool false, undef, .int .i64 16, undef, undef, undef, undef, .bool false, .bool false, .bool true, .bool true, .int .i64 16, .int .u64 16, .int .u64 65536, .int .u64 65535, .string s, .slice (some ⟨g1, 0, none⟩) s.size cap1, .int .i64 ((s.size : Nat) : Int), .int .i64 (j : Int), v1 102, v1 103, v1 104, v1 105, v1 106, v1 107, v1 108, v1 109, v1 110, v1 111, v1 112, v1 113, v1 114, v1 115, v1 116, v1 117, v1 118, v1 119, v1 120, v1 121, v1 122, v1 123, v1 124, v1 125, v1 126, v1 127, v1 128, v1 129, v1 130, v1 131, v1 132, v1 133, v1 134, v1 135, v1 136, v1 137, v1 138, v1 139, v1 140, v1 141, v1 142, v1 143, v1 144, v1 145, v1 146, v1 147, v1 148, v1 149, v1 150, v1 151, v1 152, v1 153, v1 154, v1 155, v1 156, v1 157, v1 158, v1 159, v1 160, v1 161, v1 162, v1 163, undef, undef, undef, undef, undef, undef, undef, undef], []⟩ ∧ Mem ⟨w, []⟩ [⟨g1, Z1⟩] w' ∧ pz 16 65535 s j = some (pv 16 65535 s j)) s.size ⟨fun k_ => ([.int .u64 0, .nilIface, undef, undef, undef, undef, undef, undef, undef, undef, undef, undef, undef, undef, undef, undef, undef, undef, undef, undef, undef, undef, undef, undef, undef, undef, undef, undef, undef, undef, undef, undef, undef, undef, undef, undef, undef, undef, undef, undef, undef, undef, undef, undef, undef, undef, undef, undef, undef, undef, undef, undef, undef, undef, undef, undef, undef, undef, undef, undef, undef, undef, undef, undef, undef, undef, undef, undef, undef, undef, undef, undef, undef, undef, undef, undef, undef, undef, undef, undef, undef, undef, undef, undef, undef, undef, undef, undef, undef, undef, undef, undef, undef, undef, undef, undef, undef, undef, undef, undef, undef, undef, undef, undef, undef, undef, undef, undef, undef, undef, undef, undef, undef, undef, undef, undef, undef, undef, undef, undef, undef, undef, undef, undef, undef, undef, undef, undef, undef, undef, undef, undef, undef, undef, undef, undef, undef, undef, undef, undef, undef, undef, undef, undef, undef, undef, undef, undef, undef, undef, undef, undef, undef, undef, undef, undef, undef, undef] : List Value).getD (k_ - 6) undef, by kernel_rfl, M, rfl⟩ ?_ ?_
  ·intro j a u0 hj hI
   obtain ⟨v1, rfl, M, hx⟩ := hI
   have hb := bt_nn s j
   have ho := ob8_nn (bt s j) 32
   have hp := pv_le (b := 16) (m := 65535) (s := s) (by decide) (by decide) j
   refine wp_seq ?_
   refine rg_lit ?_
   refine pl_val (want_no rfl) (some 102) rfl (.bool true) (fun w => Eq.trans (b := .ok (.value (.bool (decide ((j : Int) < ((s.size : Nat) : Int))))) w) (by kernel_rfl) (by rw [decide_eq_true (by omega)])) ?_
   refine pl_nil ?_
   refine au_then ?_
   refine wp_seq ?_
   refine wp_cond_true (by kernel_rfl) ?_
   refine wp_skip ?_
   refine au_then ?_
   refine wp_seq ?_
   refine wp_block ?_
   refine wp_seq ?_
   refine rg_lit ?_
   refine pl_val (want_no rfl) (some 103) rfl (.pointer (some ⟨g1, j, none⟩)) (run_ix0 41 5 Tryz.underlying41 inz5 _ _ rfl g1 s.size cap1 (by kernel_rfl) .i64 j (by kernel_rfl) (by omega)) ?_
   refine pl_cell M (want_no rfl) (some 104) rfl 5 _ rfl g1 j (by kernel_rfl) (.int .u8 (bt s j)) (fun _ => by kernel_rfl) (fun w M => hZ1.cell (M.get 0 rfl) (vs8_sb _ _ (by omega))) ?_
   refine pl_val (want_no rfl) (some 15) rfl (.int .u8 (bt s j)) (fun _ => by kernel_rfl) ?_
   refine pl_nil ?_
   refine au_then ?_
   refine wp_seq ?_
   refine rg_lit ?_
   refine pl_val (want_no rfl) (some 16) rfl (.int .u8 0) (fun _ => by kernel_rfl) ?_
   refine pl_nil ?_
   refine au_then ?_
   refine wp_seq ?_
   refine wp_block ?_
   refine wp_seq ?_
   refine rg_lit ?_
   refine pl_val (want_no rfl) (some 107) rfl (.int .u8 (bt s j)) (fun _ => by kernel_rfl) ?_
   by_cases c1 : (bt s j) = 95
   ·skip
    refine pl_val (want_no rfl) (some 108) rfl (.bool true) (fun w => Eq.trans (b := .ok (.value (.bool (decide ((bt s j) = 95)))) w) (by kernel_rfl) (by rw [decide_eq_true (c1)])) ?_
    refine pl_val (want_no rfl) (some 109) rfl (.bool true) (fun _ => by kernel_rfl) ?_
    refine pl_val (want_on 2 true rfl 109 rfl (by kernel_rfl)) (some 110) rfl (.bool false) (fun _ => by kernel_rfl) ?_
    refine pl_val (want_no rfl) (some 111) rfl (.bool false) (fun _ => by kernel_rfl) ?_
    refine pl_val (want_no rfl) (some 106) rfl (.bool false) (fun _ => by kernel_rfl) ?_
    refine pl_nil ?_
    refine au_then ?_
    refine wp_cond_false (by kernel_rfl) ?_
    refine wp_seq ?_
    refine rg_lit ?_
    refine pl_val (want_no rfl) (some 113) rfl (.int .u8 (bt s j)) (fun _ => by kernel_rfl) ?_
    by_cases c2 : (bt s j) < 48
    ·omega
    ·skip
     refine pl_val (want_no rfl) (some 114) rfl (.bool true) (fun w => Eq.trans (b := .ok (.value (.bool (decide (48 ≤ (bt s j))))) w) (by kernel_rfl) (by rw [decide_eq_true (by omega)])) ?_
     refine pl_val (want_no rfl) (some 115) rfl (.bool true) (fun _ => by kernel_rfl) ?_
     refine pl_val (want_on 2 true rfl 115 rfl (by kernel_rfl)) (some 116) rfl (.int .u8 (bt s j)) (fun _ => by kernel_rfl) ?_
     by_cases c3 : 57 < (bt s j)
     ·skip
      refine pl_val (want_on 2 true rfl 115 rfl (by kernel_rfl)) (some 117) rfl (.bool false) (fun w => Eq.trans (b := .ok (.value (.bool (decide ((bt s j) ≤ 57)))) w) (by kernel_rfl) (by rw [decide_eq_false (by omega)])) ?_
      refine pl_val (want_no rfl) (some 118) rfl (.bool false) (fun _ => by kernel_rfl) ?_
      refine pl_val (want_no rfl) (some 112) rfl (.bool false) (fun _ => by kernel_rfl) ?_
      refine pl_nil ?_
      refine au_then ?_
      refine wp_cond_false (by kernel_rfl) ?_
      refine wp_seq ?_
      refine rg_lit ?_
      refine pl_val (want_no rfl) (some 122) rfl (.int .u8 (bt s j)) (fun _ => by kernel_rfl) ?_
      refine pl_call M (want_no rfl) (some 123) rfl 220 #[.int .u8 (bt s j)] (.int .u8 (ob8 (bt s j) 32)) (fun _ => by kernel_rfl) (fun w M => c_lower (bt s j) w) ?_
      intro u2 M
      by_cases c4 : (ob8 (bt s j) 32) < 97
      ·exact absurd c4 (by rw [c1]; decide)
      ·skip
       refine pl_val (want_no rfl) (some 124) rfl (.bool true) (fun w => Eq.trans (b := .ok (.value (.bool (decide (97 ≤ (ob8 (bt s j) 32))))) w) (by kernel_rfl) (by rw [decide_eq_true (by omega)])) ?_
       refine pl_val (want_no rfl) (some 125) rfl (.bool true) (fun _ => by kernel_rfl) ?_
       refine pl_val (want_on 3 true rfl 125 rfl (by kernel_rfl)) (some 126) rfl (.int .u8 (bt s j)) (fun _ => by kernel_rfl) ?_
       refine pl_call M (want_on 3 true rfl 125 rfl (by kernel_rfl)) (some 127) rfl 220 #[.int .u8 (bt s j)] (.int .u8 (ob8 (bt s j) 32)) (fun _ => by kernel_rfl) (fun w M => c_lower (bt s j) w) ?_
       intro u3 M
       by_cases c5 : 122 < (ob8 (bt s j) 32)
       ·skip
        refine pl_val (want_on 3 true rfl 125 rfl (by kernel_rfl)) (some 128) rfl (.bool false) (fun w => Eq.trans (b := .ok (.value (.bool (decide ((ob8 (bt s j) 32) ≤ 122)))) w) (by kernel_rfl) (by rw [decide_eq_false (by omega)])) ?_
        refine pl_val (want_no rfl) (some 129) rfl (.bool false) (fun _ => by kernel_rfl) ?_
        refine pl_val (want_no rfl) (some 121) rfl (.bool false) (fun _ => by kernel_rfl) ?_
        refine pl_nil ?_
        refine au_then ?_
        refine wp_cond_false (by kernel_rfl) ?_
        refine wp_seq ?_
        refine rg_lit ?_
        refine pl_val (want_no rfl) (some 105) rfl (.iface 255 (.int .i64 2)) (fun _ => by kernel_rfl) ?_
        refine pl_val (want_no rfl) (some 6) rfl (.int .u64 0) (fun _ => by kernel_rfl) ?_
        refine pl_val (want_no rfl) (some 7) rfl (.iface 255 (.int .i64 2)) (fun _ => by kernel_rfl) ?_
        refine pl_nil ?_
        refine au_then ?_
        refine wp_ret ?_
        refine au_block_ret ?_
        refine au_then_ret ?_
        refine au_block_ret ?_
        refine au_then_ret ?_
        refine au_then_ret ?_
        refine au_block_ret ?_
        refine au_then_ret ?_
        exact bodyPost_ret (v := .tuple #[.int .u64 0, .iface 255 (.int .i64 2)]) (results_tmp2 Tryz.results212 _ _ _ _ (by kernel_rfl) (by kernel_rfl)) (by kernel_rfl) ⟨.inr ⟨prs_none hj (pz_bad hx (dv_n (bt s j) (by omega) (by omega)) (by omega)), 0, 2, .inr rfl, rfl⟩, below_grown M.old⟩
       ·exact absurd c5 (by rw [c1]; decide)
     ·omega
   ·skip
    refine pl_val (want_no rfl) (some 108) rfl (.bool false) (fun w => Eq.trans (b := .ok (.value (.bool (decide ((bt s j) = 95)))) w) (by kernel_rfl) (by rw [decide_eq_false (c1)])) ?_
    refine pl_val (want_no rfl) (some 109) rfl (.bool false) (fun _ => by kernel_rfl) ?_
    refine pl_skip (want_off 2 true rfl 109 rfl (by kernel_rfl)) (some 110) rfl ?_
    refine pl_val (want_no rfl) (some 111) rfl (.bool false) (fun _ => by kernel_rfl) ?_
    refine pl_val (want_no rfl) (some 106) rfl (.bool false) (fun _ => by kernel_rfl) ?_
    refine pl_nil ?_
    refine au_then ?_
    refine wp_cond_false (by kernel_rfl) ?_
    refine wp_seq ?_
    refine rg_lit ?_
    refine pl_val (want_no rfl) (some 113) rfl (.int .u8 (bt s j)) (fun _ => by kernel_rfl) ?_
    by_cases c2 : (bt s j) < 48
    ·skip
     refine pl_val (want_no rfl) (some 114) rfl (.bool false) (fun w => Eq.trans (b := .ok (.value (.bool (decide (48 ≤ (bt s j))))) w) (by kernel_rfl) (by rw [decide_eq_false (by omega)])) ?_
     refine pl_val (want_no rfl) (some 115) rfl (.bool false) (fun _ => by kernel_rfl) ?_
     refine pl_skip (want_off 2 true rfl 115 rfl (by kernel_rfl)) (some 116) rfl ?_
     refine pl_skip (want_off 2 true rfl 115 rfl (by kernel_rfl)) (some 117) rfl ?_
     refine pl_val (want_no rfl) (some 118) rfl (.bool false) (fun _ => by kernel_rfl) ?_
     refine pl_val (want_no rfl) (some 112) rfl (.bool false) (fun _ => by kernel_rfl) ?_
     refine pl_nil ?_
     refine au_then ?_
     refine wp_cond_false (by kernel_rfl) ?_
     refine wp_seq ?_
     refine rg_lit ?_
     refine pl_val (want_no rfl) (some 122) rfl (.int .u8 (bt s j)) (fun _ => by kernel_rfl) ?_
     refine pl_call M (want_no rfl) (some 123) rfl 220 #[.int .u8 (bt s j)] (.int .u8 (ob8 (bt s j) 32)) (fun _ => by kernel_rfl) (fun w M => c_lower (bt s j) w) ?_
     intro u2 M
     by_cases c3 : (ob8 (bt s j) 32) < 97
     ·skip
      refine pl_val (want_no rfl) (some 124) rfl (.bool false) (fun w => Eq.trans (b := .ok (.value (.bool (decide (97 ≤ (ob8 (bt s j) 32))))) w) (by kernel_rfl) (by rw [decide_eq_false (by omega)])) ?_
      refine pl_val (want_no rfl) (some 125) rfl (.bool false) (fun _ => by kernel_rfl) ?_
      refine pl_skip (want_off 3 true rfl 125 rfl (by kernel_rfl)) (some 126) rfl ?_
      refine pl_skip (want_off 3 true rfl 125 rfl (by kernel_rfl)) (some 127) rfl ?_
      refine pl_skip (want_off 3 true rfl 125 rfl (by kernel_rfl)) (some 128) rfl ?_
      refine pl_val (want_no rfl) (some 129) rfl (.bool false) (fun _ => by kernel_rfl) ?_
      refine pl_val (want_no rfl) (some 121) rfl (.bool false) (fun _ => by kernel_rfl) ?_
      refine pl_nil ?_
      refine au_then ?_
      refine wp_cond_false (by kernel_rfl) ?_
      refine wp_seq ?_
      refine rg_lit ?_
      refine pl_val (want_no rfl) (some 105) rfl (.iface 255 (.int .i64 2)) (fun _ => by kernel_rfl) ?_
      refine pl_val (want_no rfl) (some 6) rfl (.int .u64 0) (fun _ => by kernel_rfl) ?_
      refine pl_val (want_no rfl) (some 7) rfl (.iface 255 (.int .i64 2)) (fun _ => by kernel_rfl) ?_
      refine pl_nil ?_
      refine au_then ?_
      refine wp_ret ?_
      refine au_block_ret ?_
      refine au_then_ret ?_
      refine au_block_ret ?_
      refine au_then_ret ?_
      refine au_then_ret ?_
      refine au_block_ret ?_
      refine au_then_ret ?_
      exact bodyPost_ret (v := .tuple #[.int .u64 0, .iface 255 (.int .i64 2)]) (results_tmp2 Tryz.results212 _ _ _ _ (by kernel_rfl) (by kernel_rfl)) (by kernel_rfl) ⟨.inr ⟨prs_none hj (pz_bad hx (dv_n (bt s j) (by omega) (by omega)) (by omega)), 0, 2, .inr rfl, rfl⟩, below_grown M.old⟩
     ·skip
      refine pl_val (want_no rfl) (some 124) rfl (.bool true) (fun w => Eq.trans (b := .ok (.value (.bool (decide (97 ≤ (ob8 (bt s j) 32))))) w) (by kernel_rfl) (by rw [decide_eq_true (by omega)])) ?_
      refine pl_val (want_no rfl) (some 125) rfl (.bool true) (fun _ => by kernel_rfl) ?_
      refine pl_val (want_on 3 true rfl 125 rfl (by kernel_rfl)) (some 126) rfl (.int .u8 (bt s j)) (fun _ => by kernel_rfl) ?_
      refine pl_call M (want_on 3 true rfl 125 rfl (by kernel_rfl)) (some 127) rfl 220 #[.int .u8 (bt s j)] (.int .u8 (ob8 (bt s j) 32)) (fun _ => by kernel_rfl) (fun w M => c_lower (bt s j) w) ?_
      intro u3 M
      by_cases c4 : 122 < (ob8 (bt s j) 32)
      ·skip
       refine pl_val (want_on 3 true rfl 125 rfl (by kernel_rfl)) (some 128) rfl (.bool false) (fun w => Eq.trans (b := .ok (.value (.bool (decide ((ob8 (bt s j) 32) ≤ 122)))) w) (by kernel_rfl) (by rw [decide_eq_false (by omega)])) ?_
       refine pl_val (want_no rfl) (some 129) rfl (.bool false) (fun _ => by kernel_rfl) ?_
       refine pl_val (want_no rfl) (some 121) rfl (.bool false) (fun _ => by kernel_rfl) ?_
       refine pl_nil ?_
       refine au_then ?_
       refine wp_cond_false (by kernel_rfl) ?_
       refine wp_seq ?_
       refine rg_lit ?_
       refine pl_val (want_no rfl) (some 105) rfl (.iface 255 (.int .i64 2)) (fun _ => by kernel_rfl) ?_
       refine pl_val (want_no rfl) (some 6) rfl (.int .u64 0) (fun _ => by kernel_rfl) ?_
       refine pl_val (want_no rfl) (some 7) rfl (.iface 255 (.int .i64 2)) (fun _ => by kernel_rfl) ?_
       refine pl_nil ?_
       refine au_then ?_
       refine wp_ret ?_
       refine au_block_ret ?_
       refine au_then_ret ?_
       refine au_block_ret ?_
       refine au_then_ret ?_
       refine au_then_ret ?_
       refine au_block_ret ?_
       refine au_then_ret ?_
       exact bodyPost_ret (v := .tuple #[.int .u64 0, .iface 255 (.int .i64 2)]) (results_tmp2 Tryz.results212 _ _ _ _ (by kernel_rfl) (by kernel_rfl)) (by kernel_rfl) ⟨.inr ⟨prs_none hj (pz_bad hx (dv_n (bt s j) (by omega) (by omega)) (by omega)), 0, 2, .inr rfl, rfl⟩, below_grown M.old⟩
      ·skip
       refine pl_val (want_on 3 true rfl 125 rfl (by kernel_rfl)) (some 128) rfl (.bool true) (fun w => Eq.trans (b := .ok (.value (.bool (decide ((ob8 (bt s j) 32) ≤ 122)))) w) (by kernel_rfl) (by rw [decide_eq_true (by omega)])) ?_
       refine pl_val (want_no rfl) (some 129) rfl (.bool true) (fun _ => by kernel_rfl) ?_
       refine pl_val (want_no rfl) (some 121) rfl (.bool true) (fun _ => by kernel_rfl) ?_
       refine pl_nil ?_
       refine au_then ?_
       refine wp_cond_true (by kernel_rfl) ?_
       refine rg_lit ?_
       refine pl_val (want_no rfl) (some 130) rfl (.int .u8 (bt s j)) (fun _ => by kernel_rfl) ?_
       refine pl_call M (want_no rfl) (some 131) rfl 220 #[.int .u8 (bt s j)] (.int .u8 (ob8 (bt s j) 32)) (fun _ => by kernel_rfl) (fun w M => c_lower (bt s j) w) ?_
       intro u4 M
       refine pl_val (want_no rfl) (some 132) rfl (.int .u8 (ob8 (bt s j) 32 - 97)) (fun w => Eq.trans (b := .ok (.value (.int .u8 (cv .u8 (ob8 (bt s j) 32 - 97)))) w) (by kernel_rfl) (by rw [cv_u8]; congr 3; omega)) ?_
       refine pl_val (want_no rfl) (some 133) rfl (.int .u8 (ob8 (bt s j) 32 - 97 + 10)) (fun w => Eq.trans (b := .ok (.value (.int .u8 (cv .u8 (ob8 (bt s j) 32 - 97 + 10)))) w) (by kernel_rfl) (by rw [cv_u8]; congr 3; omega)) ?_
       refine pl_val (want_no rfl) (some 16) rfl (.int .u8 (ob8 (bt s j) 32 - 97 + 10)) (fun _ => by kernel_rfl) ?_
       refine pl_nil ?_
       refine au_block ?_
       refine au_then ?_
       refine wp_seq ?_
       refine wp_seq ?_
       refine rg_lit ?_
       refine pl_val (want_no rfl) (some 134) rfl (.int .u8 (ob8 (bt s j) 32 - 97 + 10)) (fun _ => by kernel_rfl) ?_
       refine pl_val (want_no rfl) (some 135) rfl (.int .i64 16) (fun _ => by kernel_rfl) ?_
       refine pl_val (want_no rfl) (some 136) rfl (.int .u8 16) (fun _ => by kernel_rfl) ?_
       by_cases c5 : (ob8 (bt s j) 32 - 97 + 10) < 16
       ·skip
        refine pl_val (want_no rfl) (some 137) rfl (.bool false) (fun w => Eq.trans (b := .ok (.value (.bool (decide (16 ≤ (ob8 (bt s j) 32 - 97 + 10))))) w) (by kernel_rfl) (by rw [decide_eq_false (by omega)])) ?_
        refine pl_nil ?_
        refine au_then ?_
        refine wp_cond_false (by kernel_rfl) ?_
        refine wp_skip ?_
        refine au_then ?_
        refine wp_seq ?_
        refine wp_seq ?_
        refine rg_lit ?_
        refine pl_val (want_no rfl) (some 139) rfl (.int .u64 (pv 16 65535 s j)) (fun _ => by kernel_rfl) ?_
        refine pl_val (want_no rfl) (some 140) rfl (.int .u64 1152921504606846976) (fun _ => by kernel_rfl) ?_
        refine pl_val (want_no rfl) (some 141) rfl (.bool false) (fun w => Eq.trans (b := .ok (.value (.bool (decide (1152921504606846976 ≤ (pv 16 65535 s j))))) w) (by kernel_rfl) (by rw [decide_eq_false (by omega)])) ?_
        refine pl_nil ?_
        refine au_then ?_
        refine wp_cond_false (by kernel_rfl) ?_
        refine wp_skip ?_
        refine au_then ?_
        refine wp_seq ?_
        refine rg_lit ?_
        refine pl_val (want_no rfl) (some 144) rfl (.int .u64 (pv 16 65535 s j)) (fun _ => by kernel_rfl) ?_
        refine pl_val (want_no rfl) (some 145) rfl (.int .i64 16) (fun _ => by kernel_rfl) ?_
        refine pl_val (want_no rfl) (some 146) rfl (.int .u64 16) (fun _ => by kernel_rfl) ?_
        refine pl_val (want_no rfl) (some 147) rfl (.int .u64 (pv 16 65535 s j * 16)) (fun w => Eq.trans (b := .ok (.value (.int .u64 (cv .u64 (pv 16 65535 s j * 16)))) w) (by kernel_rfl) (by rw [cv_u64]; congr 3; omega)) ?_
        refine pl_val (want_no rfl) (some 13) rfl (.int .u64 (pv 16 65535 s j * 16)) (fun _ => by kernel_rfl) ?_
        refine pl_nil ?_
        refine au_then ?_
        refine wp_seq ?_
        refine rg_lit ?_
        refine pl_val (want_no rfl) (some 148) rfl (.int .u64 (pv 16 65535 s j * 16)) (fun _ => by kernel_rfl) ?_
        refine pl_val (want_no rfl) (some 149) rfl (.int .u8 (ob8 (bt s j) 32 - 97 + 10)) (fun _ => by kernel_rfl) ?_
        refine pl_val (want_no rfl) (some 150) rfl (.int .u64 (ob8 (bt s j) 32 - 97 + 10)) (fun w => Eq.trans (b := .ok (.value (.int .u64 (cv .u64 (ob8 (bt s j) 32 - 97 + 10)))) w) (by kernel_rfl) (by rw [cv_u64]; congr 3; omega)) ?_
        refine pl_val (want_no rfl) (some 151) rfl (.int .u64 (pv 16 65535 s j * 16 + (ob8 (bt s j) 32 - 97 + 10))) (fun w => Eq.trans (b := .ok (.value (.int .u64 (cv .u64 (pv 16 65535 s j * 16 + (ob8 (bt s j) 32 - 97 + 10))))) w) (by kernel_rfl) (by rw [cv_u64]; congr 3; omega)) ?_
        refine pl_val (want_no rfl) (some 17) rfl (.int .u64 (pv 16 65535 s j * 16 + (ob8 (bt s j) 32 - 97 + 10))) (fun _ => by kernel_rfl) ?_
        refine pl_nil ?_
        refine au_then ?_
        refine wp_seq ?_
        refine wp_seq ?_
        refine rg_lit ?_
        refine pl_val (want_no rfl) (some 152) rfl (.int .u64 (pv 16 65535 s j * 16 + (ob8 (bt s j) 32 - 97 + 10))) (fun _ => by kernel_rfl) ?_
        refine pl_val (want_no rfl) (some 153) rfl (.int .u64 (pv 16 65535 s j * 16)) (fun _ => by kernel_rfl) ?_
        refine pl_val (want_no rfl) (some 154) rfl (.bool false) (fun w => Eq.trans (b := .ok (.value (.bool (decide ((pv 16 65535 s j * 16 + (ob8 (bt s j) 32 - 97 + 10)) < (pv 16 65535 s j * 16))))) w) (by kernel_rfl) (by rw [decide_eq_false (by omega)])) ?_
        refine pl_val (want_no rfl) (some 155) rfl (.bool false) (fun _ => by kernel_rfl) ?_
        refine pl_val (want_on 3 false rfl 155 rfl (by kernel_rfl)) (some 156) rfl (.int .u64 (pv 16 65535 s j * 16 + (ob8 (bt s j) 32 - 97 + 10))) (fun _ => by kernel_rfl) ?_
        refine pl_val (want_on 3 false rfl 155 rfl (by kernel_rfl)) (some 157) rfl (.int .u64 65535) (fun _ => by kernel_rfl) ?_
        by_cases c6 : 65535 < (pv 16 65535 s j * 16 + (ob8 (bt s j) 32 - 97 + 10))
        ·skip
         refine pl_val (want_on 3 false rfl 155 rfl (by kernel_rfl)) (some 158) rfl (.bool true) (fun w => Eq.trans (b := .ok (.value (.bool (decide (65535 < (pv 16 65535 s j * 16 + (ob8 (bt s j) 32 - 97 + 10)))))) w) (by kernel_rfl) (by rw [decide_eq_true (c6)])) ?_
         refine pl_val (want_no rfl) (some 159) rfl (.bool true) (fun _ => by kernel_rfl) ?_
         refine pl_nil ?_
         refine au_then ?_
         refine wp_cond_true (by kernel_rfl) ?_
         refine wp_seq ?_
         refine rg_lit ?_
         refine pl_val (want_no rfl) (some 160) rfl (.int .u64 65535) (fun _ => by kernel_rfl) ?_
         refine pl_val (want_no rfl) (some 161) rfl (.iface 255 (.int .i64 1)) (fun _ => by kernel_rfl) ?_
         refine pl_val (want_no rfl) (some 6) rfl (.int .u64 65535) (fun _ => by kernel_rfl) ?_
         refine pl_val (want_no rfl) (some 7) rfl (.iface 255 (.int .i64 1)) (fun _ => by kernel_rfl) ?_
         refine pl_nil ?_
         refine au_then ?_
         refine wp_ret ?_
         refine au_then_ret ?_
         refine au_block_ret ?_
         refine au_then_ret ?_
         refine au_then_ret ?_
         refine au_block_ret ?_
         refine au_then_ret ?_
         exact bodyPost_ret (v := .tuple #[.int .u64 65535, .iface 255 (.int .i64 1)]) (results_tmp2 Tryz.results212 _ _ _ _ (by kernel_rfl) (by kernel_rfl)) (by kernel_rfl) ⟨.inr ⟨prs_none hj (pz_big hx (dv_l (bt s j) (by omega) (by omega)) (by omega) (by omega)), 65535, 1, .inl rfl, rfl⟩, below_grown M.old⟩
        ·skip
         refine pl_val (want_on 3 false rfl 155 rfl (by kernel_rfl)) (some 158) rfl (.bool false) (fun w => Eq.trans (b := .ok (.value (.bool (decide (65535 < (pv 16 65535 s j * 16 + (ob8 (bt s j) 32 - 97 + 10)))))) w) (by kernel_rfl) (by rw [decide_eq_false (c6)])) ?_
         refine pl_val (want_no rfl) (some 159) rfl (.bool false) (fun _ => by kernel_rfl) ?_
         refine pl_nil ?_
         refine au_then ?_
         refine wp_cond_false (by kernel_rfl) ?_
         refine wp_skip ?_
         refine au_then ?_
         refine rg_lit ?_
         refine pl_val (want_no rfl) (some 162) rfl (.int .u64 (pv 16 65535 s j * 16 + (ob8 (bt s j) 32 - 97 + 10))) (fun _ => by kernel_rfl) ?_
         have hpy := pz_ok hx (dv_l (bt s j) (by omega) (by omega)) (by omega) (by omega)
         have hpv : pv 16 65535 s (j + 1) = pv 16 65535 s j * 16 + (ob8 (bt s j) 32 - 97 + 10) := by unfold pv; rw [hpy]; rfl
         have hpz : pz 16 65535 s (j + 1) = some (pv 16 65535 s (j + 1)) := by rw [hpv]; exact hpy
         refine pl_val (want_no rfl) (some 13) rfl (.int .u64 (pv 16 65535 s (j + 1))) (fun w => Eq.trans (b := .ok (.value (.int .u64 (pv 16 65535 s j * 16 + (ob8 (bt s j) 32 - 97 + 10)))) w) (by kernel_rfl) (by rw [hpv])) ?_
         refine pl_nil ?_
         refine au_block ?_
         refine au_then ?_
         refine rg_lit ?_
         refine pl_val (want_no rfl) (some 163) rfl (.int .i64 ((j + 1 : Nat) : Int)) (fun w => Eq.trans (b := .ok (.value (.int .i64 (IntKind.wrap .i64 ((j : Int) + 1)))) w) (by kernel_rfl) (by rw [wrap64 (by omega) (by omega)]; congr 3)) ?_
         refine pl_val (want_no rfl) (some 101) rfl (.int .i64 ((j + 1 : Nat) : Int)) (fun _ => by kernel_rfl) ?_
         refine pl_nil ?_
         refine au_then ?_
         exact ⟨fun k_ => ([v1 6, v1 7, undef, undef, undef, undef, undef, undef, undef, .int .u8 (bt s j), .int .u8 (ob8 (bt s j) 32 - 97 + 10), .int .u64 (pv 16 65535 s j * 16 + (ob8 (bt s j) 32 - 97 + 10)), undef, undef, undef, undef, undef, undef, undef, undef, undef, undef, undef, undef, undef, undef, undef, undef, undef, undef, undef, undef, undef, undef, undef, undef, undef, undef, undef, undef, undef, undef, undef, undef, undef, undef, undef, undef, undef, undef, undef, undef, undef, undef, undef, undef, undef, undef, undef, undef, undef, undef, undef, undef, undef, undef, undef, undef, undef, undef, undef, undef, undef, undef, undef, undef, undef, undef, undef, undef, undef, undef, undef, undef, undef, undef, undef, undef, undef, undef, undef, undef, undef, undef, undef, undef, .bool true, .pointer (some ⟨g1, j, none⟩), .int .u8 (bt s j), v1 105, .bool false, .int .u8 (bt s j), .bool false, .bool false, undef, .bool false, .bool false, .int .u8 (bt s j), .bool false, .bool false, undef, undef, .bool false, v1 119, v1 120, .bool true, .int .u8 (bt s j), .int .u8 (ob8 (bt s j) 32), .bool true, .bool true, .int .u8 (bt s j), .int .u8 (ob8 (bt s j) 32), .bool true, .bool true, .int .u8 (bt s j), .int .u8 (ob8 (bt s j) 32), .int .u8 (ob8 (bt s j) 32 - 97), .int .u8 (ob8 (bt s j) 32 - 97 + 10), .int .u8 (ob8 (bt s j) 32 - 97 + 10), .int .i64 16, .int .u8 16, .bool false, v1 138, .int .u64 (pv 16 65535 s j), .int .u64 1152921504606846976, .bool false, v1 142, v1 143, .int .u64 (pv 16 65535 s j), .int .i64 16, .int .u64 16, .int .u64 (pv 16 65535 s j * 16), .int .u64 (pv 16 65535 s j * 16), .int .u8 (ob8 (bt s j) 32 - 97 + 10), .int .u64 (ob8 (bt s j) 32 - 97 + 10), .int .u64 (pv 16 65535 s j * 16 + (ob8 (bt s j) 32 - 97 + 10)), .int .u64 (pv 16 65535 s j * 16 + (ob8 (bt s j) 32 - 97 + 10)), .int .u64 (pv 16 65535 s j * 16), .bool false, .bool false, .int .u64 (pv 16 65535 s j * 16 + (ob8 (bt s j) 32 - 97 + 10)), .int .u64 65535, .bool false, .bool false, v1 160, v1 161, .int .u64 (pv 16 65535 s j * 16 + (ob8 (bt s j) 32 - 97 + 10)), .int .i64 ((j + 1 : Nat) : Int)] : List Value).getD (k_ - 6) undef, by kernel_rfl, M, hpz⟩
       ·skip
        refine pl_val (want_no rfl) (some 137) rfl (.bool true) (fun w => Eq.trans (b := .ok (.value (.bool (decide (16 ≤ (ob8 (bt s j) 32 - 97 + 10))))) w) (by kernel_rfl) (by rw [decide_eq_true (by omega)])) ?_
        refine pl_nil ?_
        refine au_then ?_
        refine wp_cond_true (by kernel_rfl) ?_
        refine wp_seq ?_
        refine rg_lit ?_
        refine pl_val (want_no rfl) (some 138) rfl (.iface 255 (.int .i64 2)) (fun _ => by kernel_rfl) ?_
        refine pl_val (want_no rfl) (some 6) rfl (.int .u64 0) (fun _ => by kernel_rfl) ?_
        refine pl_val (want_no rfl) (some 7) rfl (.iface 255 (.int .i64 2)) (fun _ => by kernel_rfl) ?_
        refine pl_nil ?_
        refine au_then ?_
        refine wp_ret ?_
        refine au_then_ret ?_
        refine au_block_ret ?_
        refine au_then_ret ?_
        refine au_then_ret ?_
        refine au_block_ret ?_
        refine au_then_ret ?_
        exact bodyPost_ret (v := .tuple #[.int .u64 0, .iface 255 (.int .i64 2)]) (results_tmp2 Tryz.results212 _ _ _ _ (by kernel_rfl) (by kernel_rfl)) (by kernel_rfl) ⟨.inr ⟨prs_none hj (pz_bad hx (dv_l (bt s j) (by omega) (by omega)) (by omega)), 0, 2, .inr rfl, rfl⟩, below_grown M.old⟩
    ·skip
     refine pl_val (want_no rfl) (some 114) rfl (.bool true) (fun w => Eq.trans (b := .ok (.value (.bool (decide (48 ≤ (bt s j))))) w) (by kernel_rfl) (by rw [decide_eq_true (by omega)])) ?_
     refine pl_val (want_no rfl) (some 115) rfl (.bool true) (fun _ => by kernel_rfl) ?_
     refine pl_val (want_on 2 true rfl 115 rfl (by kernel_rfl)) (some 116) rfl (.int .u8 (bt s j)) (fun _ => by kernel_rfl) ?_
     by_cases c3 : 57 < (bt s j)
     ·skip
      refine pl_val (want_on 2 true rfl 115 rfl (by kernel_rfl)) (some 117) rfl (.bool false) (fun w => Eq.trans (b := .ok (.value (.bool (decide ((bt s j) ≤ 57)))) w) (by kernel_rfl) (by rw [decide_eq_false (by omega)])) ?_
      refine pl_val (want_no rfl) (some 118) rfl (.bool false) (fun _ => by kernel_rfl) ?_
      refine pl_val (want_no rfl) (some 112) rfl (.bool false) (fun _ => by kernel_rfl) ?_
      refine pl_nil ?_
      refine au_then ?_
      refine wp_cond_false (by kernel_rfl) ?_
      refine wp_seq ?_
      refine rg_lit ?_
      refine pl_val (want_no rfl) (some 122) rfl (.int .u8 (bt s j)) (fun _ => by kernel_rfl) ?_
      refine pl_call M (want_no rfl) (some 123) rfl 220 #[.int .u8 (bt s j)] (.int .u8 (ob8 (bt s j) 32)) (fun _ => by kernel_rfl) (fun w M => c_lower (bt s j) w) ?_
      intro u2 M
      by_cases c4 : (ob8 (bt s j) 32) < 97
      ·skip
       refine pl_val (want_no rfl) (some 124) rfl (.bool false) (fun w => Eq.trans (b := .ok (.value (.bool (decide (97 ≤ (ob8 (bt s j) 32))))) w) (by kernel_rfl) (by rw [decide_eq_false (by omega)])) ?_
       refine pl_val (want_no rfl) (some 125) rfl (.bool false) (fun _ => by kernel_rfl) ?_
       refine pl_skip (want_off 3 true rfl 125 rfl (by kernel_rfl)) (some 126) rfl ?_
       refine pl_skip (want_off 3 true rfl 125 rfl (by kernel_rfl)) (some 127) rfl ?_
       refine pl_skip (want_off 3 true rfl 125 rfl (by kernel_rfl)) (some 128) rfl ?_
       refine pl_val (want_no rfl) (some 129) rfl (.bool false) (fun _ => by kernel_rfl) ?_
       refine pl_val (want_no rfl) (some 121) rfl (.bool false) (fun _ => by kernel_rfl) ?_
       refine pl_nil ?_
       refine au_then ?_
       refine wp_cond_false (by kernel_rfl) ?_
       refine wp_seq ?_
       refine rg_lit ?_
       refine pl_val (want_no rfl) (some 105) rfl (.iface 255 (.int .i64 2)) (fun _ => by kernel_rfl) ?_
       refine pl_val (want_no rfl) (some 6) rfl (.int .u64 0) (fun _ => by kernel_rfl) ?_
       refine pl_val (want_no rfl) (some 7) rfl (.iface 255 (.int .i64 2)) (fun _ => by kernel_rfl) ?_
       refine pl_nil ?_
       refine au_then ?_
       refine wp_ret ?_
       refine au_block_ret ?_
       refine au_then_ret ?_
       refine au_block_ret ?_
       refine au_then_ret ?_
       refine au_then_ret ?_
       refine au_block_ret ?_
       refine au_then_ret ?_
       exact bodyPost_ret (v := .tuple #[.int .u64 0, .iface 255 (.int .i64 2)]) (results_tmp2 Tryz.results212 _ _ _ _ (by kernel_rfl) (by kernel_rfl)) (by kernel_rfl) ⟨.inr ⟨prs_none hj (pz_bad hx (dv_n (bt s j) (by omega) (by omega)) (by omega)), 0, 2, .inr rfl, rfl⟩, below_grown M.old⟩
      ·skip
       refine pl_val (want_no rfl) (some 124) rfl (.bool true) (fun w => Eq.trans (b := .ok (.value (.bool (decide (97 ≤ (ob8 (bt s j) 32))))) w) (by kernel_rfl) (by rw [decide_eq_true (by omega)])) ?_
       refine pl_val (want_no rfl) (some 125) rfl (.bool true) (fun _ => by kernel_rfl) ?_
       refine pl_val (want_on 3 true rfl 125 rfl (by kernel_rfl)) (some 126) rfl (.int .u8 (bt s j)) (fun _ => by kernel_rfl) ?_
       refine pl_call M (want_on 3 true rfl 125 rfl (by kernel_rfl)) (some 127) rfl 220 #[.int .u8 (bt s j)] (.int .u8 (ob8 (bt s j) 32)) (fun _ => by kernel_rfl) (fun w M => c_lower (bt s j) w) ?_
       intro u3 M
       by_cases c5 : 122 < (ob8 (bt s j) 32)
       ·skip
        refine pl_val (want_on 3 true rfl 125 rfl (by kernel_rfl)) (some 128) rfl (.bool false) (fun w => Eq.trans (b := .ok (.value (.bool (decide ((ob8 (bt s j) 32) ≤ 122)))) w) (by kernel_rfl) (by rw [decide_eq_false (by omega)])) ?_
        refine pl_val (want_no rfl) (some 129) rfl (.bool false) (fun _ => by kernel_rfl) ?_
        refine pl_val (want_no rfl) (some 121) rfl (.bool false) (fun _ => by kernel_rfl) ?_
        refine pl_nil ?_
        refine au_then ?_
        refine wp_cond_false (by kernel_rfl) ?_
        refine wp_seq ?_
        refine rg_lit ?_
        refine pl_val (want_no rfl) (some 105) rfl (.iface 255 (.int .i64 2)) (fun _ => by kernel_rfl) ?_
        refine pl_val (want_no rfl) (some 6) rfl (.int .u64 0) (fun _ => by kernel_rfl) ?_
        refine pl_val (want_no rfl) (some 7) rfl (.iface 255 (.int .i64 2)) (fun _ => by kernel_rfl) ?_
        refine pl_nil ?_
        refine au_then ?_
        refine wp_ret ?_
        refine au_block_ret ?_
        refine au_then_ret ?_
        refine au_block_ret ?_
        refine au_then_ret ?_
        refine au_then_ret ?_
        refine au_block_ret ?_
        refine au_then_ret ?_
        exact bodyPost_ret (v := .tuple #[.int .u64 0, .iface 255 (.int .i64 2)]) (results_tmp2 Tryz.results212 _ _ _ _ (by kernel_rfl) (by kernel_rfl)) (by kernel_rfl) ⟨.inr ⟨prs_none hj (pz_bad hx (dv_n (bt s j) (by omega) (by omega)) (by omega)), 0, 2, .inr rfl, rfl⟩, below_grown M.old⟩
       ·skip
        refine pl_val (want_on 3 true rfl 125 rfl (by kernel_rfl)) (some 128) rfl (.bool true) (fun w => Eq.trans (b := .ok (.value (.bool (decide ((ob8 (bt s j) 32) ≤ 122)))) w) (by kernel_rfl) (by rw [decide_eq_true (by omega)])) ?_
        refine pl_val (want_no rfl) (some 129) rfl (.bool true) (fun _ => by kernel_rfl) ?_
        refine pl_val (want_no rfl) (some 121) rfl (.bool true) (fun _ => by kernel_rfl) ?_
        refine pl_nil ?_
        refine au_then ?_
        refine wp_cond_true (by kernel_rfl) ?_
        refine rg_lit ?_
        refine pl_val (want_no rfl) (some 130) rfl (.int .u8 (bt s j)) (fun _ => by kernel_rfl) ?_
        refine pl_call M (want_no rfl) (some 131) rfl 220 #[.int .u8 (bt s j)] (.int .u8 (ob8 (bt s j) 32)) (fun _ => by kernel_rfl) (fun w M => c_lower (bt s j) w) ?_
        intro u4 M
        refine pl_val (want_no rfl) (some 132) rfl (.int .u8 (ob8 (bt s j) 32 - 97)) (fun w => Eq.trans (b := .ok (.value (.int .u8 (cv .u8 (ob8 (bt s j) 32 - 97)))) w) (by kernel_rfl) (by rw [cv_u8]; congr 3; omega)) ?_
        refine pl_val (want_no rfl) (some 133) rfl (.int .u8 (ob8 (bt s j) 32 - 97 + 10)) (fun w => Eq.trans (b := .ok (.value (.int .u8 (cv .u8 (ob8 (bt s j) 32 - 97 + 10)))) w) (by kernel_rfl) (by rw [cv_u8]; congr 3; omega)) ?_
        refine pl_val (want_no rfl) (some 16) rfl (.int .u8 (ob8 (bt s j) 32 - 97 + 10)) (fun _ => by kernel_rfl) ?_
        refine pl_nil ?_
        refine au_block ?_
        refine au_then ?_
        refine wp_seq ?_
        refine wp_seq ?_
        refine rg_lit ?_
        refine pl_val (want_no rfl) (some 134) rfl (.int .u8 (ob8 (bt s j) 32 - 97 + 10)) (fun _ => by kernel_rfl) ?_
        refine pl_val (want_no rfl) (some 135) rfl (.int .i64 16) (fun _ => by kernel_rfl) ?_
        refine pl_val (want_no rfl) (some 136) rfl (.int .u8 16) (fun _ => by kernel_rfl) ?_
        by_cases c6 : (ob8 (bt s j) 32 - 97 + 10) < 16
        ·skip
         refine pl_val (want_no rfl) (some 137) rfl (.bool false) (fun w => Eq.trans (b := .ok (.value (.bool (decide (16 ≤ (ob8 (bt s j) 32 - 97 + 10))))) w) (by kernel_rfl) (by rw [decide_eq_false (by omega)])) ?_
         refine pl_nil ?_
         refine au_then ?_
         refine wp_cond_false (by kernel_rfl) ?_
         refine wp_skip ?_
         refine au_then ?_
         refine wp_seq ?_
         refine wp_seq ?_
         refine rg_lit ?_
         refine pl_val (want_no rfl) (some 139) rfl (.int .u64 (pv 16 65535 s j)) (fun _ => by kernel_rfl) ?_
         refine pl_val (want_no rfl) (some 140) rfl (.int .u64 1152921504606846976) (fun _ => by kernel_rfl) ?_
         refine pl_val (want_no rfl) (some 141) rfl (.bool false) (fun w => Eq.trans (b := .ok (.value (.bool (decide (1152921504606846976 ≤ (pv 16 65535 s j))))) w) (by kernel_rfl) (by rw [decide_eq_false (by omega)])) ?_
         refine pl_nil ?_
         refine au_then ?_
         refine wp_cond_false (by kernel_rfl) ?_
         refine wp_skip ?_
         refine au_then ?_
         refine wp_seq ?_
         refine rg_lit ?_
         refine pl_val (want_no rfl) (some 144) rfl (.int .u64 (pv 16 65535 s j)) (fun _ => by kernel_rfl) ?_
         refine pl_val (want_no rfl) (some 145) rfl (.int .i64 16) (fun _ => by kernel_rfl) ?_
         refine pl_val (want_no rfl) (some 146) rfl (.int .u64 16) (fun _ => by kernel_rfl) ?_
         refine pl_val (want_no rfl) (some 147) rfl (.int .u64 (pv 16 65535 s j * 16)) (fun w => Eq.trans (b := .ok (.value (.int .u64 (cv .u64 (pv 16 65535 s j * 16)))) w) (by kernel_rfl) (by rw [cv_u64]; congr 3; omega)) ?_
         refine pl_val (want_no rfl) (some 13) rfl (.int .u64 (pv 16 65535 s j * 16)) (fun _ => by kernel_rfl) ?_
         refine pl_nil ?_
         refine au_then ?_
         refine wp_seq ?_
         refine rg_lit ?_
         refine pl_val (want_no rfl) (some 148) rfl (.int .u64 (pv 16 65535 s j * 16)) (fun _ => by kernel_rfl) ?_
         refine pl_val (want_no rfl) (some 149) rfl (.int .u8 (ob8 (bt s j) 32 - 97 + 10)) (fun _ => by kernel_rfl) ?_
         refine pl_val (want_no rfl) (some 150) rfl (.int .u64 (ob8 (bt s j) 32 - 97 + 10)) (fun w => Eq.trans (b := .ok (.value (.int .u64 (cv .u64 (ob8 (bt s j) 32 - 97 + 10)))) w) (by kernel_rfl) (by rw [cv_u64]; congr 3; omega)) ?_
         refine pl_val (want_no rfl) (some 151) rfl (.int .u64 (pv 16 65535 s j * 16 + (ob8 (bt s j) 32 - 97 + 10))) (fun w => Eq.trans (b := .ok (.value (.int .u64 (cv .u64 (pv 16 65535 s j * 16 + (ob8 (bt s j) 32 - 97 + 10))))) w) (by kernel_rfl) (by rw [cv_u64]; congr 3; omega)) ?_
         refine pl_val (want_no rfl) (some 17) rfl (.int .u64 (pv 16 65535 s j * 16 + (ob8 (bt s j) 32 - 97 + 10))) (fun _ => by kernel_rfl) ?_
         refine pl_nil ?_
         refine au_then ?_
         refine wp_seq ?_
         refine wp_seq ?_
         refine rg_lit ?_
         refine pl_val (want_no rfl) (some 152) rfl (.int .u64 (pv 16 65535 s j * 16 + (ob8 (bt s j) 32 - 97 + 10))) (fun _ => by kernel_rfl) ?_
         refine pl_val (want_no rfl) (some 153) rfl (.int .u64 (pv 16 65535 s j * 16)) (fun _ => by kernel_rfl) ?_
         refine pl_val (want_no rfl) (some 154) rfl (.bool false) (fun w => Eq.trans (b := .ok (.value (.bool (decide ((pv 16 65535 s j * 16 + (ob8 (bt s j) 32 - 97 + 10)) < (pv 16 65535 s j * 16))))) w) (by kernel_rfl) (by rw [decide_eq_false (by omega)])) ?_
         refine pl_val (want_no rfl) (some 155) rfl (.bool false) (fun _ => by kernel_rfl) ?_
         refine pl_val (want_on 3 false rfl 155 rfl (by kernel_rfl)) (some 156) rfl (.int .u64 (pv 16 65535 s j * 16 + (ob8 (bt s j) 32 - 97 + 10))) (fun _ => by kernel_rfl) ?_
         refine pl_val (want_on 3 false rfl 155 rfl (by kernel_rfl)) (some 157) rfl (.int .u64 65535) (fun _ => by kernel_rfl) ?_
         by_cases c7 : 65535 < (pv 16 65535 s j * 16 + (ob8 (bt s j) 32 - 97 + 10))
         ·skip
          refine pl_val (want_on 3 false rfl 155 rfl (by kernel_rfl)) (some 158) rfl (.bool true) (fun w => Eq.trans (b := .ok (.value (.bool (decide (65535 < (pv 16 65535 s j * 16 + (ob8 (bt s j) 32 - 97 + 10)))))) w) (by kernel_rfl) (by rw [decide_eq_true (c7)])) ?_
          refine pl_val (want_no rfl) (some 159) rfl (.bool true) (fun _ => by kernel_rfl) ?_
          refine pl_nil ?_
          refine au_then ?_
          refine wp_cond_true (by kernel_rfl) ?_
          refine wp_seq ?_
          refine rg_lit ?_
          refine pl_val (want_no rfl) (some 160) rfl (.int .u64 65535) (fun _ => by kernel_rfl) ?_
          refine pl_val (want_no rfl) (some 161) rfl (.iface 255 (.int .i64 1)) (fun _ => by kernel_rfl) ?_
          refine pl_val (want_no rfl) (some 6) rfl (.int .u64 65535) (fun _ => by kernel_rfl) ?_
          refine pl_val (want_no rfl) (some 7) rfl (.iface 255 (.int .i64 1)) (fun _ => by kernel_rfl) ?_
          refine pl_nil ?_
          refine au_then ?_
          refine wp_ret ?_
          refine au_then_ret ?_
          refine au_block_ret ?_
          refine au_then_ret ?_
          refine au_then_ret ?_
          refine au_block_ret ?_
          refine au_then_ret ?_
          exact bodyPost_ret (v := .tuple #[.int .u64 65535, .iface 255 (.int .i64 1)]) (results_tmp2 Tryz.results212 _ _ _ _ (by kernel_rfl) (by kernel_rfl)) (by kernel_rfl) ⟨.inr ⟨prs_none hj (pz_big hx (dv_l (bt s j) (by omega) (by omega)) (by omega) (by omega)), 65535, 1, .inl rfl, rfl⟩, below_grown M.old⟩
         ·skip
          refine pl_val (want_on 3 false rfl 155 rfl (by kernel_rfl)) (some 158) rfl (.bool false) (fun w => Eq.trans (b := .ok (.value (.bool (decide (65535 < (pv 16 65535 s j * 16 + (ob8 (bt s j) 32 - 97 + 10)))))) w) (by kernel_rfl) (by rw [decide_eq_false (c7)])) ?_
          refine pl_val (want_no rfl) (some 159) rfl (.bool false) (fun _ => by kernel_rfl) ?_
          refine pl_nil ?_
          refine au_then ?_
          refine wp_cond_false (by kernel_rfl) ?_
          refine wp_skip ?_
          refine au_then ?_
          refine rg_lit ?_
          refine pl_val (want_no rfl) (some 162) rfl (.int .u64 (pv 16 65535 s j * 16 + (ob8 (bt s j) 32 - 97 + 10))) (fun _ => by kernel_rfl) ?_
          have hpy := pz_ok hx (dv_l (bt s j) (by omega) (by omega)) (by omega) (by omega)
          have hpv : pv 16 65535 s (j + 1) = pv 16 65535 s j * 16 + (ob8 (bt s j) 32 - 97 + 10) := by unfold pv; rw [hpy]; rfl
          have hpz : pz 16 65535 s (j + 1) = some (pv 16 65535 s (j + 1)) := by rw [hpv]; exact hpy
          refine pl_val (want_no rfl) (some 13) rfl (.int .u64 (pv 16 65535 s (j + 1))) (fun w => Eq.trans (b := .ok (.value (.int .u64 (pv 16 65535 s j * 16 + (ob8 (bt s j) 32 - 97 + 10)))) w) (by kernel_rfl) (by rw [hpv])) ?_
          refine pl_nil ?_
          refine au_block ?_
          refine au_then ?_
          refine rg_lit ?_
          refine pl_val (want_no rfl) (some 163) rfl (.int .i64 ((j + 1 : Nat) : Int)) (fun w => Eq.trans (b := .ok (.value (.int .i64 (IntKind.wrap .i64 ((j : Int) + 1)))) w) (by kernel_rfl) (by rw [wrap64 (by omega) (by omega)]; congr 3)) ?_
          refine pl_val (want_no rfl) (some 101) rfl (.int .i64 ((j + 1 : Nat) : Int)) (fun _ => by kernel_rfl) ?_
          refine pl_nil ?_
          refine au_then ?_
          exact ⟨fun k_ => ([v1 6, v1 7, undef, undef, undef, undef, undef, undef, undef, .int .u8 (bt s j), .int .u8 (ob8 (bt s j) 32 - 97 + 10), .int .u64 (pv 16 65535 s j * 16 + (ob8 (bt s j) 32 - 97 + 10)), undef, undef, undef, undef, undef, undef, undef, undef, undef, undef, undef, undef, undef, undef, undef, undef, undef, undef, undef, undef, undef, undef, undef, undef, undef, undef, undef, undef, undef, undef, undef, undef, undef, undef, undef, undef, undef, undef, undef, undef, undef, undef, undef, undef, undef, undef, undef, undef, undef, undef, undef, undef, undef, undef, undef, undef, undef, undef, undef, undef, undef, undef, undef, undef, undef, undef, undef, undef, undef, undef, undef, undef, undef, undef, undef, undef, undef, undef, undef, undef, undef, undef, undef, undef, .bool true, .pointer (some ⟨g1, j, none⟩), .int .u8 (bt s j), v1 105, .bool false, .int .u8 (bt s j), .bool false, .bool false, undef, .bool false, .bool false, .int .u8 (bt s j), .bool true, .bool true, .int .u8 (bt s j), .bool false, .bool false, v1 119, v1 120, .bool true, .int .u8 (bt s j), .int .u8 (ob8 (bt s j) 32), .bool true, .bool true, .int .u8 (bt s j), .int .u8 (ob8 (bt s j) 32), .bool true, .bool true, .int .u8 (bt s j), .int .u8 (ob8 (bt s j) 32), .int .u8 (ob8 (bt s j) 32 - 97), .int .u8 (ob8 (bt s j) 32 - 97 + 10), .int .u8 (ob8 (bt s j) 32 - 97 + 10), .int .i64 16, .int .u8 16, .bool false, v1 138, .int .u64 (pv 16 65535 s j), .int .u64 1152921504606846976, .bool false, v1 142, v1 143, .int .u64 (pv 16 65535 s j), .int .i64 16, .int .u64 16, .int .u64 (pv 16 65535 s j * 16), .int .u64 (pv 16 65535 s j * 16), .int .u8 (ob8 (bt s j) 32 - 97 + 10), .int .u64 (ob8 (bt s j) 32 - 97 + 10), .int .u64 (pv 16 65535 s j * 16 + (ob8 (bt s j) 32 - 97 + 10)), .int .u64 (pv 16 65535 s j * 16 + (ob8 (bt s j) 32 - 97 + 10)), .int .u64 (pv 16 65535 s j * 16), .bool false, .bool false, .int .u64 (pv 16 65535 s j * 16 + (ob8 (bt s j) 32 - 97 + 10)), .int .u64 65535, .bool false, .bool false, v1 160, v1 161, .int .u64 (pv 16 65535 s j * 16 + (ob8 (bt s j) 32 - 97 + 10)), .int .i64 ((j + 1 : Nat) : Int)] : List Value).getD (k_ - 6) undef, by kernel_rfl, M, hpz⟩
        ·skip
         refine pl_val (want_no rfl) (some 137) rfl (.bool true) (fun w => Eq.trans (b := .ok (.value (.bool (decide (16 ≤ (ob8 (bt s j) 32 - 97 + 10))))) w) (by kernel_rfl) (by rw [decide_eq_true (by omega)])) ?_
         refine pl_nil ?_
         refine au_then ?_
         refine wp_cond_true (by kernel_rfl) ?_
         refine wp_seq ?_
         refine rg_lit ?_
         refine pl_val (want_no rfl) (some 138) rfl (.iface 255 (.int .i64 2)) (fun _ => by kernel_rfl) ?_
         refine pl_val (want_no rfl) (some 6) rfl (.int .u64 0) (fun _ => by kernel_rfl) ?_
         refine pl_val (want_no rfl) (some 7) rfl (.iface 255 (.int .i64 2)) (fun _ => by kernel_rfl) ?_
         refine pl_nil ?_
         refine au_then ?_
         refine wp_ret ?_
         refine au_then_ret ?_
         refine au_block_ret ?_
         refine au_then_ret ?_
         refine au_then_ret ?_
         refine au_block_ret ?_
         refine au_then_ret ?_
         exact bodyPost_ret (v := .tuple #[.int .u64 0, .iface 255 (.int .i64 2)]) (results_tmp2 Tryz.results212 _ _ _ _ (by kernel_rfl) (by kernel_rfl)) (by kernel_rfl) ⟨.inr ⟨prs_none hj (pz_bad hx (dv_l (bt s j) (by omega) (by omega)) (by omega)), 0, 2, .inr rfl, rfl⟩, below_grown M.old⟩
     ·skip
      refine pl_val (want_on 2 true rfl 115 rfl (by kernel_rfl)) (some 117) rfl (.bool true) (fun w => Eq.trans (b := .ok (.value (.bool (decide ((bt s j) ≤ 57)))) w) (by kernel_rfl) (by rw [decide_eq_true (by omega)])) ?_
      refine pl_val (want_no rfl) (some 118) rfl (.bool true) (fun _ => by kernel_rfl) ?_
      refine pl_val (want_no rfl) (some 112) rfl (.bool true) (fun _ => by kernel_rfl) ?_
      refine pl_nil ?_
      refine au_then ?_
      refine wp_cond_true (by kernel_rfl) ?_
      refine rg_lit ?_
      refine pl_val (want_no rfl) (some 119) rfl (.int .u8 (bt s j)) (fun _ => by kernel_rfl) ?_
      refine pl_val (want_no rfl) (some 120) rfl (.int .u8 (bt s j - 48)) (fun w => Eq.trans (b := .ok (.value (.int .u8 (cv .u8 (bt s j - 48)))) w) (by kernel_rfl) (by rw [cv_u8]; congr 3; omega)) ?_
      refine pl_val (want_no rfl) (some 16) rfl (.int .u8 (bt s j - 48)) (fun _ => by kernel_rfl) ?_
      refine pl_nil ?_
      refine au_block ?_
      refine au_then ?_
      refine wp_seq ?_
      refine wp_seq ?_
      refine rg_lit ?_
      refine pl_val (want_no rfl) (some 134) rfl (.int .u8 (bt s j - 48)) (fun _ => by kernel_rfl) ?_
      refine pl_val (want_no rfl) (some 135) rfl (.int .i64 16) (fun _ => by kernel_rfl) ?_
      refine pl_val (want_no rfl) (some 136) rfl (.int .u8 16) (fun _ => by kernel_rfl) ?_
      by_cases c4 : (bt s j - 48) < 16
      ·skip
       refine pl_val (want_no rfl) (some 137) rfl (.bool false) (fun w => Eq.trans (b := .ok (.value (.bool (decide (16 ≤ (bt s j - 48))))) w) (by kernel_rfl) (by rw [decide_eq_false (by omega)])) ?_
       refine pl_nil ?_
       refine au_then ?_
       refine wp_cond_false (by kernel_rfl) ?_
       refine wp_skip ?_
       refine au_then ?_
       refine wp_seq ?_
       refine wp_seq ?_
       refine rg_lit ?_
       refine pl_val (want_no rfl) (some 139) rfl (.int .u64 (pv 16 65535 s j)) (fun _ => by kernel_rfl) ?_
       refine pl_val (want_no rfl) (some 140) rfl (.int .u64 1152921504606846976) (fun _ => by kernel_rfl) ?_
       refine pl_val (want_no rfl) (some 141) rfl (.bool false) (fun w => Eq.trans (b := .ok (.value (.bool (decide (1152921504606846976 ≤ (pv 16 65535 s j))))) w) (by kernel_rfl) (by rw [decide_eq_false (by omega)])) ?_
       refine pl_nil ?_
       refine au_then ?_
       refine wp_cond_false (by kernel_rfl) ?_
       refine wp_skip ?_
       refine au_then ?_
       refine wp_seq ?_
       refine rg_lit ?_
       refine pl_val (want_no rfl) (some 144) rfl (.int .u64 (pv 16 65535 s j)) (fun _ => by kernel_rfl) ?_
       refine pl_val (want_no rfl) (some 145) rfl (.int .i64 16) (fun _ => by kernel_rfl) ?_
       refine pl_val (want_no rfl) (some 146) rfl (.int .u64 16) (fun _ => by kernel_rfl) ?_
       refine pl_val (want_no rfl) (some 147) rfl (.int .u64 (pv 16 65535 s j * 16)) (fun w => Eq.trans (b := .ok (.value (.int .u64 (cv .u64 (pv 16 65535 s j * 16)))) w) (by kernel_rfl) (by rw [cv_u64]; congr 3; omega)) ?_
       refine pl_val (want_no rfl) (some 13) rfl (.int .u64 (pv 16 65535 s j * 16)) (fun _ => by kernel_rfl) ?_
       refine pl_nil ?_
       refine au_then ?_
       refine wp_seq ?_
       refine rg_lit ?_
       refine pl_val (want_no rfl) (some 148) rfl (.int .u64 (pv 16 65535 s j * 16)) (fun _ => by kernel_rfl) ?_
       refine pl_val (want_no rfl) (some 149) rfl (.int .u8 (bt s j - 48)) (fun _ => by kernel_rfl) ?_
       refine pl_val (want_no rfl) (some 150) rfl (.int .u64 (bt s j - 48)) (fun w => Eq.trans (b := .ok (.value (.int .u64 (cv .u64 (bt s j - 48)))) w) (by kernel_rfl) (by rw [cv_u64]; congr 3; omega)) ?_
       refine pl_val (want_no rfl) (some 151) rfl (.int .u64 (pv 16 65535 s j * 16 + (bt s j - 48))) (fun w => Eq.trans (b := .ok (.value (.int .u64 (cv .u64 (pv 16 65535 s j * 16 + (bt s j - 48))))) w) (by kernel_rfl) (by rw [cv_u64]; congr 3; omega)) ?_
       refine pl_val (want_no rfl) (some 17) rfl (.int .u64 (pv 16 65535 s j * 16 + (bt s j - 48))) (fun _ => by kernel_rfl) ?_
       refine pl_nil ?_
       refine au_then ?_
       refine wp_seq ?_
       refine wp_seq ?_
       refine rg_lit ?_
       refine pl_val (want_no rfl) (some 152) rfl (.int .u64 (pv 16 65535 s j * 16 + (bt s j - 48))) (fun _ => by kernel_rfl) ?_
       refine pl_val (want_no rfl) (some 153) rfl (.int .u64 (pv 16 65535 s j * 16)) (fun _ => by kernel_rfl) ?_
       refine pl_val (want_no rfl) (some 154) rfl (.bool false) (fun w => Eq.trans (b := .ok (.value (.bool (decide ((pv 16 65535 s j * 16 + (bt s j - 48)) < (pv 16 65535 s j * 16))))) w) (by kernel_rfl) (by rw [decide_eq_false (by omega)])) ?_
       refine pl_val (want_no rfl) (some 155) rfl (.bool false) (fun _ => by kernel_rfl) ?_
       refine pl_val (want_on 3 false rfl 155 rfl (by kernel_rfl)) (some 156) rfl (.int .u64 (pv 16 65535 s j * 16 + (bt s j - 48))) (fun _ => by kernel_rfl) ?_
       refine pl_val (want_on 3 false rfl 155 rfl (by kernel_rfl)) (some 157) rfl (.int .u64 65535) (fun _ => by kernel_rfl) ?_
       by_cases c5 : 65535 < (pv 16 65535 s j * 16 + (bt s j - 48))
       ·skip
        refine pl_val (want_on 3 false rfl 155 rfl (by kernel_rfl)) (some 158) rfl (.bool true) (fun w => Eq.trans (b := .ok (.value (.bool (decide (65535 < (pv 16 65535 s j * 16 + (bt s j - 48)))))) w) (by kernel_rfl) (by rw [decide_eq_true (c5)])) ?_
        refine pl_val (want_no rfl) (some 159) rfl (.bool true) (fun _ => by kernel_rfl) ?_
        refine pl_nil ?_
        refine au_then ?_
        refine wp_cond_true (by kernel_rfl) ?_
        refine wp_seq ?_
        refine rg_lit ?_
        refine pl_val (want_no rfl) (some 160) rfl (.int .u64 65535) (fun _ => by kernel_rfl) ?_
        refine pl_val (want_no rfl) (some 161) rfl (.iface 255 (.int .i64 1)) (fun _ => by kernel_rfl) ?_
        refine pl_val (want_no rfl) (some 6) rfl (.int .u64 65535) (fun _ => by kernel_rfl) ?_
        refine pl_val (want_no rfl) (some 7) rfl (.iface 255 (.int .i64 1)) (fun _ => by kernel_rfl) ?_
        refine pl_nil ?_
        refine au_then ?_
        refine wp_ret ?_
        refine au_then_ret ?_
        refine au_block_ret ?_
        refine au_then_ret ?_
        refine au_then_ret ?_
        refine au_block_ret ?_
        refine au_then_ret ?_
        exact bodyPost_ret (v := .tuple #[.int .u64 65535, .iface 255 (.int .i64 1)]) (results_tmp2 Tryz.results212 _ _ _ _ (by kernel_rfl) (by kernel_rfl)) (by kernel_rfl) ⟨.inr ⟨prs_none hj (pz_big hx (dv_d (bt s j) (by omega)) (by omega) (by omega)), 65535, 1, .inl rfl, rfl⟩, below_grown M.old⟩
       ·skip
        refine pl_val (want_on 3 false rfl 155 rfl (by kernel_rfl)) (some 158) rfl (.bool false) (fun w => Eq.trans (b := .ok (.value (.bool (decide (65535 < (pv 16 65535 s j * 16 + (bt s j - 48)))))) w) (by kernel_rfl) (by rw [decide_eq_false (c5)])) ?_
        refine pl_val (want_no rfl) (some 159) rfl (.bool false) (fun _ => by kernel_rfl) ?_
        refine pl_nil ?_
        refine au_then ?_
        refine wp_cond_false (by kernel_rfl) ?_
        refine wp_skip ?_
        refine au_then ?_
        refine rg_lit ?_
        refine pl_val (want_no rfl) (some 162) rfl (.int .u64 (pv 16 65535 s j * 16 + (bt s j - 48))) (fun _ => by kernel_rfl) ?_
        have hpy := pz_ok hx (dv_d (bt s j) (by omega)) (by omega) (by omega)
        have hpv : pv 16 65535 s (j + 1) = pv 16 65535 s j * 16 + (bt s j - 48) := by unfold pv; rw [hpy]; rfl
        have hpz : pz 16 65535 s (j + 1) = some (pv 16 65535 s (j + 1)) := by rw [hpv]; exact hpy
        refine pl_val (want_no rfl) (some 13) rfl (.int .u64 (pv 16 65535 s (j + 1))) (fun w => Eq.trans (b := .ok (.value (.int .u64 (pv 16 65535 s j * 16 + (bt s j - 48)))) w) (by kernel_rfl) (by rw [hpv])) ?_
        refine pl_nil ?_
        refine au_block ?_
        refine au_then ?_
        refine rg_lit ?_
        refine pl_val (want_no rfl) (some 163) rfl (.int .i64 ((j + 1 : Nat) : Int)) (fun w => Eq.trans (b := .ok (.value (.int .i64 (IntKind.wrap .i64 ((j : Int) + 1)))) w) (by kernel_rfl) (by rw [wrap64 (by omega) (by omega)]; congr 3)) ?_
        refine pl_val (want_no rfl) (some 101) rfl (.int .i64 ((j + 1 : Nat) : Int)) (fun _ => by kernel_rfl) ?_
        refine pl_nil ?_
        refine au_then ?_
        exact ⟨fun k_ => ([v1 6, v1 7, undef, undef, undef, undef, undef, undef, undef, .int .u8 (bt s j), .int .u8 (bt s j - 48), .int .u64 (pv 16 65535 s j * 16 + (bt s j - 48)), undef, undef, undef, undef, undef, undef, undef, undef, undef, undef, undef, undef, undef, undef, undef, undef, undef, undef, undef, undef, undef, undef, undef, undef, undef, undef, undef, undef, undef, undef, undef, undef, undef, undef, undef, undef, undef, undef, undef, undef, undef, undef, undef, undef, undef, undef, undef, undef, undef, undef, undef, undef, undef, undef, undef, undef, undef, undef, undef, undef, undef, undef, undef, undef, undef, undef, undef, undef, undef, undef, undef, undef, undef, undef, undef, undef, undef, undef, undef, undef, undef, undef, undef, undef, .bool true, .pointer (some ⟨g1, j, none⟩), .int .u8 (bt s j), v1 105, .bool false, .int .u8 (bt s j), .bool false, .bool false, undef, .bool false, .bool true, .int .u8 (bt s j), .bool true, .bool true, .int .u8 (bt s j), .bool true, .bool true, .int .u8 (bt s j), .int .u8 (bt s j - 48), v1 121, v1 122, v1 123, v1 124, v1 125, v1 126, v1 127, v1 128, v1 129, v1 130, v1 131, v1 132, v1 133, .int .u8 (bt s j - 48), .int .i64 16, .int .u8 16, .bool false, v1 138, .int .u64 (pv 16 65535 s j), .int .u64 1152921504606846976, .bool false, v1 142, v1 143, .int .u64 (pv 16 65535 s j), .int .i64 16, .int .u64 16, .int .u64 (pv 16 65535 s j * 16), .int .u64 (pv 16 65535 s j * 16), .int .u8 (bt s j - 48), .int .u64 (bt s j - 48), .int .u64 (pv 16 65535 s j * 16 + (bt s j - 48)), .int .u64 (pv 16 65535 s j * 16 + (bt s j - 48)), .int .u64 (pv 16 65535 s j * 16), .bool false, .bool false, .int .u64 (pv 16 65535 s j * 16 + (bt s j - 48)), .int .u64 65535, .bool false, .bool false, v1 160, v1 161, .int .u64 (pv 16 65535 s j * 16 + (bt s j - 48)), .int .i64 ((j + 1 : Nat) : Int)] : List Value).getD (k_ - 6) undef, by kernel_rfl, M, hpz⟩
      ·skip
       refine pl_val (want_no rfl) (some 137) rfl (.bool true) (fun w => Eq.trans (b := .ok (.value (.bool (decide (16 ≤ (bt s j - 48))))) w) (by kernel_rfl) (by rw [decide_eq_true (by omega)])) ?_
       refine pl_nil ?_
       refine au_then ?_
       refine wp_cond_true (by kernel_rfl) ?_
       refine wp_seq ?_
       refine rg_lit ?_
       refine pl_val (want_no rfl) (some 138) rfl (.iface 255 (.int .i64 2)) (fun _ => by kernel_rfl) ?_
       refine pl_val (want_no rfl) (some 6) rfl (.int .u64 0) (fun _ => by kernel_rfl) ?_
       refine pl_val (want_no rfl) (some 7) rfl (.iface 255 (.int .i64 2)) (fun _ => by kernel_rfl) ?_
       refine pl_nil ?_
       refine au_then ?_
       refine wp_ret ?_
       refine au_then_ret ?_
       refine au_block_ret ?_
       refine au_then_ret ?_
       refine au_then_ret ?_
       refine au_block_ret ?_
       refine au_then_ret ?_
       exact bodyPost_ret (v := .tuple #[.int .u64 0, .iface 255 (.int .i64 2)]) (results_tmp2 Tryz.results212 _ _ _ _ (by kernel_rfl) (by kernel_rfl)) (by kernel_rfl) ⟨.inr ⟨prs_none hj (pz_bad hx (dv_d (bt s j) (by omega)) (by omega)), 0, 2, .inr rfl, rfl⟩, below_grown M.old⟩
  ·intro a u0 hI
   obtain ⟨v1, rfl, M, hx⟩ := hI
   refine wp_seq ?_
   refine rg_lit ?_
   refine pl_val (want_no rfl) (some 102) rfl (.bool false) (fun w => Eq.trans (b := .ok (.value (.bool (decide (((s.size : Nat) : Int) < ((s.size : Nat) : Int))))) w) (by kernel_rfl) (by rw [decide_eq_false (by omega)])) ?_
   refine pl_nil ?_
   refine au_then ?_
   refine wp_seq ?_
   refine wp_cond_false (by kernel_rfl) ?_
   refine wp_exit ?_
   refine au_then_exit ?_
   refine au_then_exit ?_
   refine au_block_exit ?_
   refine au_then ?_
   refine wp_seq ?_
   refine wp_seq ?_
   refine rg_lit ?_
   refine pl_val (want_no rfl) (some 164) rfl (.bool false) (fun _ => by kernel_rfl) ?_
   refine pl_val (want_no rfl) (some 165) rfl (.bool false) (fun _ => by kernel_rfl) ?_
   refine pl_skip (want_off 1 true rfl 165 rfl (by kernel_rfl)) (some 166) rfl ?_
   refine pl_skip (want_off 1 true rfl 165 rfl (by kernel_rfl)) (some 167) rfl ?_
   refine pl_skip (want_off 1 true rfl 165 rfl (by kernel_rfl)) (some 168) rfl ?_
   refine pl_val (want_no rfl) (some 169) rfl (.bool false) (fun _ => by kernel_rfl) ?_
   refine pl_nil ?_
   refine au_then ?_
   refine wp_cond_false (by kernel_rfl) ?_
   refine wp_skip ?_
   refine au_then ?_
   refine wp_seq ?_
   refine rg_lit ?_
   refine pl_val (want_no rfl) (some 171) rfl (.int .u64 (pv 16 65535 s (s.size))) (fun _ => by kernel_rfl) ?_
   refine pl_val (want_no rfl) (some 6) rfl (.int .u64 (pv 16 65535 s (s.size))) (fun _ => by kernel_rfl) ?_
   refine pl_val (want_no rfl) (some 7) rfl (.nilIface) (fun _ => by kernel_rfl) ?_
   refine pl_nil ?_
   refine au_then ?_
   refine wp_ret ?_
   exact bodyPost_ret (v := .tuple #[.int .u64 (pv 16 65535 s (s.size)), .nilIface]) (results_tmp2 Tryz.results212 _ _ _ _ (by kernel_rfl) (by kernel_rfl)) (by kernel_rfl) ⟨.inl ⟨(pv 16 65535 s (s.size)), by unfold prs; rw [if_neg c0]; exact hx, rfl⟩, below_grown M.old⟩
theorem c_toErr (fn s : ByteArray) (b bits k : Int) (hk : k = 1 ∨ k = 2) (hs : s.size ≤ 100000) (w : World) (hL : Laid w) :
  Calls Tryz.prog 213 #[.string fn, .string s, .int .i64 b, .int .i64 bits, .iface 255 (.int .i64 k)] w fun r w' => (∃ N, r = .returned (.iface 257 (.pointer (some ⟨N, 0, none⟩)))) ∧ Below w.heap.size w w' := by
 rcases hk with rfl | rfl
 ·obtain ⟨t, p, h⟩ := hL.rg
  exact (Any.strconv_toError_range laysC245 fn s b bits _ w (by omega) h (.inr ⟨t, p, rfl⟩)).mono fun e w' ⟨n, he, _, _, hb⟩ => ⟨⟨n, he⟩, hb⟩
 ·obtain ⟨t, p, h⟩ := hL.sy
  exact (Any.strconv_toError_syntax laysC245 fn s b bits _ w (by omega) h (.inr ⟨t, p, rfl⟩)).mono fun e w' ⟨n, he, _, _, hb⟩ => ⟨⟨n, he⟩, hb⟩
section
variable {P : Program} {ops : Array Oper} {rest : List Oper} {o : Oper} {a : Act} {w : World} {c : Ctx} {L : List Blk} {Q : Exit → Act → World → Prop}
theorem pl_callx {α : Type} (M : Mem c L w) (hw : Region.wanted o (yielded ops a.tmps) = true) (d : Option Tmp) (hd : o.dst = d) (f : FuncId) (args : Array Value) (v : α → Value) (K : α → Prop) (hrun : ∀ w, (execOp a.eval o).run P w = .ok (.enter f args) w)
  (hc : ∀ w, Mem c L w → Calls P f args w fun e w' => (∃ x, K x ∧ e = .returned (v x)) ∧ Below w.heap.size w w') (h : ∀ x w', K x → Mem c L w' → PL P ops Q rest (a.put d (v x)) w') : PL P ops Q (o :: rest) a w :=
 pl_callq hw d hd f args hrun ((hc w M).mono fun _ w' ⟨⟨x, hk, he⟩, hb⟩ => ⟨v x, he, h x w' hk (M.keep hb)⟩)
end
theorem c_ipu10S (s : ByteArray) (hs : s.size ≤ 100000) (x : Int) (h : prs 10 255 s = some x) (w : World) (hL : Laid w) : Calls Tryz.prog 212 #[.string s, .int .i64 10, .int .i64 8] w fun r w' => r = .returned (.tuple #[.int .u64 x, .nilIface]) ∧ Below w.heap.size w w' :=
 (c_ipu10 s hs w hL).mono fun e w' ⟨h1, h2⟩ => ⟨(by
  rcases h1 with ⟨y, hy, he⟩ | ⟨hn, _⟩
  ·rw [h] at hy
   cases hy
   exact he
  ·rw [h] at hn
   cases hn), h2⟩
theorem c_ipu10N (s : ByteArray) (hs : s.size ≤ 100000) (h : prs 10 255 s = none) (w : World) (hL : Laid w) : Calls Tryz.prog 212 #[.string s, .int .i64 10, .int .i64 8] w fun r w' => (∃ x : Int × Int, (x.2 = 1 ∨ x.2 = 2) ∧ r = .returned (.tuple #[.int .u64 x.1, .iface 255 (.int .i64 x.2)])) ∧ Below w.heap.size w w' :=
 (c_ipu10 s hs w hL).mono fun e w' ⟨h1, h2⟩ => ⟨(by
  rcases h1 with ⟨y, hy, he⟩ | ⟨_, y, k, hk, he⟩
  ·rw [h] at hy
   cases hy
  ·exact ⟨(y, k), hk, he⟩), h2⟩
set_option maxRecDepth 100000 in
set_option maxHeartbeats 4000000 in
set_option linter.unusedSimpArgs false in
theorem c_pu10S (s : ByteArray) (hs : s.size ≤ 100000) (x : Int) (h : prs 10 255 s = some x) (w : World) (hL : Laid w)  :
  Calls Tryz.prog 193 #[.string s, .int .i64 10, .int .i64 8] w fun r w' => r = .returned (.tuple #[.int .u64 x, .nilIface]) ∧ Below w.heap.size w w' := by
 go_enter Tryz.func193, Tryz.ntmps193
 have M := Mem.start hL
 refine wp_seq ?_
 refine rg_lit ?_
 refine pl_val (want_no rfl) (some 6) rfl (.int .u64 0) (fun _ => by kernel_rfl) ?_
 refine pl_val (want_no rfl) (some 7) rfl (.nilIface) (fun _ => by kernel_rfl) ?_
 refine pl_nil ?_
 refine au_then ?_
 refine wp_seq ?_
 refine rg_lit ?_
 refine pl_val (want_no rfl) (some 11) rfl (.string s) (fun _ => by kernel_rfl) ?_
 refine pl_val (want_no rfl) (some 12) rfl (.int .i64 10) (fun _ => by kernel_rfl) ?_
 refine pl_val (want_no rfl) (some 13) rfl (.int .i64 8) (fun _ => by kernel_rfl) ?_
 refine pl_call M (want_no rfl) (some 14) rfl 212 #[.string s, .int .i64 10, .int .i64 8] (.tuple #[.int .u64 x, .nilIface]) (fun _ => by kernel_rfl) (fun w M => c_ipu10S s hs x h w M.laid) ?_
 intro u1 M
 refine pl_val (want_no rfl) (some 10) rfl (.tuple #[.int .u64 x, .nilIface]) (fun _ => by kernel_rfl) ?_
 refine pl_val (want_no rfl) (some 15) rfl (.int .u64 x) (fun _ => by kernel_rfl) ?_
 refine pl_val (want_no rfl) (some 16) rfl (.nilIface) (fun _ => by kernel_rfl) ?_
 refine pl_val (want_no rfl) (some 8) rfl (.int .u64 x) (fun _ => by kernel_rfl) ?_
 refine pl_val (want_no rfl) (some 9) rfl (.nilIface) (fun _ => by kernel_rfl) ?_
 refine pl_nil ?_
 refine au_then ?_
 refine wp_seq ?_
 refine wp_seq ?_
 refine rg_lit ?_
 refine pl_val (want_no rfl) (some 17) rfl (.nilIface) (fun _ => by kernel_rfl) ?_
 refine pl_val (want_no rfl) (some 18) rfl (.bool false) (fun _ => by kernel_rfl) ?_
 refine pl_nil ?_
 refine au_then ?_
 refine wp_cond_false (by kernel_rfl) ?_
 refine wp_skip ?_
 refine au_then ?_
 refine wp_seq ?_
 refine rg_lit ?_
 refine pl_val (want_no rfl) (some 25) rfl (.int .u64 x) (fun _ => by kernel_rfl) ?_
 refine pl_val (want_no rfl) (some 6) rfl (.int .u64 x) (fun _ => by kernel_rfl) ?_
 refine pl_val (want_no rfl) (some 7) rfl (.nilIface) (fun _ => by kernel_rfl) ?_
 refine pl_nil ?_
 refine au_then ?_
 refine wp_ret ?_
 exact bodyPost_ret (v := .tuple #[.int .u64 x, .nilIface]) (results_tmp2 Tryz.results193 _ _ _ _ (by kernel_rfl) (by kernel_rfl)) (by kernel_rfl) ⟨rfl, below_grown M.old⟩
set_option maxRecDepth 100000 in
set_option maxHeartbeats 4000000 in
set_option linter.unusedSimpArgs false in
theorem c_pu10N (s : ByteArray) (hs : s.size ≤ 100000) (h : prs 10 255 s = none) (w : World) (hL : Laid w)  :
  Calls Tryz.prog 193 #[.string s, .int .i64 10, .int .i64 8] w fun r w' => (∃ x : Int × TypeId × Value, True ∧ r = .returned (.tuple #[.int .u64 x.1, .iface x.2.1 x.2.2])) ∧ Below w.heap.size w w' := by
 go_enter Tryz.func193, Tryz.ntmps193
 have M := Mem.start hL
 refine wp_seq ?_
 refine rg_lit ?_
 refine pl_val (want_no rfl) (some 6) rfl (.int .u64 0) (fun _ => by kernel_rfl) ?_
 refine pl_val (want_no rfl) (some 7) rfl (.nilIface) (fun _ => by kernel_rfl) ?_
 refine pl_nil ?_
 refine au_then ?_
 refine wp_seq ?_
 refine rg_lit ?_
 refine pl_val (want_no rfl) (some 11) rfl (.string s) (fun _ => by kernel_rfl) ?_
 refine pl_val (want_no rfl) (some 12) rfl (.int .i64 10) (fun _ => by kernel_rfl) ?_
 refine pl_val (want_no rfl) (some 13) rfl (.int .i64 8) (fun _ => by kernel_rfl) ?_
 refine pl_callx M (want_no rfl) (some 14) rfl 212 #[.string s, .int .i64 10, .int .i64 8] (fun x : Int × Int => .tuple #[.int .u64 x.1, .iface 255 (.int .i64 x.2)]) (fun x => x.2 = 1 ∨ x.2 = 2) (fun _ => by kernel_rfl) (fun w M => c_ipu10N s hs h w M.laid) ?_
 intro x u1 hk M
 replace M : Mem ⟨w, []⟩ [] u1 := M
 refine pl_val (want_no rfl) (some 10) rfl (.tuple #[.int .u64 x.1, .iface 255 (.int .i64 x.2)]) (fun _ => by kernel_rfl) ?_
 refine pl_val (want_no rfl) (some 15) rfl (.int .u64 x.1) (fun _ => by kernel_rfl) ?_
 refine pl_val (want_no rfl) (some 16) rfl (.iface 255 (.int .i64 x.2)) (fun _ => by kernel_rfl) ?_
 refine pl_val (want_no rfl) (some 8) rfl (.int .u64 x.1) (fun _ => by kernel_rfl) ?_
 refine pl_val (want_no rfl) (some 9) rfl (.iface 255 (.int .i64 x.2)) (fun _ => by kernel_rfl) ?_
 refine pl_nil ?_
 refine au_then ?_
 refine wp_seq ?_
 refine wp_seq ?_
 refine rg_lit ?_
 refine pl_val (want_no rfl) (some 17) rfl (.iface 255 (.int .i64 x.2)) (fun _ => by kernel_rfl) ?_
 refine pl_val (want_no rfl) (some 18) rfl (.bool true) (fun _ => by kernel_rfl) ?_
 refine pl_nil ?_
 refine au_then ?_
 refine wp_cond_true (by kernel_rfl) ?_
 refine wp_seq ?_
 refine rg_lit ?_
 refine pl_val (want_no rfl) (some 19) rfl (.int .u64 x.1) (fun _ => by kernel_rfl) ?_
 refine pl_val (want_no rfl) (some 20) rfl (.string s) (fun _ => by kernel_rfl) ?_
 refine pl_val (want_no rfl) (some 21) rfl (.int .i64 10) (fun _ => by kernel_rfl) ?_
 refine pl_val (want_no rfl) (some 22) rfl (.int .i64 8) (fun _ => by kernel_rfl) ?_
 refine pl_val (want_no rfl) (some 23) rfl (.iface 255 (.int .i64 x.2)) (fun _ => by kernel_rfl) ?_
 refine pl_callx M (want_no rfl) (some 24) rfl 213 #[.string ⟨#[80, 97, 114, 115, 101, 85, 105, 110, 116]⟩, .string s, .int .i64 10, .int .i64 8, .iface 255 (.int .i64 x.2)] (fun n : Nat => .iface 257 (.pointer (some ⟨n, 0, none⟩))) (fun _ => True) (fun _ => by kernel_rfl) (fun w M => (c_toErr _ s _ _ x.2 hk hs w M.laid).mono fun e w2 ⟨⟨n, he⟩, hb⟩ => ⟨⟨n, trivial, he⟩, hb⟩) ?_
 intro n u2 _ M
 replace M : Mem ⟨w, []⟩ [] u2 := M
 refine pl_val (want_no rfl) (some 6) rfl (.int .u64 x.1) (fun _ => by kernel_rfl) ?_
 refine pl_val (want_no rfl) (some 7) rfl (.iface 257 (.pointer (some ⟨n, 0, none⟩))) (fun _ => by kernel_rfl) ?_
 refine pl_nil ?_
 refine au_then ?_
 refine wp_ret ?_
 refine au_then_ret ?_
 exact bodyPost_ret (v := .tuple #[.int .u64 x.1, .iface 257 (.pointer (some ⟨n, 0, none⟩))]) (results_tmp2 Tryz.results193 _ _ _ _ (by kernel_rfl) (by kernel_rfl)) (by kernel_rfl) ⟨⟨(x.1, 257, .pointer (some ⟨n, 0, none⟩)), trivial, rfl⟩, below_grown M.old⟩
theorem prs_lt10 {s : ByteArray} {x : Int} (h : prs 10 255 s = some x) : 0 ≤ x ∧ x ≤ 255 := by
 unfold prs at h
 split at h
 ·cases h
 ·have := pv_le (b := 10) (m := 255) (s := s) (by decide) (by decide) s.size
  unfold pv at this
  rw [h] at this
  exact this
set_option maxRecDepth 100000 in
set_option maxHeartbeats 4000000 in
set_option linter.unusedSimpArgs false in
theorem c_number10 (s : ByteArray) (w : World) (hL : Laid w)  :
  Calls Tryz.prog 165 #[.string s, .int .i64 10, .int .i64 8] w fun r w' => r = .returned (.tuple #[.int .u16 ((nmb 10 255 s).getD 0), .bool ((nmb 10 255 s).isSome)]) ∧ Below w.heap.size w w' := by
 go_enter Tryz.func165, Tryz.ntmps165
 have M := Mem.start hL
 refine wp_seq ?_
 refine rg_lit ?_
 refine pl_val (want_no rfl) (some 6) rfl (.int .u16 0) (fun _ => by kernel_rfl) ?_
 refine pl_val (want_no rfl) (some 7) rfl (.bool false) (fun _ => by kernel_rfl) ?_
 refine pl_nil ?_
 refine au_then ?_
 refine wp_seq ?_
 refine wp_seq ?_
 refine rg_lit ?_
 refine pl_val (want_no rfl) (some 10) rfl (.string s) (fun _ => by kernel_rfl) ?_
 refine pl_val (want_no rfl) (some 11) rfl (.int .i64 (s.size : Int)) (fun _ => by kernel_rfl) ?_
 by_cases c0 : 4 < (s.size : Int)
 ·skip
  refine pl_val (want_no rfl) (some 12) rfl (.bool true) (fun w => Eq.trans (b := .ok (.value (.bool (decide (4 < (s.size : Int))))) w) (by kernel_rfl) (by rw [decide_eq_true (c0)])) ?_
  refine pl_nil ?_
  refine au_then ?_
  refine wp_cond_true (by kernel_rfl) ?_
  refine wp_seq ?_
  refine rg_lit ?_
  refine pl_val (want_no rfl) (some 6) rfl (.int .u16 0) (fun _ => by kernel_rfl) ?_
  refine pl_val (want_no rfl) (some 7) rfl (.bool false) (fun _ => by kernel_rfl) ?_
  refine pl_nil ?_
  refine au_then ?_
  refine wp_ret ?_
  refine au_then_ret ?_
  have e0 : ((nmb 10 255 s).getD 0) = 0 := by rw [(show nmb 10 255 s = none from if_pos c0)]; rfl
  have e1 : (nmb 10 255 s).isSome = false := by rw [(show nmb 10 255 s = none from if_pos c0)]; rfl
  exact bodyPost_ret (v := .tuple #[.int .u16 0, .bool false]) (results_tmp2 Tryz.results165 _ _ _ _ (by kernel_rfl) (by kernel_rfl)) (by kernel_rfl) ⟨by rw [e0, e1], below_grown M.old⟩
 ·skip
  refine pl_val (want_no rfl) (some 12) rfl (.bool false) (fun w => Eq.trans (b := .ok (.value (.bool (decide (4 < (s.size : Int))))) w) (by kernel_rfl) (by rw [decide_eq_false (c0)])) ?_
  refine pl_nil ?_
  refine au_then ?_
  refine wp_cond_false (by kernel_rfl) ?_
  refine wp_skip ?_
  refine au_then ?_
  refine wp_seq ?_
  refine rg_lit ?_
  refine pl_val (want_no rfl) (some 14) rfl (.string s) (fun _ => by kernel_rfl) ?_
  refine pl_val (want_no rfl) (some 15) rfl (.int .i64 10) (fun _ => by kernel_rfl) ?_
  refine pl_val (want_no rfl) (some 16) rfl (.int .i64 8) (fun _ => by kernel_rfl) ?_
  rcases hP : prs 10 255 s with _ | y
  ·skip
   refine pl_callx M (want_no rfl) (some 17) rfl 193 #[.string s, .int .i64 10, .int .i64 8] (fun x : Int × TypeId × Value => .tuple #[.int .u64 x.1, .iface x.2.1 x.2.2]) (fun _ => True) (fun _ => by kernel_rfl) (fun w M => c_pu10N s (by omega) hP w M.laid) ?_
   intro x u1 _ M
   replace M : Mem ⟨w, []⟩ [] u1 := M
   refine pl_val (want_no rfl) (some 13) rfl (.tuple #[.int .u64 x.1, .iface x.2.1 x.2.2]) (fun _ => by kernel_rfl) ?_
   refine pl_val (want_no rfl) (some 18) rfl (.int .u64 x.1) (fun _ => by kernel_rfl) ?_
   refine pl_val (want_no rfl) (some 19) rfl (.iface x.2.1 x.2.2) (fun _ => by kernel_rfl) ?_
   refine pl_val (want_no rfl) (some 8) rfl (.int .u64 x.1) (fun _ => by kernel_rfl) ?_
   refine pl_val (want_no rfl) (some 9) rfl (.iface x.2.1 x.2.2) (fun _ => by kernel_rfl) ?_
   refine pl_nil ?_
   refine au_then ?_
   refine wp_seq ?_
   refine wp_seq ?_
   refine rg_lit ?_
   refine pl_val (want_no rfl) (some 20) rfl (.iface x.2.1 x.2.2) (fun _ => by kernel_rfl) ?_
   refine pl_val (want_no rfl) (some 21) rfl (.bool true) (fun _ => by kernel_rfl) ?_
   refine pl_nil ?_
   refine au_then ?_
   refine wp_cond_true (by kernel_rfl) ?_
   refine wp_seq ?_
   refine rg_lit ?_
   refine pl_val (want_no rfl) (some 6) rfl (.int .u16 0) (fun _ => by kernel_rfl) ?_
   refine pl_val (want_no rfl) (some 7) rfl (.bool false) (fun _ => by kernel_rfl) ?_
   refine pl_nil ?_
   refine au_then ?_
   refine wp_ret ?_
   refine au_then_ret ?_
   have e0 : ((nmb 10 255 s).getD 0) = 0 := by rw [(show nmb 10 255 s = none from (by unfold nmb; rw [if_neg c0]; exact hP : nmb 10 255 s = none))]; rfl
   have e1 : (nmb 10 255 s).isSome = false := by rw [(show nmb 10 255 s = none from (by unfold nmb; rw [if_neg c0]; exact hP : nmb 10 255 s = none))]; rfl
   exact bodyPost_ret (v := .tuple #[.int .u16 0, .bool false]) (results_tmp2 Tryz.results165 _ _ _ _ (by kernel_rfl) (by kernel_rfl)) (by kernel_rfl) ⟨by rw [e0, e1], below_grown M.old⟩
  ·skip
   refine pl_call M (want_no rfl) (some 17) rfl 193 #[.string s, .int .i64 10, .int .i64 8] (.tuple #[.int .u64 y, .nilIface]) (fun _ => by kernel_rfl) (fun w M => c_pu10S s (by omega) y hP w M.laid) ?_
   intro u1 M
   refine pl_val (want_no rfl) (some 13) rfl (.tuple #[.int .u64 y, .nilIface]) (fun _ => by kernel_rfl) ?_
   refine pl_val (want_no rfl) (some 18) rfl (.int .u64 y) (fun _ => by kernel_rfl) ?_
   refine pl_val (want_no rfl) (some 19) rfl (.nilIface) (fun _ => by kernel_rfl) ?_
   refine pl_val (want_no rfl) (some 8) rfl (.int .u64 y) (fun _ => by kernel_rfl) ?_
   refine pl_val (want_no rfl) (some 9) rfl (.nilIface) (fun _ => by kernel_rfl) ?_
   refine pl_nil ?_
   refine au_then ?_
   refine wp_seq ?_
   refine wp_seq ?_
   refine rg_lit ?_
   refine pl_val (want_no rfl) (some 20) rfl (.nilIface) (fun _ => by kernel_rfl) ?_
   refine pl_val (want_no rfl) (some 21) rfl (.bool false) (fun _ => by kernel_rfl) ?_
   refine pl_nil ?_
   refine au_then ?_
   refine wp_cond_false (by kernel_rfl) ?_
   refine wp_skip ?_
   refine au_then ?_
   refine wp_seq ?_
   refine rg_lit ?_
   refine pl_val (want_no rfl) (some 22) rfl (.int .u64 y) (fun _ => by kernel_rfl) ?_
   refine pl_val (want_no rfl) (some 23) rfl (.int .u16 y) (fun w => Eq.trans (b := .ok (.value (.int .u16 (cv .u16 y))) w) (by kernel_rfl) (by have := prs_lt10 hP; rw [cv_u16]; congr 3; omega)) ?_
   refine pl_val (want_no rfl) (some 6) rfl (.int .u16 y) (fun _ => by kernel_rfl) ?_
   refine pl_val (want_no rfl) (some 7) rfl (.bool true) (fun _ => by kernel_rfl) ?_
   refine pl_nil ?_
   refine au_then ?_
   refine wp_ret ?_
   have e0 : ((nmb 10 255 s).getD 0) = y := by rw [(show nmb 10 255 s = some y from (by unfold nmb; rw [if_neg c0]; exact hP : nmb 10 255 s = some y))]; rfl
   have e1 : (nmb 10 255 s).isSome = true := by rw [(show nmb 10 255 s = some y from (by unfold nmb; rw [if_neg c0]; exact hP : nmb 10 255 s = some y))]; rfl
   exact bodyPost_ret (v := .tuple #[.int .u16 y, .bool true]) (results_tmp2 Tryz.results165 _ _ _ _ (by kernel_rfl) (by kernel_rfl)) (by kernel_rfl) ⟨by rw [e0, e1], below_grown M.old⟩
theorem c_ipu16S (s : ByteArray) (hs : s.size ≤ 100000) (x : Int) (h : prs 16 65535 s = some x) (w : World) (hL : Laid w) : Calls Tryz.prog 212 #[.string s, .int .i64 16, .int .i64 16] w fun r w' => r = .returned (.tuple #[.int .u64 x, .nilIface]) ∧ Below w.heap.size w w' :=
 (c_ipu16 s hs w hL).mono fun e w' ⟨h1, h2⟩ => ⟨(by
  rcases h1 with ⟨y, hy, he⟩ | ⟨hn, _⟩
  ·rw [h] at hy
   cases hy
   exact he
  ·rw [h] at hn
   cases hn), h2⟩
theorem c_ipu16N (s : ByteArray) (hs : s.size ≤ 100000) (h : prs 16 65535 s = none) (w : World) (hL : Laid w) : Calls Tryz.prog 212 #[.string s, .int .i64 16, .int .i64 16] w fun r w' => (∃ x : Int × Int, (x.2 = 1 ∨ x.2 = 2) ∧ r = .returned (.tuple #[.int .u64 x.1, .iface 255 (.int .i64 x.2)])) ∧ Below w.heap.size w w' :=
 (c_ipu16 s hs w hL).mono fun e w' ⟨h1, h2⟩ => ⟨(by
  rcases h1 with ⟨y, hy, he⟩ | ⟨_, y, k, hk, he⟩
  ·rw [h] at hy
   cases hy
  ·exact ⟨(y, k), hk, he⟩), h2⟩
set_option maxRecDepth 100000 in
set_option maxHeartbeats 4000000 in
set_option linter.unusedSimpArgs false in
theorem c_pu16S (s : ByteArray) (hs : s.size ≤ 100000) (x : Int) (h : prs 16 65535 s = some x) (w : World) (hL : Laid w)  :
  Calls Tryz.prog 193 #[.string s, .int .i64 16, .int .i64 16] w fun r w' => r = .returned (.tuple #[.int .u64 x, .nilIface]) ∧ Below w.heap.size w w' := by
 go_enter Tryz.func193, Tryz.ntmps193
 have M := Mem.start hL
 refine wp_seq ?_
 refine rg_lit ?_
 refine pl_val (want_no rfl) (some 6) rfl (.int .u64 0) (fun _ => by kernel_rfl) ?_
 refine pl_val (want_no rfl) (some 7) rfl (.nilIface) (fun _ => by kernel_rfl) ?_
 refine pl_nil ?_
 refine au_then ?_
 refine wp_seq ?_
 refine rg_lit ?_
 refine pl_val (want_no rfl) (some 11) rfl (.string s) (fun _ => by kernel_rfl) ?_
 refine pl_val (want_no rfl) (some 12) rfl (.int .i64 16) (fun _ => by kernel_rfl) ?_
 refine pl_val (want_no rfl) (some 13) rfl (.int .i64 16) (fun _ => by kernel_rfl) ?_
 refine pl_call M (want_no rfl) (some 14) rfl 212 #[.string s, .int .i64 16, .int .i64 16] (.tuple #[.int .u64 x, .nilIface]) (fun _ => by kernel_rfl) (fun w M => c_ipu16S s hs x h w M.laid) ?_
 intro u1 M
 refine pl_val (want_no rfl) (some 10) rfl (.tuple #[.int .u64 x, .nilIface]) (fun _ => by kernel_rfl) ?_
 refine pl_val (want_no rfl) (some 15) rfl (.int .u64 x) (fun _ => by kernel_rfl) ?_
 refine pl_val (want_no rfl) (some 16) rfl (.nilIface) (fun _ => by kernel_rfl) ?_
 refine pl_val (want_no rfl) (some 8) rfl (.int .u64 x) (fun _ => by kernel_rfl) ?_
 refine pl_val (want_no rfl) (some 9) rfl (.nilIface) (fun _ => by kernel_rfl) ?_
 refine pl_nil ?_
 refine au_then ?_
 refine wp_seq ?_
 refine wp_seq ?_
 refine rg_lit ?_
 refine pl_val (want_no rfl) (some 17) rfl (.nilIface) (fun _ => by kernel_rfl) ?_
 refine pl_val (want_no rfl) (some 18) rfl (.bool false) (fun _ => by kernel_rfl) ?_
 refine pl_nil ?_
 refine au_then ?_
 refine wp_cond_false (by kernel_rfl) ?_
 refine wp_skip ?_
 refine au_then ?_
 refine wp_seq ?_
 refine rg_lit ?_
 refine pl_val (want_no rfl) (some 25) rfl (.int .u64 x) (fun _ => by kernel_rfl) ?_
 refine pl_val (want_no rfl) (some 6) rfl (.int .u64 x) (fun _ => by kernel_rfl) ?_
 refine pl_val (want_no rfl) (some 7) rfl (.nilIface) (fun _ => by kernel_rfl) ?_
 refine pl_nil ?_
 refine au_then ?_
 refine wp_ret ?_
 exact bodyPost_ret (v := .tuple #[.int .u64 x, .nilIface]) (results_tmp2 Tryz.results193 _ _ _ _ (by kernel_rfl) (by kernel_rfl)) (by kernel_rfl) ⟨rfl, below_grown M.old⟩
set_option maxRecDepth 100000 in
set_option maxHeartbeats 4000000 in
set_option linter.unusedSimpArgs false in
theorem c_pu16N (s : ByteArray) (hs : s.size ≤ 100000) (h : prs 16 65535 s = none) (w : World) (hL : Laid w)  :
  Calls Tryz.prog 193 #[.string s, .int .i64 16, .int .i64 16] w fun r w' => (∃ x : Int × TypeId × Value, True ∧ r = .returned (.tuple #[.int .u64 x.1, .iface x.2.1 x.2.2])) ∧ Below w.heap.size w w' := by
 go_enter Tryz.func193, Tryz.ntmps193
 have M := Mem.start hL
 refine wp_seq ?_
 refine rg_lit ?_
 refine pl_val (want_no rfl) (some 6) rfl (.int .u64 0) (fun _ => by kernel_rfl) ?_
 refine pl_val (want_no rfl) (some 7) rfl (.nilIface) (fun _ => by kernel_rfl) ?_
 refine pl_nil ?_
 refine au_then ?_
 refine wp_seq ?_
 refine rg_lit ?_
 refine pl_val (want_no rfl) (some 11) rfl (.string s) (fun _ => by kernel_rfl) ?_
 refine pl_val (want_no rfl) (some 12) rfl (.int .i64 16) (fun _ => by kernel_rfl) ?_
 refine pl_val (want_no rfl) (some 13) rfl (.int .i64 16) (fun _ => by kernel_rfl) ?_
 refine pl_callx M (want_no rfl) (some 14) rfl 212 #[.string s, .int .i64 16, .int .i64 16] (fun x : Int × Int => .tuple #[.int .u64 x.1, .iface 255 (.int .i64 x.2)]) (fun x => x.2 = 1 ∨ x.2 = 2) (fun _ => by kernel_rfl) (fun w M => c_ipu16N s hs h w M.laid) ?_
 intro x u1 hk M
 replace M : Mem ⟨w, []⟩ [] u1 := M
 refine pl_val (want_no rfl) (some 10) rfl (.tuple #[.int .u64 x.1, .iface 255 (.int .i64 x.2)]) (fun _ => by kernel_rfl) ?_
 refine pl_val (want_no rfl) (some 15) rfl (.int .u64 x.1) (fun _ => by kernel_rfl) ?_
 refine pl_val (want_no rfl) (some 16) rfl (.iface 255 (.int .i64 x.2)) (fun _ => by kernel_rfl) ?_
 refine pl_val (want_no rfl) (some 8) rfl (.int .u64 x.1) (fun _ => by kernel_rfl) ?_
 refine pl_val (want_no rfl) (some 9) rfl (.iface 255 (.int .i64 x.2)) (fun _ => by kernel_rfl) ?_
 refine pl_nil ?_
 refine au_then ?_
 refine wp_seq ?_
 refine wp_seq ?_
 refine rg_lit ?_
 refine pl_val (want_no rfl) (some 17) rfl (.iface 255 (.int .i64 x.2)) (fun _ => by kernel_rfl) ?_
 refine pl_val (want_no rfl) (some 18) rfl (.bool true) (fun _ => by kernel_rfl) ?_
 refine pl_nil ?_
 refine au_then ?_
 refine wp_cond_true (by kernel_rfl) ?_
 refine wp_seq ?_
 refine rg_lit ?_
 refine pl_val (want_no rfl) (some 19) rfl (.int .u64 x.1) (fun _ => by kernel_rfl) ?_
 refine pl_val (want_no rfl) (some 20) rfl (.string s) (fun _ => by kernel_rfl) ?_
 refine pl_val (want_no rfl) (some 21) rfl (.int .i64 16) (fun _ => by kernel_rfl) ?_
 refine pl_val (want_no rfl) (some 22) rfl (.int .i64 16) (fun _ => by kernel_rfl) ?_
 refine pl_val (want_no rfl) (some 23) rfl (.iface 255 (.int .i64 x.2)) (fun _ => by kernel_rfl) ?_
 refine pl_callx M (want_no rfl) (some 24) rfl 213 #[.string ⟨#[80, 97, 114, 115, 101, 85, 105, 110, 116]⟩, .string s, .int .i64 16, .int .i64 16, .iface 255 (.int .i64 x.2)] (fun n : Nat => .iface 257 (.pointer (some ⟨n, 0, none⟩))) (fun _ => True) (fun _ => by kernel_rfl) (fun w M => (c_toErr _ s _ _ x.2 hk hs w M.laid).mono fun e w2 ⟨⟨n, he⟩, hb⟩ => ⟨⟨n, trivial, he⟩, hb⟩) ?_
 intro n u2 _ M
 replace M : Mem ⟨w, []⟩ [] u2 := M
 refine pl_val (want_no rfl) (some 6) rfl (.int .u64 x.1) (fun _ => by kernel_rfl) ?_
 refine pl_val (want_no rfl) (some 7) rfl (.iface 257 (.pointer (some ⟨n, 0, none⟩))) (fun _ => by kernel_rfl) ?_
 refine pl_nil ?_
 refine au_then ?_
 refine wp_ret ?_
 refine au_then_ret ?_
 exact bodyPost_ret (v := .tuple #[.int .u64 x.1, .iface 257 (.pointer (some ⟨n, 0, none⟩))]) (results_tmp2 Tryz.results193 _ _ _ _ (by kernel_rfl) (by kernel_rfl)) (by kernel_rfl) ⟨⟨(x.1, 257, .pointer (some ⟨n, 0, none⟩)), trivial, rfl⟩, below_grown M.old⟩
theorem prs_lt16 {s : ByteArray} {x : Int} (h : prs 16 65535 s = some x) : 0 ≤ x ∧ x ≤ 65535 := by
 unfold prs at h
 split at h
 ·cases h
 ·have := pv_le (b := 16) (m := 65535) (s := s) (by decide) (by decide) s.size
  unfold pv at this
  rw [h] at this
  exact this
set_option maxRecDepth 100000 in
set_option maxHeartbeats 4000000 in
set_option linter.unusedSimpArgs false in
theorem c_number16 (s : ByteArray) (w : World) (hL : Laid w)  :
  Calls Tryz.prog 165 #[.string s, .int .i64 16, .int .i64 16] w fun r w' => r = .returned (.tuple #[.int .u16 ((nmb 16 65535 s).getD 0), .bool ((nmb 16 65535 s).isSome)]) ∧ Below w.heap.size w w' := by
 go_enter Tryz.func165, Tryz.ntmps165
 have M := Mem.start hL
 refine wp_seq ?_
 refine rg_lit ?_
 refine pl_val (want_no rfl) (some 6) rfl (.int .u16 0) (fun _ => by kernel_rfl) ?_
 refine pl_val (want_no rfl) (some 7) rfl (.bool false) (fun _ => by kernel_rfl) ?_
 refine pl_nil ?_
 refine au_then ?_
 refine wp_seq ?_
 refine wp_seq ?_
 refine rg_lit ?_
 refine pl_val (want_no rfl) (some 10) rfl (.string s) (fun _ => by kernel_rfl) ?_
 refine pl_val (want_no rfl) (some 11) rfl (.int .i64 (s.size : Int)) (fun _ => by kernel_rfl) ?_
 by_cases c0 : 4 < (s.size : Int)
 ·skip
  refine pl_val (want_no rfl) (some 12) rfl (.bool true) (fun w => Eq.trans (b := .ok (.value (.bool (decide (4 < (s.size : Int))))) w) (by kernel_rfl) (by rw [decide_eq_true (c0)])) ?_
  refine pl_nil ?_
  refine au_then ?_
  refine wp_cond_true (by kernel_rfl) ?_
  refine wp_seq ?_
  refine rg_lit ?_
  refine pl_val (want_no rfl) (some 6) rfl (.int .u16 0) (fun _ => by kernel_rfl) ?_
  refine pl_val (want_no rfl) (some 7) rfl (.bool false) (fun _ => by kernel_rfl) ?_
  refine pl_nil ?_
  refine au_then ?_
  refine wp_ret ?_
  refine au_then_ret ?_
  have e0 : ((nmb 16 65535 s).getD 0) = 0 := by rw [(show nmb 16 65535 s = none from if_pos c0)]; rfl
  have e1 : (nmb 16 65535 s).isSome = false := by rw [(show nmb 16 65535 s = none from if_pos c0)]; rfl
  exact bodyPost_ret (v := .tuple #[.int .u16 0, .bool false]) (results_tmp2 Tryz.results165 _ _ _ _ (by kernel_rfl) (by kernel_rfl)) (by kernel_rfl) ⟨by rw [e0, e1], below_grown M.old⟩
 ·skip
  refine pl_val (want_no rfl) (some 12) rfl (.bool false) (fun w => Eq.trans (b := .ok (.value (.bool (decide (4 < (s.size : Int))))) w) (by kernel_rfl) (by rw [decide_eq_false (c0)])) ?_
  refine pl_nil ?_
  refine au_then ?_
  refine wp_cond_false (by kernel_rfl) ?_
  refine wp_skip ?_
  refine au_then ?_
  refine wp_seq ?_
  refine rg_lit ?_
  refine pl_val (want_no rfl) (some 14) rfl (.string s) (fun _ => by kernel_rfl) ?_
  refine pl_val (want_no rfl) (some 15) rfl (.int .i64 16) (fun _ => by kernel_rfl) ?_
  refine pl_val (want_no rfl) (some 16) rfl (.int .i64 16) (fun _ => by kernel_rfl) ?_
  rcases hP : prs 16 65535 s with _ | y
  ·skip
   refine pl_callx M (want_no rfl) (some 17) rfl 193 #[.string s, .int .i64 16, .int .i64 16] (fun x : Int × TypeId × Value => .tuple #[.int .u64 x.1, .iface x.2.1 x.2.2]) (fun _ => True) (fun _ => by kernel_rfl) (fun w M => c_pu16N s (by omega) hP w M.laid) ?_
   intro x u1 _ M
   replace M : Mem ⟨w, []⟩ [] u1 := M
   refine pl_val (want_no rfl) (some 13) rfl (.tuple #[.int .u64 x.1, .iface x.2.1 x.2.2]) (fun _ => by kernel_rfl) ?_
   refine pl_val (want_no rfl) (some 18) rfl (.int .u64 x.1) (fun _ => by kernel_rfl) ?_
   refine pl_val (want_no rfl) (some 19) rfl (.iface x.2.1 x.2.2) (fun _ => by kernel_rfl) ?_
   refine pl_val (want_no rfl) (some 8) rfl (.int .u64 x.1) (fun _ => by kernel_rfl) ?_
   refine pl_val (want_no rfl) (some 9) rfl (.iface x.2.1 x.2.2) (fun _ => by kernel_rfl) ?_
   refine pl_nil ?_
   refine au_then ?_
   refine wp_seq ?_
   refine wp_seq ?_
   refine rg_lit ?_
   refine pl_val (want_no rfl) (some 20) rfl (.iface x.2.1 x.2.2) (fun _ => by kernel_rfl) ?_
   refine pl_val (want_no rfl) (some 21) rfl (.bool true) (fun _ => by kernel_rfl) ?_
   refine pl_nil ?_
   refine au_then ?_
   refine wp_cond_true (by kernel_rfl) ?_
   refine wp_seq ?_
   refine rg_lit ?_
   refine pl_val (want_no rfl) (some 6) rfl (.int .u16 0) (fun _ => by kernel_rfl) ?_
   refine pl_val (want_no rfl) (some 7) rfl (.bool false) (fun _ => by kernel_rfl) ?_
   refine pl_nil ?_
   refine au_then ?_
   refine wp_ret ?_
   refine au_then_ret ?_
   have e0 : ((nmb 16 65535 s).getD 0) = 0 := by rw [(show nmb 16 65535 s = none from (by unfold nmb; rw [if_neg c0]; exact hP : nmb 16 65535 s = none))]; rfl
   have e1 : (nmb 16 65535 s).isSome = false := by rw [(show nmb 16 65535 s = none from (by unfold nmb; rw [if_neg c0]; exact hP : nmb 16 65535 s = none))]; rfl
   exact bodyPost_ret (v := .tuple #[.int .u16 0, .bool false]) (results_tmp2 Tryz.results165 _ _ _ _ (by kernel_rfl) (by kernel_rfl)) (by kernel_rfl) ⟨by rw [e0, e1], below_grown M.old⟩
  ·skip
   refine pl_call M (want_no rfl) (some 17) rfl 193 #[.string s, .int .i64 16, .int .i64 16] (.tuple #[.int .u64 y, .nilIface]) (fun _ => by kernel_rfl) (fun w M => c_pu16S s (by omega) y hP w M.laid) ?_
   intro u1 M
   refine pl_val (want_no rfl) (some 13) rfl (.tuple #[.int .u64 y, .nilIface]) (fun _ => by kernel_rfl) ?_
   refine pl_val (want_no rfl) (some 18) rfl (.int .u64 y) (fun _ => by kernel_rfl) ?_
   refine pl_val (want_no rfl) (some 19) rfl (.nilIface) (fun _ => by kernel_rfl) ?_
   refine pl_val (want_no rfl) (some 8) rfl (.int .u64 y) (fun _ => by kernel_rfl) ?_
   refine pl_val (want_no rfl) (some 9) rfl (.nilIface) (fun _ => by kernel_rfl) ?_
   refine pl_nil ?_
   refine au_then ?_
   refine wp_seq ?_
   refine wp_seq ?_
   refine rg_lit ?_
   refine pl_val (want_no rfl) (some 20) rfl (.nilIface) (fun _ => by kernel_rfl) ?_
   refine pl_val (want_no rfl) (some 21) rfl (.bool false) (fun _ => by kernel_rfl) ?_
   refine pl_nil ?_
   refine au_then ?_
   refine wp_cond_false (by kernel_rfl) ?_
   refine wp_skip ?_
   refine au_then ?_
   refine wp_seq ?_
   refine rg_lit ?_
   refine pl_val (want_no rfl) (some 22) rfl (.int .u64 y) (fun _ => by kernel_rfl) ?_
   refine pl_val (want_no rfl) (some 23) rfl (.int .u16 y) (fun w => Eq.trans (b := .ok (.value (.int .u16 (cv .u16 y))) w) (by kernel_rfl) (by have := prs_lt16 hP; rw [cv_u16]; congr 3; omega)) ?_
   refine pl_val (want_no rfl) (some 6) rfl (.int .u16 y) (fun _ => by kernel_rfl) ?_
   refine pl_val (want_no rfl) (some 7) rfl (.bool true) (fun _ => by kernel_rfl) ?_
   refine pl_nil ?_
   refine au_then ?_
   refine wp_ret ?_
   have e0 : ((nmb 16 65535 s).getD 0) = y := by rw [(show nmb 16 65535 s = some y from (by unfold nmb; rw [if_neg c0]; exact hP : nmb 16 65535 s = some y))]; rfl
   have e1 : (nmb 16 65535 s).isSome = true := by rw [(show nmb 16 65535 s = some y from (by unfold nmb; rw [if_neg c0]; exact hP : nmb 16 65535 s = some y))]; rfl
   exact bodyPost_ret (v := .tuple #[.int .u16 y, .bool true]) (results_tmp2 Tryz.results165 _ _ _ _ (by kernel_rfl) (by kernel_rfl)) (by kernel_rfl) ⟨by rw [e0, e1], below_grown M.old⟩
end Go.Proofs.YtbdgncndhnnjoaaGreatDoor.Ip

namespace Go.Proofs.YtbdgncndhnnjoaaGreatDoor.Ip
set_option linter.unusedSimpArgs false
open Go.RowKit
def InfoIs (P : Program) (e : TypeId) (zv : Value) : Prop := ∃ i, P.info? e = some i ∧ i.zero = some zv ∧ i.size = 1 ∧ i.bytes ≤ 16
theorem infoIs {P : Program} {e : TypeId} {zv : Value} {b : Nat} (h1 : (P.info? e).map (·.zero) = some (some zv)) (h2 : (P.info? e).map (·.size) = some 1) (h3 : (P.info? e).map (·.bytes) = some b) (hb : b ≤ 16) : InfoIs P e zv := by
 cases h : P.info? e with
 | none => rw [h] at h2; cases h2
 | some i =>
  rw [h] at h1 h2 h3
  simp only [Option.map_some, Option.some.injEq] at h1 h2 h3
  exact ⟨i, h, h1, h2, by omega⟩
theorem info9 : InfoIs Tryz.prog 9 (.string ⟨#[]⟩) := infoIs (b := 16) (by kernel_rfl) (by kernel_rfl) (by kernel_rfl) (by decide)
section
variable {P : Program} {ops : Array Oper} {rest : List Oper} {o : Oper} {a : Act} {w : World} {c : Ctx} {L : List Blk} {Q : Exit → Act → World → Prop}
theorem pl_appI (M : Mem c L w) (hw : Region.wanted o (yielded ops a.tmps) = true) (d : Option Tmp) (hd : o.dst = d) (t ty e : TypeId) (zv : Value) (ht : P.underlying t = some (.slice e)) (hin : InfoIs P e zv) (hzc : zv.cells.size = 1) (i g n cap : Nat) (Z : Obj) (l : List Value) (hi : L[i]? = some ⟨g, Z⟩) (hs : SB Z cap l) (hn : l.length = n) (hle : n < 1000000) (j gx Tx : Nat) (v : Value) (hj : L[j]? = some ⟨gx, .cells (av 1 (fun _ => v)) Tx⟩) (h1 : v.oneCell' = true)
  (hrun : ∀ w, (execOp a.eval o).run P w = (do pure (Next.value (← Builtin.append_ #[t, t] ty #[.slice (some ⟨g, 0, none⟩) n cap, .slice (some ⟨gx, 0, none⟩) 1 1]))).run P w)
  (h : ∀ g' cap' Z' w', SB Z' cap' (l ++ [v]) → Mem c (L.eraseIdx i ++ [⟨g', Z'⟩]) w' → PL P ops Q rest (a.put d (.slice (some ⟨g', 0, none⟩) (n + 1) cap')) w') : PL P ops Q (o :: rest) a w := by
 obtain ⟨info, i1, i2, i3, i4⟩ := hin
 exact pl_app M hw d hd t ty e info zv ht i1 i2 i3 i4 hzc i g n cap Z l hi hs hn hle j gx Tx v hj h1 hrun h
theorem pl_app0I (M : Mem c L w) (hw : Region.wanted o (yielded ops a.tmps) = true) (d : Option Tmp) (hd : o.dst = d) (t ty e : TypeId) (zv : Value) (ht : P.underlying t = some (.slice e)) (hin : InfoIs P e zv) (hzc : zv.cells.size = 1) (j gx Tx : Nat) (v : Value) (hj : L[j]? = some ⟨gx, .cells (av 1 (fun _ => v)) Tx⟩)
  (hrun : ∀ w, (execOp a.eval o).run P w = (do pure (Next.value (← Builtin.append_ #[t, t] ty #[.slice none 0 0, .slice (some ⟨gx, 0, none⟩) 1 1]))).run P w)
  (h : ∀ g' cap' Z' w', SB Z' cap' [v] → Mem c (L ++ [⟨g', Z'⟩]) w' → PL P ops Q rest (a.put d (.slice (some ⟨g', 0, none⟩) 1 cap')) w') : PL P ops Q (o :: rest) a w := by
 obtain ⟨info, i1, i2, i3, i4⟩ := hin
 exact pl_app0 M hw d hd t ty e info zv ht i1 i2 i3 i4 hzc j gx Tx v hj hrun h
end
theorem info32 : InfoIs Tryz.prog 101 (.int .u16 0) := infoIs (b := 2) (by kernel_rfl) (by kernel_rfl) (by kernel_rfl) (by decide)
section
variable {P : Program} {ops : Array Oper} {rest : List Oper} {o : Oper} {a : Act} {w : World} {c : Ctx} {L : List Blk} {Q : Exit → Act → World → Prop}
theorem pl_makeI (M : Mem c L w) (hw : Region.wanted o (yielded ops a.tmps) = true) (d : Option Tmp) (hd : o.dst = d) (t e : TypeId) (zv : Value) (ht : P.underlying t = some (.slice e)) (hin : InfoIs P e zv) (x y : Operand) (ho : o.op = .makeSlice t x y) (kx ky : IntKind) (hx : a.eval x = .int kx 0) (cap : Nat) (hy : a.eval y = .int ky (cap : Int)) (hc : cap < 1000000)
  (h : ∀ g Z w', SB Z cap [] → Mem c (L ++ [⟨g, Z⟩]) w' → PL P ops Q rest (a.put d (.slice (some ⟨g, 0, none⟩) 0 cap)) w') : PL P ops Q (o :: rest) a w := by
 obtain ⟨info, i1, i2, i3, i4⟩ := hin
 exact pl_make M hw d hd t e info zv ht i1 i2 i3 i4 x y ho kx ky hx cap hy hc h
end
def cutf (f : Nat → Int) (j : Nat) : Nat → Int := fun i => if i < j then f i else 0
theorem cutf_upd (f : Nat → Int) (j : Nat) : upd (cutf f j) j (f j) = cutf f (j + 1) := by
 funext i
 unfold upd cutf
 by_cases h : i = j
 ·subst h
  rw [if_pos rfl, if_pos (by omega)]
 ·rw [if_neg h]
  by_cases h2 : i < j
  ·rw [if_pos h2, if_pos (by omega)]
  ·rw [if_neg h2, if_neg (by omega)]
theorem cutf_0 (f : Nat → Int) : cutf f 0 = fun _ => 0 := by
 funext i
 exact if_neg (by omega)
def gp (h l : Int) (j : Nat) : Int := cv .u16 (sr (if 4 ≤ j then l else h) (48 - 16 * ((j % 4 : Nat) : Int)).toNat)
def ggs (h l : Int) : Nat → Int := cutf (gp h l) 8
theorem cutf_nn {f : Nat → Int} {m : Int} (hm : 0 < m) (h : ∀ i, 0 ≤ f i ∧ f i < m) (j i : Nat) : 0 ≤ cutf f j i ∧ cutf f j i < m := by
 unfold cutf
 split
 ·exact h i
 ·omega
theorem gp_nn (h l : Int) (j : Nat) : 0 ≤ gp h l j ∧ gp h l j < 65536 := by
 unfold gp
 rw [cv_u16]
 omega
theorem ggs_nn (h l : Int) (j : Nat) : 0 ≤ ggs h l j ∧ ggs h l j < 65536 := cutf_nn (by decide) (gp_nn h l) 8 j
set_option maxRecDepth 100000 in
set_option maxHeartbeats 4000000 in
set_option linter.unusedSimpArgs false in
theorem c_groupsOf (v : Bool) (h l : Int) (w : World) (hL : Laid w)  :
  Calls Tryz.prog 155 #[.agg (av 3 (ls [.bool (v), .int .u64 h, .int .u64 l]))] w fun r w' => r = .returned (.agg (av 8 (w16 (ggs h l)))) ∧ Below w.heap.size w w' := by
 go_enter Tryz.func155, Tryz.ntmps155
 have M := Mem.start hL
 refine wp_seq ?_
 refine rg_lit ?_
 refine pl_new M (want_no rfl) (some 1) rfl (.cells (av 3 (ls [.bool (v), .int .u64 h, .int .u64 l])) 49) (fun _ => by kernel_rfl) ?_
 intro g1 u1 M
 replace M : Mem ⟨w, []⟩ [⟨g1, .cells (av 3 (ls [.bool (v), .int .u64 h, .int .u64 l])) 49⟩] u1 := M
 refine pl_new M (want_no rfl) (some 2) rfl (.cells (av 8 (w16 (fun _ => 0))) 188) (fun _ => by kernel_rfl) ?_
 intro g2 u2 M
 replace M : Mem ⟨w, []⟩ [⟨g1, .cells (av 3 (ls [.bool (v), .int .u64 h, .int .u64 l])) 49⟩, ⟨g2, .cells (av 8 (w16 (fun _ => 0))) 188⟩] u2 := M
 refine pl_nil ?_
 refine au_then ?_
 refine wp_seq ?_
 refine rg_lit ?_
 refine pl_new M (want_no rfl) (some 3) rfl (.cells (av 8 (w16 (fun _ => 0))) 188) (fun _ => by kernel_rfl) ?_
 intro g3 u3 M
 replace M : Mem ⟨w, []⟩ [⟨g1, .cells (av 3 (ls [.bool (v), .int .u64 h, .int .u64 l])) 49⟩, ⟨g2, .cells (av 8 (w16 (fun _ => 0))) 188⟩, ⟨g3, .cells (av 8 (w16 (fun _ => 0))) 188⟩] u3 := M
 refine pl_nil ?_
 refine au_then ?_
 refine wp_seq ?_
 refine wp_seq ?_
 refine rg_lit ?_
 refine pl_val (want_no rfl) (some 6) rfl (.int .i64 0) (fun _ => by kernel_rfl) ?_
 refine pl_nil ?_
 refine au_then ?_
 refine wp_block ?_
 refine au_loop (fun j a w' => ∃ v1 : Nat → Value, a = ⟨#[.agg (av 3 (ls [.bool (v), .int .u64 h, .int .u64 l])), .pointer (some ⟨g1, 0, none⟩), .pointer (some ⟨g2, 0, none⟩), .pointer (some ⟨g3, 0, none⟩), v1 4, v1 5, .int .i64 (j : Int), v1 7, v1 8, v1 9, v1 10, v1 11, v1 12, v1 13, v1 14, v1 15, v1 16, v1 17, v1 18, v1 19, v1 20, v1 21, v1 22, v1 23, v1 24, undef], []⟩ ∧ Mem ⟨w, []⟩ [⟨g1, .cells (av 3 (ls [.bool (v), .int .u64 h, .int .u64 l])) 49⟩, ⟨g2, .cells (av 8 (w16 (fun _ => 0))) 188⟩, ⟨g3, .cells (av 8 (w16 (cutf (gp h l) j))) 188⟩] w') 8 ⟨fun k_ => ([undef, undef, undef, undef, undef, undef, undef, undef, undef, undef, undef, undef, undef, undef, undef, undef, undef, undef, undef, undef, undef] : List Value).getD (k_ - 4) undef, by kernel_rfl, (by rw [cutf_0]; exact M)⟩ ?_ ?_
 ·intro j a u0 hj hI
  obtain ⟨v1, rfl, M⟩ := hI
  refine wp_seq ?_
  refine rg_lit ?_
  refine pl_val (want_no rfl) (some 7) rfl (.bool true) (fun w => Eq.trans (b := .ok (.value (.bool (decide ((j : Int) < 8)))) w) (by kernel_rfl) (by rw [decide_eq_true (by omega)])) ?_
  refine pl_nil ?_
  refine au_then ?_
  refine wp_seq ?_
  refine wp_cond_true (by kernel_rfl) ?_
  refine wp_skip ?_
  refine au_then ?_
  refine wp_seq ?_
  refine wp_block ?_
  refine wp_seq ?_
  refine rg_lit ?_
  refine pl_val (want_no rfl) (some 8) rfl (.int .i64 (j : Int)) (fun _ => by kernel_rfl) ?_
  refine pl_val (want_no rfl) (some 4) rfl (.int .i64 (j : Int)) (fun _ => by kernel_rfl) ?_
  refine pl_nil ?_
  refine au_then ?_
  refine wp_seq ?_
  refine rg_lit ?_
  refine pl_val (want_no rfl) (some 9) rfl (.pointer (some ⟨g1, 1, none⟩)) (fun _ => by kernel_rfl) ?_
  refine pl_cell M (want_no rfl) (some 10) rfl 47 _ rfl g1 1 (by kernel_rfl) (.int .u64 h) (fun _ => by kernel_rfl) (fun w M => M.cell 0 rfl (by decide) rfl) ?_
  refine pl_val (want_no rfl) (some 5) rfl (.int .u64 h) (fun _ => by kernel_rfl) ?_
  refine pl_nil ?_
  refine au_then ?_
  refine wp_seq ?_
  refine wp_seq ?_
  refine rg_lit ?_
  refine pl_val (want_no rfl) (some 11) rfl (.int .i64 (j : Int)) (fun _ => by kernel_rfl) ?_
  by_cases c0 : (j : Int) < 4
  ·skip
   refine pl_val (want_no rfl) (some 12) rfl (.bool false) (fun w => Eq.trans (b := .ok (.value (.bool (decide (4 ≤ (j : Int))))) w) (by kernel_rfl) (by rw [decide_eq_false (by omega)])) ?_
   refine pl_nil ?_
   refine au_then ?_
   refine wp_cond_false (by kernel_rfl) ?_
   refine wp_skip ?_
   refine au_then ?_
   refine rg_lit ?_
   refine pl_val (want_no rfl) (some 15) rfl (.int .i64 (j : Int)) (fun _ => by kernel_rfl) ?_
   refine pl_val (want_no rfl) (some 16) rfl (.int .u64 h) (fun _ => by kernel_rfl) ?_
   refine pl_val (want_no rfl) (some 17) rfl (.int .i64 (j : Int)) (fun _ => by kernel_rfl) ?_
   refine pl_val (want_no rfl) (some 18) rfl (.int .i64 ((j % 4 : Nat) : Int)) (fun w => Eq.trans (b := .ok (.value (.int .i64 (Int.tmod (j : Int) 4))) w) (by kernel_rfl) (by rw [Int.tmod_eq_emod_of_nonneg (by omega)]; rfl)) ?_
   refine pl_val (want_no rfl) (some 19) rfl (.int .i64 (16 * ((j % 4 : Nat) : Int))) (fun w => Eq.trans (b := .ok (.value (.int .i64 (IntKind.wrap .i64 (16 * ((j % 4 : Nat) : Int))))) w) (by kernel_rfl) (by rw [wrap64 (by omega) (by omega)])) ?_
   refine pl_val (want_no rfl) (some 20) rfl (.int .i64 (48 - (16 * ((j % 4 : Nat) : Int)))) (fun w => Eq.trans (b := .ok (.value (.int .i64 (IntKind.wrap .i64 (48 - (16 * ((j % 4 : Nat) : Int)))))) w) (by kernel_rfl) (by rw [wrap64 (by omega) (by omega)])) ?_
   refine pl_val (want_no rfl) (some 21) rfl (.int .u64 (sr h ((48 - (16 * ((j % 4 : Nat) : Int))).toNat))) (run_shrV 47 3 _ _ rfl h .i64 ((48 - (16 * ((j % 4 : Nat) : Int))).toNat) (by kernel_rfl) (nat_of (k := .i64) (by kernel_rfl) (by omega)) (by omega)) ?_
   refine pl_val (want_no rfl) (some 22) rfl (.int .u16 (gp h l j)) (fun w => Eq.trans (b := .ok (.value (.int .u16 (cv .u16 (sr h ((48 - (16 * ((j % 4 : Nat) : Int))).toNat))))) w) (by kernel_rfl) (by unfold gp; rw [if_neg (by omega)])) ?_
   refine pl_val (want_no rfl) (some 23) rfl (.pointer (some ⟨g3, j, none⟩)) (run_ix1 188 8 101 Tryz.underlying188 inz101 _ _ rfl g3 (by kernel_rfl) .i64 (j) (by kernel_rfl) (by omega)) ?_
   refine pl_put1 M (want_no rfl) rfl 101 _ _ rfl 2 g3 j (by kernel_rfl) 8 188 (w16 (cutf (gp h l) j)) rfl (.int .u16 (gp h l j)) (w16 (upd (cutf (gp h l) j) j (gp h l j))) (by kernel_rfl) inz101 (by omega) rfl rfl (fun j _ => put_w16 _ _ _ j) ?_
   intro u4 M
   replace M : Mem ⟨w, []⟩ [⟨g1, .cells (av 3 (ls [.bool (v), .int .u64 h, .int .u64 l])) 49⟩, ⟨g2, .cells (av 8 (w16 (fun _ => 0))) 188⟩, ⟨g3, .cells (av 8 (w16 (upd (cutf (gp h l) j) j (gp h l j)))) 188⟩] u4 := M
   refine pl_nil ?_
   refine au_block ?_
   refine au_then ?_
   refine rg_lit ?_
   refine pl_val (want_no rfl) (some 24) rfl (.int .i64 ((j + 1 : Nat) : Int)) (fun w => Eq.trans (b := .ok (.value (.int .i64 (IntKind.wrap .i64 ((j : Int) + 1)))) w) (by kernel_rfl) (by rw [wrap64 (by omega) (by omega)]; congr 3)) ?_
   refine pl_val (want_no rfl) (some 6) rfl (.int .i64 ((j + 1 : Nat) : Int)) (fun _ => by kernel_rfl) ?_
   refine pl_nil ?_
   refine au_then ?_
   rw [cutf_upd] at M
   exact ⟨fun k_ => ([.int .i64 (j : Int), .int .u64 h, undef, .bool true, .int .i64 (j : Int), .pointer (some ⟨g1, 1, none⟩), .int .u64 h, .int .i64 (j : Int), .bool false, v1 13, v1 14, .int .i64 (j : Int), .int .u64 h, .int .i64 (j : Int), .int .i64 ((j % 4 : Nat) : Int), .int .i64 (16 * ((j % 4 : Nat) : Int)), .int .i64 (48 - (16 * ((j % 4 : Nat) : Int))), .int .u64 (sr h ((48 - (16 * ((j % 4 : Nat) : Int))).toNat)), .int .u16 (gp h l j), .pointer (some ⟨g3, j, none⟩), .int .i64 ((j + 1 : Nat) : Int)] : List Value).getD (k_ - 4) undef, by kernel_rfl, M⟩
  ·skip
   refine pl_val (want_no rfl) (some 12) rfl (.bool true) (fun w => Eq.trans (b := .ok (.value (.bool (decide (4 ≤ (j : Int))))) w) (by kernel_rfl) (by rw [decide_eq_true (by omega)])) ?_
   refine pl_nil ?_
   refine au_then ?_
   refine wp_cond_true (by kernel_rfl) ?_
   refine rg_lit ?_
   refine pl_val (want_no rfl) (some 13) rfl (.pointer (some ⟨g1, 2, none⟩)) (fun _ => by kernel_rfl) ?_
   refine pl_cell M (want_no rfl) (some 14) rfl 47 _ rfl g1 2 (by kernel_rfl) (.int .u64 l) (fun _ => by kernel_rfl) (fun w M => M.cell 0 rfl (by decide) rfl) ?_
   refine pl_val (want_no rfl) (some 5) rfl (.int .u64 l) (fun _ => by kernel_rfl) ?_
   refine pl_nil ?_
   refine au_then ?_
   refine rg_lit ?_
   refine pl_val (want_no rfl) (some 15) rfl (.int .i64 (j : Int)) (fun _ => by kernel_rfl) ?_
   refine pl_val (want_no rfl) (some 16) rfl (.int .u64 l) (fun _ => by kernel_rfl) ?_
   refine pl_val (want_no rfl) (some 17) rfl (.int .i64 (j : Int)) (fun _ => by kernel_rfl) ?_
   refine pl_val (want_no rfl) (some 18) rfl (.int .i64 ((j % 4 : Nat) : Int)) (fun w => Eq.trans (b := .ok (.value (.int .i64 (Int.tmod (j : Int) 4))) w) (by kernel_rfl) (by rw [Int.tmod_eq_emod_of_nonneg (by omega)]; rfl)) ?_
   refine pl_val (want_no rfl) (some 19) rfl (.int .i64 (16 * ((j % 4 : Nat) : Int))) (fun w => Eq.trans (b := .ok (.value (.int .i64 (IntKind.wrap .i64 (16 * ((j % 4 : Nat) : Int))))) w) (by kernel_rfl) (by rw [wrap64 (by omega) (by omega)])) ?_
   refine pl_val (want_no rfl) (some 20) rfl (.int .i64 (48 - (16 * ((j % 4 : Nat) : Int)))) (fun w => Eq.trans (b := .ok (.value (.int .i64 (IntKind.wrap .i64 (48 - (16 * ((j % 4 : Nat) : Int)))))) w) (by kernel_rfl) (by rw [wrap64 (by omega) (by omega)])) ?_
   refine pl_val (want_no rfl) (some 21) rfl (.int .u64 (sr l ((48 - (16 * ((j % 4 : Nat) : Int))).toNat))) (run_shrV 47 3 _ _ rfl l .i64 ((48 - (16 * ((j % 4 : Nat) : Int))).toNat) (by kernel_rfl) (nat_of (k := .i64) (by kernel_rfl) (by omega)) (by omega)) ?_
   refine pl_val (want_no rfl) (some 22) rfl (.int .u16 (gp h l j)) (fun w => Eq.trans (b := .ok (.value (.int .u16 (cv .u16 (sr l ((48 - (16 * ((j % 4 : Nat) : Int))).toNat))))) w) (by kernel_rfl) (by unfold gp; rw [if_pos (by omega)])) ?_
   refine pl_val (want_no rfl) (some 23) rfl (.pointer (some ⟨g3, j, none⟩)) (run_ix1 188 8 101 Tryz.underlying188 inz101 _ _ rfl g3 (by kernel_rfl) .i64 (j) (by kernel_rfl) (by omega)) ?_
   refine pl_put1 M (want_no rfl) rfl 101 _ _ rfl 2 g3 j (by kernel_rfl) 8 188 (w16 (cutf (gp h l) j)) rfl (.int .u16 (gp h l j)) (w16 (upd (cutf (gp h l) j) j (gp h l j))) (by kernel_rfl) inz101 (by omega) rfl rfl (fun j _ => put_w16 _ _ _ j) ?_
   intro u4 M
   replace M : Mem ⟨w, []⟩ [⟨g1, .cells (av 3 (ls [.bool (v), .int .u64 h, .int .u64 l])) 49⟩, ⟨g2, .cells (av 8 (w16 (fun _ => 0))) 188⟩, ⟨g3, .cells (av 8 (w16 (upd (cutf (gp h l) j) j (gp h l j)))) 188⟩] u4 := M
   refine pl_nil ?_
   refine au_block ?_
   refine au_then ?_
   refine rg_lit ?_
   refine pl_val (want_no rfl) (some 24) rfl (.int .i64 ((j + 1 : Nat) : Int)) (fun w => Eq.trans (b := .ok (.value (.int .i64 (IntKind.wrap .i64 ((j : Int) + 1)))) w) (by kernel_rfl) (by rw [wrap64 (by omega) (by omega)]; congr 3)) ?_
   refine pl_val (want_no rfl) (some 6) rfl (.int .i64 ((j + 1 : Nat) : Int)) (fun _ => by kernel_rfl) ?_
   refine pl_nil ?_
   refine au_then ?_
   rw [cutf_upd] at M
   exact ⟨fun k_ => ([.int .i64 (j : Int), .int .u64 l, undef, .bool true, .int .i64 (j : Int), .pointer (some ⟨g1, 1, none⟩), .int .u64 h, .int .i64 (j : Int), .bool true, .pointer (some ⟨g1, 2, none⟩), .int .u64 l, .int .i64 (j : Int), .int .u64 l, .int .i64 (j : Int), .int .i64 ((j % 4 : Nat) : Int), .int .i64 (16 * ((j % 4 : Nat) : Int)), .int .i64 (48 - (16 * ((j % 4 : Nat) : Int))), .int .u64 (sr l ((48 - (16 * ((j % 4 : Nat) : Int))).toNat)), .int .u16 (gp h l j), .pointer (some ⟨g3, j, none⟩), .int .i64 ((j + 1 : Nat) : Int)] : List Value).getD (k_ - 4) undef, by kernel_rfl, M⟩
 ·intro a u0 hI
  obtain ⟨v1, rfl, M⟩ := hI
  refine wp_seq ?_
  refine rg_lit ?_
  refine pl_val (want_no rfl) (some 7) rfl (.bool false) (fun w => Eq.trans (b := .ok (.value (.bool (decide ((8 : Int) < 8)))) w) (by kernel_rfl) (by rw [decide_eq_false (by omega)])) ?_
  refine pl_nil ?_
  refine au_then ?_
  refine wp_seq ?_
  refine wp_cond_false (by kernel_rfl) ?_
  refine wp_exit ?_
  refine au_then_exit ?_
  refine au_then_exit ?_
  refine au_block_exit ?_
  refine au_then ?_
  refine wp_seq ?_
  refine rg_lit ?_
  refine pl_load M (want_no rfl) (some 25) rfl 188 _ rfl 2 g3 0 (by kernel_rfl) 8 188 (w16 (cutf (gp h l) 8)) rfl 8 (w16 (cutf (gp h l) 8)) (fun j _ => by rw [Nat.zero_add]) (by decide) _ Tryz.underlying188 rfl inz188 ?_
  refine pl_put M (want_no rfl) rfl 188 _ _ rfl 1 g2 0 (by kernel_rfl) 8 188 (w16 (fun _ => 0)) rfl 8 (w16 (cutf (gp h l) 8)) (w16 (cutf (gp h l) 8)) (by kernel_rfl) inz188 (by decide) (fun _ _ => rfl) (fun j hj => by rw [if_pos (by omega), Nat.sub_zero]) ?_
  intro u4 M
  replace M : Mem ⟨w, []⟩ [⟨g1, .cells (av 3 (ls [.bool (v), .int .u64 h, .int .u64 l])) 49⟩, ⟨g2, .cells (av 8 (w16 (cutf (gp h l) 8))) 188⟩, ⟨g3, .cells (av 8 (w16 (cutf (gp h l) 8))) 188⟩] u4 := M
  refine pl_nil ?_
  refine au_then ?_
  refine wp_ret ?_
  have e0 : (w16 (ggs h l)) = (w16 (cutf (gp h l) 8)) := rfl
  exact bodyPost_ret (v := .agg (av 8 (w16 (cutf (gp h l) 8)))) (results_cell_row Tryz.results155 _ _ g2 188 (av 8 (w16 (cutf (gp h l) 8))) (0, 0) _ (by kernel_rfl) (M.get 1 rfl) Tryz.underlying188 rfl (by rw [av_size]; exact inz188)) (by kernel_rfl) ⟨by rw [e0], below_grown M.old⟩
def adH (f : Nat → Int) : Int := (uo (sl (uo (sl (uo (sl (uo (sl 0 16) (cv .u64 (f 0))) 16) (cv .u64 (f 1))) 16) (cv .u64 (f 2))) 16) (cv .u64 (f 3)))
def adL (f : Nat → Int) : Int := (uo (sl (uo (sl (uo (sl (uo (sl 0 16) (cv .u64 (f 4))) 16) (cv .u64 (f 5))) 16) (cv .u64 (f 6))) 16) (cv .u64 (f 7)))
set_option maxRecDepth 100000 in
set_option maxHeartbeats 4000000 in
set_option linter.unusedSimpArgs false in
theorem c_addr (f : Nat → Int) (w : World) (hL : Laid w)  :
  Calls Tryz.prog 219 #[.agg (av 8 (w16 f))] w fun r w' => r = .returned (.agg (av 3 (ls [.bool true, .int .u64 (adH f), .int .u64 (adL f)]))) ∧ Below w.heap.size w w' := by
 go_enter Tryz.func219, Tryz.ntmps219
 have M := Mem.start hL
 refine wp_seq ?_
 refine rg_lit ?_
 refine pl_new M (want_no rfl) (some 1) rfl (.cells (av 8 (w16 f)) 188) (fun _ => by kernel_rfl) ?_
 intro g1 u1 M
 replace M : Mem ⟨w, []⟩ [⟨g1, .cells (av 8 (w16 f)) 188⟩] u1 := M
 refine pl_new M (want_no rfl) (some 2) rfl (.cells (av 3 (ls [.bool false, .int .u64 0, .int .u64 0])) 49) (fun _ => by kernel_rfl) ?_
 intro g2 u2 M
 replace M : Mem ⟨w, []⟩ [⟨g1, .cells (av 8 (w16 f)) 188⟩, ⟨g2, .cells (av 3 (ls [.bool false, .int .u64 0, .int .u64 0])) 49⟩] u2 := M
 refine pl_nil ?_
 refine au_then ?_
 refine wp_seq ?_
 refine rg_lit ?_
 refine pl_val (want_no rfl) (some 5) rfl (.agg (av 3 (ls [.bool true, .int .u64 0, .int .u64 0]))) (fun _ => by kernel_rfl) ?_
 refine pl_new M (want_no rfl) (some 3) rfl (.cells (av 3 (ls [.bool false, .int .u64 0, .int .u64 0])) 49) (fun _ => by kernel_rfl) ?_
 intro g3 u3 M
 replace M : Mem ⟨w, []⟩ [⟨g1, .cells (av 8 (w16 f)) 188⟩, ⟨g2, .cells (av 3 (ls [.bool false, .int .u64 0, .int .u64 0])) 49⟩, ⟨g3, .cells (av 3 (ls [.bool false, .int .u64 0, .int .u64 0])) 49⟩] u3 := M
 refine pl_put M (want_no rfl) rfl 49 _ _ rfl 2 g3 0 (by kernel_rfl) 3 49 (ls [.bool false, .int .u64 0, .int .u64 0]) rfl 3 (ls [.bool true, .int .u64 0, .int .u64 0]) (ls [.bool true, .int .u64 0, .int .u64 0]) (by kernel_rfl) inz49 (by decide) (one_ls _ rfl) (fun j hj => by rw [if_pos (by omega), Nat.sub_zero]) ?_
 intro u4 M
 replace M : Mem ⟨w, []⟩ [⟨g1, .cells (av 8 (w16 f)) 188⟩, ⟨g2, .cells (av 3 (ls [.bool false, .int .u64 0, .int .u64 0])) 49⟩, ⟨g3, .cells (av 3 (ls [.bool true, .int .u64 0, .int .u64 0])) 49⟩] u4 := M
 refine pl_nil ?_
 refine au_then ?_
 refine wp_seq ?_
 refine wp_seq ?_
 refine rg_lit ?_
 refine pl_val (want_no rfl) (some 6) rfl (.int .i64 0) (fun _ => by kernel_rfl) ?_
 refine pl_nil ?_
 refine au_then ?_
 refine wp_block ?_
 refine wp_loop_rounds 5 ?_
 refine rounds_go ?_
 refine wp_seq ?_
 refine rg_lit ?_
 refine pl_val (want_no rfl) (some 7) rfl (.bool true) (fun _ => by kernel_rfl) ?_
 refine pl_nil ?_
 refine au_then ?_
 refine wp_seq ?_
 refine wp_cond_true (by kernel_rfl) ?_
 refine wp_skip ?_
 refine au_then ?_
 refine wp_seq ?_
 refine wp_block ?_
 refine wp_seq ?_
 refine rg_lit ?_
 refine pl_val (want_no rfl) (some 8) rfl (.int .i64 0) (fun _ => by kernel_rfl) ?_
 refine pl_val (want_no rfl) (some 4) rfl (.int .i64 0) (fun _ => by kernel_rfl) ?_
 refine pl_nil ?_
 refine au_then ?_
 refine wp_seq ?_
 refine rg_tail M 9 (by kernel_rfl) (by kernel_rfl) ?_
 simp only [List.take_succ_cons, List.take_zero]
 refine k_val (want_no rfl) (some 9) rfl (.pointer (some ⟨g3, 1, none⟩)) (fun _ => by kernel_rfl) ?_
 refine k_cell M (want_no rfl) (some 10) rfl 47 _ rfl g3 1 (by kernel_rfl) (.int .u64 0) (fun _ => by kernel_rfl) (fun w M => M.cell 2 rfl (by decide) rfl) ?_
 refine k_val (want_no rfl) (some 11) rfl (.int .u64 (sl 0 16)) (fun _ => by kernel_rfl) ?_
 refine k_val (want_no rfl) (some 12) rfl (.int .i64 0) (fun _ => by kernel_rfl) ?_
 refine k_val (want_no rfl) (some 13) rfl (.pointer (some ⟨g1, 0, none⟩)) (fun _ => by kernel_rfl) ?_
 refine k_cell M (want_no rfl) (some 14) rfl 101 _ rfl g1 0 (by kernel_rfl) (.int .u16 (f 0)) (fun _ => by kernel_rfl) (fun w M => M.cell 0 rfl (by decide) rfl) ?_
 refine k_val (want_no rfl) (some 15) rfl (.int .u64 (cv .u64 (f 0))) (fun _ => by kernel_rfl) ?_
 refine k_val (want_no rfl) (some 16) rfl (.int .u64 (uo (sl 0 16) (cv .u64 (f 0)))) (fun _ => by kernel_rfl) ?_
 refine k_val (want_no rfl) (some 17) rfl (.pointer (some ⟨g3, 1, none⟩)) (fun _ => by kernel_rfl) ?_
 refine kl_nil ?_
 intro u5 M
 replace M : Mem ⟨w, []⟩ [⟨g1, .cells (av 8 (w16 f)) 188⟩, ⟨g2, .cells (av 3 (ls [.bool false, .int .u64 0, .int .u64 0])) 49⟩, ⟨g3, .cells (av 3 (ls [.bool true, .int .u64 0, .int .u64 0])) 49⟩] u5 := M
 refine pl_put1 M (want_no rfl) rfl 47 _ _ rfl 2 g3 1 (by kernel_rfl) 3 49 (ls [.bool true, .int .u64 0, .int .u64 0]) rfl (.int .u64 (uo (sl 0 16) (cv .u64 (f 0)))) (ls [.bool true, .int .u64 (uo (sl 0 16) (cv .u64 (f 0))), .int .u64 0]) (by kernel_rfl) inz47 (by decide) rfl rfl (put_ls _ 1 _ _ rfl) ?_
 intro u6 M
 replace M : Mem ⟨w, []⟩ [⟨g1, .cells (av 8 (w16 f)) 188⟩, ⟨g2, .cells (av 3 (ls [.bool false, .int .u64 0, .int .u64 0])) 49⟩, ⟨g3, .cells (av 3 (ls [.bool true, .int .u64 (uo (sl 0 16) (cv .u64 (f 0))), .int .u64 0])) 49⟩] u6 := M
 refine pl_nil ?_
 refine au_then ?_
 refine rg_tail M 10 (by kernel_rfl) (by kernel_rfl) ?_
 simp only [List.take_succ_cons, List.take_zero]
 refine k_val (want_no rfl) (some 18) rfl (.pointer (some ⟨g3, 2, none⟩)) (fun _ => by kernel_rfl) ?_
 refine k_cell M (want_no rfl) (some 19) rfl 47 _ rfl g3 2 (by kernel_rfl) (.int .u64 0) (fun _ => by kernel_rfl) (fun w M => M.cell 2 rfl (by decide) rfl) ?_
 refine k_val (want_no rfl) (some 20) rfl (.int .u64 (sl 0 16)) (fun _ => by kernel_rfl) ?_
 refine k_val (want_no rfl) (some 21) rfl (.int .i64 0) (fun _ => by kernel_rfl) ?_
 refine k_val (want_no rfl) (some 22) rfl (.int .i64 4) (fun _ => by kernel_rfl) ?_
 refine k_val (want_no rfl) (some 23) rfl (.pointer (some ⟨g1, 4, none⟩)) (fun _ => by kernel_rfl) ?_
 refine k_cell M (want_no rfl) (some 24) rfl 101 _ rfl g1 4 (by kernel_rfl) (.int .u16 (f 4)) (fun _ => by kernel_rfl) (fun w M => M.cell 0 rfl (by decide) rfl) ?_
 refine k_val (want_no rfl) (some 25) rfl (.int .u64 (cv .u64 (f 4))) (fun _ => by kernel_rfl) ?_
 refine k_val (want_no rfl) (some 26) rfl (.int .u64 (uo (sl 0 16) (cv .u64 (f 4)))) (fun _ => by kernel_rfl) ?_
 refine k_val (want_no rfl) (some 27) rfl (.pointer (some ⟨g3, 2, none⟩)) (fun _ => by kernel_rfl) ?_
 refine kl_nil ?_
 intro u7 M
 replace M : Mem ⟨w, []⟩ [⟨g1, .cells (av 8 (w16 f)) 188⟩, ⟨g2, .cells (av 3 (ls [.bool false, .int .u64 0, .int .u64 0])) 49⟩, ⟨g3, .cells (av 3 (ls [.bool true, .int .u64 (uo (sl 0 16) (cv .u64 (f 0))), .int .u64 0])) 49⟩] u7 := M
 refine pl_put1 M (want_no rfl) rfl 47 _ _ rfl 2 g3 2 (by kernel_rfl) 3 49 (ls [.bool true, .int .u64 (uo (sl 0 16) (cv .u64 (f 0))), .int .u64 0]) rfl (.int .u64 (uo (sl 0 16) (cv .u64 (f 4)))) (ls [.bool true, .int .u64 (uo (sl 0 16) (cv .u64 (f 0))), .int .u64 (uo (sl 0 16) (cv .u64 (f 4)))]) (by kernel_rfl) inz47 (by decide) rfl rfl (put_ls _ 2 _ _ rfl) ?_
 intro u8 M
 replace M : Mem ⟨w, []⟩ [⟨g1, .cells (av 8 (w16 f)) 188⟩, ⟨g2, .cells (av 3 (ls [.bool false, .int .u64 0, .int .u64 0])) 49⟩, ⟨g3, .cells (av 3 (ls [.bool true, .int .u64 (uo (sl 0 16) (cv .u64 (f 0))), .int .u64 (uo (sl 0 16) (cv .u64 (f 4)))])) 49⟩] u8 := M
 refine pl_nil ?_
 refine au_block ?_
 refine au_then ?_
 refine rg_lit ?_
 refine pl_val (want_no rfl) (some 28) rfl (.int .i64 1) (fun _ => by kernel_rfl) ?_
 refine pl_val (want_no rfl) (some 6) rfl (.int .i64 1) (fun _ => by kernel_rfl) ?_
 refine pl_nil ?_
 refine au_then ?_
 refine rounds_go ?_
 refine wp_seq ?_
 refine rg_lit ?_
 refine pl_val (want_no rfl) (some 7) rfl (.bool true) (fun _ => by kernel_rfl) ?_
 refine pl_nil ?_
 refine au_then ?_
 refine wp_seq ?_
 refine wp_cond_true (by kernel_rfl) ?_
 refine wp_skip ?_
 refine au_then ?_
 refine wp_seq ?_
 refine wp_block ?_
 refine wp_seq ?_
 refine rg_lit ?_
 refine pl_val (want_no rfl) (some 8) rfl (.int .i64 1) (fun _ => by kernel_rfl) ?_
 refine pl_val (want_no rfl) (some 4) rfl (.int .i64 1) (fun _ => by kernel_rfl) ?_
 refine pl_nil ?_
 refine au_then ?_
 refine wp_seq ?_
 refine rg_tail M 9 (by kernel_rfl) (by kernel_rfl) ?_
 simp only [List.take_succ_cons, List.take_zero]
 refine k_val (want_no rfl) (some 9) rfl (.pointer (some ⟨g3, 1, none⟩)) (fun _ => by kernel_rfl) ?_
 refine k_cell M (want_no rfl) (some 10) rfl 47 _ rfl g3 1 (by kernel_rfl) (.int .u64 (uo (sl 0 16) (cv .u64 (f 0)))) (fun _ => by kernel_rfl) (fun w M => M.cell 2 rfl (by decide) rfl) ?_
 refine k_val (want_no rfl) (some 11) rfl (.int .u64 (sl (uo (sl 0 16) (cv .u64 (f 0))) 16)) (fun _ => by kernel_rfl) ?_
 refine k_val (want_no rfl) (some 12) rfl (.int .i64 1) (fun _ => by kernel_rfl) ?_
 refine k_val (want_no rfl) (some 13) rfl (.pointer (some ⟨g1, 1, none⟩)) (fun _ => by kernel_rfl) ?_
 refine k_cell M (want_no rfl) (some 14) rfl 101 _ rfl g1 1 (by kernel_rfl) (.int .u16 (f 1)) (fun _ => by kernel_rfl) (fun w M => M.cell 0 rfl (by decide) rfl) ?_
 refine k_val (want_no rfl) (some 15) rfl (.int .u64 (cv .u64 (f 1))) (fun _ => by kernel_rfl) ?_
 refine k_val (want_no rfl) (some 16) rfl (.int .u64 (uo (sl (uo (sl 0 16) (cv .u64 (f 0))) 16) (cv .u64 (f 1)))) (fun _ => by kernel_rfl) ?_
 refine k_val (want_no rfl) (some 17) rfl (.pointer (some ⟨g3, 1, none⟩)) (fun _ => by kernel_rfl) ?_
 refine kl_nil ?_
 intro u9 M
 replace M : Mem ⟨w, []⟩ [⟨g1, .cells (av 8 (w16 f)) 188⟩, ⟨g2, .cells (av 3 (ls [.bool false, .int .u64 0, .int .u64 0])) 49⟩, ⟨g3, .cells (av 3 (ls [.bool true, .int .u64 (uo (sl 0 16) (cv .u64 (f 0))), .int .u64 (uo (sl 0 16) (cv .u64 (f 4)))])) 49⟩] u9 := M
 refine pl_put1 M (want_no rfl) rfl 47 _ _ rfl 2 g3 1 (by kernel_rfl) 3 49 (ls [.bool true, .int .u64 (uo (sl 0 16) (cv .u64 (f 0))), .int .u64 (uo (sl 0 16) (cv .u64 (f 4)))]) rfl (.int .u64 (uo (sl (uo (sl 0 16) (cv .u64 (f 0))) 16) (cv .u64 (f 1)))) (ls [.bool true, .int .u64 (uo (sl (uo (sl 0 16) (cv .u64 (f 0))) 16) (cv .u64 (f 1))), .int .u64 (uo (sl 0 16) (cv .u64 (f 4)))]) (by kernel_rfl) inz47 (by decide) rfl rfl (put_ls _ 1 _ _ rfl) ?_
 intro u10 M
 replace M : Mem ⟨w, []⟩ [⟨g1, .cells (av 8 (w16 f)) 188⟩, ⟨g2, .cells (av 3 (ls [.bool false, .int .u64 0, .int .u64 0])) 49⟩, ⟨g3, .cells (av 3 (ls [.bool true, .int .u64 (uo (sl (uo (sl 0 16) (cv .u64 (f 0))) 16) (cv .u64 (f 1))), .int .u64 (uo (sl 0 16) (cv .u64 (f 4)))])) 49⟩] u10 := M
 refine pl_nil ?_
 refine au_then ?_
 refine rg_tail M 10 (by kernel_rfl) (by kernel_rfl) ?_
 simp only [List.take_succ_cons, List.take_zero]
 refine k_val (want_no rfl) (some 18) rfl (.pointer (some ⟨g3, 2, none⟩)) (fun _ => by kernel_rfl) ?_
 refine k_cell M (want_no rfl) (some 19) rfl 47 _ rfl g3 2 (by kernel_rfl) (.int .u64 (uo (sl 0 16) (cv .u64 (f 4)))) (fun _ => by kernel_rfl) (fun w M => M.cell 2 rfl (by decide) rfl) ?_
 refine k_val (want_no rfl) (some 20) rfl (.int .u64 (sl (uo (sl 0 16) (cv .u64 (f 4))) 16)) (fun _ => by kernel_rfl) ?_
 refine k_val (want_no rfl) (some 21) rfl (.int .i64 1) (fun _ => by kernel_rfl) ?_
 refine k_val (want_no rfl) (some 22) rfl (.int .i64 5) (fun _ => by kernel_rfl) ?_
 refine k_val (want_no rfl) (some 23) rfl (.pointer (some ⟨g1, 5, none⟩)) (fun _ => by kernel_rfl) ?_
 refine k_cell M (want_no rfl) (some 24) rfl 101 _ rfl g1 5 (by kernel_rfl) (.int .u16 (f 5)) (fun _ => by kernel_rfl) (fun w M => M.cell 0 rfl (by decide) rfl) ?_
 refine k_val (want_no rfl) (some 25) rfl (.int .u64 (cv .u64 (f 5))) (fun _ => by kernel_rfl) ?_
 refine k_val (want_no rfl) (some 26) rfl (.int .u64 (uo (sl (uo (sl 0 16) (cv .u64 (f 4))) 16) (cv .u64 (f 5)))) (fun _ => by kernel_rfl) ?_
 refine k_val (want_no rfl) (some 27) rfl (.pointer (some ⟨g3, 2, none⟩)) (fun _ => by kernel_rfl) ?_
 refine kl_nil ?_
 intro u11 M
 replace M : Mem ⟨w, []⟩ [⟨g1, .cells (av 8 (w16 f)) 188⟩, ⟨g2, .cells (av 3 (ls [.bool false, .int .u64 0, .int .u64 0])) 49⟩, ⟨g3, .cells (av 3 (ls [.bool true, .int .u64 (uo (sl (uo (sl 0 16) (cv .u64 (f 0))) 16) (cv .u64 (f 1))), .int .u64 (uo (sl 0 16) (cv .u64 (f 4)))])) 49⟩] u11 := M
 refine pl_put1 M (want_no rfl) rfl 47 _ _ rfl 2 g3 2 (by kernel_rfl) 3 49 (ls [.bool true, .int .u64 (uo (sl (uo (sl 0 16) (cv .u64 (f 0))) 16) (cv .u64 (f 1))), .int .u64 (uo (sl 0 16) (cv .u64 (f 4)))]) rfl (.int .u64 (uo (sl (uo (sl 0 16) (cv .u64 (f 4))) 16) (cv .u64 (f 5)))) (ls [.bool true, .int .u64 (uo (sl (uo (sl 0 16) (cv .u64 (f 0))) 16) (cv .u64 (f 1))), .int .u64 (uo (sl (uo (sl 0 16) (cv .u64 (f 4))) 16) (cv .u64 (f 5)))]) (by kernel_rfl) inz47 (by decide) rfl rfl (put_ls _ 2 _ _ rfl) ?_
 intro u12 M
 replace M : Mem ⟨w, []⟩ [⟨g1, .cells (av 8 (w16 f)) 188⟩, ⟨g2, .cells (av 3 (ls [.bool false, .int .u64 0, .int .u64 0])) 49⟩, ⟨g3, .cells (av 3 (ls [.bool true, .int .u64 (uo (sl (uo (sl 0 16) (cv .u64 (f 0))) 16) (cv .u64 (f 1))), .int .u64 (uo (sl (uo (sl 0 16) (cv .u64 (f 4))) 16) (cv .u64 (f 5)))])) 49⟩] u12 := M
 refine pl_nil ?_
 refine au_block ?_
 refine au_then ?_
 refine rg_lit ?_
 refine pl_val (want_no rfl) (some 28) rfl (.int .i64 2) (fun _ => by kernel_rfl) ?_
 refine pl_val (want_no rfl) (some 6) rfl (.int .i64 2) (fun _ => by kernel_rfl) ?_
 refine pl_nil ?_
 refine au_then ?_
 refine rounds_go ?_
 refine wp_seq ?_
 refine rg_lit ?_
 refine pl_val (want_no rfl) (some 7) rfl (.bool true) (fun _ => by kernel_rfl) ?_
 refine pl_nil ?_
 refine au_then ?_
 refine wp_seq ?_
 refine wp_cond_true (by kernel_rfl) ?_
 refine wp_skip ?_
 refine au_then ?_
 refine wp_seq ?_
 refine wp_block ?_
 refine wp_seq ?_
 refine rg_lit ?_
 refine pl_val (want_no rfl) (some 8) rfl (.int .i64 2) (fun _ => by kernel_rfl) ?_
 refine pl_val (want_no rfl) (some 4) rfl (.int .i64 2) (fun _ => by kernel_rfl) ?_
 refine pl_nil ?_
 refine au_then ?_
 refine wp_seq ?_
 refine rg_tail M 9 (by kernel_rfl) (by kernel_rfl) ?_
 simp only [List.take_succ_cons, List.take_zero]
 refine k_val (want_no rfl) (some 9) rfl (.pointer (some ⟨g3, 1, none⟩)) (fun _ => by kernel_rfl) ?_
 refine k_cell M (want_no rfl) (some 10) rfl 47 _ rfl g3 1 (by kernel_rfl) (.int .u64 (uo (sl (uo (sl 0 16) (cv .u64 (f 0))) 16) (cv .u64 (f 1)))) (fun _ => by kernel_rfl) (fun w M => M.cell 2 rfl (by decide) rfl) ?_
 refine k_val (want_no rfl) (some 11) rfl (.int .u64 (sl (uo (sl (uo (sl 0 16) (cv .u64 (f 0))) 16) (cv .u64 (f 1))) 16)) (fun _ => by kernel_rfl) ?_
 refine k_val (want_no rfl) (some 12) rfl (.int .i64 2) (fun _ => by kernel_rfl) ?_
 refine k_val (want_no rfl) (some 13) rfl (.pointer (some ⟨g1, 2, none⟩)) (fun _ => by kernel_rfl) ?_
 refine k_cell M (want_no rfl) (some 14) rfl 101 _ rfl g1 2 (by kernel_rfl) (.int .u16 (f 2)) (fun _ => by kernel_rfl) (fun w M => M.cell 0 rfl (by decide) rfl) ?_
 refine k_val (want_no rfl) (some 15) rfl (.int .u64 (cv .u64 (f 2))) (fun _ => by kernel_rfl) ?_
 refine k_val (want_no rfl) (some 16) rfl (.int .u64 (uo (sl (uo (sl (uo (sl 0 16) (cv .u64 (f 0))) 16) (cv .u64 (f 1))) 16) (cv .u64 (f 2)))) (fun _ => by kernel_rfl) ?_
 refine k_val (want_no rfl) (some 17) rfl (.pointer (some ⟨g3, 1, none⟩)) (fun _ => by kernel_rfl) ?_
 refine kl_nil ?_
 intro u13 M
 replace M : Mem ⟨w, []⟩ [⟨g1, .cells (av 8 (w16 f)) 188⟩, ⟨g2, .cells (av 3 (ls [.bool false, .int .u64 0, .int .u64 0])) 49⟩, ⟨g3, .cells (av 3 (ls [.bool true, .int .u64 (uo (sl (uo (sl 0 16) (cv .u64 (f 0))) 16) (cv .u64 (f 1))), .int .u64 (uo (sl (uo (sl 0 16) (cv .u64 (f 4))) 16) (cv .u64 (f 5)))])) 49⟩] u13 := M
 refine pl_put1 M (want_no rfl) rfl 47 _ _ rfl 2 g3 1 (by kernel_rfl) 3 49 (ls [.bool true, .int .u64 (uo (sl (uo (sl 0 16) (cv .u64 (f 0))) 16) (cv .u64 (f 1))), .int .u64 (uo (sl (uo (sl 0 16) (cv .u64 (f 4))) 16) (cv .u64 (f 5)))]) rfl (.int .u64 (uo (sl (uo (sl (uo (sl 0 16) (cv .u64 (f 0))) 16) (cv .u64 (f 1))) 16) (cv .u64 (f 2)))) (ls [.bool true, .int .u64 (uo (sl (uo (sl (uo (sl 0 16) (cv .u64 (f 0))) 16) (cv .u64 (f 1))) 16) (cv .u64 (f 2))), .int .u64 (uo (sl (uo (sl 0 16) (cv .u64 (f 4))) 16) (cv .u64 (f 5)))]) (by kernel_rfl) inz47 (by decide) rfl rfl (put_ls _ 1 _ _ rfl) ?_
 intro u14 M
 replace M : Mem ⟨w, []⟩ [⟨g1, .cells (av 8 (w16 f)) 188⟩, ⟨g2, .cells (av 3 (ls [.bool false, .int .u64 0, .int .u64 0])) 49⟩, ⟨g3, .cells (av 3 (ls [.bool true, .int .u64 (uo (sl (uo (sl (uo (sl 0 16) (cv .u64 (f 0))) 16) (cv .u64 (f 1))) 16) (cv .u64 (f 2))), .int .u64 (uo (sl (uo (sl 0 16) (cv .u64 (f 4))) 16) (cv .u64 (f 5)))])) 49⟩] u14 := M
 refine pl_nil ?_
 refine au_then ?_
 refine rg_tail M 10 (by kernel_rfl) (by kernel_rfl) ?_
 simp only [List.take_succ_cons, List.take_zero]
 refine k_val (want_no rfl) (some 18) rfl (.pointer (some ⟨g3, 2, none⟩)) (fun _ => by kernel_rfl) ?_
 refine k_cell M (want_no rfl) (some 19) rfl 47 _ rfl g3 2 (by kernel_rfl) (.int .u64 (uo (sl (uo (sl 0 16) (cv .u64 (f 4))) 16) (cv .u64 (f 5)))) (fun _ => by kernel_rfl) (fun w M => M.cell 2 rfl (by decide) rfl) ?_
 refine k_val (want_no rfl) (some 20) rfl (.int .u64 (sl (uo (sl (uo (sl 0 16) (cv .u64 (f 4))) 16) (cv .u64 (f 5))) 16)) (fun _ => by kernel_rfl) ?_
 refine k_val (want_no rfl) (some 21) rfl (.int .i64 2) (fun _ => by kernel_rfl) ?_
 refine k_val (want_no rfl) (some 22) rfl (.int .i64 6) (fun _ => by kernel_rfl) ?_
 refine k_val (want_no rfl) (some 23) rfl (.pointer (some ⟨g1, 6, none⟩)) (fun _ => by kernel_rfl) ?_
 refine k_cell M (want_no rfl) (some 24) rfl 101 _ rfl g1 6 (by kernel_rfl) (.int .u16 (f 6)) (fun _ => by kernel_rfl) (fun w M => M.cell 0 rfl (by decide) rfl) ?_
 refine k_val (want_no rfl) (some 25) rfl (.int .u64 (cv .u64 (f 6))) (fun _ => by kernel_rfl) ?_
 refine k_val (want_no rfl) (some 26) rfl (.int .u64 (uo (sl (uo (sl (uo (sl 0 16) (cv .u64 (f 4))) 16) (cv .u64 (f 5))) 16) (cv .u64 (f 6)))) (fun _ => by kernel_rfl) ?_
 refine k_val (want_no rfl) (some 27) rfl (.pointer (some ⟨g3, 2, none⟩)) (fun _ => by kernel_rfl) ?_
 refine kl_nil ?_
 intro u15 M
 replace M : Mem ⟨w, []⟩ [⟨g1, .cells (av 8 (w16 f)) 188⟩, ⟨g2, .cells (av 3 (ls [.bool false, .int .u64 0, .int .u64 0])) 49⟩, ⟨g3, .cells (av 3 (ls [.bool true, .int .u64 (uo (sl (uo (sl (uo (sl 0 16) (cv .u64 (f 0))) 16) (cv .u64 (f 1))) 16) (cv .u64 (f 2))), .int .u64 (uo (sl (uo (sl 0 16) (cv .u64 (f 4))) 16) (cv .u64 (f 5)))])) 49⟩] u15 := M
 refine pl_put1 M (want_no rfl) rfl 47 _ _ rfl 2 g3 2 (by kernel_rfl) 3 49 (ls [.bool true, .int .u64 (uo (sl (uo (sl (uo (sl 0 16) (cv .u64 (f 0))) 16) (cv .u64 (f 1))) 16) (cv .u64 (f 2))), .int .u64 (uo (sl (uo (sl 0 16) (cv .u64 (f 4))) 16) (cv .u64 (f 5)))]) rfl (.int .u64 (uo (sl (uo (sl (uo (sl 0 16) (cv .u64 (f 4))) 16) (cv .u64 (f 5))) 16) (cv .u64 (f 6)))) (ls [.bool true, .int .u64 (uo (sl (uo (sl (uo (sl 0 16) (cv .u64 (f 0))) 16) (cv .u64 (f 1))) 16) (cv .u64 (f 2))), .int .u64 (uo (sl (uo (sl (uo (sl 0 16) (cv .u64 (f 4))) 16) (cv .u64 (f 5))) 16) (cv .u64 (f 6)))]) (by kernel_rfl) inz47 (by decide) rfl rfl (put_ls _ 2 _ _ rfl) ?_
 intro u16 M
 replace M : Mem ⟨w, []⟩ [⟨g1, .cells (av 8 (w16 f)) 188⟩, ⟨g2, .cells (av 3 (ls [.bool false, .int .u64 0, .int .u64 0])) 49⟩, ⟨g3, .cells (av 3 (ls [.bool true, .int .u64 (uo (sl (uo (sl (uo (sl 0 16) (cv .u64 (f 0))) 16) (cv .u64 (f 1))) 16) (cv .u64 (f 2))), .int .u64 (uo (sl (uo (sl (uo (sl 0 16) (cv .u64 (f 4))) 16) (cv .u64 (f 5))) 16) (cv .u64 (f 6)))])) 49⟩] u16 := M
 refine pl_nil ?_
 refine au_block ?_
 refine au_then ?_
 refine rg_lit ?_
 refine pl_val (want_no rfl) (some 28) rfl (.int .i64 3) (fun _ => by kernel_rfl) ?_
 refine pl_val (want_no rfl) (some 6) rfl (.int .i64 3) (fun _ => by kernel_rfl) ?_
 refine pl_nil ?_
 refine au_then ?_
 refine rounds_go ?_
 refine wp_seq ?_
 refine rg_lit ?_
 refine pl_val (want_no rfl) (some 7) rfl (.bool true) (fun _ => by kernel_rfl) ?_
 refine pl_nil ?_
 refine au_then ?_
 refine wp_seq ?_
 refine wp_cond_true (by kernel_rfl) ?_
 refine wp_skip ?_
 refine au_then ?_
 refine wp_seq ?_
 refine wp_block ?_
 refine wp_seq ?_
 refine rg_lit ?_
 refine pl_val (want_no rfl) (some 8) rfl (.int .i64 3) (fun _ => by kernel_rfl) ?_
 refine pl_val (want_no rfl) (some 4) rfl (.int .i64 3) (fun _ => by kernel_rfl) ?_
 refine pl_nil ?_
 refine au_then ?_
 refine wp_seq ?_
 refine rg_tail M 9 (by kernel_rfl) (by kernel_rfl) ?_
 simp only [List.take_succ_cons, List.take_zero]
 refine k_val (want_no rfl) (some 9) rfl (.pointer (some ⟨g3, 1, none⟩)) (fun _ => by kernel_rfl) ?_
 refine k_cell M (want_no rfl) (some 10) rfl 47 _ rfl g3 1 (by kernel_rfl) (.int .u64 (uo (sl (uo (sl (uo (sl 0 16) (cv .u64 (f 0))) 16) (cv .u64 (f 1))) 16) (cv .u64 (f 2)))) (fun _ => by kernel_rfl) (fun w M => M.cell 2 rfl (by decide) rfl) ?_
 refine k_val (want_no rfl) (some 11) rfl (.int .u64 (sl (uo (sl (uo (sl (uo (sl 0 16) (cv .u64 (f 0))) 16) (cv .u64 (f 1))) 16) (cv .u64 (f 2))) 16)) (fun _ => by kernel_rfl) ?_
 refine k_val (want_no rfl) (some 12) rfl (.int .i64 3) (fun _ => by kernel_rfl) ?_
 refine k_val (want_no rfl) (some 13) rfl (.pointer (some ⟨g1, 3, none⟩)) (fun _ => by kernel_rfl) ?_
 refine k_cell M (want_no rfl) (some 14) rfl 101 _ rfl g1 3 (by kernel_rfl) (.int .u16 (f 3)) (fun _ => by kernel_rfl) (fun w M => M.cell 0 rfl (by decide) rfl) ?_
 refine k_val (want_no rfl) (some 15) rfl (.int .u64 (cv .u64 (f 3))) (fun _ => by kernel_rfl) ?_
 refine k_val (want_no rfl) (some 16) rfl (.int .u64 (uo (sl (uo (sl (uo (sl (uo (sl 0 16) (cv .u64 (f 0))) 16) (cv .u64 (f 1))) 16) (cv .u64 (f 2))) 16) (cv .u64 (f 3)))) (fun _ => by kernel_rfl) ?_
 refine k_val (want_no rfl) (some 17) rfl (.pointer (some ⟨g3, 1, none⟩)) (fun _ => by kernel_rfl) ?_
 refine kl_nil ?_
 intro u17 M
 replace M : Mem ⟨w, []⟩ [⟨g1, .cells (av 8 (w16 f)) 188⟩, ⟨g2, .cells (av 3 (ls [.bool false, .int .u64 0, .int .u64 0])) 49⟩, ⟨g3, .cells (av 3 (ls [.bool true, .int .u64 (uo (sl (uo (sl (uo (sl 0 16) (cv .u64 (f 0))) 16) (cv .u64 (f 1))) 16) (cv .u64 (f 2))), .int .u64 (uo (sl (uo (sl (uo (sl 0 16) (cv .u64 (f 4))) 16) (cv .u64 (f 5))) 16) (cv .u64 (f 6)))])) 49⟩] u17 := M
 refine pl_put1 M (want_no rfl) rfl 47 _ _ rfl 2 g3 1 (by kernel_rfl) 3 49 (ls [.bool true, .int .u64 (uo (sl (uo (sl (uo (sl 0 16) (cv .u64 (f 0))) 16) (cv .u64 (f 1))) 16) (cv .u64 (f 2))), .int .u64 (uo (sl (uo (sl (uo (sl 0 16) (cv .u64 (f 4))) 16) (cv .u64 (f 5))) 16) (cv .u64 (f 6)))]) rfl (.int .u64 (uo (sl (uo (sl (uo (sl (uo (sl 0 16) (cv .u64 (f 0))) 16) (cv .u64 (f 1))) 16) (cv .u64 (f 2))) 16) (cv .u64 (f 3)))) (ls [.bool true, .int .u64 (uo (sl (uo (sl (uo (sl (uo (sl 0 16) (cv .u64 (f 0))) 16) (cv .u64 (f 1))) 16) (cv .u64 (f 2))) 16) (cv .u64 (f 3))), .int .u64 (uo (sl (uo (sl (uo (sl 0 16) (cv .u64 (f 4))) 16) (cv .u64 (f 5))) 16) (cv .u64 (f 6)))]) (by kernel_rfl) inz47 (by decide) rfl rfl (put_ls _ 1 _ _ rfl) ?_
 intro u18 M
 replace M : Mem ⟨w, []⟩ [⟨g1, .cells (av 8 (w16 f)) 188⟩, ⟨g2, .cells (av 3 (ls [.bool false, .int .u64 0, .int .u64 0])) 49⟩, ⟨g3, .cells (av 3 (ls [.bool true, .int .u64 (uo (sl (uo (sl (uo (sl (uo (sl 0 16) (cv .u64 (f 0))) 16) (cv .u64 (f 1))) 16) (cv .u64 (f 2))) 16) (cv .u64 (f 3))), .int .u64 (uo (sl (uo (sl (uo (sl 0 16) (cv .u64 (f 4))) 16) (cv .u64 (f 5))) 16) (cv .u64 (f 6)))])) 49⟩] u18 := M
 refine pl_nil ?_
 refine au_then ?_
 refine rg_tail M 10 (by kernel_rfl) (by kernel_rfl) ?_
 simp only [List.take_succ_cons, List.take_zero]
 refine k_val (want_no rfl) (some 18) rfl (.pointer (some ⟨g3, 2, none⟩)) (fun _ => by kernel_rfl) ?_
 refine k_cell M (want_no rfl) (some 19) rfl 47 _ rfl g3 2 (by kernel_rfl) (.int .u64 (uo (sl (uo (sl (uo (sl 0 16) (cv .u64 (f 4))) 16) (cv .u64 (f 5))) 16) (cv .u64 (f 6)))) (fun _ => by kernel_rfl) (fun w M => M.cell 2 rfl (by decide) rfl) ?_
 refine k_val (want_no rfl) (some 20) rfl (.int .u64 (sl (uo (sl (uo (sl (uo (sl 0 16) (cv .u64 (f 4))) 16) (cv .u64 (f 5))) 16) (cv .u64 (f 6))) 16)) (fun _ => by kernel_rfl) ?_
 refine k_val (want_no rfl) (some 21) rfl (.int .i64 3) (fun _ => by kernel_rfl) ?_
 refine k_val (want_no rfl) (some 22) rfl (.int .i64 7) (fun _ => by kernel_rfl) ?_
 refine k_val (want_no rfl) (some 23) rfl (.pointer (some ⟨g1, 7, none⟩)) (fun _ => by kernel_rfl) ?_
 refine k_cell M (want_no rfl) (some 24) rfl 101 _ rfl g1 7 (by kernel_rfl) (.int .u16 (f 7)) (fun _ => by kernel_rfl) (fun w M => M.cell 0 rfl (by decide) rfl) ?_
 refine k_val (want_no rfl) (some 25) rfl (.int .u64 (cv .u64 (f 7))) (fun _ => by kernel_rfl) ?_
 refine k_val (want_no rfl) (some 26) rfl (.int .u64 (uo (sl (uo (sl (uo (sl (uo (sl 0 16) (cv .u64 (f 4))) 16) (cv .u64 (f 5))) 16) (cv .u64 (f 6))) 16) (cv .u64 (f 7)))) (fun _ => by kernel_rfl) ?_
 refine k_val (want_no rfl) (some 27) rfl (.pointer (some ⟨g3, 2, none⟩)) (fun _ => by kernel_rfl) ?_
 refine kl_nil ?_
 intro u19 M
 replace M : Mem ⟨w, []⟩ [⟨g1, .cells (av 8 (w16 f)) 188⟩, ⟨g2, .cells (av 3 (ls [.bool false, .int .u64 0, .int .u64 0])) 49⟩, ⟨g3, .cells (av 3 (ls [.bool true, .int .u64 (uo (sl (uo (sl (uo (sl (uo (sl 0 16) (cv .u64 (f 0))) 16) (cv .u64 (f 1))) 16) (cv .u64 (f 2))) 16) (cv .u64 (f 3))), .int .u64 (uo (sl (uo (sl (uo (sl 0 16) (cv .u64 (f 4))) 16) (cv .u64 (f 5))) 16) (cv .u64 (f 6)))])) 49⟩] u19 := M
 refine pl_put1 M (want_no rfl) rfl 47 _ _ rfl 2 g3 2 (by kernel_rfl) 3 49 (ls [.bool true, .int .u64 (uo (sl (uo (sl (uo (sl (uo (sl 0 16) (cv .u64 (f 0))) 16) (cv .u64 (f 1))) 16) (cv .u64 (f 2))) 16) (cv .u64 (f 3))), .int .u64 (uo (sl (uo (sl (uo (sl 0 16) (cv .u64 (f 4))) 16) (cv .u64 (f 5))) 16) (cv .u64 (f 6)))]) rfl (.int .u64 (uo (sl (uo (sl (uo (sl (uo (sl 0 16) (cv .u64 (f 4))) 16) (cv .u64 (f 5))) 16) (cv .u64 (f 6))) 16) (cv .u64 (f 7)))) (ls [.bool true, .int .u64 (uo (sl (uo (sl (uo (sl (uo (sl 0 16) (cv .u64 (f 0))) 16) (cv .u64 (f 1))) 16) (cv .u64 (f 2))) 16) (cv .u64 (f 3))), .int .u64 (uo (sl (uo (sl (uo (sl (uo (sl 0 16) (cv .u64 (f 4))) 16) (cv .u64 (f 5))) 16) (cv .u64 (f 6))) 16) (cv .u64 (f 7)))]) (by kernel_rfl) inz47 (by decide) rfl rfl (put_ls _ 2 _ _ rfl) ?_
 intro u20 M
 replace M : Mem ⟨w, []⟩ [⟨g1, .cells (av 8 (w16 f)) 188⟩, ⟨g2, .cells (av 3 (ls [.bool false, .int .u64 0, .int .u64 0])) 49⟩, ⟨g3, .cells (av 3 (ls [.bool true, .int .u64 (uo (sl (uo (sl (uo (sl (uo (sl 0 16) (cv .u64 (f 0))) 16) (cv .u64 (f 1))) 16) (cv .u64 (f 2))) 16) (cv .u64 (f 3))), .int .u64 (uo (sl (uo (sl (uo (sl (uo (sl 0 16) (cv .u64 (f 4))) 16) (cv .u64 (f 5))) 16) (cv .u64 (f 6))) 16) (cv .u64 (f 7)))])) 49⟩] u20 := M
 refine pl_nil ?_
 refine au_block ?_
 refine au_then ?_
 refine rg_lit ?_
 refine pl_val (want_no rfl) (some 28) rfl (.int .i64 4) (fun _ => by kernel_rfl) ?_
 refine pl_val (want_no rfl) (some 6) rfl (.int .i64 4) (fun _ => by kernel_rfl) ?_
 refine pl_nil ?_
 refine au_then ?_
 refine rounds_go ?_
 refine wp_seq ?_
 refine rg_lit ?_
 refine pl_val (want_no rfl) (some 7) rfl (.bool false) (fun _ => by kernel_rfl) ?_
 refine pl_nil ?_
 refine au_then ?_
 refine wp_seq ?_
 refine wp_cond_false (by kernel_rfl) ?_
 refine wp_exit ?_
 refine au_then_exit ?_
 refine au_then_exit ?_
 refine au_block_exit ?_
 refine au_then ?_
 refine wp_seq ?_
 refine rg_lit ?_
 refine pl_load M (want_no rfl) (some 29) rfl 49 _ rfl 2 g3 0 (by kernel_rfl) 3 49 (ls [.bool true, .int .u64 (uo (sl (uo (sl (uo (sl (uo (sl 0 16) (cv .u64 (f 0))) 16) (cv .u64 (f 1))) 16) (cv .u64 (f 2))) 16) (cv .u64 (f 3))), .int .u64 (uo (sl (uo (sl (uo (sl (uo (sl 0 16) (cv .u64 (f 4))) 16) (cv .u64 (f 5))) 16) (cv .u64 (f 6))) 16) (cv .u64 (f 7)))]) rfl 3 (ls [.bool true, .int .u64 (uo (sl (uo (sl (uo (sl (uo (sl 0 16) (cv .u64 (f 0))) 16) (cv .u64 (f 1))) 16) (cv .u64 (f 2))) 16) (cv .u64 (f 3))), .int .u64 (uo (sl (uo (sl (uo (sl (uo (sl 0 16) (cv .u64 (f 4))) 16) (cv .u64 (f 5))) 16) (cv .u64 (f 6))) 16) (cv .u64 (f 7)))]) (fun j _ => by rw [Nat.zero_add]) (by decide) _ Tryz.underlying49 rfl inz49 ?_
 refine pl_put M (want_no rfl) rfl 49 _ _ rfl 1 g2 0 (by kernel_rfl) 3 49 (ls [.bool false, .int .u64 0, .int .u64 0]) rfl 3 (ls [.bool true, .int .u64 (uo (sl (uo (sl (uo (sl (uo (sl 0 16) (cv .u64 (f 0))) 16) (cv .u64 (f 1))) 16) (cv .u64 (f 2))) 16) (cv .u64 (f 3))), .int .u64 (uo (sl (uo (sl (uo (sl (uo (sl 0 16) (cv .u64 (f 4))) 16) (cv .u64 (f 5))) 16) (cv .u64 (f 6))) 16) (cv .u64 (f 7)))]) (ls [.bool true, .int .u64 (uo (sl (uo (sl (uo (sl (uo (sl 0 16) (cv .u64 (f 0))) 16) (cv .u64 (f 1))) 16) (cv .u64 (f 2))) 16) (cv .u64 (f 3))), .int .u64 (uo (sl (uo (sl (uo (sl (uo (sl 0 16) (cv .u64 (f 4))) 16) (cv .u64 (f 5))) 16) (cv .u64 (f 6))) 16) (cv .u64 (f 7)))]) (by kernel_rfl) inz49 (by decide) (one_ls _ rfl) (fun j hj => by rw [if_pos (by omega), Nat.sub_zero]) ?_
 intro u21 M
 replace M : Mem ⟨w, []⟩ [⟨g1, .cells (av 8 (w16 f)) 188⟩, ⟨g2, .cells (av 3 (ls [.bool true, .int .u64 (uo (sl (uo (sl (uo (sl (uo (sl 0 16) (cv .u64 (f 0))) 16) (cv .u64 (f 1))) 16) (cv .u64 (f 2))) 16) (cv .u64 (f 3))), .int .u64 (uo (sl (uo (sl (uo (sl (uo (sl 0 16) (cv .u64 (f 4))) 16) (cv .u64 (f 5))) 16) (cv .u64 (f 6))) 16) (cv .u64 (f 7)))])) 49⟩, ⟨g3, .cells (av 3 (ls [.bool true, .int .u64 (uo (sl (uo (sl (uo (sl (uo (sl 0 16) (cv .u64 (f 0))) 16) (cv .u64 (f 1))) 16) (cv .u64 (f 2))) 16) (cv .u64 (f 3))), .int .u64 (uo (sl (uo (sl (uo (sl (uo (sl 0 16) (cv .u64 (f 4))) 16) (cv .u64 (f 5))) 16) (cv .u64 (f 6))) 16) (cv .u64 (f 7)))])) 49⟩] u21 := M
 refine pl_nil ?_
 refine au_then ?_
 refine wp_ret ?_
 have e0 : (adH f) = (uo (sl (uo (sl (uo (sl (uo (sl 0 16) (cv .u64 (f 0))) 16) (cv .u64 (f 1))) 16) (cv .u64 (f 2))) 16) (cv .u64 (f 3))) := rfl
 have e1 : (adL f) = (uo (sl (uo (sl (uo (sl (uo (sl 0 16) (cv .u64 (f 4))) 16) (cv .u64 (f 5))) 16) (cv .u64 (f 6))) 16) (cv .u64 (f 7))) := rfl
 exact bodyPost_ret (v := .agg (av 3 (ls [.bool true, .int .u64 (uo (sl (uo (sl (uo (sl (uo (sl 0 16) (cv .u64 (f 0))) 16) (cv .u64 (f 1))) 16) (cv .u64 (f 2))) 16) (cv .u64 (f 3))), .int .u64 (uo (sl (uo (sl (uo (sl (uo (sl 0 16) (cv .u64 (f 4))) 16) (cv .u64 (f 5))) 16) (cv .u64 (f 6))) 16) (cv .u64 (f 7)))]))) (results_cell_row Tryz.results219 _ _ g2 49 (av 3 (ls [.bool true, .int .u64 (uo (sl (uo (sl (uo (sl (uo (sl 0 16) (cv .u64 (f 0))) 16) (cv .u64 (f 1))) 16) (cv .u64 (f 2))) 16) (cv .u64 (f 3))), .int .u64 (uo (sl (uo (sl (uo (sl (uo (sl 0 16) (cv .u64 (f 4))) 16) (cv .u64 (f 5))) 16) (cv .u64 (f 6))) 16) (cv .u64 (f 7)))])) (0, 0) _ (by kernel_rfl) (M.get 1 rfl) Tryz.underlying49 rfl (by rw [av_size]; exact inz49)) (by kernel_rfl) ⟨by rw [e0, e1], below_grown M.old⟩
def uN (f : Nat → Int) (j : Nat) (x : Int × Int × Int) : Int × Int × Int := if max (x.2.2 - x.2.1) 1 < (j : Int) + 1 - (if f j = 0 then x.1 else (j : Int) + 1) then ((if f j = 0 then x.1 else (j : Int) + 1), (if f j = 0 then x.1 else (j : Int) + 1), (j : Int) + 1) else ((if f j = 0 then x.1 else (j : Int) + 1), x.2.1, x.2.2)
def uS (f : Nat → Int) : Nat → Int × Int × Int
 | 0 => (0, 0, 0)
 | j + 1 => uN f j (uS f j)
theorem uS_nn (f : Nat → Int) (j : Nat) : 0 ≤ (uS f j).1 ∧ (uS f j).1 ≤ j ∧ 0 ≤ (uS f j).2.1 ∧ (uS f j).2.1 ≤ (uS f j).2.2 ∧ (uS f j).2.2 ≤ j := by
 induction j with
 | zero =>
  show (0 : Int) ≤ 0 ∧ (0 : Int) ≤ ((0 : Nat) : Int) ∧ (0 : Int) ≤ 0 ∧ (0 : Int) ≤ 0 ∧ (0 : Int) ≤ ((0 : Nat) : Int)
  decide
 | succ j ih =>
  show 0 ≤ (uN f j (uS f j)).1 ∧ (uN f j (uS f j)).1 ≤ ((j + 1 : Nat) : Int) ∧ 0 ≤ (uN f j (uS f j)).2.1 ∧ (uN f j (uS f j)).2.1 ≤ (uN f j (uS f j)).2.2 ∧ (uN f j (uS f j)).2.2 ≤ ((j + 1 : Nat) : Int)
  unfold uN
  by_cases h : f j = 0
  ·rw [if_pos h]
   split <;> simp only <;> omega
  ·rw [if_neg h]
   split <;> simp only <;> omega
set_option maxRecDepth 100000 in
set_option maxHeartbeats 4000000 in
set_option linter.unusedSimpArgs false in
theorem c_untold (f : Nat → Int) (w : World) (hL : Laid w)  :
  Calls Tryz.prog 156 #[.agg (av 8 (w16 f))] w fun r w' => r = .returned (.tuple #[.int .i64 (uS f 8).2.1, .int .i64 (uS f 8).2.2]) ∧ Below w.heap.size w w' := by
 go_enter Tryz.func156, Tryz.ntmps156
 have M := Mem.start hL
 refine wp_seq ?_
 refine rg_lit ?_
 refine pl_new M (want_no rfl) (some 1) rfl (.cells (av 8 (w16 f)) 188) (fun _ => by kernel_rfl) ?_
 intro g1 u1 M
 replace M : Mem ⟨w, []⟩ [⟨g1, .cells (av 8 (w16 f)) 188⟩] u1 := M
 refine pl_val (want_no rfl) (some 2) rfl (.int .i64 0) (fun _ => by kernel_rfl) ?_
 refine pl_val (want_no rfl) (some 3) rfl (.int .i64 0) (fun _ => by kernel_rfl) ?_
 refine pl_nil ?_
 refine au_then ?_
 refine wp_seq ?_
 refine rg_lit ?_
 refine pl_val (want_no rfl) (some 4) rfl (.int .i64 0) (fun _ => by kernel_rfl) ?_
 refine pl_nil ?_
 refine au_then ?_
 refine wp_seq ?_
 refine wp_seq ?_
 refine rg_lit ?_
 refine pl_load M (want_no rfl) (some 7) rfl 188 _ rfl 0 g1 0 (by kernel_rfl) 8 188 (w16 f) rfl 8 (w16 f) (fun j _ => by rw [Nat.zero_add]) (by decide) _ Tryz.underlying188 rfl inz188 ?_
 refine pl_val (want_no rfl) (some 8) rfl (.int .i64 0) (fun _ => by kernel_rfl) ?_
 refine pl_nil ?_
 refine au_then ?_
 refine wp_block ?_
 refine au_loop (fun j a w' => ∃ v1 : Nat → Value, a = ⟨#[.agg (av 8 (w16 f)), .pointer (some ⟨g1, 0, none⟩), .int .i64 (uS f j).2.1, .int .i64 (uS f j).2.2, .int .i64 (uS f j).1, v1 5, v1 6, .agg (av 8 (w16 f)), .int .i64 (j : Int), v1 9, v1 10, v1 11, v1 12, v1 13, v1 14, v1 15, v1 16, v1 17, v1 18, v1 19, v1 20, v1 21, v1 22, v1 23, v1 24, v1 25, v1 26, v1 27, v1 28, undef, undef], []⟩ ∧ Mem ⟨w, []⟩ [⟨g1, .cells (av 8 (w16 f)) 188⟩] w') 8 ⟨fun k_ => ([undef, undef, undef, undef, undef, undef, undef, undef, undef, undef, undef, undef, undef, undef, undef, undef, undef, undef, undef, undef, undef, undef, undef, undef] : List Value).getD (k_ - 5) undef, by kernel_rfl, M⟩ ?_ ?_
 ·intro j a u0 hj hI
  obtain ⟨v1, rfl, M⟩ := hI
  have hu := uS_nn f j
  refine wp_seq ?_
  refine rg_lit ?_
  refine pl_val (want_no rfl) (some 9) rfl (.bool true) (fun w => Eq.trans (b := .ok (.value (.bool (decide ((j : Int) < 8)))) w) (by kernel_rfl) (by rw [decide_eq_true (by omega)])) ?_
  refine pl_nil ?_
  refine au_then ?_
  refine wp_seq ?_
  refine wp_cond_true (by kernel_rfl) ?_
  refine wp_skip ?_
  refine au_then ?_
  refine wp_seq ?_
  refine wp_block ?_
  refine wp_seq ?_
  refine rg_lit ?_
  refine pl_val (want_no rfl) (some 10) rfl (.int .i64 (j : Int)) (fun _ => by kernel_rfl) ?_
  refine pl_val (want_no rfl) (some 11) rfl (.int .u16 (f j)) (run_ixA 188 8 101 Tryz.underlying188 inz101 (fun _ => by kernel_rfl) _ _ rfl (w16 f) (by kernel_rfl) .i64 j (by kernel_rfl) (by omega) rfl) ?_
  refine pl_val (want_no rfl) (some 5) rfl (.int .i64 (j : Int)) (fun _ => by kernel_rfl) ?_
  refine pl_val (want_no rfl) (some 6) rfl (.int .u16 (f j)) (fun _ => by kernel_rfl) ?_
  refine pl_nil ?_
  refine au_then ?_
  refine wp_seq ?_
  refine wp_seq ?_
  refine rg_lit ?_
  refine pl_val (want_no rfl) (some 12) rfl (.int .u16 (f j)) (fun _ => by kernel_rfl) ?_
  by_cases c0 : (f j) = 0
  ·skip
   refine pl_val (want_no rfl) (some 13) rfl (.bool false) (fun w => Eq.trans (b := .ok (.value (.bool (!(decide ((f j) = 0))))) w) (by kernel_rfl) (by rw [decide_eq_true (c0)]; rfl)) ?_
   refine pl_nil ?_
   refine au_then ?_
   refine wp_cond_false (by kernel_rfl) ?_
   refine wp_skip ?_
   refine au_then ?_
   refine wp_seq ?_
   refine rg_lit ?_
   refine pl_val (want_no rfl) (some 16) rfl (.int .i64 (j : Int)) (fun _ => by kernel_rfl) ?_
   refine pl_val (want_no rfl) (some 17) rfl (.int .i64 ((j : Int) + 1)) (fun w => Eq.trans (b := .ok (.value (.int .i64 (IntKind.wrap .i64 ((j : Int) + 1)))) w) (by kernel_rfl) (by rw [wrap64 (by omega) (by omega)])) ?_
   refine pl_val (want_no rfl) (some 18) rfl (.int .i64 (uS f j).1) (fun _ => by kernel_rfl) ?_
   refine pl_val (want_no rfl) (some 19) rfl (.int .i64 (((j : Int) + 1) - ((uS f j).1))) (fun w => Eq.trans (b := .ok (.value (.int .i64 (IntKind.wrap .i64 (((j : Int) + 1) - ((uS f j).1))))) w) (by kernel_rfl) (by rw [wrap64 (by omega) (by omega)])) ?_
   refine pl_val (want_no rfl) (some 20) rfl (.int .i64 (uS f j).2.2) (fun _ => by kernel_rfl) ?_
   refine pl_val (want_no rfl) (some 21) rfl (.int .i64 (uS f j).2.1) (fun _ => by kernel_rfl) ?_
   refine pl_val (want_no rfl) (some 22) rfl (.int .i64 (((uS f j).2.2) - ((uS f j).2.1))) (fun w => Eq.trans (b := .ok (.value (.int .i64 (IntKind.wrap .i64 (((uS f j).2.2) - ((uS f j).2.1))))) w) (by kernel_rfl) (by rw [wrap64 (by omega) (by omega)])) ?_
   refine pl_val (want_no rfl) (some 23) rfl (.int .i64 (max (((uS f j).2.2) - ((uS f j).2.1)) 1)) (fun w => Eq.trans (b := .ok (.value (.int .i64 (if (1 : Int) > (((uS f j).2.2) - ((uS f j).2.1)) then 1 else (((uS f j).2.2) - ((uS f j).2.1))))) w) (by kernel_rfl) (by rw [if_max])) ?_
   by_cases c1 : (max (((uS f j).2.2) - ((uS f j).2.1)) 1) < (((j : Int) + 1) - ((uS f j).1))
   ·skip
    refine pl_val (want_no rfl) (some 24) rfl (.bool true) (fun w => Eq.trans (b := .ok (.value (.bool (decide ((max (((uS f j).2.2) - ((uS f j).2.1)) 1) < (((j : Int) + 1) - ((uS f j).1)))))) w) (by kernel_rfl) (by rw [decide_eq_true (c1)])) ?_
    refine pl_nil ?_
    refine au_then ?_
    refine wp_cond_true (by kernel_rfl) ?_
    refine rg_lit ?_
    refine pl_val (want_no rfl) (some 25) rfl (.int .i64 (uS f j).1) (fun _ => by kernel_rfl) ?_
    refine pl_val (want_no rfl) (some 26) rfl (.int .i64 (j : Int)) (fun _ => by kernel_rfl) ?_
    refine pl_val (want_no rfl) (some 27) rfl (.int .i64 ((j : Int) + 1)) (fun w => Eq.trans (b := .ok (.value (.int .i64 (IntKind.wrap .i64 ((j : Int) + 1)))) w) (by kernel_rfl) (by rw [wrap64 (by omega) (by omega)])) ?_
    refine pl_val (want_no rfl) (some 2) rfl (.int .i64 (uS f j).1) (fun _ => by kernel_rfl) ?_
    refine pl_val (want_no rfl) (some 3) rfl (.int .i64 ((j : Int) + 1)) (fun _ => by kernel_rfl) ?_
    refine pl_nil ?_
    refine au_block ?_
    refine au_then ?_
    refine rg_lit ?_
    refine pl_val (want_no rfl) (some 28) rfl (.int .i64 ((j + 1 : Nat) : Int)) (fun w => Eq.trans (b := .ok (.value (.int .i64 (IntKind.wrap .i64 ((j : Int) + 1)))) w) (by kernel_rfl) (by rw [wrap64 (by omega) (by omega)]; congr 3)) ?_
    refine pl_val (want_no rfl) (some 8) rfl (.int .i64 ((j + 1 : Nat) : Int)) (fun _ => by kernel_rfl) ?_
    refine pl_nil ?_
    refine au_then ?_
    have hU : uS f (j + 1) = ((uS f j).1, (uS f j).1, ((j : Int) + 1)) := by show uN f j (uS f j) = _; unfold uN; rw [if_pos c0, if_pos c1]
    exact ⟨fun k_ => ([.int .i64 (j : Int), .int .u16 (f j), undef, undef, .bool true, .int .i64 (j : Int), .int .u16 (f j), .int .u16 (f j), .bool false, v1 14, v1 15, .int .i64 (j : Int), .int .i64 ((j : Int) + 1), .int .i64 (uS f j).1, .int .i64 (((j : Int) + 1) - ((uS f j).1)), .int .i64 (uS f j).2.2, .int .i64 (uS f j).2.1, .int .i64 (((uS f j).2.2) - ((uS f j).2.1)), .int .i64 (max (((uS f j).2.2) - ((uS f j).2.1)) 1), .bool true, .int .i64 (uS f j).1, .int .i64 (j : Int), .int .i64 ((j : Int) + 1), .int .i64 ((j + 1 : Nat) : Int)] : List Value).getD (k_ - 5) undef, by rw [hU]; kernel_rfl, M⟩
   ·skip
    refine pl_val (want_no rfl) (some 24) rfl (.bool false) (fun w => Eq.trans (b := .ok (.value (.bool (decide ((max (((uS f j).2.2) - ((uS f j).2.1)) 1) < (((j : Int) + 1) - ((uS f j).1)))))) w) (by kernel_rfl) (by rw [decide_eq_false (c1)])) ?_
    refine pl_nil ?_
    refine au_then ?_
    refine wp_cond_false (by kernel_rfl) ?_
    refine wp_skip ?_
    refine au_block ?_
    refine au_then ?_
    refine rg_lit ?_
    refine pl_val (want_no rfl) (some 28) rfl (.int .i64 ((j + 1 : Nat) : Int)) (fun w => Eq.trans (b := .ok (.value (.int .i64 (IntKind.wrap .i64 ((j : Int) + 1)))) w) (by kernel_rfl) (by rw [wrap64 (by omega) (by omega)]; congr 3)) ?_
    refine pl_val (want_no rfl) (some 8) rfl (.int .i64 ((j + 1 : Nat) : Int)) (fun _ => by kernel_rfl) ?_
    refine pl_nil ?_
    refine au_then ?_
    have hU : uS f (j + 1) = ((uS f j).1, (uS f j).2.1, (uS f j).2.2) := by show uN f j (uS f j) = _; unfold uN; rw [if_pos c0, if_neg c1]
    exact ⟨fun k_ => ([.int .i64 (j : Int), .int .u16 (f j), undef, undef, .bool true, .int .i64 (j : Int), .int .u16 (f j), .int .u16 (f j), .bool false, v1 14, v1 15, .int .i64 (j : Int), .int .i64 ((j : Int) + 1), .int .i64 (uS f j).1, .int .i64 (((j : Int) + 1) - ((uS f j).1)), .int .i64 (uS f j).2.2, .int .i64 (uS f j).2.1, .int .i64 (((uS f j).2.2) - ((uS f j).2.1)), .int .i64 (max (((uS f j).2.2) - ((uS f j).2.1)) 1), .bool false, v1 25, v1 26, v1 27, .int .i64 ((j + 1 : Nat) : Int)] : List Value).getD (k_ - 5) undef, by rw [hU]; kernel_rfl, M⟩
  ·skip
   refine pl_val (want_no rfl) (some 13) rfl (.bool true) (fun w => Eq.trans (b := .ok (.value (.bool (!(decide ((f j) = 0))))) w) (by kernel_rfl) (by rw [decide_eq_false (c0)]; rfl)) ?_
   refine pl_nil ?_
   refine au_then ?_
   refine wp_cond_true (by kernel_rfl) ?_
   refine rg_lit ?_
   refine pl_val (want_no rfl) (some 14) rfl (.int .i64 (j : Int)) (fun _ => by kernel_rfl) ?_
   refine pl_val (want_no rfl) (some 15) rfl (.int .i64 ((j : Int) + 1)) (fun w => Eq.trans (b := .ok (.value (.int .i64 (IntKind.wrap .i64 ((j : Int) + 1)))) w) (by kernel_rfl) (by rw [wrap64 (by omega) (by omega)])) ?_
   refine pl_val (want_no rfl) (some 4) rfl (.int .i64 ((j : Int) + 1)) (fun _ => by kernel_rfl) ?_
   refine pl_nil ?_
   refine au_then ?_
   refine wp_seq ?_
   refine rg_lit ?_
   refine pl_val (want_no rfl) (some 16) rfl (.int .i64 (j : Int)) (fun _ => by kernel_rfl) ?_
   refine pl_val (want_no rfl) (some 17) rfl (.int .i64 ((j : Int) + 1)) (fun w => Eq.trans (b := .ok (.value (.int .i64 (IntKind.wrap .i64 ((j : Int) + 1)))) w) (by kernel_rfl) (by rw [wrap64 (by omega) (by omega)])) ?_
   refine pl_val (want_no rfl) (some 18) rfl (.int .i64 ((j : Int) + 1)) (fun _ => by kernel_rfl) ?_
   refine pl_val (want_no rfl) (some 19) rfl (.int .i64 (((j : Int) + 1) - ((j : Int) + 1))) (fun w => Eq.trans (b := .ok (.value (.int .i64 (IntKind.wrap .i64 (((j : Int) + 1) - ((j : Int) + 1))))) w) (by kernel_rfl) (by rw [wrap64 (by omega) (by omega)])) ?_
   refine pl_val (want_no rfl) (some 20) rfl (.int .i64 (uS f j).2.2) (fun _ => by kernel_rfl) ?_
   refine pl_val (want_no rfl) (some 21) rfl (.int .i64 (uS f j).2.1) (fun _ => by kernel_rfl) ?_
   refine pl_val (want_no rfl) (some 22) rfl (.int .i64 (((uS f j).2.2) - ((uS f j).2.1))) (fun w => Eq.trans (b := .ok (.value (.int .i64 (IntKind.wrap .i64 (((uS f j).2.2) - ((uS f j).2.1))))) w) (by kernel_rfl) (by rw [wrap64 (by omega) (by omega)])) ?_
   refine pl_val (want_no rfl) (some 23) rfl (.int .i64 (max (((uS f j).2.2) - ((uS f j).2.1)) 1)) (fun w => Eq.trans (b := .ok (.value (.int .i64 (if (1 : Int) > (((uS f j).2.2) - ((uS f j).2.1)) then 1 else (((uS f j).2.2) - ((uS f j).2.1))))) w) (by kernel_rfl) (by rw [if_max])) ?_
   by_cases c1 : (max (((uS f j).2.2) - ((uS f j).2.1)) 1) < (((j : Int) + 1) - ((j : Int) + 1))
   ·skip
    refine pl_val (want_no rfl) (some 24) rfl (.bool true) (fun w => Eq.trans (b := .ok (.value (.bool (decide ((max (((uS f j).2.2) - ((uS f j).2.1)) 1) < (((j : Int) + 1) - ((j : Int) + 1)))))) w) (by kernel_rfl) (by rw [decide_eq_true (c1)])) ?_
    refine pl_nil ?_
    refine au_then ?_
    refine wp_cond_true (by kernel_rfl) ?_
    refine rg_lit ?_
    refine pl_val (want_no rfl) (some 25) rfl (.int .i64 ((j : Int) + 1)) (fun _ => by kernel_rfl) ?_
    refine pl_val (want_no rfl) (some 26) rfl (.int .i64 (j : Int)) (fun _ => by kernel_rfl) ?_
    refine pl_val (want_no rfl) (some 27) rfl (.int .i64 ((j : Int) + 1)) (fun w => Eq.trans (b := .ok (.value (.int .i64 (IntKind.wrap .i64 ((j : Int) + 1)))) w) (by kernel_rfl) (by rw [wrap64 (by omega) (by omega)])) ?_
    refine pl_val (want_no rfl) (some 2) rfl (.int .i64 ((j : Int) + 1)) (fun _ => by kernel_rfl) ?_
    refine pl_val (want_no rfl) (some 3) rfl (.int .i64 ((j : Int) + 1)) (fun _ => by kernel_rfl) ?_
    refine pl_nil ?_
    refine au_block ?_
    refine au_then ?_
    refine rg_lit ?_
    refine pl_val (want_no rfl) (some 28) rfl (.int .i64 ((j + 1 : Nat) : Int)) (fun w => Eq.trans (b := .ok (.value (.int .i64 (IntKind.wrap .i64 ((j : Int) + 1)))) w) (by kernel_rfl) (by rw [wrap64 (by omega) (by omega)]; congr 3)) ?_
    refine pl_val (want_no rfl) (some 8) rfl (.int .i64 ((j + 1 : Nat) : Int)) (fun _ => by kernel_rfl) ?_
    refine pl_nil ?_
    refine au_then ?_
    have hU : uS f (j + 1) = (((j : Int) + 1), ((j : Int) + 1), ((j : Int) + 1)) := by show uN f j (uS f j) = _; unfold uN; rw [if_neg c0, if_pos c1]
    exact ⟨fun k_ => ([.int .i64 (j : Int), .int .u16 (f j), undef, undef, .bool true, .int .i64 (j : Int), .int .u16 (f j), .int .u16 (f j), .bool true, .int .i64 (j : Int), .int .i64 ((j : Int) + 1), .int .i64 (j : Int), .int .i64 ((j : Int) + 1), .int .i64 ((j : Int) + 1), .int .i64 (((j : Int) + 1) - ((j : Int) + 1)), .int .i64 (uS f j).2.2, .int .i64 (uS f j).2.1, .int .i64 (((uS f j).2.2) - ((uS f j).2.1)), .int .i64 (max (((uS f j).2.2) - ((uS f j).2.1)) 1), .bool true, .int .i64 ((j : Int) + 1), .int .i64 (j : Int), .int .i64 ((j : Int) + 1), .int .i64 ((j + 1 : Nat) : Int)] : List Value).getD (k_ - 5) undef, by rw [hU]; kernel_rfl, M⟩
   ·skip
    refine pl_val (want_no rfl) (some 24) rfl (.bool false) (fun w => Eq.trans (b := .ok (.value (.bool (decide ((max (((uS f j).2.2) - ((uS f j).2.1)) 1) < (((j : Int) + 1) - ((j : Int) + 1)))))) w) (by kernel_rfl) (by rw [decide_eq_false (c1)])) ?_
    refine pl_nil ?_
    refine au_then ?_
    refine wp_cond_false (by kernel_rfl) ?_
    refine wp_skip ?_
    refine au_block ?_
    refine au_then ?_
    refine rg_lit ?_
    refine pl_val (want_no rfl) (some 28) rfl (.int .i64 ((j + 1 : Nat) : Int)) (fun w => Eq.trans (b := .ok (.value (.int .i64 (IntKind.wrap .i64 ((j : Int) + 1)))) w) (by kernel_rfl) (by rw [wrap64 (by omega) (by omega)]; congr 3)) ?_
    refine pl_val (want_no rfl) (some 8) rfl (.int .i64 ((j + 1 : Nat) : Int)) (fun _ => by kernel_rfl) ?_
    refine pl_nil ?_
    refine au_then ?_
    have hU : uS f (j + 1) = (((j : Int) + 1), (uS f j).2.1, (uS f j).2.2) := by show uN f j (uS f j) = _; unfold uN; rw [if_neg c0, if_neg c1]
    exact ⟨fun k_ => ([.int .i64 (j : Int), .int .u16 (f j), undef, undef, .bool true, .int .i64 (j : Int), .int .u16 (f j), .int .u16 (f j), .bool true, .int .i64 (j : Int), .int .i64 ((j : Int) + 1), .int .i64 (j : Int), .int .i64 ((j : Int) + 1), .int .i64 ((j : Int) + 1), .int .i64 (((j : Int) + 1) - ((j : Int) + 1)), .int .i64 (uS f j).2.2, .int .i64 (uS f j).2.1, .int .i64 (((uS f j).2.2) - ((uS f j).2.1)), .int .i64 (max (((uS f j).2.2) - ((uS f j).2.1)) 1), .bool false, v1 25, v1 26, v1 27, .int .i64 ((j + 1 : Nat) : Int)] : List Value).getD (k_ - 5) undef, by rw [hU]; kernel_rfl, M⟩
 ·intro a u0 hI
  obtain ⟨v1, rfl, M⟩ := hI
  refine wp_seq ?_
  refine rg_lit ?_
  refine pl_val (want_no rfl) (some 9) rfl (.bool false) (fun w => Eq.trans (b := .ok (.value (.bool (decide ((8 : Int) < 8)))) w) (by kernel_rfl) (by rw [decide_eq_false (by omega)])) ?_
  refine pl_nil ?_
  refine au_then ?_
  refine wp_seq ?_
  refine wp_cond_false (by kernel_rfl) ?_
  refine wp_exit ?_
  refine au_then_exit ?_
  refine au_then_exit ?_
  refine au_block_exit ?_
  refine au_then ?_
  refine wp_seq ?_
  refine rg_lit ?_
  refine pl_val (want_no rfl) (some 29) rfl (.int .i64 (uS f 8).2.1) (fun _ => by kernel_rfl) ?_
  refine pl_val (want_no rfl) (some 30) rfl (.int .i64 (uS f 8).2.2) (fun _ => by kernel_rfl) ?_
  refine pl_val (want_no rfl) (some 2) rfl (.int .i64 (uS f 8).2.1) (fun _ => by kernel_rfl) ?_
  refine pl_val (want_no rfl) (some 3) rfl (.int .i64 (uS f 8).2.2) (fun _ => by kernel_rfl) ?_
  refine pl_nil ?_
  refine au_then ?_
  refine wp_ret ?_
  exact bodyPost_ret (v := .tuple #[.int .i64 (uS f 8).2.1, .int .i64 (uS f 8).2.2]) (results_tmp2 Tryz.results156 _ _ _ _ (by kernel_rfl) (by kernel_rfl)) (by kernel_rfl) ⟨rfl, below_grown M.old⟩
def ws16 (f : Nat → Int) (n : Nat) : List ByteArray := (List.range n).map fun i => hxT (f i).toNat
def ws10 (f : Nat → Int) (n : Nat) : List ByteArray := (List.range n).map fun i => dcT (((f i).toNat : Nat) : Int)
theorem ws16_len (f : Nat → Int) (n : Nat) : (ws16 f n).length = n := by simp [ws16]
theorem ws10_len (f : Nat → Int) (n : Nat) : (ws10 f n).length = n := by simp [ws10]
theorem vS_len (l : List ByteArray) : (vS l).length = l.length := by simp [vS]
theorem ws16_step (f : Nat → Int) (j : Nat) : vS (ws16 f (j + 1)) = vS (ws16 f j) ++ [.string (hxT (f j).toNat)] := by simp [vS, ws16, List.range_succ]
theorem ws10_step (f : Nat → Int) (j : Nat) : vS (ws10 f (j + 1)) = vS (ws10 f j) ++ [.string (dcT (((f j).toNat : Nat) : Int))] := by simp [vS, ws10, List.range_succ]
theorem join_le (m : Nat) (sep : List UInt8) (xs : List (List UInt8)) (h : ∀ x ∈ xs, x.length ≤ m) : (Lib.join xs sep).length ≤ xs.length * (m + sep.length) := by
 cases xs with
 | nil => simp [Lib.join]
 | cons x r =>
  rw [Lib.join_length]
  have e : ∀ l : List (List UInt8), (∀ y ∈ l, y.length ≤ m) → Lib.lens l ≤ l.length * m := fun l hl => by
   induction l with
   | nil => simp [Lib.lens]
   | cons a l ih =>
    have h1 := hl a (List.mem_cons_self ..)
    have h2 := ih fun y hy => hl y (List.mem_cons_of_mem _ hy)
    simp only [Lib.lens, List.map_cons, List.sum_cons, List.length_cons] at h2 ⊢
    rw [Nat.add_mul, Nat.one_mul]
    omega
  have h3 := e (x :: r) h
  have h4 : (r.length + 1) * (m + sep.length) = (r.length + 1) * m + (r.length * sep.length + sep.length) := by rw [Nat.mul_add, Nat.add_mul r.length 1 sep.length, Nat.one_mul]
  have h5 := Nat.mul_comm sep.length r.length
  rw [List.length_cons] at h3 ⊢
  omega
theorem c_JoinN (g cap n : Nat) (Z : Obj) (xs : List ByteArray) (sep : ByteArray) (hx : xs.length = n) (hN : n ≤ 1000) (hlen : (Lib.join (xs.map (·.data.toList)) sep.data.toList).length ≤ 100000) (w : World) (hg : w.heap[g]? = some Z) (hs : SB Z cap (vS xs)) :
  Calls Tryz.prog 44 #[.slice (some ⟨g, 0, none⟩) n cap, .string sep] w fun r w' => r = .returned (.string (jn xs sep)) ∧ Below w.heap.size w w' := by
 subst hx
 exact c_Join g cap Z xs sep hN hlen w hg hs
theorem hxT_size (n : Nat) : (hxT n).size ≤ 4 := by
 unfold hxT
 split
 ·rw [bs_size]; exact Nat.le_of_ble_eq_true rfl
 ·split
  ·rw [bs_size]; exact Nat.le_of_ble_eq_true rfl
  ·split <;> (rw [bs_size]; exact Nat.le_of_ble_eq_true rfl)
theorem dcT_size (x : Int) : (dcT x).size ≤ 3 := by
 unfold dcT
 split
 ·rw [bs_size]; exact Nat.le_of_ble_eq_true rfl
 ·split <;> (rw [bs_size]; exact Nat.le_of_ble_eq_true rfl)
theorem ws16_join (f : Nat → Int) (n : Nat) (hn : n ≤ 8) (sep : ByteArray) (hs : sep.size ≤ 4) : (Lib.join ((ws16 f n).map (·.data.toList)) sep.data.toList).length ≤ 100 := by
 have := join_le 4 sep.data.toList ((ws16 f n).map (·.data.toList)) (fun x hx => by
  obtain ⟨y, hy, rfl⟩ := List.mem_map.1 hx
  obtain ⟨i, _, rfl⟩ := List.mem_map.1 hy
  exact hxT_size _)
 rw [List.length_map, ws16_len] at this
 have e : sep.data.toList.length = sep.size := rfl
 rw [e] at this
 have h2 : n * (4 + sep.size) ≤ 8 * 8 := Nat.mul_le_mul hn (by omega)
 omega
theorem ws10_join (f : Nat → Int) (n : Nat) (hn : n ≤ 8) (sep : ByteArray) (hs : sep.size ≤ 4) : (Lib.join ((ws10 f n).map (·.data.toList)) sep.data.toList).length ≤ 100 := by
 have := join_le 4 sep.data.toList ((ws10 f n).map (·.data.toList)) (fun x hx => by
  obtain ⟨y, hy, rfl⟩ := List.mem_map.1 hx
  obtain ⟨i, _, rfl⟩ := List.mem_map.1 hy
  have := dcT_size (((f i).toNat : Nat) : Int)
  show (dcT _).size ≤ 4
  omega)
 rw [List.length_map, ws10_len] at this
 have e : sep.data.toList.length = sep.size := rfl
 rw [e] at this
 have h2 : n * (4 + sep.size) ≤ 8 * 8 := Nat.mul_le_mul hn (by omega)
 omega
set_option maxRecDepth 100000 in
set_option maxHeartbeats 4000000 in
set_option linter.unusedSimpArgs false in
theorem c_joined16 (g o n cap : Nat) (f : Nat → Int) (sep : ByteArray) (hn : n ≤ 8) (hs : sep.size ≤ 4) (hf : ∀ i, 0 ≤ f i ∧ f i < 65536) (w : World) (hL : Laid w) (hc : ∀ i, i < n → w.cell? ⟨g, o + i, none⟩ = some (.int .u16 (f i))) :
  Calls Tryz.prog 157 #[.slice (some ⟨g, o, none⟩) n cap, .string sep, .int .i64 16] w fun r w' => r = .returned (.string (jn (ws16 f n) sep)) ∧ Below w.heap.size w w' := by
 go_enter Tryz.func157, Tryz.ntmps157
 have M := Mem.start hL
 refine wp_seq ?_
 refine rg_lit ?_
 refine pl_val (want_no rfl) (some 6) rfl (.string ⟨#[]⟩) (fun _ => by kernel_rfl) ?_
 refine pl_nil ?_
 refine au_then ?_
 refine wp_seq ?_
 refine rg_lit ?_
 refine pl_val (want_no rfl) (some 10) rfl (.slice (some ⟨g, o, none⟩) n cap) (fun _ => by kernel_rfl) ?_
 refine pl_val (want_no rfl) (some 11) rfl (.int .i64 (n : Int)) (fun _ => by kernel_rfl) ?_
 refine pl_makeI M (want_no rfl) (some 12) rfl 44 9 (.string ⟨#[]⟩) Tryz.underlying44 info9 _ _ rfl .i64 .i64 (by kernel_rfl) n (by kernel_rfl) (by omega) ?_
 intro g8 Z8 u1 hZ8 M
 replace M : Mem ⟨w, []⟩ [⟨g8, Z8⟩] u1 := M
 refine pl_val (want_no rfl) (some 7) rfl (.slice (some ⟨g8, 0, none⟩) 0 n) (fun _ => by kernel_rfl) ?_
 refine pl_nil ?_
 refine au_then ?_
 refine wp_seq ?_
 refine wp_seq ?_
 refine rg_lit ?_
 refine pl_val (want_no rfl) (some 13) rfl (.slice (some ⟨g, o, none⟩) n cap) (fun _ => by kernel_rfl) ?_
 refine pl_val (want_no rfl) (some 14) rfl (.int .i64 (n : Int)) (fun _ => by kernel_rfl) ?_
 refine pl_val (want_no rfl) (some 15) rfl (.int .i64 0) (fun _ => by kernel_rfl) ?_
 refine pl_nil ?_
 refine au_then ?_
 refine wp_block ?_
 refine au_loop (fun j a w' => ∃ (v1 : Nat → Value) (g9 cap9 : Nat) (Z9 : Obj), a = ⟨#[.slice (some ⟨g, o, none⟩) n cap, .string sep, .int .i64 16, undef, undef, undef, .string ⟨#[]⟩, .slice (some ⟨g9, 0, none⟩) j cap9, undef, v1 9, .slice (some ⟨g, o, none⟩) n cap, .int .i64 (n : Int), .slice (some ⟨g8, 0, none⟩) 0 n, .slice (some ⟨g, o, none⟩) n cap, .int .i64 (n : Int), .int .i64 (j : Int), v1 16, v1 17, v1 18, v1 19, v1 20, v1 21, v1 22, v1 23, v1 24, v1 25, v1 26, undef, undef, undef], []⟩ ∧ SB Z9 cap9 (vS (ws16 f j)) ∧ Mem ⟨w, []⟩ [⟨g9, Z9⟩] w') n ⟨fun k_ => ([undef, undef, undef, undef, undef, undef, undef, undef, undef, undef, undef, undef, undef, undef, undef, undef, undef, undef] : List Value).getD (k_ - 9) undef, g8, n, Z8, by kernel_rfl, hZ8, M⟩ ?_ ?_
 ·intro j a u0 hj hI
  obtain ⟨v1, g9, cap9, Z9, rfl, hZ9, M⟩ := hI
  refine wp_seq ?_
  refine rg_lit ?_
  refine pl_val (want_no rfl) (some 16) rfl (.bool true) (fun w => Eq.trans (b := .ok (.value (.bool (decide ((j : Int) < (n : Int))))) w) (by kernel_rfl) (by rw [decide_eq_true (by omega)])) ?_
  refine pl_nil ?_
  refine au_then ?_
  refine wp_seq ?_
  refine wp_cond_true (by kernel_rfl) ?_
  refine wp_skip ?_
  refine au_then ?_
  refine wp_seq ?_
  refine wp_block ?_
  refine wp_seq ?_
  refine rg_lit ?_
  refine pl_val (want_no rfl) (some 17) rfl (.pointer (some ⟨g, (o + j), none⟩)) (run_ixL 193 101 Tryz.underlying193 inz101 _ _ rfl g o n cap (by kernel_rfl) .i64 j (by kernel_rfl) (by omega)) ?_
  refine pl_cell M (want_no rfl) (some 18) rfl 101 _ rfl g (o + j) (by kernel_rfl) (.int .u16 (f j)) (fun _ => by kernel_rfl) (fun w M => M.oldc (hc j (by omega)) (by simp)) ?_
  refine pl_val (want_no rfl) (some 9) rfl (.int .u16 (f j)) (fun _ => by kernel_rfl) ?_
  refine pl_nil ?_
  refine au_then ?_
  refine rg_lit ?_
  refine pl_val (want_no rfl) (some 19) rfl (.slice (some ⟨g9, 0, none⟩) j cap9) (fun _ => by kernel_rfl) ?_
  refine pl_val (want_no rfl) (some 20) rfl (.int .u16 (f j)) (fun _ => by kernel_rfl) ?_
  refine pl_val (want_no rfl) (some 21) rfl (.int .u64 (((f j).toNat : Nat) : Int)) (fun w => Eq.trans (b := .ok (.value (.int .u64 (cv .u64 (f j)))) w) (by kernel_rfl) (by have := hf j; rw [cv_u64]; congr 3; omega)) ?_
  refine pl_val (want_no rfl) (some 22) rfl (.int .i64 16) (fun _ => by kernel_rfl) ?_
  refine pl_call M (want_no rfl) (some 23) rfl 120 #[.int .u64 (((f j).toNat : Nat) : Int), .int .i64 16] (.string (hxT (f j).toNat)) (fun _ => by kernel_rfl) (fun w M => c_fmt16 (f j).toNat (by have := hf j; omega) w M.laid) ?_
  intro u2 M
  refine pl_mk M (want_no rfl) (some 24) rfl (fun g1 => .slice (some ⟨g1, 0, none⟩) 1 1) (.cells (av 1 (fun _ => .string (hxT (f j).toNat))) 9) (fun _ => by kernel_rfl) ?_
  intro g1 u3 M
  replace M : Mem ⟨w, []⟩ [⟨g9, Z9⟩, ⟨g1, .cells (av 1 (fun _ => .string (hxT (f j).toNat))) 9⟩] u3 := M
  refine pl_appI M (want_no rfl) (some 25) rfl 44 44 9 (.string ⟨#[]⟩) Tryz.underlying44 info9 rfl 0 g9 j cap9 Z9 (vS (ws16 f j)) rfl hZ9 (by rw [vS_len, ws16_len]) (by omega) 1 g1 9 (.string (hxT (f j).toNat)) rfl rfl (fun _ => by kernel_rfl) ?_
  intro g7 cap7 Z7 u4 hZ7 M
  replace M : Mem ⟨w, []⟩ [⟨g1, .cells (av 1 (fun _ => .string (hxT (f j).toNat))) 9⟩, ⟨g7, Z7⟩] u4 := M
  refine pl_val (want_no rfl) (some 7) rfl (.slice (some ⟨g7, 0, none⟩) (j + 1) cap7) (fun _ => by kernel_rfl) ?_
  refine pl_nil ?_
  refine au_block ?_
  refine au_then ?_
  refine rg_lit ?_
  refine pl_val (want_no rfl) (some 26) rfl (.int .i64 ((j + 1 : Nat) : Int)) (fun w => Eq.trans (b := .ok (.value (.int .i64 (IntKind.wrap .i64 ((j : Int) + 1)))) w) (by kernel_rfl) (by rw [wrap64 (by omega) (by omega)]; congr 3)) ?_
  refine pl_val (want_no rfl) (some 15) rfl (.int .i64 ((j + 1 : Nat) : Int)) (fun _ => by kernel_rfl) ?_
  refine pl_nil ?_
  refine au_then ?_
  exact ⟨fun k_ => ([.int .u16 (f j), undef, undef, undef, undef, undef, undef, .bool true, .pointer (some ⟨g, (o + j), none⟩), .int .u16 (f j), .slice (some ⟨g9, 0, none⟩) j cap9, .int .u16 (f j), .int .u64 (((f j).toNat : Nat) : Int), .int .i64 16, .string (hxT (f j).toNat), .slice (some ⟨g1, 0, none⟩) 1 1, .slice (some ⟨g7, 0, none⟩) (j + 1) cap7, .int .i64 ((j + 1 : Nat) : Int)] : List Value).getD (k_ - 9) undef, g7, cap7, Z7, by kernel_rfl, by rw [ws16_step]; exact hZ7, M.drop (.cons _ (.cons_cons _ .slnil))⟩
 ·intro a u0 hI
  obtain ⟨v1, g9, cap9, Z9, rfl, hZ9, M⟩ := hI
  refine wp_seq ?_
  refine rg_lit ?_
  refine pl_val (want_no rfl) (some 16) rfl (.bool false) (fun w => Eq.trans (b := .ok (.value (.bool (decide ((n : Int) < (n : Int))))) w) (by kernel_rfl) (by rw [decide_eq_false (by omega)])) ?_
  refine pl_nil ?_
  refine au_then ?_
  refine wp_seq ?_
  refine wp_cond_false (by kernel_rfl) ?_
  refine wp_exit ?_
  refine au_then_exit ?_
  refine au_then_exit ?_
  refine au_block_exit ?_
  refine au_then ?_
  refine wp_seq ?_
  refine rg_lit ?_
  refine pl_val (want_no rfl) (some 27) rfl (.slice (some ⟨g9, 0, none⟩) n cap9) (fun _ => by kernel_rfl) ?_
  refine pl_val (want_no rfl) (some 28) rfl (.string sep) (fun _ => by kernel_rfl) ?_
  refine pl_call M (want_no rfl) (some 29) rfl 44 #[.slice (some ⟨g9, 0, none⟩) n cap9, .string sep] (.string (jn (ws16 f n) sep)) (fun _ => by kernel_rfl) (fun w M => c_JoinN g9 cap9 n Z9 (ws16 f n) sep (ws16_len f n) (by omega) (by have := ws16_join f n hn sep hs; omega) w (M.get 0 rfl) hZ9) ?_
  intro u2 M
  refine pl_val (want_no rfl) (some 6) rfl (.string (jn (ws16 f n) sep)) (fun _ => by kernel_rfl) ?_
  refine pl_nil ?_
  refine au_then ?_
  refine wp_ret ?_
  exact bodyPost_ret (v := .string (jn (ws16 f n) sep)) (results_tmp1 Tryz.results157 _ _ _ (by kernel_rfl)) (by kernel_rfl) ⟨rfl, below_grown M.old⟩
set_option maxRecDepth 100000 in
set_option maxHeartbeats 4000000 in
set_option linter.unusedSimpArgs false in
theorem c_joined10 (g o n cap : Nat) (f : Nat → Int) (sep : ByteArray) (hn : n ≤ 8) (hs : sep.size ≤ 4) (hf : ∀ i, 0 ≤ f i ∧ f i < 256) (w : World) (hL : Laid w) (hc : ∀ i, i < n → w.cell? ⟨g, o + i, none⟩ = some (.int .u16 (f i))) :
  Calls Tryz.prog 157 #[.slice (some ⟨g, o, none⟩) n cap, .string sep, .int .i64 10] w fun r w' => r = .returned (.string (jn (ws10 f n) sep)) ∧ Below w.heap.size w w' := by
 go_enter Tryz.func157, Tryz.ntmps157
 have M := Mem.start hL
 refine wp_seq ?_
 refine rg_lit ?_
 refine pl_val (want_no rfl) (some 6) rfl (.string ⟨#[]⟩) (fun _ => by kernel_rfl) ?_
 refine pl_nil ?_
 refine au_then ?_
 refine wp_seq ?_
 refine rg_lit ?_
 refine pl_val (want_no rfl) (some 10) rfl (.slice (some ⟨g, o, none⟩) n cap) (fun _ => by kernel_rfl) ?_
 refine pl_val (want_no rfl) (some 11) rfl (.int .i64 (n : Int)) (fun _ => by kernel_rfl) ?_
 refine pl_makeI M (want_no rfl) (some 12) rfl 44 9 (.string ⟨#[]⟩) Tryz.underlying44 info9 _ _ rfl .i64 .i64 (by kernel_rfl) n (by kernel_rfl) (by omega) ?_
 intro g8 Z8 u1 hZ8 M
 replace M : Mem ⟨w, []⟩ [⟨g8, Z8⟩] u1 := M
 refine pl_val (want_no rfl) (some 7) rfl (.slice (some ⟨g8, 0, none⟩) 0 n) (fun _ => by kernel_rfl) ?_
 refine pl_nil ?_
 refine au_then ?_
 refine wp_seq ?_
 refine wp_seq ?_
 refine rg_lit ?_
 refine pl_val (want_no rfl) (some 13) rfl (.slice (some ⟨g, o, none⟩) n cap) (fun _ => by kernel_rfl) ?_
 refine pl_val (want_no rfl) (some 14) rfl (.int .i64 (n : Int)) (fun _ => by kernel_rfl) ?_
 refine pl_val (want_no rfl) (some 15) rfl (.int .i64 0) (fun _ => by kernel_rfl) ?_
 refine pl_nil ?_
 refine au_then ?_
 refine wp_block ?_
 refine au_loop (fun j a w' => ∃ (v1 : Nat → Value) (g9 cap9 : Nat) (Z9 : Obj), a = ⟨#[.slice (some ⟨g, o, none⟩) n cap, .string sep, .int .i64 10, undef, undef, undef, .string ⟨#[]⟩, .slice (some ⟨g9, 0, none⟩) j cap9, undef, v1 9, .slice (some ⟨g, o, none⟩) n cap, .int .i64 (n : Int), .slice (some ⟨g8, 0, none⟩) 0 n, .slice (some ⟨g, o, none⟩) n cap, .int .i64 (n : Int), .int .i64 (j : Int), v1 16, v1 17, v1 18, v1 19, v1 20, v1 21, v1 22, v1 23, v1 24, v1 25, v1 26, undef, undef, undef], []⟩ ∧ SB Z9 cap9 (vS (ws10 f j)) ∧ Mem ⟨w, []⟩ [⟨g9, Z9⟩] w') n ⟨fun k_ => ([undef, undef, undef, undef, undef, undef, undef, undef, undef, undef, undef, undef, undef, undef, undef, undef, undef, undef] : List Value).getD (k_ - 9) undef, g8, n, Z8, by kernel_rfl, hZ8, M⟩ ?_ ?_
 ·intro j a u0 hj hI
  obtain ⟨v1, g9, cap9, Z9, rfl, hZ9, M⟩ := hI
  refine wp_seq ?_
  refine rg_lit ?_
  refine pl_val (want_no rfl) (some 16) rfl (.bool true) (fun w => Eq.trans (b := .ok (.value (.bool (decide ((j : Int) < (n : Int))))) w) (by kernel_rfl) (by rw [decide_eq_true (by omega)])) ?_
  refine pl_nil ?_
  refine au_then ?_
  refine wp_seq ?_
  refine wp_cond_true (by kernel_rfl) ?_
  refine wp_skip ?_
  refine au_then ?_
  refine wp_seq ?_
  refine wp_block ?_
  refine wp_seq ?_
  refine rg_lit ?_
  refine pl_val (want_no rfl) (some 17) rfl (.pointer (some ⟨g, (o + j), none⟩)) (run_ixL 193 101 Tryz.underlying193 inz101 _ _ rfl g o n cap (by kernel_rfl) .i64 j (by kernel_rfl) (by omega)) ?_
  refine pl_cell M (want_no rfl) (some 18) rfl 101 _ rfl g (o + j) (by kernel_rfl) (.int .u16 (f j)) (fun _ => by kernel_rfl) (fun w M => M.oldc (hc j (by omega)) (by simp)) ?_
  refine pl_val (want_no rfl) (some 9) rfl (.int .u16 (f j)) (fun _ => by kernel_rfl) ?_
  refine pl_nil ?_
  refine au_then ?_
  refine rg_lit ?_
  refine pl_val (want_no rfl) (some 19) rfl (.slice (some ⟨g9, 0, none⟩) j cap9) (fun _ => by kernel_rfl) ?_
  refine pl_val (want_no rfl) (some 20) rfl (.int .u16 (f j)) (fun _ => by kernel_rfl) ?_
  refine pl_val (want_no rfl) (some 21) rfl (.int .u64 (((f j).toNat : Nat) : Int)) (fun w => Eq.trans (b := .ok (.value (.int .u64 (cv .u64 (f j)))) w) (by kernel_rfl) (by have := hf j; rw [cv_u64]; congr 3; omega)) ?_
  refine pl_val (want_no rfl) (some 22) rfl (.int .i64 10) (fun _ => by kernel_rfl) ?_
  refine pl_call M (want_no rfl) (some 23) rfl 120 #[.int .u64 (((f j).toNat : Nat) : Int), .int .i64 10] (.string (dcT (((f j).toNat : Nat) : Int))) (fun _ => by kernel_rfl) (fun w M => c_fmt10 (f j).toNat (by have := hf j; omega) w M.laid) ?_
  intro u2 M
  refine pl_mk M (want_no rfl) (some 24) rfl (fun g1 => .slice (some ⟨g1, 0, none⟩) 1 1) (.cells (av 1 (fun _ => .string (dcT (((f j).toNat : Nat) : Int)))) 9) (fun _ => by kernel_rfl) ?_
  intro g1 u3 M
  replace M : Mem ⟨w, []⟩ [⟨g9, Z9⟩, ⟨g1, .cells (av 1 (fun _ => .string (dcT (((f j).toNat : Nat) : Int)))) 9⟩] u3 := M
  refine pl_appI M (want_no rfl) (some 25) rfl 44 44 9 (.string ⟨#[]⟩) Tryz.underlying44 info9 rfl 0 g9 j cap9 Z9 (vS (ws10 f j)) rfl hZ9 (by rw [vS_len, ws10_len]) (by omega) 1 g1 9 (.string (dcT (((f j).toNat : Nat) : Int))) rfl rfl (fun _ => by kernel_rfl) ?_
  intro g7 cap7 Z7 u4 hZ7 M
  replace M : Mem ⟨w, []⟩ [⟨g1, .cells (av 1 (fun _ => .string (dcT (((f j).toNat : Nat) : Int)))) 9⟩, ⟨g7, Z7⟩] u4 := M
  refine pl_val (want_no rfl) (some 7) rfl (.slice (some ⟨g7, 0, none⟩) (j + 1) cap7) (fun _ => by kernel_rfl) ?_
  refine pl_nil ?_
  refine au_block ?_
  refine au_then ?_
  refine rg_lit ?_
  refine pl_val (want_no rfl) (some 26) rfl (.int .i64 ((j + 1 : Nat) : Int)) (fun w => Eq.trans (b := .ok (.value (.int .i64 (IntKind.wrap .i64 ((j : Int) + 1)))) w) (by kernel_rfl) (by rw [wrap64 (by omega) (by omega)]; congr 3)) ?_
  refine pl_val (want_no rfl) (some 15) rfl (.int .i64 ((j + 1 : Nat) : Int)) (fun _ => by kernel_rfl) ?_
  refine pl_nil ?_
  refine au_then ?_
  exact ⟨fun k_ => ([.int .u16 (f j), undef, undef, undef, undef, undef, undef, .bool true, .pointer (some ⟨g, (o + j), none⟩), .int .u16 (f j), .slice (some ⟨g9, 0, none⟩) j cap9, .int .u16 (f j), .int .u64 (((f j).toNat : Nat) : Int), .int .i64 10, .string (dcT (((f j).toNat : Nat) : Int)), .slice (some ⟨g1, 0, none⟩) 1 1, .slice (some ⟨g7, 0, none⟩) (j + 1) cap7, .int .i64 ((j + 1 : Nat) : Int)] : List Value).getD (k_ - 9) undef, g7, cap7, Z7, by kernel_rfl, by rw [ws10_step]; exact hZ7, M.drop (.cons _ (.cons_cons _ .slnil))⟩
 ·intro a u0 hI
  obtain ⟨v1, g9, cap9, Z9, rfl, hZ9, M⟩ := hI
  refine wp_seq ?_
  refine rg_lit ?_
  refine pl_val (want_no rfl) (some 16) rfl (.bool false) (fun w => Eq.trans (b := .ok (.value (.bool (decide ((n : Int) < (n : Int))))) w) (by kernel_rfl) (by rw [decide_eq_false (by omega)])) ?_
  refine pl_nil ?_
  refine au_then ?_
  refine wp_seq ?_
  refine wp_cond_false (by kernel_rfl) ?_
  refine wp_exit ?_
  refine au_then_exit ?_
  refine au_then_exit ?_
  refine au_block_exit ?_
  refine au_then ?_
  refine wp_seq ?_
  refine rg_lit ?_
  refine pl_val (want_no rfl) (some 27) rfl (.slice (some ⟨g9, 0, none⟩) n cap9) (fun _ => by kernel_rfl) ?_
  refine pl_val (want_no rfl) (some 28) rfl (.string sep) (fun _ => by kernel_rfl) ?_
  refine pl_call M (want_no rfl) (some 29) rfl 44 #[.slice (some ⟨g9, 0, none⟩) n cap9, .string sep] (.string (jn (ws10 f n) sep)) (fun _ => by kernel_rfl) (fun w M => c_JoinN g9 cap9 n Z9 (ws10 f n) sep (ws10_len f n) (by omega) (by have := ws10_join f n hn sep hs; omega) w (M.get 0 rfl) hZ9) ?_
  intro u2 M
  refine pl_val (want_no rfl) (some 6) rfl (.string (jn (ws10 f n) sep)) (fun _ => by kernel_rfl) ?_
  refine pl_nil ?_
  refine au_then ?_
  refine wp_ret ?_
  exact bodyPost_ret (v := .string (jn (ws10 f n) sep)) (results_tmp1 Tryz.results157 _ _ _ (by kernel_rfl)) (by kernel_rfl) ⟨rfl, below_grown M.old⟩
end Go.Proofs.YtbdgncndhnnjoaaGreatDoor.Ip

namespace Go.Proofs.YtbdgncndhnnjoaaGreatDoor.Ip
set_option linter.unusedSimpArgs false
open Go.RowKit
def uF (f : Nat → Int) : Nat := (uS f 8).2.1.toNat
def uT (f : Nat → Int) : Nat := (uS f 8).2.2.toNat
theorem uF_le (f : Nat → Int) : uF f ≤ uT f ∧ uT f ≤ 8 := by
 have := uS_nn f 8
 unfold uF uT
 omega
theorem c_untoldN (f : Nat → Int) (w : World) (hL : Laid w) : Calls Tryz.prog 156 #[.agg (av 8 (w16 f))] w fun r w' => r = .returned (.tuple #[.int .i64 ((uF f : Nat) : Int), .int .i64 ((uT f : Nat) : Int)]) ∧ Below w.heap.size w w' := by
 have h := uS_nn f 8
 refine call_val (c_untold f w hL) ?_
 unfold uF uT
 rw [Int.toNat_of_nonneg (by omega), Int.toNat_of_nonneg (by omega)]
def so (k : Nat) : Nat := if 8 = k then 0 else k
set_option linter.unusedSimpArgs false in
theorem run_slAG {P : Program} {a : Act} {o : Oper} (t : TypeId) (len : Nat) (elem : TypeId) (hu : P.underlying t = some (.array len elem)) (hs : (P.info? elem).map (·.size) = some 1) (x lo : Operand) (ho : o.op = .slice t x (some lo) none none) (g : Nat) (hx : a.eval x = .pointer (some ⟨g, 0, none⟩)) (k : IntKind) (i : Nat) (hi : a.eval lo = .int k (i : Int)) (hle : i ≤ len) (w : World) :
  (execOp a.eval o).run P w = .ok (.value (.slice (some ⟨g, if len = i then 0 else i, none⟩) (len - i) (len - i))) w := by
 cases hq : P.info? elem with
 | none => simp [hq] at hs
 | some u =>
  have hsz : u.size = 1 := by simpa [hq] using hs
  unfold execOp
  by_cases h : len = i
  ·subst h
   simp [ho, hx, hi, Instr.sliceAt, Instr.sureAddr, run_underlying hu, Instr.sliceBounds, run_sliceBound, sizeOf, typeInfo, hq, hsz]
  ·rw [if_neg h]
   simp [ho, hx, hi, Instr.sliceAt, Instr.sureAddr, run_underlying hu, Instr.sliceBounds, run_sliceBound, sizeOf, typeInfo, hq, hsz, add_at, h, hle]
theorem run_slAL {P : Program} {a : Act} {o : Oper} (t : TypeId) (elem : TypeId) (hu : P.underlying t = some (.array 8 elem)) (hs : (P.info? elem).map (·.size) = some 1) (x lo : Operand) (ho : o.op = .slice t x (some lo) none none) (g : Nat) (hx : a.eval x = .pointer (some ⟨g, 0, none⟩)) (k : IntKind) (i : Nat) (hi : a.eval lo = .int k (i : Int)) (hle : i ≤ 8) (w : World) :
  (execOp a.eval o).run P w = .ok (.value (.slice (some ⟨g, so i, none⟩) (8 - i) (8 - i))) w := run_slAG t 8 elem hu hs x lo ho g hx k i hi hle w
def tx6 (h l : Int) : ByteArray := if ((uF (ggs h l) : Nat) : Int) = ((uT (ggs h l) : Nat) : Int) then jn (ws16 (ggs h l) 8) ⟨#[58]⟩ else (jn (ws16 (ggs h l) (uF (ggs h l))) ⟨#[58]⟩ ++ (⟨#[58, 58]⟩ : ByteArray)) ++ jn (ws16 (fun i => ggs h l (uT (ggs h l) + i)) (8 - uT (ggs h l))) ⟨#[58]⟩
theorem jn16_le (f : Nat → Int) (n : Nat) (hn : n ≤ 8) : (jn (ws16 f n) ⟨#[58]⟩).size ≤ 100 := ws16_join f n hn ⟨#[58]⟩ (by decide)
theorem jn10_le (f : Nat → Int) (n : Nat) (hn : n ≤ 8) : (jn (ws10 f n) ⟨#[46]⟩).size ≤ 100 := ws10_join f n hn ⟨#[46]⟩ (by decide)
set_option maxRecDepth 100000 in
set_option maxHeartbeats 4000000 in
set_option linter.unusedSimpArgs false in
theorem c_text6 (v : Bool) (h l : Int) (w : World) (hL : Laid w)  :
  Calls Tryz.prog 115 #[.agg (av 3 (ls [.bool (v), .int .u64 h, .int .u64 l]))] w fun r w' => r = .returned (.string (tx6 h l)) ∧ Below w.heap.size w w' := by
 go_enter Tryz.func115, Tryz.ntmps115
 have M := Mem.start hL
 refine wp_seq ?_
 refine rg_lit ?_
 refine pl_new M (want_no rfl) (some 1) rfl (.cells (av 3 (ls [.bool (v), .int .u64 h, .int .u64 l])) 49) (fun _ => by kernel_rfl) ?_
 intro g1 u1 M
 replace M : Mem ⟨w, []⟩ [⟨g1, .cells (av 3 (ls [.bool (v), .int .u64 h, .int .u64 l])) 49⟩] u1 := M
 refine pl_val (want_no rfl) (some 2) rfl (.string ⟨#[]⟩) (fun _ => by kernel_rfl) ?_
 refine pl_nil ?_
 refine au_then ?_
 refine wp_seq ?_
 refine rg_lit ?_
 refine pl_load M (want_no rfl) (some 6) rfl 49 _ rfl 0 g1 0 (by kernel_rfl) 3 49 (ls [.bool (v), .int .u64 h, .int .u64 l]) rfl 3 (ls [.bool (v), .int .u64 h, .int .u64 l]) (fun j _ => by rw [Nat.zero_add]) (by decide) _ Tryz.underlying49 rfl inz49 ?_
 refine pl_call M (want_no rfl) (some 7) rfl 155 #[.agg (av 3 (ls [.bool (v), .int .u64 h, .int .u64 l]))] (.agg (av 8 (w16 (ggs h l)))) (fun _ => by kernel_rfl) (fun w M => c_groupsOf v h l w M.laid) ?_
 intro u2 M
 refine pl_new M (want_no rfl) (some 3) rfl (.cells (av 8 (w16 (fun _ => 0))) 188) (fun _ => by kernel_rfl) ?_
 intro g2 u3 M
 replace M : Mem ⟨w, []⟩ [⟨g1, .cells (av 3 (ls [.bool (v), .int .u64 h, .int .u64 l])) 49⟩, ⟨g2, .cells (av 8 (w16 (fun _ => 0))) 188⟩] u3 := M
 refine pl_put M (want_no rfl) rfl 188 _ _ rfl 1 g2 0 (by kernel_rfl) 8 188 (w16 (fun _ => 0)) rfl 8 (w16 (ggs h l)) (w16 (ggs h l)) (by kernel_rfl) inz188 (by decide) (fun _ _ => rfl) (fun j hj => by rw [if_pos (by omega), Nat.sub_zero]) ?_
 intro u4 M
 replace M : Mem ⟨w, []⟩ [⟨g1, .cells (av 3 (ls [.bool (v), .int .u64 h, .int .u64 l])) 49⟩, ⟨g2, .cells (av 8 (w16 (ggs h l))) 188⟩] u4 := M
 refine pl_nil ?_
 refine au_then ?_
 refine wp_seq ?_
 refine rg_lit ?_
 refine pl_load M (want_no rfl) (some 9) rfl 188 _ rfl 1 g2 0 (by kernel_rfl) 8 188 (w16 (ggs h l)) rfl 8 (w16 (ggs h l)) (fun j _ => by rw [Nat.zero_add]) (by decide) _ Tryz.underlying188 rfl inz188 ?_
 refine pl_call M (want_no rfl) (some 10) rfl 156 #[.agg (av 8 (w16 (ggs h l)))] (.tuple #[.int .i64 ((uF (ggs h l) : Nat) : Int), .int .i64 ((uT (ggs h l) : Nat) : Int)]) (fun _ => by kernel_rfl) (fun w M => c_untoldN (ggs h l) w M.laid) ?_
 intro u5 M
 refine pl_val (want_no rfl) (some 8) rfl (.tuple #[.int .i64 ((uF (ggs h l) : Nat) : Int), .int .i64 ((uT (ggs h l) : Nat) : Int)]) (fun _ => by kernel_rfl) ?_
 refine pl_val (want_no rfl) (some 11) rfl (.int .i64 ((uF (ggs h l) : Nat) : Int)) (fun _ => by kernel_rfl) ?_
 refine pl_val (want_no rfl) (some 12) rfl (.int .i64 ((uT (ggs h l) : Nat) : Int)) (fun _ => by kernel_rfl) ?_
 refine pl_val (want_no rfl) (some 4) rfl (.int .i64 ((uF (ggs h l) : Nat) : Int)) (fun _ => by kernel_rfl) ?_
 refine pl_val (want_no rfl) (some 5) rfl (.int .i64 ((uT (ggs h l) : Nat) : Int)) (fun _ => by kernel_rfl) ?_
 refine pl_nil ?_
 refine au_then ?_
 refine wp_seq ?_
 refine wp_seq ?_
 refine rg_lit ?_
 refine pl_val (want_no rfl) (some 13) rfl (.int .i64 ((uF (ggs h l) : Nat) : Int)) (fun _ => by kernel_rfl) ?_
 refine pl_val (want_no rfl) (some 14) rfl (.int .i64 ((uT (ggs h l) : Nat) : Int)) (fun _ => by kernel_rfl) ?_
 by_cases c0 : ((uF (ggs h l) : Nat) : Int) = ((uT (ggs h l) : Nat) : Int)
 ·skip
  refine pl_val (want_no rfl) (some 15) rfl (.bool true) (fun w => Eq.trans (b := .ok (.value (.bool (decide (((uF (ggs h l) : Nat) : Int) = ((uT (ggs h l) : Nat) : Int))))) w) (by kernel_rfl) (by rw [decide_eq_true (c0)])) ?_
  refine pl_nil ?_
  refine au_then ?_
  refine wp_cond_true (by kernel_rfl) ?_
  refine wp_seq ?_
  refine rg_lit ?_
  refine pl_val (want_no rfl) (some 16) rfl (.slice (some ⟨g2, 0, none⟩) 8 8) (fun _ => by kernel_rfl) ?_
  refine pl_call M (want_no rfl) (some 17) rfl 157 #[.slice (some ⟨g2, 0, none⟩) 8 8, .string ⟨#[58]⟩, .int .i64 16] (.string (jn (ws16 (ggs h l) 8) ⟨#[58]⟩)) (fun _ => by kernel_rfl) (fun w M => c_joined16 g2 0 8 8 (ggs h l) ⟨#[58]⟩ (by have := uF_le (ggs h l); omega) (by decide) (fun i => ggs_nn h l _) w M.laid (fun i hi => by rw [Nat.zero_add]; exact cell_av (M.get 1 rfl) (by have := uF_le (ggs h l); omega))) ?_
  intro u6 M
  refine pl_val (want_no rfl) (some 2) rfl (.string (jn (ws16 (ggs h l) 8) ⟨#[58]⟩)) (fun _ => by kernel_rfl) ?_
  refine pl_nil ?_
  refine au_then ?_
  refine wp_ret ?_
  refine au_then_ret ?_
  have e0 : (tx6 h l) = (jn (ws16 (ggs h l) 8) ⟨#[58]⟩) := by unfold tx6; rw [if_pos c0]
  exact bodyPost_ret (v := .string (jn (ws16 (ggs h l) 8) ⟨#[58]⟩)) (results_tmp1 Tryz.results115 _ _ _ (by kernel_rfl)) (by kernel_rfl) ⟨by rw [e0], below_grown M.old⟩
 ·skip
  refine pl_val (want_no rfl) (some 15) rfl (.bool false) (fun w => Eq.trans (b := .ok (.value (.bool (decide (((uF (ggs h l) : Nat) : Int) = ((uT (ggs h l) : Nat) : Int))))) w) (by kernel_rfl) (by rw [decide_eq_false (c0)])) ?_
  refine pl_nil ?_
  refine au_then ?_
  refine wp_cond_false (by kernel_rfl) ?_
  refine wp_skip ?_
  refine au_then ?_
  refine wp_seq ?_
  refine rg_tail M 8 (by kernel_rfl) (by kernel_rfl) ?_
  simp only [List.take_succ_cons, List.take_zero]
  refine k_val (want_no rfl) (some 18) rfl (.int .i64 ((uF (ggs h l) : Nat) : Int)) (fun _ => by kernel_rfl) ?_
  refine k_val (want_no rfl) (some 19) rfl (.slice (some ⟨g2, 0, none⟩) (uF (ggs h l)) 8) (run_slAH 188 8 101 Tryz.underlying188 inz101 _ _ rfl g2 0 (by kernel_rfl) .i64 (uF (ggs h l)) (by kernel_rfl) (by have := uF_le (ggs h l); omega) (by decide)) ?_
  refine k_call M (want_no rfl) (some 20) rfl 157 #[.slice (some ⟨g2, 0, none⟩) (uF (ggs h l)) 8, .string ⟨#[58]⟩, .int .i64 16] (.string (jn (ws16 (ggs h l) (uF (ggs h l))) ⟨#[58]⟩)) (fun _ => by kernel_rfl) (fun w M => c_joined16 g2 0 (uF (ggs h l)) 8 (ggs h l) ⟨#[58]⟩ (by have := uF_le (ggs h l); omega) (by decide) (fun i => ggs_nn h l _) w M.laid (fun i hi => by rw [Nat.zero_add]; exact cell_av (M.get 1 rfl) (by have := uF_le (ggs h l); omega))) ?_
  refine k_val (want_no rfl) (some 21) rfl (.string ((jn (ws16 (ggs h l) (uF (ggs h l))) ⟨#[58]⟩) ++ (⟨#[58, 58]⟩ : ByteArray))) (run_cat 9 9 _ _ rfl (jn (ws16 (ggs h l) (uF (ggs h l))) ⟨#[58]⟩) ⟨#[58, 58]⟩ (by kernel_rfl) (by kernel_rfl) (by have q0 := jn16_le (ggs h l) (uF (ggs h l)) (by have := uF_le (ggs h l); omega); have q2 : (⟨#[58, 58]⟩ : ByteArray).size = 2 := rfl; omega)) ?_
  refine k_val (want_no rfl) (some 22) rfl (.int .i64 ((uT (ggs h l) : Nat) : Int)) (fun _ => by kernel_rfl) ?_
  refine k_val (want_no rfl) (some 23) rfl (.slice (some ⟨g2, (so (uT (ggs h l))), none⟩) (8 - uT (ggs h l)) (8 - uT (ggs h l))) (run_slAL 188 101 Tryz.underlying188 inz101 _ _ rfl g2 (by kernel_rfl) .i64 (uT (ggs h l)) (by kernel_rfl) (by have := uF_le (ggs h l); omega)) ?_
  refine k_call M (want_no rfl) (some 24) rfl 157 #[.slice (some ⟨g2, (so (uT (ggs h l))), none⟩) (8 - uT (ggs h l)) (8 - uT (ggs h l)), .string ⟨#[58]⟩, .int .i64 16] (.string (jn (ws16 (fun i => (ggs h l) (uT (ggs h l) + i)) (8 - uT (ggs h l))) ⟨#[58]⟩)) (fun _ => by kernel_rfl) (fun w M => c_joined16 g2 (so (uT (ggs h l))) (8 - uT (ggs h l)) (8 - uT (ggs h l)) (fun i => (ggs h l) (uT (ggs h l) + i)) ⟨#[58]⟩ (by have := uF_le (ggs h l); omega) (by decide) (fun i => ggs_nn h l _) w M.laid (fun i hi => by rw [show so (uT (ggs h l)) = uT (ggs h l) from if_neg (by omega)]; exact cell_av (M.get 1 rfl) (by omega))) ?_
  refine k_val (want_no rfl) (some 25) rfl (.string (((jn (ws16 (ggs h l) (uF (ggs h l))) ⟨#[58]⟩) ++ (⟨#[58, 58]⟩ : ByteArray)) ++ (jn (ws16 (fun i => (ggs h l) (uT (ggs h l) + i)) (8 - uT (ggs h l))) ⟨#[58]⟩))) (run_cat 9 9 _ _ rfl ((jn (ws16 (ggs h l) (uF (ggs h l))) ⟨#[58]⟩) ++ (⟨#[58, 58]⟩ : ByteArray)) (jn (ws16 (fun i => (ggs h l) (uT (ggs h l) + i)) (8 - uT (ggs h l))) ⟨#[58]⟩) (by kernel_rfl) (by kernel_rfl) (by simp only [ByteArray.size_append]; have q0 := jn16_le (ggs h l) (uF (ggs h l)) (by have := uF_le (ggs h l); omega); have q1 := jn16_le (fun i => ggs h l (uT (ggs h l) + i)) (8 - uT (ggs h l)) (by omega); have q2 : (⟨#[58, 58]⟩ : ByteArray).size = 2 := rfl; omega)) ?_
  refine kl_nil ?_
  intro u6 M
  replace M : Mem ⟨w, []⟩ [⟨g1, .cells (av 3 (ls [.bool (v), .int .u64 h, .int .u64 l])) 49⟩, ⟨g2, .cells (av 8 (w16 (ggs h l))) 188⟩] u6 := M
  refine pl_val (want_no rfl) (some 2) rfl (.string (((jn (ws16 (ggs h l) (uF (ggs h l))) ⟨#[58]⟩) ++ (⟨#[58, 58]⟩ : ByteArray)) ++ (jn (ws16 (fun i => (ggs h l) (uT (ggs h l) + i)) (8 - uT (ggs h l))) ⟨#[58]⟩))) (fun _ => by kernel_rfl) ?_
  refine pl_nil ?_
  refine au_then ?_
  refine wp_ret ?_
  have e0 : (tx6 h l) = (((jn (ws16 (ggs h l) (uF (ggs h l))) ⟨#[58]⟩) ++ (⟨#[58, 58]⟩ : ByteArray)) ++ (jn (ws16 (fun i => (ggs h l) (uT (ggs h l) + i)) (8 - uT (ggs h l))) ⟨#[58]⟩)) := by unfold tx6; rw [if_neg c0]
  exact bodyPost_ret (v := .string (((jn (ws16 (ggs h l) (uF (ggs h l))) ⟨#[58]⟩) ++ (⟨#[58, 58]⟩ : ByteArray)) ++ (jn (ws16 (fun i => (ggs h l) (uT (ggs h l) + i)) (8 - uT (ggs h l))) ⟨#[58]⟩))) (results_tmp1 Tryz.results115 _ _ _ (by kernel_rfl)) (by kernel_rfl) ⟨by rw [e0], below_grown M.old⟩
def qp (l : Int) (j : Nat) : Int := cv .u16 (cv .u8 (sr l (24 - 8 * (j : Int)).toNat))
def qf (l : Int) : Nat → Int := cutf (qp l) 4
theorem qf_nn (l : Int) (j : Nat) : 0 ≤ qf l j ∧ qf l j < 256 := cutf_nn (by decide) (fun i => by unfold qp; rw [cv_u16, cv_u8]; omega) 4 j
def tx4 (l : Int) : ByteArray := jn (ws10 (qf l) 4) ⟨#[46]⟩
def txt (v : Bool) (h l : Int) : ByteArray := if mA v h l = true then (if v = true then tx6 h l else tx4 l) else ⟨#[]⟩
def ptx (v : Bool) (h l b : Int) : ByteArray := if mP v h l b = true then (txt v h l ++ (⟨#[47]⟩ : ByteArray)) ++ dcT b else ⟨#[]⟩
theorem tx6_le (h l : Int) : (tx6 h l).size ≤ 300 := by
 have q := uF_le (ggs h l)
 unfold tx6
 split
 ·have := jn16_le (ggs h l) 8 (by decide)
  omega
 ·have q0 := jn16_le (ggs h l) (uF (ggs h l)) (by omega)
  have q1 := jn16_le (fun i => ggs h l (uT (ggs h l) + i)) (8 - uT (ggs h l)) (by omega)
  have q2 : (⟨#[58, 58]⟩ : ByteArray).size = 2 := rfl
  simp only [ByteArray.size_append]
  omega
theorem txt_le (v : Bool) (h l : Int) : (txt v h l).size ≤ 300 := by
 unfold txt
 split
 ·split
  ·exact tx6_le h l
  ·have := jn10_le (qf l) 4 (by decide)
   unfold tx4
   omega
 ·exact Nat.zero_le _
set_option maxRecDepth 100000 in
set_option maxHeartbeats 4000000 in
set_option linter.unusedSimpArgs false in
theorem c_text4 (v : Bool) (h l : Int) (w : World) (hL : Laid w)  :
  Calls Tryz.prog 116 #[.agg (av 3 (ls [.bool (v), .int .u64 h, .int .u64 l]))] w fun r w' => r = .returned (.string (tx4 l)) ∧ Below w.heap.size w w' := by
 go_enter Tryz.func116, Tryz.ntmps116
 have M := Mem.start hL
 refine wp_seq ?_
 refine rg_lit ?_
 refine pl_new M (want_no rfl) (some 1) rfl (.cells (av 3 (ls [.bool (v), .int .u64 h, .int .u64 l])) 49) (fun _ => by kernel_rfl) ?_
 intro g1 u1 M
 replace M : Mem ⟨w, []⟩ [⟨g1, .cells (av 3 (ls [.bool (v), .int .u64 h, .int .u64 l])) 49⟩] u1 := M
 refine pl_val (want_no rfl) (some 2) rfl (.string ⟨#[]⟩) (fun _ => by kernel_rfl) ?_
 refine pl_nil ?_
 refine au_then ?_
 refine wp_seq ?_
 refine rg_lit ?_
 refine pl_new M (want_no rfl) (some 3) rfl (.cells (av 4 (w16 (fun _ => 0))) 194) (fun _ => by kernel_rfl) ?_
 intro g2 u2 M
 replace M : Mem ⟨w, []⟩ [⟨g1, .cells (av 3 (ls [.bool (v), .int .u64 h, .int .u64 l])) 49⟩, ⟨g2, .cells (av 4 (w16 (fun _ => 0))) 194⟩] u2 := M
 refine pl_nil ?_
 refine au_then ?_
 refine wp_seq ?_
 refine wp_seq ?_
 refine rg_lit ?_
 refine pl_val (want_no rfl) (some 5) rfl (.int .i64 0) (fun _ => by kernel_rfl) ?_
 refine pl_nil ?_
 refine au_then ?_
 refine wp_block ?_
 refine au_loop (fun j a w' => ∃ v1 : Nat → Value, a = ⟨#[.agg (av 3 (ls [.bool (v), .int .u64 h, .int .u64 l])), .pointer (some ⟨g1, 0, none⟩), .string ⟨#[]⟩, .pointer (some ⟨g2, 0, none⟩), v1 4, .int .i64 (j : Int), v1 6, v1 7, v1 8, v1 9, v1 10, v1 11, v1 12, v1 13, v1 14, v1 15, v1 16, v1 17, v1 18, undef, undef], []⟩ ∧ Mem ⟨w, []⟩ [⟨g1, .cells (av 3 (ls [.bool (v), .int .u64 h, .int .u64 l])) 49⟩, ⟨g2, .cells (av 4 (w16 (cutf (qp l) j))) 194⟩] w') 4 ⟨fun k_ => ([undef, undef, undef, undef, undef, undef, undef, undef, undef, undef, undef, undef, undef, undef, undef] : List Value).getD (k_ - 4) undef, by kernel_rfl, (by rw [cutf_0]; exact M)⟩ ?_ ?_
 ·intro j a u0 hj hI
  obtain ⟨v1, rfl, M⟩ := hI
  refine wp_seq ?_
  refine rg_lit ?_
  refine pl_val (want_no rfl) (some 6) rfl (.bool true) (fun w => Eq.trans (b := .ok (.value (.bool (decide ((j : Int) < 4)))) w) (by kernel_rfl) (by rw [decide_eq_true (by omega)])) ?_
  refine pl_nil ?_
  refine au_then ?_
  refine wp_seq ?_
  refine wp_cond_true (by kernel_rfl) ?_
  refine wp_skip ?_
  refine au_then ?_
  refine wp_seq ?_
  refine wp_block ?_
  refine wp_seq ?_
  refine rg_lit ?_
  refine pl_val (want_no rfl) (some 7) rfl (.int .i64 (j : Int)) (fun _ => by kernel_rfl) ?_
  refine pl_val (want_no rfl) (some 4) rfl (.int .i64 (j : Int)) (fun _ => by kernel_rfl) ?_
  refine pl_nil ?_
  refine au_then ?_
  refine rg_lit ?_
  refine pl_val (want_no rfl) (some 8) rfl (.int .i64 (j : Int)) (fun _ => by kernel_rfl) ?_
  refine pl_val (want_no rfl) (some 9) rfl (.pointer (some ⟨g1, 2, none⟩)) (fun _ => by kernel_rfl) ?_
  refine pl_cell M (want_no rfl) (some 10) rfl 47 _ rfl g1 2 (by kernel_rfl) (.int .u64 l) (fun _ => by kernel_rfl) (fun w M => M.cell 0 rfl (by decide) rfl) ?_
  refine pl_val (want_no rfl) (some 11) rfl (.int .i64 (j : Int)) (fun _ => by kernel_rfl) ?_
  refine pl_val (want_no rfl) (some 12) rfl (.int .i64 (8 * (j : Int))) (fun w => Eq.trans (b := .ok (.value (.int .i64 (IntKind.wrap .i64 (8 * (j : Int))))) w) (by kernel_rfl) (by rw [wrap64 (by omega) (by omega)])) ?_
  refine pl_val (want_no rfl) (some 13) rfl (.int .i64 (24 - (8 * (j : Int)))) (fun w => Eq.trans (b := .ok (.value (.int .i64 (IntKind.wrap .i64 (24 - (8 * (j : Int)))))) w) (by kernel_rfl) (by rw [wrap64 (by omega) (by omega)])) ?_
  refine pl_val (want_no rfl) (some 14) rfl (.int .u64 (sr l ((24 - (8 * (j : Int))).toNat))) (run_shrV 47 3 _ _ rfl l .i64 ((24 - (8 * (j : Int))).toNat) (by kernel_rfl) (nat_of (k := .i64) (by kernel_rfl) (by omega)) (by omega)) ?_
  refine pl_val (want_no rfl) (some 15) rfl (.int .u8 (cv .u8 (sr l ((24 - (8 * (j : Int))).toNat)))) (fun _ => by kernel_rfl) ?_
  refine pl_val (want_no rfl) (some 16) rfl (.int .u16 (qp l j)) (fun w => Eq.trans (b := .ok (.value (.int .u16 (cv .u16 (cv .u8 (sr l ((24 - (8 * (j : Int))).toNat)))))) w) (by kernel_rfl) rfl) ?_
  refine pl_val (want_no rfl) (some 17) rfl (.pointer (some ⟨g2, j, none⟩)) (run_ix1 194 4 101 Tryz.underlying194 inz101 _ _ rfl g2 (by kernel_rfl) .i64 (j) (by kernel_rfl) (by omega)) ?_
  refine pl_put1 M (want_no rfl) rfl 101 _ _ rfl 1 g2 j (by kernel_rfl) 4 194 (w16 (cutf (qp l) j)) rfl (.int .u16 (qp l j)) (w16 (upd (cutf (qp l) j) j (qp l j))) (by kernel_rfl) inz101 (by omega) rfl rfl (fun j _ => put_w16 _ _ _ j) ?_
  intro u3 M
  replace M : Mem ⟨w, []⟩ [⟨g1, .cells (av 3 (ls [.bool (v), .int .u64 h, .int .u64 l])) 49⟩, ⟨g2, .cells (av 4 (w16 (upd (cutf (qp l) j) j (qp l j)))) 194⟩] u3 := M
  refine pl_nil ?_
  refine au_block ?_
  refine au_then ?_
  refine rg_lit ?_
  refine pl_val (want_no rfl) (some 18) rfl (.int .i64 ((j + 1 : Nat) : Int)) (fun w => Eq.trans (b := .ok (.value (.int .i64 (IntKind.wrap .i64 ((j : Int) + 1)))) w) (by kernel_rfl) (by rw [wrap64 (by omega) (by omega)]; congr 3)) ?_
  refine pl_val (want_no rfl) (some 5) rfl (.int .i64 ((j + 1 : Nat) : Int)) (fun _ => by kernel_rfl) ?_
  refine pl_nil ?_
  refine au_then ?_
  rw [cutf_upd] at M
  exact ⟨fun k_ => ([.int .i64 (j : Int), undef, .bool true, .int .i64 (j : Int), .int .i64 (j : Int), .pointer (some ⟨g1, 2, none⟩), .int .u64 l, .int .i64 (j : Int), .int .i64 (8 * (j : Int)), .int .i64 (24 - (8 * (j : Int))), .int .u64 (sr l ((24 - (8 * (j : Int))).toNat)), .int .u8 (cv .u8 (sr l ((24 - (8 * (j : Int))).toNat))), .int .u16 (qp l j), .pointer (some ⟨g2, j, none⟩), .int .i64 ((j + 1 : Nat) : Int)] : List Value).getD (k_ - 4) undef, by kernel_rfl, M⟩
 ·intro a u0 hI
  obtain ⟨v1, rfl, M⟩ := hI
  refine wp_seq ?_
  refine rg_lit ?_
  refine pl_val (want_no rfl) (some 6) rfl (.bool false) (fun w => Eq.trans (b := .ok (.value (.bool (decide ((4 : Int) < 4)))) w) (by kernel_rfl) (by rw [decide_eq_false (by omega)])) ?_
  refine pl_nil ?_
  refine au_then ?_
  refine wp_seq ?_
  refine wp_cond_false (by kernel_rfl) ?_
  refine wp_exit ?_
  refine au_then_exit ?_
  refine au_then_exit ?_
  refine au_block_exit ?_
  refine au_then ?_
  refine wp_seq ?_
  refine rg_lit ?_
  refine pl_val (want_no rfl) (some 19) rfl (.slice (some ⟨g2, 0, none⟩) 4 4) (fun _ => by kernel_rfl) ?_
  refine pl_call M (want_no rfl) (some 20) rfl 157 #[.slice (some ⟨g2, 0, none⟩) 4 4, .string ⟨#[46]⟩, .int .i64 10] (.string (jn (ws10 (cutf (qp l) 4) 4) ⟨#[46]⟩)) (fun _ => by kernel_rfl) (fun w M => c_joined10 g2 0 4 4 (cutf (qp l) 4) ⟨#[46]⟩ (by decide) (by decide) (fun i => qf_nn l i) w M.laid (fun i hi => by rw [Nat.zero_add]; exact cell_av (M.get 1 rfl) (by omega))) ?_
  intro u3 M
  refine pl_val (want_no rfl) (some 2) rfl (.string (jn (ws10 (cutf (qp l) 4) 4) ⟨#[46]⟩)) (fun _ => by kernel_rfl) ?_
  refine pl_nil ?_
  refine au_then ?_
  refine wp_ret ?_
  have e0 : (tx4 l) = (jn (ws10 (cutf (qp l) 4) 4) ⟨#[46]⟩) := rfl
  exact bodyPost_ret (v := .string (jn (ws10 (cutf (qp l) 4) 4) ⟨#[46]⟩)) (results_tmp1 Tryz.results116 _ _ _ (by kernel_rfl)) (by kernel_rfl) ⟨by rw [e0], below_grown M.old⟩
set_option maxRecDepth 100000 in
set_option maxHeartbeats 4000000 in
set_option linter.unusedSimpArgs false in
theorem c_Text (v : Bool) (h l : Int) (w : World) (hL : Laid w)  :
  Calls Tryz.prog 81 #[.agg (av 3 (ls [.bool (v), .int .u64 h, .int .u64 l]))] w fun r w' => r = .returned (.string (txt v h l)) ∧ Below w.heap.size w w' := by
 go_enter Tryz.func81, Tryz.ntmps81
 have M := Mem.start hL
 refine wp_seq ?_
 refine rg_lit ?_
 refine pl_new M (want_no rfl) (some 1) rfl (.cells (av 3 (ls [.bool (v), .int .u64 h, .int .u64 l])) 49) (fun _ => by kernel_rfl) ?_
 intro g1 u1 M
 replace M : Mem ⟨w, []⟩ [⟨g1, .cells (av 3 (ls [.bool (v), .int .u64 h, .int .u64 l])) 49⟩] u1 := M
 refine pl_val (want_no rfl) (some 2) rfl (.string ⟨#[]⟩) (fun _ => by kernel_rfl) ?_
 refine pl_nil ?_
 refine au_then ?_
 refine wp_seq ?_
 refine wp_block ?_
 refine wp_seq ?_
 refine rg_lit ?_
 refine pl_load M (want_no rfl) (some 4) rfl 49 _ rfl 0 g1 0 (by kernel_rfl) 3 49 (ls [.bool (v), .int .u64 h, .int .u64 l]) rfl 3 (ls [.bool (v), .int .u64 h, .int .u64 l]) (fun j _ => by rw [Nat.zero_add]) (by decide) _ Tryz.underlying49 rfl inz49 ?_
 rcases Bool.eq_false_or_eq_true (mA v h l) with c0 | c0
 ·skip
  refine pl_call M (want_no rfl) (some 5) rfl 110 #[.agg (av 3 (ls [.bool (v), .int .u64 h, .int .u64 l]))] (.bool true) (fun _ => by kernel_rfl) (fun w M => call_val (c_mayAddr v h l w M.laid) (congrArg Value.bool c0)) ?_
  intro u2 M
  refine pl_val (want_no rfl) (some 6) rfl (.bool false) (fun _ => by kernel_rfl) ?_
  refine pl_val (want_no rfl) (some 3) rfl (.bool false) (fun _ => by kernel_rfl) ?_
  refine pl_nil ?_
  refine au_then ?_
  refine wp_cond_false (by kernel_rfl) ?_
  refine wp_seq ?_
  refine rg_lit ?_
  refine pl_val (want_no rfl) (some 8) rfl (.pointer (some ⟨g1, 0, none⟩)) (fun _ => by kernel_rfl) ?_
  rcases Bool.eq_false_or_eq_true (v) with c1 | c1
  ·skip
   refine pl_cell M (want_no rfl) (some 9) rfl 4 _ rfl g1 0 (by kernel_rfl) (.bool true) (fun _ => by kernel_rfl) (fun w M => M.cell 0 rfl (by decide) (congrArg Value.bool c1)) ?_
   refine pl_val (want_no rfl) (some 7) rfl (.bool true) (fun _ => by kernel_rfl) ?_
   refine pl_nil ?_
   refine au_then ?_
   refine wp_cond_true (by kernel_rfl) ?_
   refine wp_seq ?_
   refine rg_lit ?_
   refine pl_load M (want_no rfl) (some 10) rfl 49 _ rfl 0 g1 0 (by kernel_rfl) 3 49 (ls [.bool (v), .int .u64 h, .int .u64 l]) rfl 3 (ls [.bool (v), .int .u64 h, .int .u64 l]) (fun j _ => by rw [Nat.zero_add]) (by decide) _ Tryz.underlying49 rfl inz49 ?_
   refine pl_call M (want_no rfl) (some 11) rfl 115 #[.agg (av 3 (ls [.bool (v), .int .u64 h, .int .u64 l]))] (.string (tx6 h l)) (fun _ => by kernel_rfl) (fun w M => c_text6 v h l w M.laid) ?_
   intro u3 M
   refine pl_val (want_no rfl) (some 2) rfl (.string (tx6 h l)) (fun _ => by kernel_rfl) ?_
   refine pl_nil ?_
   refine au_then ?_
   refine wp_ret ?_
   refine au_block_ret ?_
   refine au_then_ret ?_
   have e0 : (txt v h l) = (tx6 h l) := by unfold txt; rw [if_pos c0, if_pos c1]
   exact bodyPost_ret (v := .string (tx6 h l)) (results_tmp1 Tryz.results81 _ _ _ (by kernel_rfl)) (by kernel_rfl) ⟨by rw [e0], below_grown M.old⟩
  ·skip
   refine pl_cell M (want_no rfl) (some 9) rfl 4 _ rfl g1 0 (by kernel_rfl) (.bool false) (fun _ => by kernel_rfl) (fun w M => M.cell 0 rfl (by decide) (congrArg Value.bool c1)) ?_
   refine pl_val (want_no rfl) (some 7) rfl (.bool false) (fun _ => by kernel_rfl) ?_
   refine pl_nil ?_
   refine au_then ?_
   refine wp_cond_false (by kernel_rfl) ?_
   refine wp_skip ?_
   refine au_block ?_
   refine au_then ?_
   refine wp_seq ?_
   refine rg_lit ?_
   refine pl_load M (want_no rfl) (some 12) rfl 49 _ rfl 0 g1 0 (by kernel_rfl) 3 49 (ls [.bool (v), .int .u64 h, .int .u64 l]) rfl 3 (ls [.bool (v), .int .u64 h, .int .u64 l]) (fun j _ => by rw [Nat.zero_add]) (by decide) _ Tryz.underlying49 rfl inz49 ?_
   refine pl_call M (want_no rfl) (some 13) rfl 116 #[.agg (av 3 (ls [.bool (v), .int .u64 h, .int .u64 l]))] (.string (tx4 l)) (fun _ => by kernel_rfl) (fun w M => c_text4 v h l w M.laid) ?_
   intro u3 M
   refine pl_val (want_no rfl) (some 2) rfl (.string (tx4 l)) (fun _ => by kernel_rfl) ?_
   refine pl_nil ?_
   refine au_then ?_
   refine wp_ret ?_
   have e0 : (txt v h l) = (tx4 l) := by unfold txt; rw [if_pos c0, if_neg (by rw [c1]; decide)]
   exact bodyPost_ret (v := .string (tx4 l)) (results_tmp1 Tryz.results81 _ _ _ (by kernel_rfl)) (by kernel_rfl) ⟨by rw [e0], below_grown M.old⟩
 ·skip
  refine pl_call M (want_no rfl) (some 5) rfl 110 #[.agg (av 3 (ls [.bool (v), .int .u64 h, .int .u64 l]))] (.bool false) (fun _ => by kernel_rfl) (fun w M => call_val (c_mayAddr v h l w M.laid) (congrArg Value.bool c0)) ?_
  intro u2 M
  refine pl_val (want_no rfl) (some 6) rfl (.bool true) (fun _ => by kernel_rfl) ?_
  refine pl_val (want_no rfl) (some 3) rfl (.bool true) (fun _ => by kernel_rfl) ?_
  refine pl_nil ?_
  refine au_then ?_
  refine wp_cond_true (by kernel_rfl) ?_
  refine wp_seq ?_
  refine rg_lit ?_
  refine pl_val (want_no rfl) (some 2) rfl (.string ⟨#[]⟩) (fun _ => by kernel_rfl) ?_
  refine pl_nil ?_
  refine au_then ?_
  refine wp_ret ?_
  refine au_block_ret ?_
  refine au_then_ret ?_
  have e0 : (txt v h l) = ⟨#[]⟩ := by unfold txt; rw [if_neg (by rw [c0]; decide)]
  exact bodyPost_ret (v := .string ⟨#[]⟩) (results_tmp1 Tryz.results81 _ _ _ (by kernel_rfl)) (by kernel_rfl) ⟨by rw [e0], below_grown M.old⟩
theorem c_ItoaI (b : Int) (hb0 : 0 ≤ b) (hb1 : b ≤ 255) (w : World) (hL : Laid w) : Calls Tryz.prog 82 #[.int .i64 b] w fun r w' => r = .returned (.string (dcT b)) ∧ Below w.heap.size w w' := by
 obtain ⟨n, rfl⟩ := Int.eq_ofNat_of_zero_le hb0
 exact c_Itoa n (by omega) w hL
set_option maxRecDepth 100000 in
set_option maxHeartbeats 4000000 in
set_option linter.unusedSimpArgs false in
theorem c_PrefixText (v : Bool) (h l : Int) (b : Int) (hb0 : 0 ≤ b) (hb1 : b ≤ 255) (w : World) (hL : Laid w)  :
  Calls Tryz.prog 46 #[.agg (av 4 (ls [.bool (v), .int .u64 h, .int .u64 l, .int .u8 b]))] w fun r w' => r = .returned (.string (ptx v h l b)) ∧ Below w.heap.size w w' := by
 go_enter Tryz.func46, Tryz.ntmps46
 have M := Mem.start hL
 refine wp_seq ?_
 refine rg_lit ?_
 refine pl_new M (want_no rfl) (some 1) rfl (.cells (av 4 (ls [.bool (v), .int .u64 h, .int .u64 l, .int .u8 b])) 51) (fun _ => by kernel_rfl) ?_
 intro g1 u1 M
 replace M : Mem ⟨w, []⟩ [⟨g1, .cells (av 4 (ls [.bool (v), .int .u64 h, .int .u64 l, .int .u8 b])) 51⟩] u1 := M
 refine pl_val (want_no rfl) (some 2) rfl (.string ⟨#[]⟩) (fun _ => by kernel_rfl) ?_
 refine pl_nil ?_
 refine au_then ?_
 refine wp_seq ?_
 refine wp_seq ?_
 refine rg_lit ?_
 refine pl_load M (want_no rfl) (some 3) rfl 51 _ rfl 0 g1 0 (by kernel_rfl) 4 51 (ls [.bool (v), .int .u64 h, .int .u64 l, .int .u8 b]) rfl 4 (ls [.bool (v), .int .u64 h, .int .u64 l, .int .u8 b]) (fun j _ => by rw [Nat.zero_add]) (by decide) _ Tryz.underlying51 rfl inz51 ?_
 rcases Bool.eq_false_or_eq_true (mP v h l b) with c0 | c0
 ·skip
  refine pl_call M (want_no rfl) (some 4) rfl 78 #[.agg (av 4 (ls [.bool (v), .int .u64 h, .int .u64 l, .int .u8 b]))] (.bool true) (fun _ => by kernel_rfl) (fun w M => call_val (c_MayPrefix v h l b (by omega) (by omega) w M.laid) (congrArg Value.bool c0)) ?_
  intro u2 M
  refine pl_val (want_no rfl) (some 5) rfl (.bool false) (fun _ => by kernel_rfl) ?_
  refine pl_nil ?_
  refine au_then ?_
  refine wp_cond_false (by kernel_rfl) ?_
  refine wp_skip ?_
  refine au_then ?_
  refine wp_seq ?_
  refine rg_tail M 9 (by kernel_rfl) (by kernel_rfl) ?_
  simp only [List.take_succ_cons, List.take_zero]
  refine k_val (want_no rfl) (some 6) rfl (.pointer (some ⟨g1, 0, none⟩)) (fun _ => by kernel_rfl) ?_
  refine k_load M (want_no rfl) (some 7) rfl 49 _ rfl 0 g1 0 (by kernel_rfl) 4 51 (ls [.bool (v), .int .u64 h, .int .u64 l, .int .u8 b]) rfl 3 (ls [.bool (v), .int .u64 h, .int .u64 l]) (part_ls _ 0 3 _ rfl) (by decide) _ Tryz.underlying49 rfl inz49 ?_
  refine k_call M (want_no rfl) (some 8) rfl 81 #[.agg (av 3 (ls [.bool (v), .int .u64 h, .int .u64 l]))] (.string (txt v h l)) (fun _ => by kernel_rfl) (fun w M => c_Text v h l w M.laid) ?_
  refine k_val (want_no rfl) (some 9) rfl (.string ((txt v h l) ++ (⟨#[47]⟩ : ByteArray))) (run_cat 9 9 _ _ rfl (txt v h l) ⟨#[47]⟩ (by kernel_rfl) (by kernel_rfl) (by have q0 := txt_le v h l; have q2 : (⟨#[47]⟩ : ByteArray).size = 1 := rfl; omega)) ?_
  refine k_val (want_no rfl) (some 10) rfl (.pointer (some ⟨g1, 3, none⟩)) (fun _ => by kernel_rfl) ?_
  refine k_cell M (want_no rfl) (some 11) rfl 5 _ rfl g1 3 (by kernel_rfl) (.int .u8 b) (fun _ => by kernel_rfl) (fun w M => M.cell 0 rfl (by decide) rfl) ?_
  refine k_val (want_no rfl) (some 12) rfl (.int .i64 b) (fun w => Eq.trans (b := .ok (.value (.int .i64 (IntKind.wrap .i64 b))) w) (by kernel_rfl) (by rw [wrap64 (by omega) (by omega)])) ?_
  refine k_call M (want_no rfl) (some 13) rfl 82 #[.int .i64 b] (.string (dcT b)) (fun _ => by kernel_rfl) (fun w M => c_ItoaI b (by omega) (by omega) w M.laid) ?_
  refine k_val (want_no rfl) (some 14) rfl (.string (((txt v h l) ++ (⟨#[47]⟩ : ByteArray)) ++ (dcT b))) (run_cat 9 9 _ _ rfl ((txt v h l) ++ (⟨#[47]⟩ : ByteArray)) (dcT b) (by kernel_rfl) (by kernel_rfl) (by have q0 := txt_le v h l; have q1 := dcT_size b; simp only [ByteArray.size_append]; have q2 : (⟨#[47]⟩ : ByteArray).size = 1 := rfl; omega)) ?_
  refine kl_nil ?_
  intro u3 M
  replace M : Mem ⟨w, []⟩ [⟨g1, .cells (av 4 (ls [.bool (v), .int .u64 h, .int .u64 l, .int .u8 b])) 51⟩] u3 := M
  refine pl_val (want_no rfl) (some 2) rfl (.string (((txt v h l) ++ (⟨#[47]⟩ : ByteArray)) ++ (dcT b))) (fun _ => by kernel_rfl) ?_
  refine pl_nil ?_
  refine au_then ?_
  refine wp_ret ?_
  have e0 : (ptx v h l b) = (((txt v h l) ++ (⟨#[47]⟩ : ByteArray)) ++ (dcT b)) := by unfold ptx; rw [if_pos c0]
  exact bodyPost_ret (v := .string (((txt v h l) ++ (⟨#[47]⟩ : ByteArray)) ++ (dcT b))) (results_tmp1 Tryz.results46 _ _ _ (by kernel_rfl)) (by kernel_rfl) ⟨by rw [e0], below_grown M.old⟩
 ·skip
  refine pl_call M (want_no rfl) (some 4) rfl 78 #[.agg (av 4 (ls [.bool (v), .int .u64 h, .int .u64 l, .int .u8 b]))] (.bool false) (fun _ => by kernel_rfl) (fun w M => call_val (c_MayPrefix v h l b (by omega) (by omega) w M.laid) (congrArg Value.bool c0)) ?_
  intro u2 M
  refine pl_val (want_no rfl) (some 5) rfl (.bool true) (fun _ => by kernel_rfl) ?_
  refine pl_nil ?_
  refine au_then ?_
  refine wp_cond_true (by kernel_rfl) ?_
  refine wp_seq ?_
  refine rg_lit ?_
  refine pl_val (want_no rfl) (some 2) rfl (.string ⟨#[]⟩) (fun _ => by kernel_rfl) ?_
  refine pl_nil ?_
  refine au_then ?_
  refine wp_ret ?_
  refine au_then_ret ?_
  have e0 : (ptx v h l b) = ⟨#[]⟩ := by unfold ptx; rw [if_neg (by rw [c0]; decide)]
  exact bodyPost_ret (v := .string ⟨#[]⟩) (results_tmp1 Tryz.results46 _ _ _ (by kernel_rfl)) (by kernel_rfl) ⟨by rw [e0], below_grown M.old⟩
end Go.Proofs.YtbdgncndhnnjoaaGreatDoor.Ip
