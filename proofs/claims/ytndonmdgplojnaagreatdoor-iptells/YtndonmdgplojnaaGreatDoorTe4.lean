/- Part 4 of the walks and facts behind ipTells_holds. -/
import Derived.Test.YtndonmdgplojnaaGreatDoorTe3
namespace Go.Proofs.YtndonmdgplojnaaGreatDoor
open Go.RowKit
theorem ob8_nn (x y : Int) : 0 ≤ ob8 x y ∧ ob8 x y < 256 := by
 unfold ob8
 rw [IntKind.wrap_u8]
 omega
def dv (c : Int) : Int := if 48 ≤ c ∧ c ≤ 57 then c - 48 else if 97 ≤ ob8 c 32 ∧ ob8 c 32 ≤ 122 then ob8 c 32 - 97 + 10 else 99
theorem dv_d (c : Int) (h : 48 ≤ c ∧ c ≤ 57) : dv c = c - 48 := if_pos h
theorem dv_l (c : Int) (h : ¬ (48 ≤ c ∧ c ≤ 57)) (h2 : 97 ≤ ob8 c 32 ∧ ob8 c 32 ≤ 122) : dv c = ob8 c 32 - 97 + 10 := by
 unfold dv
 rw [if_neg h, if_pos h2]
theorem dv_n (c : Int) (h : ¬ (48 ≤ c ∧ c ≤ 57)) (h2 : ¬ (97 ≤ ob8 c 32 ∧ ob8 c 32 ≤ 122)) : dv c = 99 := by
 unfold dv
 rw [if_neg h, if_neg h2]
theorem dv_nn (c : Int) : 0 ≤ dv c ∧ dv c ≤ 99 := by
 have := ob8_nn c 32
 unfold dv
 split
 ·omega
 ·split <;> omega
def pz (b m : Int) (s : ByteArray) : Nat → Option Int
 | 0 => some 0
 | j + 1 => (pz b m s j).bind fun n => if dv (bt s j) < b then (if m < n * b + dv (bt s j) then none else some (n * b + dv (bt s j))) else none
def pv (b m : Int) (s : ByteArray) (j : Nat) : Int := (pz b m s j).getD 0
def prs (b m : Int) (s : ByteArray) : Option Int := if s = (⟨#[]⟩ : ByteArray) then none else pz b m s s.size
def nmb (b m : Int) (s : ByteArray) : Option Int := if (4 : Int) < (s.size : Int) then none else prs b m s
theorem pz_ok {b m : Int} {s : ByteArray} {j : Nat} {n d : Int} (h : pz b m s j = some n) (hd : dv (bt s j) = d) (h1 : d < b) (h2 : ¬ m < n * b + d) : pz b m s (j + 1) = some (n * b + d) := by
 unfold pz
 rw [h, hd]
 simp only [Option.bind_some]
 rw [if_pos h1, if_neg h2]
theorem pz_bad {b m : Int} {s : ByteArray} {j : Nat} {n d : Int} (h : pz b m s j = some n) (hd : dv (bt s j) = d) (h1 : ¬ d < b) : pz b m s (j + 1) = none := by
 unfold pz
 rw [h, hd]
 simp only [Option.bind_some]
 rw [if_neg h1]
theorem pz_big {b m : Int} {s : ByteArray} {j : Nat} {n d : Int} (h : pz b m s j = some n) (hd : dv (bt s j) = d) (h1 : d < b) (h2 : m < n * b + d) : pz b m s (j + 1) = none := by
 unfold pz
 rw [h, hd]
 simp only [Option.bind_some]
 rw [if_pos h1, if_pos h2]
theorem pz_none {b m : Int} {s : ByteArray} {j : Nat} (h : pz b m s j = none) (k : Nat) : pz b m s (j + k) = none := by
 induction k with
 | zero => exact h
 | succ k ih =>
  show pz b m s (j + k + 1) = none
  unfold pz
  rw [ih]
  rfl
theorem prs_none {b m : Int} {s : ByteArray} {j : Nat} (hj : j < s.size) (h : pz b m s (j + 1) = none) : prs b m s = none := by
 unfold prs
 split
 ·rfl
 ·obtain ⟨k, hk⟩ : ∃ k, s.size = j + 1 + k := ⟨s.size - (j + 1), by omega⟩
  rw [hk]
  exact pz_none h k
theorem pv_le {b m : Int} {s : ByteArray} (hm : 0 ≤ m) (hb : 0 ≤ b) (j : Nat) : 0 ≤ pv b m s j ∧ pv b m s j ≤ m := by
 unfold pv
 induction j with
 | zero => exact ⟨Int.le_refl 0, hm⟩
 | succ j ih =>
  unfold pz
  cases h : pz b m s j with
  | none => exact ⟨Int.le_refl 0, hm⟩
  | some n =>
   rw [h] at ih
   simp only [Option.bind_some, Option.getD_some] at ih ⊢
   have hd := dv_nn (bt s j)
   have hn : 0 ≤ n * b := Int.mul_nonneg ih.1 hb
   split
   ·split
    ·exact ⟨Int.le_refl 0, hm⟩
    ·simp only [Option.getD_some]
     omega
   ·exact ⟨Int.le_refl 0, hm⟩
theorem c_lower (c : Int) (w : World) : Calls Tryz.prog 112 #[.int .u8 c] w fun r w' => r = .returned (.int .u8 (ob8 c 32)) ∧ Below w.heap.size w w' :=
 (Any.internal_strconv_lower lays321 c w).mono fun _ _ ⟨he, hw⟩ => ⟨he, below_same hw⟩
set_option maxRecDepth 100000 in
set_option maxHeartbeats 4000000 in
set_option linter.unusedSimpArgs false in
theorem c_ipu10 (s : ByteArray) (hs : s.size ≤ 1000) (w : World) (hL : Laid w)  :
  Calls Tryz.prog 92 #[.string s, .int .i64 10, .int .i64 8] w fun r w' => ((∃ x : Int, prs 10 255 s = some x ∧ r = .returned (.tuple #[.int .u64 x, .nilIface])) ∨ (prs 10 255 s = none ∧ ∃ y k : Int, (k = 1 ∨ k = 2) ∧ r = .returned (.tuple #[.int .u64 y, .iface 131 (.int .i64 k)]))) ∧ Below w.heap.size w w' := by
 go_enter Tryz.func92, Tryz.ntmps92
 have M := Mem.start hL
 refine sR ?_
 refine pV 6 (.int .u64 0) ?_
 refine pV 7 (.nilIface) ?_
 refine nT ?_
 refine wp_seq ?_
 refine sR ?_
 refine pV 18 (.string s) ?_
 by_cases c0 : s = (⟨#[]⟩ : ByteArray)
 ·skip
  refine pH 19 (.bool true) (fun w => Eq.trans (b := .ok (.value (.bool (s.toList == (⟨#[]⟩ : ByteArray).toList))) w) (by kernel_rfl) (by rw [seq_pos c0])) ?_
  refine nT ?_
  refine wp_cond_true (by kernel_rfl) ?_
  refine sR ?_
  refine pV 20 (.iface 131 (.int .i64 2)) ?_
  refine pV 6 (.int .u64 0) ?_
  refine pV 7 (.iface 131 (.int .i64 2)) ?_
  refine nT ?_
  refine wp_ret ?_
  refine au_then_ret ?_
  exact bodyPost_ret (v := .tuple #[.int .u64 0, .iface 131 (.int .i64 2)]) (results_tmp2 Tryz.results92 _ _ _ _ (by kernel_rfl) (by kernel_rfl)) (by kernel_rfl) ⟨.inr ⟨if_pos c0, 0, 2, .inr rfl, rfl⟩, below_grown M.old⟩
 ·skip
  refine pH 19 (.bool false) (fun w => Eq.trans (b := .ok (.value (.bool (s.toList == (⟨#[]⟩ : ByteArray).toList))) w) (by kernel_rfl) (by rw [seq_neg c0])) ?_
  refine nT ?_
  refine wp_cond_false (by kernel_rfl) ?_
  refine wp_skip ?_
  refine au_then ?_
  refine sR ?_
  refine pV 21 (.int .i64 10) ?_
  refine pV 22 (.bool false) ?_
  refine pV 8 (.bool false) ?_
  refine nT ?_
  refine sR ?_
  refine pV 23 (.string s) ?_
  refine pV 9 (.string s) ?_
  refine nT ?_
  refine wp_seq ?_
  refine wp_block ?_
  refine sR ?_
  refine pV 26 (.int .i64 10) ?_
  refine pV 27 (.bool true) ?_
  refine pV 28 (.bool true) ?_
  refine pl_val (want_on 2 true rfl 28 rfl (by kernel_rfl)) (some 29) rfl (.int .i64 10) (fun _ => by kernel_rfl) ?_
  refine pl_val (want_on 2 true rfl 28 rfl (by kernel_rfl)) (some 30) rfl (.bool true) (fun _ => by kernel_rfl) ?_
  refine pV 31 (.bool true) ?_
  refine pV 25 (.bool true) ?_
  refine nT ?_
  refine wp_cond_true (by kernel_rfl) ?_
  refine wp_skip ?_
  refine au_block ?_
  refine au_then ?_
  refine wp_seq ?_
  refine sR ?_
  refine pV 76 (.int .i64 8) ?_
  refine pV 77 (.bool false) ?_
  refine nT ?_
  refine wp_cond_false (by kernel_rfl) ?_
  refine sR ?_
  refine pV 78 (.int .i64 8) ?_
  refine pV 79 (.bool false) ?_
  refine pV 80 (.bool false) ?_
  refine pl_val (want_on 2 false rfl 80 rfl (by kernel_rfl)) (some 81) rfl (.int .i64 8) (fun _ => by kernel_rfl) ?_
  refine pl_val (want_on 2 false rfl 80 rfl (by kernel_rfl)) (some 82) rfl (.bool false) (fun _ => by kernel_rfl) ?_
  refine pV 83 (.bool false) ?_
  refine nT ?_
  refine wp_cond_false (by kernel_rfl) ?_
  refine wp_skip ?_
  refine au_then ?_
  refine sR ?_
  refine pV 10 (.int .u64 0) ?_
  refine nT ?_
  refine wp_seq ?_
  refine sR ?_
  refine pV 85 (.int .i64 10) ?_
  refine nT ?_
  refine wp_block ?_
  refine sR ?_
  refine pV 91 (.bool true) ?_
  refine pV 90 (.bool true) ?_
  refine nT ?_
  refine wp_cond_true (by kernel_rfl) ?_
  refine rg_lit ?_
  refine pV 10 (.int .u64 1844674407370955162) ?_
  refine pl_nil ?_
  refine au_block ?_
  refine au_then ?_
  refine sR ?_
  refine pV 94 (.int .i64 8) ?_
  refine pV 95 (.int .u64 8) ?_
  refine pV 96 (.int .u64 256) ?_
  refine pV 97 (.int .u64 255) ?_
  refine pV 11 (.int .u64 255) ?_
  refine nT ?_
  refine sR ?_
  refine pV 12 (.bool false) ?_
  refine nT ?_
  refine sR ?_
  refine pV 13 (.int .u64 0) ?_
  refine nT ?_
  refine wp_seq ?_
  refine sR ?_
  refine pV 98 (.string s) ?_
  refine pl_conv M (want_no rfl) (some 99) rfl _ rfl s (by kernel_rfl) ?_
  intro g1 cap1 Z1 u1 hZ1 M
  refine pV 100 (.int .i64 ((s.size : Nat) : Int)) ?_
  refine pV 101 (.int .i64 0) ?_
  refine nT ?_
  refine wp_block ?_
  refine au_loop (fun j a w' => ∃ v1 : Nat → Value, a = ⟨#[.string s, .int .i64 10, .int .i64 8, undef, undef, undef, v1 6, v1 7, .bool false, .string s, .int .u64 1844674407370955162, .int .u64 255, .bool false, .int .u64 (pv 10 255 s j), undef, v1 15, v1 16, v1 17, .string s, .bool false, undef, .int .i64 10, .bool false, .string s, undef, .bool true, .int .i64 10, .bool true, .bool true, .int .i64 10, .bool true, .bool true, undef, undef, undef, undef, undef, undef, undef, undef, undef, undef, undef, undef, undef, undef, undef, undef, undef, undef, undef, undef, undef, undef, undef, undef, undef, undef, undef, undef, undef, undef, undef, undef, undef, undef, undef, undef, undef, undef, undef, undef, undef, undef, undef, undef, .int .i64 8, .bool false, .int .i64 8, .bool false, .bool false, .int .i64 8, .bool false, .bool false, undef, .int .i64 10, undef, undef, undef, undef, .bool true, .bool true, undef, undef, .int .i64 8, .int .u64 8, .int .u64 256, .int .u64 255, .string s, .slice (some ⟨g1, 0, none⟩) s.size cap1, .int .i64 ((s.size : Nat) : Int), .int .i64 (j : Int), v1 102, v1 103, v1 104, v1 105, v1 106, v1 107, v1 108, v1 109, v1 110, v1 111, v1 112, v1 113, v1 114, v1 115, v1 116, v1 117, v1 118, v1 119, v1 120, v1 121, v1 122, v1 123, v1 124, v1 125, v1 126, v1 127, v1 128, v1 129, v1 130, v1 131, v1 132, v1 133, v1 134, v1 135, v1 136, v1 137, v1 138, v1 139, v1 140, v1 141, v1 142, v1 143, v1 144, v1 145, v1 146, v1 147, v1 148, v1 149, v1 150, v1 151, v1 152, v1 153, v1 154, v1 155, v1 156, v1 157, v1 158, v1 159, v1 160, v1 161, v1 162, v1 163, undef, undef, undef, undef, undef, undef, undef, undef], []⟩ ∧ Mem ⟨w, []⟩ [⟨g1, Z1⟩] w' ∧ pz 10 255 s j = some (pv 10 255 s j)) s.size ⟨fun k_ => ([.int .u64 0, .nilIface, undef, undef, undef, undef, undef, undef, undef, undef, undef, undef, undef, undef, undef, undef, undef, undef, undef, undef, undef, undef, undef, undef, undef, undef, undef, undef, undef, undef, undef, undef, undef, undef, undef, undef, undef, undef, undef, undef, undef, undef, undef, undef, undef, undef, undef, undef, undef, undef, undef, undef, undef, undef, undef, undef, undef, undef, undef, undef, undef, undef, undef, undef, undef, undef, undef, undef, undef, undef, undef, undef, undef, undef, undef, undef, undef, undef, undef, undef, undef, undef, undef, undef, undef, undef, undef, undef, undef, undef, undef, undef, undef, undef, undef, undef, undef, undef, undef, undef, undef, undef, undef, undef, undef, undef, undef, undef, undef, undef, undef, undef, undef, undef, undef, undef, undef, undef, undef, undef, undef, undef, undef, undef, undef, undef, undef, undef, undef, undef, undef, undef, undef, undef, undef, undef, undef, undef, undef, undef, undef, undef, undef, undef, undef, undef, undef, undef, undef, undef, undef, undef, undef, undef, undef, undef, undef, undef] : List Value).getD (k_ - 6) undef, by kernel_rfl, M, rfl⟩ ?_ ?_
  ·intro j a u0 hj hI
   obtain ⟨v1, rfl, M, hx⟩ := hI
   have hb := bt_nn s j
   have ho := ob8_nn (bt s j) 32
   have hp := pv_le (b := 10) (m := 255) (s := s) (by decide) (by decide) j
   refine sR ?_
   refine pH 102 (.bool true) (dTz ((j : Int) < ((s.size : Nat) : Int)) (by omega)) ?_
   refine nT ?_
   refine wp_seq ?_
   refine wp_cond_true (by kernel_rfl) ?_
   refine wp_skip ?_
   refine au_then ?_
   refine wp_seq ?_
   refine wp_block ?_
   refine sR ?_
   refine pH 103 (.pointer (some ⟨g1, j, none⟩)) (run_ix0 54 5 Tryz.underlying54 inz5 _ _ rfl g1 s.size cap1 (by kernel_rfl) .i64 j (by kernel_rfl) (by omega)) ?_
   refine pEz M 104 g1 j (.int .u8 (bt s j)) (fun w M => hZ1.cell (M.get 0 rfl) (vs8_sb _ _ (by omega))) ?_
   refine pV 15 (.int .u8 (bt s j)) ?_
   refine nT ?_
   refine sR ?_
   refine pV 16 (.int .u8 0) ?_
   refine nT ?_
   refine wp_seq ?_
   refine wp_block ?_
   refine sR ?_
   refine pV 107 (.int .u8 (bt s j)) ?_
   by_cases c1 : (bt s j) = 95
   ·skip
    refine pH 108 (.bool true) (dTz ((bt s j) = 95) (c1)) ?_
    refine pV 109 (.bool true) ?_
    refine pl_val (want_on 2 true rfl 109 rfl (by kernel_rfl)) (some 110) rfl (.bool false) (fun _ => by kernel_rfl) ?_
    refine pV 111 (.bool false) ?_
    refine pV 106 (.bool false) ?_
    refine nT ?_
    refine wp_cond_false (by kernel_rfl) ?_
    refine sR ?_
    refine pV 113 (.int .u8 (bt s j)) ?_
    by_cases c2 : (bt s j) < 48
    ·omega
    ·skip
     refine pH 114 (.bool true) (dTz (48 ≤ (bt s j)) (by omega)) ?_
     refine pV 115 (.bool true) ?_
     refine pl_val (want_on 2 true rfl 115 rfl (by kernel_rfl)) (some 116) rfl (.int .u8 (bt s j)) (fun _ => by kernel_rfl) ?_
     by_cases c3 : 57 < (bt s j)
     ·skip
      refine pl_val (want_on 2 true rfl 115 rfl (by kernel_rfl)) (some 117) rfl (.bool false) (fun w => Eq.trans (b := .ok (.value (.bool (decide ((bt s j) ≤ 57)))) w) (by kernel_rfl) (by rw [decide_eq_false (by omega)])) ?_
      refine pV 118 (.bool false) ?_
      refine pV 112 (.bool false) ?_
      refine nT ?_
      refine wp_cond_false (by kernel_rfl) ?_
      refine sR ?_
      refine pV 122 (.int .u8 (bt s j)) ?_
      refine pC M 123 112 #[.int .u8 (bt s j)] (.int .u8 (ob8 (bt s j) 32)) (fun w M => c_lower (bt s j) w) fun u2 M => ?_
      by_cases c4 : (ob8 (bt s j) 32) < 97
      ·exact absurd c4 (by rw [c1]; decide)
      ·skip
       refine pH 124 (.bool true) (dTz (97 ≤ (ob8 (bt s j) 32)) (by omega)) ?_
       refine pV 125 (.bool true) ?_
       refine pl_val (want_on 3 true rfl 125 rfl (by kernel_rfl)) (some 126) rfl (.int .u8 (bt s j)) (fun _ => by kernel_rfl) ?_
       refine pl_call M (want_on 3 true rfl 125 rfl (by kernel_rfl)) (some 127) rfl 112 #[.int .u8 (bt s j)] (.int .u8 (ob8 (bt s j) 32)) (fun _ => by kernel_rfl) (fun w M => c_lower (bt s j) w) fun u3 M => ?_
       by_cases c5 : 122 < (ob8 (bt s j) 32)
       ·skip
        refine pl_val (want_on 3 true rfl 125 rfl (by kernel_rfl)) (some 128) rfl (.bool false) (fun w => Eq.trans (b := .ok (.value (.bool (decide ((ob8 (bt s j) 32) ≤ 122)))) w) (by kernel_rfl) (by rw [decide_eq_false (by omega)])) ?_
        refine pV 129 (.bool false) ?_
        refine pV 121 (.bool false) ?_
        refine nT ?_
        refine wp_cond_false (by kernel_rfl) ?_
        refine sR ?_
        refine pV 105 (.iface 131 (.int .i64 2)) ?_
        refine pV 6 (.int .u64 0) ?_
        refine pV 7 (.iface 131 (.int .i64 2)) ?_
        refine nT ?_
        refine wp_ret ?_
        refine au_block_ret ?_
        refine au_then_ret ?_
        refine au_block_ret ?_
        refine au_then_ret ?_
        refine au_then_ret ?_
        refine au_block_ret ?_
        refine au_then_ret ?_
        exact bodyPost_ret (v := .tuple #[.int .u64 0, .iface 131 (.int .i64 2)]) (results_tmp2 Tryz.results92 _ _ _ _ (by kernel_rfl) (by kernel_rfl)) (by kernel_rfl) ⟨.inr ⟨prs_none hj (pz_bad hx (dv_n (bt s j) (by omega) (by omega)) (by omega)), 0, 2, .inr rfl, rfl⟩, below_grown M.old⟩
       ·exact absurd c5 (by rw [c1]; decide)
     ·omega
   ·skip
    refine pH 108 (.bool false) (dF ((bt s j) = 95) (c1)) ?_
    refine pV 109 (.bool false) ?_
    refine pl_skip (want_off 2 true rfl 109 rfl (by kernel_rfl)) (some 110) rfl ?_
    refine pV 111 (.bool false) ?_
    refine pV 106 (.bool false) ?_
    refine nT ?_
    refine wp_cond_false (by kernel_rfl) ?_
    refine sR ?_
    refine pV 113 (.int .u8 (bt s j)) ?_
    by_cases c2 : (bt s j) < 48
    ·skip
     refine pH 114 (.bool false) (dF (48 ≤ (bt s j)) (by omega)) ?_
     refine pV 115 (.bool false) ?_
     refine pl_skip (want_off 2 true rfl 115 rfl (by kernel_rfl)) (some 116) rfl ?_
     refine pl_skip (want_off 2 true rfl 115 rfl (by kernel_rfl)) (some 117) rfl ?_
     refine pV 118 (.bool false) ?_
     refine pV 112 (.bool false) ?_
     refine nT ?_
     refine wp_cond_false (by kernel_rfl) ?_
     refine sR ?_
     refine pV 122 (.int .u8 (bt s j)) ?_
     refine pC M 123 112 #[.int .u8 (bt s j)] (.int .u8 (ob8 (bt s j) 32)) (fun w M => c_lower (bt s j) w) fun u2 M => ?_
     by_cases c3 : (ob8 (bt s j) 32) < 97
     ·skip
      refine pH 124 (.bool false) (dF (97 ≤ (ob8 (bt s j) 32)) (by omega)) ?_
      refine pV 125 (.bool false) ?_
      refine pl_skip (want_off 3 true rfl 125 rfl (by kernel_rfl)) (some 126) rfl ?_
      refine pl_skip (want_off 3 true rfl 125 rfl (by kernel_rfl)) (some 127) rfl ?_
      refine pl_skip (want_off 3 true rfl 125 rfl (by kernel_rfl)) (some 128) rfl ?_
      refine pV 129 (.bool false) ?_
      refine pV 121 (.bool false) ?_
      refine nT ?_
      refine wp_cond_false (by kernel_rfl) ?_
      refine sR ?_
      refine pV 105 (.iface 131 (.int .i64 2)) ?_
      refine pV 6 (.int .u64 0) ?_
      refine pV 7 (.iface 131 (.int .i64 2)) ?_
      refine nT ?_
      refine wp_ret ?_
      refine au_block_ret ?_
      refine au_then_ret ?_
      refine au_block_ret ?_
      refine au_then_ret ?_
      refine au_then_ret ?_
      refine au_block_ret ?_
      refine au_then_ret ?_
      exact bodyPost_ret (v := .tuple #[.int .u64 0, .iface 131 (.int .i64 2)]) (results_tmp2 Tryz.results92 _ _ _ _ (by kernel_rfl) (by kernel_rfl)) (by kernel_rfl) ⟨.inr ⟨prs_none hj (pz_bad hx (dv_n (bt s j) (by omega) (by omega)) (by omega)), 0, 2, .inr rfl, rfl⟩, below_grown M.old⟩
     ·skip
      refine pH 124 (.bool true) (dTz (97 ≤ (ob8 (bt s j) 32)) (by omega)) ?_
      refine pV 125 (.bool true) ?_
      refine pl_val (want_on 3 true rfl 125 rfl (by kernel_rfl)) (some 126) rfl (.int .u8 (bt s j)) (fun _ => by kernel_rfl) ?_
      refine pl_call M (want_on 3 true rfl 125 rfl (by kernel_rfl)) (some 127) rfl 112 #[.int .u8 (bt s j)] (.int .u8 (ob8 (bt s j) 32)) (fun _ => by kernel_rfl) (fun w M => c_lower (bt s j) w) fun u3 M => ?_
      by_cases c4 : 122 < (ob8 (bt s j) 32)
      ·skip
       refine pl_val (want_on 3 true rfl 125 rfl (by kernel_rfl)) (some 128) rfl (.bool false) (fun w => Eq.trans (b := .ok (.value (.bool (decide ((ob8 (bt s j) 32) ≤ 122)))) w) (by kernel_rfl) (by rw [decide_eq_false (by omega)])) ?_
       refine pV 129 (.bool false) ?_
       refine pV 121 (.bool false) ?_
       refine nT ?_
       refine wp_cond_false (by kernel_rfl) ?_
       refine sR ?_
       refine pV 105 (.iface 131 (.int .i64 2)) ?_
       refine pV 6 (.int .u64 0) ?_
       refine pV 7 (.iface 131 (.int .i64 2)) ?_
       refine nT ?_
       refine wp_ret ?_
       refine au_block_ret ?_
       refine au_then_ret ?_
       refine au_block_ret ?_
       refine au_then_ret ?_
       refine au_then_ret ?_
       refine au_block_ret ?_
       refine au_then_ret ?_
       exact bodyPost_ret (v := .tuple #[.int .u64 0, .iface 131 (.int .i64 2)]) (results_tmp2 Tryz.results92 _ _ _ _ (by kernel_rfl) (by kernel_rfl)) (by kernel_rfl) ⟨.inr ⟨prs_none hj (pz_bad hx (dv_n (bt s j) (by omega) (by omega)) (by omega)), 0, 2, .inr rfl, rfl⟩, below_grown M.old⟩
      ·skip
       refine pl_val (want_on 3 true rfl 125 rfl (by kernel_rfl)) (some 128) rfl (.bool true) (fun w => Eq.trans (b := .ok (.value (.bool (decide ((ob8 (bt s j) 32) ≤ 122)))) w) (by kernel_rfl) (by rw [decide_eq_true (by omega)])) ?_
       refine pV 129 (.bool true) ?_
       refine pV 121 (.bool true) ?_
       refine nT ?_
       refine wp_cond_true (by kernel_rfl) ?_
       refine rg_lit ?_
       refine pV 130 (.int .u8 (bt s j)) ?_
       refine pC M 131 112 #[.int .u8 (bt s j)] (.int .u8 (ob8 (bt s j) 32)) (fun w M => c_lower (bt s j) w) fun u4 M => ?_
       refine pH 132 (.int .u8 (ob8 (bt s j) 32 - 97)) (fun w => Eq.trans (b := .ok (.value (.int .u8 (cv .u8 (ob8 (bt s j) 32 - 97)))) w) (by kernel_rfl) (by rw [cv_u8]; congr 3; omega)) ?_
       refine pH 133 (.int .u8 (ob8 (bt s j) 32 - 97 + 10)) (fun w => Eq.trans (b := .ok (.value (.int .u8 (cv .u8 (ob8 (bt s j) 32 - 97 + 10)))) w) (by kernel_rfl) (by rw [cv_u8]; congr 3; omega)) ?_
       refine pV 16 (.int .u8 (ob8 (bt s j) 32 - 97 + 10)) ?_
       refine pl_nil ?_
       refine au_block ?_
       refine au_then ?_
       refine wp_seq ?_
       refine sR ?_
       refine pV 134 (.int .u8 (ob8 (bt s j) 32 - 97 + 10)) ?_
       refine pV 135 (.int .i64 10) ?_
       refine pV 136 (.int .u8 10) ?_
       by_cases c5 : (ob8 (bt s j) 32 - 97 + 10) < 10
       ·omega
       ·skip
        refine pH 137 (.bool true) (dTz (10 ≤ (ob8 (bt s j) 32 - 97 + 10)) (by omega)) ?_
        refine nT ?_
        refine wp_cond_true (by kernel_rfl) ?_
        refine sR ?_
        refine pV 138 (.iface 131 (.int .i64 2)) ?_
        refine pV 6 (.int .u64 0) ?_
        refine pV 7 (.iface 131 (.int .i64 2)) ?_
        refine nT ?_
        refine wp_ret ?_
        refine au_then_ret ?_
        refine au_block_ret ?_
        refine au_then_ret ?_
        refine au_then_ret ?_
        refine au_block_ret ?_
        refine au_then_ret ?_
        exact bodyPost_ret (v := .tuple #[.int .u64 0, .iface 131 (.int .i64 2)]) (results_tmp2 Tryz.results92 _ _ _ _ (by kernel_rfl) (by kernel_rfl)) (by kernel_rfl) ⟨.inr ⟨prs_none hj (pz_bad hx (dv_l (bt s j) (by omega) (by omega)) (by omega)), 0, 2, .inr rfl, rfl⟩, below_grown M.old⟩
    ·skip
     refine pH 114 (.bool true) (dTz (48 ≤ (bt s j)) (by omega)) ?_
     refine pV 115 (.bool true) ?_
     refine pl_val (want_on 2 true rfl 115 rfl (by kernel_rfl)) (some 116) rfl (.int .u8 (bt s j)) (fun _ => by kernel_rfl) ?_
     by_cases c3 : 57 < (bt s j)
     ·skip
      refine pl_val (want_on 2 true rfl 115 rfl (by kernel_rfl)) (some 117) rfl (.bool false) (fun w => Eq.trans (b := .ok (.value (.bool (decide ((bt s j) ≤ 57)))) w) (by kernel_rfl) (by rw [decide_eq_false (by omega)])) ?_
      refine pV 118 (.bool false) ?_
      refine pV 112 (.bool false) ?_
      refine nT ?_
      refine wp_cond_false (by kernel_rfl) ?_
      refine sR ?_
      refine pV 122 (.int .u8 (bt s j)) ?_
      refine pC M 123 112 #[.int .u8 (bt s j)] (.int .u8 (ob8 (bt s j) 32)) (fun w M => c_lower (bt s j) w) fun u2 M => ?_
      by_cases c4 : (ob8 (bt s j) 32) < 97
      ·skip
       refine pH 124 (.bool false) (dF (97 ≤ (ob8 (bt s j) 32)) (by omega)) ?_
       refine pV 125 (.bool false) ?_
       refine pl_skip (want_off 3 true rfl 125 rfl (by kernel_rfl)) (some 126) rfl ?_
       refine pl_skip (want_off 3 true rfl 125 rfl (by kernel_rfl)) (some 127) rfl ?_
       refine pl_skip (want_off 3 true rfl 125 rfl (by kernel_rfl)) (some 128) rfl ?_
       refine pV 129 (.bool false) ?_
       refine pV 121 (.bool false) ?_
       refine nT ?_
       refine wp_cond_false (by kernel_rfl) ?_
       refine sR ?_
       refine pV 105 (.iface 131 (.int .i64 2)) ?_
       refine pV 6 (.int .u64 0) ?_
       refine pV 7 (.iface 131 (.int .i64 2)) ?_
       refine nT ?_
       refine wp_ret ?_
       refine au_block_ret ?_
       refine au_then_ret ?_
       refine au_block_ret ?_
       refine au_then_ret ?_
       refine au_then_ret ?_
       refine au_block_ret ?_
       refine au_then_ret ?_
       exact bodyPost_ret (v := .tuple #[.int .u64 0, .iface 131 (.int .i64 2)]) (results_tmp2 Tryz.results92 _ _ _ _ (by kernel_rfl) (by kernel_rfl)) (by kernel_rfl) ⟨.inr ⟨prs_none hj (pz_bad hx (dv_n (bt s j) (by omega) (by omega)) (by omega)), 0, 2, .inr rfl, rfl⟩, below_grown M.old⟩
      ·skip
       refine pH 124 (.bool true) (dTz (97 ≤ (ob8 (bt s j) 32)) (by omega)) ?_
       refine pV 125 (.bool true) ?_
       refine pl_val (want_on 3 true rfl 125 rfl (by kernel_rfl)) (some 126) rfl (.int .u8 (bt s j)) (fun _ => by kernel_rfl) ?_
       refine pl_call M (want_on 3 true rfl 125 rfl (by kernel_rfl)) (some 127) rfl 112 #[.int .u8 (bt s j)] (.int .u8 (ob8 (bt s j) 32)) (fun _ => by kernel_rfl) (fun w M => c_lower (bt s j) w) fun u3 M => ?_
       by_cases c5 : 122 < (ob8 (bt s j) 32)
       ·skip
        refine pl_val (want_on 3 true rfl 125 rfl (by kernel_rfl)) (some 128) rfl (.bool false) (fun w => Eq.trans (b := .ok (.value (.bool (decide ((ob8 (bt s j) 32) ≤ 122)))) w) (by kernel_rfl) (by rw [decide_eq_false (by omega)])) ?_
        refine pV 129 (.bool false) ?_
        refine pV 121 (.bool false) ?_
        refine nT ?_
        refine wp_cond_false (by kernel_rfl) ?_
        refine sR ?_
        refine pV 105 (.iface 131 (.int .i64 2)) ?_
        refine pV 6 (.int .u64 0) ?_
        refine pV 7 (.iface 131 (.int .i64 2)) ?_
        refine nT ?_
        refine wp_ret ?_
        refine au_block_ret ?_
        refine au_then_ret ?_
        refine au_block_ret ?_
        refine au_then_ret ?_
        refine au_then_ret ?_
        refine au_block_ret ?_
        refine au_then_ret ?_
        exact bodyPost_ret (v := .tuple #[.int .u64 0, .iface 131 (.int .i64 2)]) (results_tmp2 Tryz.results92 _ _ _ _ (by kernel_rfl) (by kernel_rfl)) (by kernel_rfl) ⟨.inr ⟨prs_none hj (pz_bad hx (dv_n (bt s j) (by omega) (by omega)) (by omega)), 0, 2, .inr rfl, rfl⟩, below_grown M.old⟩
       ·skip
        refine pl_val (want_on 3 true rfl 125 rfl (by kernel_rfl)) (some 128) rfl (.bool true) (fun w => Eq.trans (b := .ok (.value (.bool (decide ((ob8 (bt s j) 32) ≤ 122)))) w) (by kernel_rfl) (by rw [decide_eq_true (by omega)])) ?_
        refine pV 129 (.bool true) ?_
        refine pV 121 (.bool true) ?_
        refine nT ?_
        refine wp_cond_true (by kernel_rfl) ?_
        refine rg_lit ?_
        refine pV 130 (.int .u8 (bt s j)) ?_
        refine pC M 131 112 #[.int .u8 (bt s j)] (.int .u8 (ob8 (bt s j) 32)) (fun w M => c_lower (bt s j) w) fun u4 M => ?_
        refine pH 132 (.int .u8 (ob8 (bt s j) 32 - 97)) (fun w => Eq.trans (b := .ok (.value (.int .u8 (cv .u8 (ob8 (bt s j) 32 - 97)))) w) (by kernel_rfl) (by rw [cv_u8]; congr 3; omega)) ?_
        refine pH 133 (.int .u8 (ob8 (bt s j) 32 - 97 + 10)) (fun w => Eq.trans (b := .ok (.value (.int .u8 (cv .u8 (ob8 (bt s j) 32 - 97 + 10)))) w) (by kernel_rfl) (by rw [cv_u8]; congr 3; omega)) ?_
        refine pV 16 (.int .u8 (ob8 (bt s j) 32 - 97 + 10)) ?_
        refine pl_nil ?_
        refine au_block ?_
        refine au_then ?_
        refine wp_seq ?_
        refine sR ?_
        refine pV 134 (.int .u8 (ob8 (bt s j) 32 - 97 + 10)) ?_
        refine pV 135 (.int .i64 10) ?_
        refine pV 136 (.int .u8 10) ?_
        by_cases c6 : (ob8 (bt s j) 32 - 97 + 10) < 10
        ·omega
        ·skip
         refine pH 137 (.bool true) (dTz (10 ≤ (ob8 (bt s j) 32 - 97 + 10)) (by omega)) ?_
         refine nT ?_
         refine wp_cond_true (by kernel_rfl) ?_
         refine sR ?_
         refine pV 138 (.iface 131 (.int .i64 2)) ?_
         refine pV 6 (.int .u64 0) ?_
         refine pV 7 (.iface 131 (.int .i64 2)) ?_
         refine nT ?_
         refine wp_ret ?_
         refine au_then_ret ?_
         refine au_block_ret ?_
         refine au_then_ret ?_
         refine au_then_ret ?_
         refine au_block_ret ?_
         refine au_then_ret ?_
         exact bodyPost_ret (v := .tuple #[.int .u64 0, .iface 131 (.int .i64 2)]) (results_tmp2 Tryz.results92 _ _ _ _ (by kernel_rfl) (by kernel_rfl)) (by kernel_rfl) ⟨.inr ⟨prs_none hj (pz_bad hx (dv_l (bt s j) (by omega) (by omega)) (by omega)), 0, 2, .inr rfl, rfl⟩, below_grown M.old⟩
     ·skip
      refine pl_val (want_on 2 true rfl 115 rfl (by kernel_rfl)) (some 117) rfl (.bool true) (fun w => Eq.trans (b := .ok (.value (.bool (decide ((bt s j) ≤ 57)))) w) (by kernel_rfl) (by rw [decide_eq_true (by omega)])) ?_
      refine pV 118 (.bool true) ?_
      refine pV 112 (.bool true) ?_
      refine nT ?_
      refine wp_cond_true (by kernel_rfl) ?_
      refine rg_lit ?_
      refine pV 119 (.int .u8 (bt s j)) ?_
      refine pH 120 (.int .u8 (bt s j - 48)) (fun w => Eq.trans (b := .ok (.value (.int .u8 (cv .u8 (bt s j - 48)))) w) (by kernel_rfl) (by rw [cv_u8]; congr 3; omega)) ?_
      refine pV 16 (.int .u8 (bt s j - 48)) ?_
      refine pl_nil ?_
      refine au_block ?_
      refine au_then ?_
      refine wp_seq ?_
      refine sR ?_
      refine pV 134 (.int .u8 (bt s j - 48)) ?_
      refine pV 135 (.int .i64 10) ?_
      refine pV 136 (.int .u8 10) ?_
      by_cases c4 : (bt s j - 48) < 10
      ·skip
       refine pH 137 (.bool false) (dF (10 ≤ (bt s j - 48)) (by omega)) ?_
       refine nT ?_
       refine wp_cond_false (by kernel_rfl) ?_
       refine wp_skip ?_
       refine au_then ?_
       refine wp_seq ?_
       refine sR ?_
       refine pV 139 (.int .u64 (pv 10 255 s j)) ?_
       refine pV 140 (.int .u64 1844674407370955162) ?_
       refine pH 141 (.bool false) (dF (1844674407370955162 ≤ (pv 10 255 s j)) (by omega)) ?_
       refine nT ?_
       refine wp_cond_false (by kernel_rfl) ?_
       refine wp_skip ?_
       refine au_then ?_
       refine sR ?_
       refine pV 144 (.int .u64 (pv 10 255 s j)) ?_
       refine pV 145 (.int .i64 10) ?_
       refine pV 146 (.int .u64 10) ?_
       refine pH 147 (.int .u64 (pv 10 255 s j * 10)) (fun w => Eq.trans (b := .ok (.value (.int .u64 (cv .u64 (pv 10 255 s j * 10)))) w) (by kernel_rfl) (by rw [cv_u64]; congr 3; omega)) ?_
       refine pV 13 (.int .u64 (pv 10 255 s j * 10)) ?_
       refine nT ?_
       refine sR ?_
       refine pV 148 (.int .u64 (pv 10 255 s j * 10)) ?_
       refine pV 149 (.int .u8 (bt s j - 48)) ?_
       refine pH 150 (.int .u64 (bt s j - 48)) (fun w => Eq.trans (b := .ok (.value (.int .u64 (cv .u64 (bt s j - 48)))) w) (by kernel_rfl) (by rw [cv_u64]; congr 3; omega)) ?_
       refine pH 151 (.int .u64 (pv 10 255 s j * 10 + (bt s j - 48))) (fun w => Eq.trans (b := .ok (.value (.int .u64 (cv .u64 (pv 10 255 s j * 10 + (bt s j - 48))))) w) (by kernel_rfl) (by rw [cv_u64]; congr 3; omega)) ?_
       refine pV 17 (.int .u64 (pv 10 255 s j * 10 + (bt s j - 48))) ?_
       refine nT ?_
       refine wp_seq ?_
       refine sR ?_
       refine pV 152 (.int .u64 (pv 10 255 s j * 10 + (bt s j - 48))) ?_
       refine pV 153 (.int .u64 (pv 10 255 s j * 10)) ?_
       refine pH 154 (.bool false) (dF ((pv 10 255 s j * 10 + (bt s j - 48)) < (pv 10 255 s j * 10)) (by omega)) ?_
       refine pV 155 (.bool false) ?_
       refine pl_val (want_on 3 false rfl 155 rfl (by kernel_rfl)) (some 156) rfl (.int .u64 (pv 10 255 s j * 10 + (bt s j - 48))) (fun _ => by kernel_rfl) ?_
       refine pl_val (want_on 3 false rfl 155 rfl (by kernel_rfl)) (some 157) rfl (.int .u64 255) (fun _ => by kernel_rfl) ?_
       by_cases c5 : 255 < (pv 10 255 s j * 10 + (bt s j - 48))
       ·skip
        refine pl_val (want_on 3 false rfl 155 rfl (by kernel_rfl)) (some 158) rfl (.bool true) (fun w => Eq.trans (b := .ok (.value (.bool (decide (255 < (pv 10 255 s j * 10 + (bt s j - 48)))))) w) (by kernel_rfl) (by rw [decide_eq_true (c5)])) ?_
        refine pV 159 (.bool true) ?_
        refine nT ?_
        refine wp_cond_true (by kernel_rfl) ?_
        refine sR ?_
        refine pV 160 (.int .u64 255) ?_
        refine pV 161 (.iface 131 (.int .i64 1)) ?_
        refine pV 6 (.int .u64 255) ?_
        refine pV 7 (.iface 131 (.int .i64 1)) ?_
        refine nT ?_
        refine wp_ret ?_
        refine au_then_ret ?_
        refine au_block_ret ?_
        refine au_then_ret ?_
        refine au_then_ret ?_
        refine au_block_ret ?_
        refine au_then_ret ?_
        exact bodyPost_ret (v := .tuple #[.int .u64 255, .iface 131 (.int .i64 1)]) (results_tmp2 Tryz.results92 _ _ _ _ (by kernel_rfl) (by kernel_rfl)) (by kernel_rfl) ⟨.inr ⟨prs_none hj (pz_big hx (dv_d (bt s j) (by omega)) (by omega) (by omega)), 255, 1, .inl rfl, rfl⟩, below_grown M.old⟩
       ·skip
        refine pl_val (want_on 3 false rfl 155 rfl (by kernel_rfl)) (some 158) rfl (.bool false) (fun w => Eq.trans (b := .ok (.value (.bool (decide (255 < (pv 10 255 s j * 10 + (bt s j - 48)))))) w) (by kernel_rfl) (by rw [decide_eq_false (c5)])) ?_
        refine pV 159 (.bool false) ?_
        refine nT ?_
        refine wp_cond_false (by kernel_rfl) ?_
        refine wp_skip ?_
        refine au_then ?_
        refine rg_lit ?_
        refine pV 162 (.int .u64 (pv 10 255 s j * 10 + (bt s j - 48))) ?_
        have hpy := pz_ok hx (dv_d (bt s j) (by omega)) (by omega) (by omega)
        have hpv : pv 10 255 s (j + 1) = pv 10 255 s j * 10 + (bt s j - 48) := by unfold pv; rw [hpy]; rfl
        have hpz : pz 10 255 s (j + 1) = some (pv 10 255 s (j + 1)) := by rw [hpv]; exact hpy
        refine pH 13 (.int .u64 (pv 10 255 s (j + 1))) (fun w => Eq.trans (b := .ok (.value (.int .u64 (pv 10 255 s j * 10 + (bt s j - 48)))) w) (by kernel_rfl) (by rw [hpv])) ?_
        refine pl_nil ?_
        refine au_block ?_
        refine au_then ?_
        refine rg_lit ?_
        refine pH 163 (.int .i64 ((j + 1 : Nat) : Int)) (iV ((j : Int) + 1) (by omega) (by omega) (by omega)) ?_
        refine pV 101 (.int .i64 ((j + 1 : Nat) : Int)) ?_
        refine nT ?_
        exact ⟨fun k_ => ([v1 6, v1 7, undef, undef, undef, undef, undef, undef, undef, .int .u8 (bt s j), .int .u8 (bt s j - 48), .int .u64 (pv 10 255 s j * 10 + (bt s j - 48)), undef, undef, undef, undef, undef, undef, undef, undef, undef, undef, undef, undef, undef, undef, undef, undef, undef, undef, undef, undef, undef, undef, undef, undef, undef, undef, undef, undef, undef, undef, undef, undef, undef, undef, undef, undef, undef, undef, undef, undef, undef, undef, undef, undef, undef, undef, undef, undef, undef, undef, undef, undef, undef, undef, undef, undef, undef, undef, undef, undef, undef, undef, undef, undef, undef, undef, undef, undef, undef, undef, undef, undef, undef, undef, undef, undef, undef, undef, undef, undef, undef, undef, undef, undef, .bool true, .pointer (some ⟨g1, j, none⟩), .int .u8 (bt s j), v1 105, .bool false, .int .u8 (bt s j), .bool false, .bool false, undef, .bool false, .bool true, .int .u8 (bt s j), .bool true, .bool true, .int .u8 (bt s j), .bool true, .bool true, .int .u8 (bt s j), .int .u8 (bt s j - 48), v1 121, v1 122, v1 123, v1 124, v1 125, v1 126, v1 127, v1 128, v1 129, v1 130, v1 131, v1 132, v1 133, .int .u8 (bt s j - 48), .int .i64 10, .int .u8 10, .bool false, v1 138, .int .u64 (pv 10 255 s j), .int .u64 1844674407370955162, .bool false, v1 142, v1 143, .int .u64 (pv 10 255 s j), .int .i64 10, .int .u64 10, .int .u64 (pv 10 255 s j * 10), .int .u64 (pv 10 255 s j * 10), .int .u8 (bt s j - 48), .int .u64 (bt s j - 48), .int .u64 (pv 10 255 s j * 10 + (bt s j - 48)), .int .u64 (pv 10 255 s j * 10 + (bt s j - 48)), .int .u64 (pv 10 255 s j * 10), .bool false, .bool false, .int .u64 (pv 10 255 s j * 10 + (bt s j - 48)), .int .u64 255, .bool false, .bool false, v1 160, v1 161, .int .u64 (pv 10 255 s j * 10 + (bt s j - 48)), .int .i64 ((j + 1 : Nat) : Int)] : List Value).getD (k_ - 6) undef, by kernel_rfl, M, hpz⟩
      ·skip
       refine pH 137 (.bool true) (dTz (10 ≤ (bt s j - 48)) (by omega)) ?_
       refine nT ?_
       refine wp_cond_true (by kernel_rfl) ?_
       refine sR ?_
       refine pV 138 (.iface 131 (.int .i64 2)) ?_
       refine pV 6 (.int .u64 0) ?_
       refine pV 7 (.iface 131 (.int .i64 2)) ?_
       refine nT ?_
       refine wp_ret ?_
       refine au_then_ret ?_
       refine au_block_ret ?_
       refine au_then_ret ?_
       refine au_then_ret ?_
       refine au_block_ret ?_
       refine au_then_ret ?_
       exact bodyPost_ret (v := .tuple #[.int .u64 0, .iface 131 (.int .i64 2)]) (results_tmp2 Tryz.results92 _ _ _ _ (by kernel_rfl) (by kernel_rfl)) (by kernel_rfl) ⟨.inr ⟨prs_none hj (pz_bad hx (dv_d (bt s j) (by omega)) (by omega)), 0, 2, .inr rfl, rfl⟩, below_grown M.old⟩
  ·intro a u0 hI
   obtain ⟨v1, rfl, M, hx⟩ := hI
   refine sR ?_
   refine pH 102 (.bool false) (dF (((s.size : Nat) : Int) < ((s.size : Nat) : Int)) (by omega)) ?_
   refine nT ?_
   refine wp_seq ?_
   refine wp_cond_false (by kernel_rfl) ?_
   refine wp_exit ?_
   refine au_then_exit ?_
   refine au_then_exit ?_
   refine au_block_exit ?_
   refine au_then ?_
   refine wp_seq ?_
   refine sR ?_
   refine pV 164 (.bool false) ?_
   refine pV 165 (.bool false) ?_
   refine pl_skip (want_off 1 true rfl 165 rfl (by kernel_rfl)) (some 166) rfl ?_
   refine pl_skip (want_off 1 true rfl 165 rfl (by kernel_rfl)) (some 167) rfl ?_
   refine pl_skip (want_off 1 true rfl 165 rfl (by kernel_rfl)) (some 168) rfl ?_
   refine pV 169 (.bool false) ?_
   refine nT ?_
   refine wp_cond_false (by kernel_rfl) ?_
   refine wp_skip ?_
   refine au_then ?_
   refine sR ?_
   refine pV 171 (.int .u64 (pv 10 255 s (s.size))) ?_
   refine pV 6 (.int .u64 (pv 10 255 s (s.size))) ?_
   refine pV 7 (.nilIface) ?_
   refine nT ?_
   refine wp_ret ?_
   exact bodyPost_ret (v := .tuple #[.int .u64 (pv 10 255 s (s.size)), .nilIface]) (results_tmp2 Tryz.results92 _ _ _ _ (by kernel_rfl) (by kernel_rfl)) (by kernel_rfl) ⟨.inl ⟨(pv 10 255 s (s.size)), by unfold prs; rw [if_neg c0]; exact hx, rfl⟩, below_grown M.old⟩
set_option maxRecDepth 100000 in
set_option maxHeartbeats 4000000 in
set_option linter.unusedSimpArgs false in
theorem c_ipu16 (s : ByteArray) (hs : s.size ≤ 1000) (w : World) (hL : Laid w)  :
  Calls Tryz.prog 92 #[.string s, .int .i64 16, .int .i64 16] w fun r w' => ((∃ x : Int, prs 16 65535 s = some x ∧ r = .returned (.tuple #[.int .u64 x, .nilIface])) ∨ (prs 16 65535 s = none ∧ ∃ y k : Int, (k = 1 ∨ k = 2) ∧ r = .returned (.tuple #[.int .u64 y, .iface 131 (.int .i64 k)]))) ∧ Below w.heap.size w w' := by
 go_enter Tryz.func92, Tryz.ntmps92
 have M := Mem.start hL
 refine sR ?_
 refine pV 6 (.int .u64 0) ?_
 refine pV 7 (.nilIface) ?_
 refine nT ?_
 refine wp_seq ?_
 refine sR ?_
 refine pV 18 (.string s) ?_
 by_cases c0 : s = (⟨#[]⟩ : ByteArray)
 ·skip
  refine pH 19 (.bool true) (fun w => Eq.trans (b := .ok (.value (.bool (s.toList == (⟨#[]⟩ : ByteArray).toList))) w) (by kernel_rfl) (by rw [seq_pos c0])) ?_
  refine nT ?_
  refine wp_cond_true (by kernel_rfl) ?_
  refine sR ?_
  refine pV 20 (.iface 131 (.int .i64 2)) ?_
  refine pV 6 (.int .u64 0) ?_
  refine pV 7 (.iface 131 (.int .i64 2)) ?_
  refine nT ?_
  refine wp_ret ?_
  refine au_then_ret ?_
  exact bodyPost_ret (v := .tuple #[.int .u64 0, .iface 131 (.int .i64 2)]) (results_tmp2 Tryz.results92 _ _ _ _ (by kernel_rfl) (by kernel_rfl)) (by kernel_rfl) ⟨.inr ⟨if_pos c0, 0, 2, .inr rfl, rfl⟩, below_grown M.old⟩
 ·skip
  refine pH 19 (.bool false) (fun w => Eq.trans (b := .ok (.value (.bool (s.toList == (⟨#[]⟩ : ByteArray).toList))) w) (by kernel_rfl) (by rw [seq_neg c0])) ?_
  refine nT ?_
  refine wp_cond_false (by kernel_rfl) ?_
  refine wp_skip ?_
  refine au_then ?_
  refine sR ?_
  refine pV 21 (.int .i64 16) ?_
  refine pV 22 (.bool false) ?_
  refine pV 8 (.bool false) ?_
  refine nT ?_
  refine sR ?_
  refine pV 23 (.string s) ?_
  refine pV 9 (.string s) ?_
  refine nT ?_
  refine wp_seq ?_
  refine wp_block ?_
  refine sR ?_
  refine pV 26 (.int .i64 16) ?_
  refine pV 27 (.bool true) ?_
  refine pV 28 (.bool true) ?_
  refine pl_val (want_on 2 true rfl 28 rfl (by kernel_rfl)) (some 29) rfl (.int .i64 16) (fun _ => by kernel_rfl) ?_
  refine pl_val (want_on 2 true rfl 28 rfl (by kernel_rfl)) (some 30) rfl (.bool true) (fun _ => by kernel_rfl) ?_
  refine pV 31 (.bool true) ?_
  refine pV 25 (.bool true) ?_
  refine nT ?_
  refine wp_cond_true (by kernel_rfl) ?_
  refine wp_skip ?_
  refine au_block ?_
  refine au_then ?_
  refine wp_seq ?_
  refine sR ?_
  refine pV 76 (.int .i64 16) ?_
  refine pV 77 (.bool false) ?_
  refine nT ?_
  refine wp_cond_false (by kernel_rfl) ?_
  refine sR ?_
  refine pV 78 (.int .i64 16) ?_
  refine pV 79 (.bool false) ?_
  refine pV 80 (.bool false) ?_
  refine pl_val (want_on 2 false rfl 80 rfl (by kernel_rfl)) (some 81) rfl (.int .i64 16) (fun _ => by kernel_rfl) ?_
  refine pl_val (want_on 2 false rfl 80 rfl (by kernel_rfl)) (some 82) rfl (.bool false) (fun _ => by kernel_rfl) ?_
  refine pV 83 (.bool false) ?_
  refine nT ?_
  refine wp_cond_false (by kernel_rfl) ?_
  refine wp_skip ?_
  refine au_then ?_
  refine sR ?_
  refine pV 10 (.int .u64 0) ?_
  refine nT ?_
  refine wp_seq ?_
  refine sR ?_
  refine pV 85 (.int .i64 16) ?_
  refine nT ?_
  refine wp_block ?_
  refine sR ?_
  refine pV 91 (.bool false) ?_
  refine pV 90 (.bool false) ?_
  refine nT ?_
  refine wp_cond_false (by kernel_rfl) ?_
  refine sR ?_
  refine pV 93 (.bool true) ?_
  refine pV 92 (.bool true) ?_
  refine nT ?_
  refine wp_cond_true (by kernel_rfl) ?_
  refine rg_lit ?_
  refine pV 10 (.int .u64 1152921504606846976) ?_
  refine pl_nil ?_
  refine au_block ?_
  refine au_then ?_
  refine sR ?_
  refine pV 94 (.int .i64 16) ?_
  refine pV 95 (.int .u64 16) ?_
  refine pV 96 (.int .u64 65536) ?_
  refine pV 97 (.int .u64 65535) ?_
  refine pV 11 (.int .u64 65535) ?_
  refine nT ?_
  refine sR ?_
  refine pV 12 (.bool false) ?_
  refine nT ?_
  refine sR ?_
  refine pV 13 (.int .u64 0) ?_
  refine nT ?_
  refine wp_seq ?_
  refine sR ?_
  refine pV 98 (.string s) ?_
  refine pl_conv M (want_no rfl) (some 99) rfl _ rfl s (by kernel_rfl) ?_
  intro g1 cap1 Z1 u1 hZ1 M
  refine pV 100 (.int .i64 ((s.size : Nat) : Int)) ?_
  refine pV 101 (.int .i64 0) ?_
  refine nT ?_
  refine wp_block ?_
  refine au_loop (fun j a w' => ∃ v1 : Nat → Value, a = ⟨#[.string s, .int .i64 16, .int .i64 16, undef, undef, undef, v1 6, v1 7, .bool false, .string s, .int .u64 1152921504606846976, .int .u64 65535, .bool false, .int .u64 (pv 16 65535 s j), undef, v1 15, v1 16, v1 17, .string s, .bool false, undef, .int .i64 16, .bool false, .string s, undef, .bool true, .int .i64 16, .bool true, .bool true, .int .i64 16, .bool true, .bool true, undef, undef, undef, undef, undef, undef, undef, undef, undef, undef, undef, undef, undef, undef, undef, undef, undef, undef, undef, undef, undef, undef, undef, undef, undef, undef, undef, undef, undef, undef, undef, undef, undef, undef, undef, undef, undef, undef, undef, undef, undef, undef, undef, undef, .int .i64 16, .bool false, .int .i64 16, .bool false, .bool false, .int .i64 16, .bool false, .bool false, undef, .int .i64 16, undef, undef, undef, undef, .bool false, .bool false, .bool true, .bool true, .int .i64 16, .int .u64 16, .int .u64 65536, .int .u64 65535, .string s, .slice (some ⟨g1, 0, none⟩) s.size cap1, .int .i64 ((s.size : Nat) : Int), .int .i64 (j : Int), v1 102, v1 103, v1 104, v1 105, v1 106, v1 107, v1 108, v1 109, v1 110, v1 111, v1 112, v1 113, v1 114, v1 115, v1 116, v1 117, v1 118, v1 119, v1 120, v1 121, v1 122, v1 123, v1 124, v1 125, v1 126, v1 127, v1 128, v1 129, v1 130, v1 131, v1 132, v1 133, v1 134, v1 135, v1 136, v1 137, v1 138, v1 139, v1 140, v1 141, v1 142, v1 143, v1 144, v1 145, v1 146, v1 147, v1 148, v1 149, v1 150, v1 151, v1 152, v1 153, v1 154, v1 155, v1 156, v1 157, v1 158, v1 159, v1 160, v1 161, v1 162, v1 163, undef, undef, undef, undef, undef, undef, undef, undef], []⟩ ∧ Mem ⟨w, []⟩ [⟨g1, Z1⟩] w' ∧ pz 16 65535 s j = some (pv 16 65535 s j)) s.size ⟨fun k_ => ([.int .u64 0, .nilIface, undef, undef, undef, undef, undef, undef, undef, undef, undef, undef, undef, undef, undef, undef, undef, undef, undef, undef, undef, undef, undef, undef, undef, undef, undef, undef, undef, undef, undef, undef, undef, undef, undef, undef, undef, undef, undef, undef, undef, undef, undef, undef, undef, undef, undef, undef, undef, undef, undef, undef, undef, undef, undef, undef, undef, undef, undef, undef, undef, undef, undef, undef, undef, undef, undef, undef, undef, undef, undef, undef, undef, undef, undef, undef, undef, undef, undef, undef, undef, undef, undef, undef, undef, undef, undef, undef, undef, undef, undef, undef, undef, undef, undef, undef, undef, undef, undef, undef, undef, undef, undef, undef, undef, undef, undef, undef, undef, undef, undef, undef, undef, undef, undef, undef, undef, undef, undef, undef, undef, undef, undef, undef, undef, undef, undef, undef, undef, undef, undef, undef, undef, undef, undef, undef, undef, undef, undef, undef, undef, undef, undef, undef, undef, undef, undef, undef, undef, undef, undef, undef, undef, undef, undef, undef, undef, undef] : List Value).getD (k_ - 6) undef, by kernel_rfl, M, rfl⟩ ?_ ?_
  ·intro j a u0 hj hI
   obtain ⟨v1, rfl, M, hx⟩ := hI
   have hb := bt_nn s j
   have ho := ob8_nn (bt s j) 32
   have hp := pv_le (b := 16) (m := 65535) (s := s) (by decide) (by decide) j
   refine sR ?_
   refine pH 102 (.bool true) (dTz ((j : Int) < ((s.size : Nat) : Int)) (by omega)) ?_
   refine nT ?_
   refine wp_seq ?_
   refine wp_cond_true (by kernel_rfl) ?_
   refine wp_skip ?_
   refine au_then ?_
   refine wp_seq ?_
   refine wp_block ?_
   refine sR ?_
   refine pH 103 (.pointer (some ⟨g1, j, none⟩)) (run_ix0 54 5 Tryz.underlying54 inz5 _ _ rfl g1 s.size cap1 (by kernel_rfl) .i64 j (by kernel_rfl) (by omega)) ?_
   refine pEz M 104 g1 j (.int .u8 (bt s j)) (fun w M => hZ1.cell (M.get 0 rfl) (vs8_sb _ _ (by omega))) ?_
   refine pV 15 (.int .u8 (bt s j)) ?_
   refine nT ?_
   refine sR ?_
   refine pV 16 (.int .u8 0) ?_
   refine nT ?_
   refine wp_seq ?_
   refine wp_block ?_
   refine sR ?_
   refine pV 107 (.int .u8 (bt s j)) ?_
   by_cases c1 : (bt s j) = 95
   ·skip
    refine pH 108 (.bool true) (dTz ((bt s j) = 95) (c1)) ?_
    refine pV 109 (.bool true) ?_
    refine pl_val (want_on 2 true rfl 109 rfl (by kernel_rfl)) (some 110) rfl (.bool false) (fun _ => by kernel_rfl) ?_
    refine pV 111 (.bool false) ?_
    refine pV 106 (.bool false) ?_
    refine nT ?_
    refine wp_cond_false (by kernel_rfl) ?_
    refine sR ?_
    refine pV 113 (.int .u8 (bt s j)) ?_
    by_cases c2 : (bt s j) < 48
    ·omega
    ·skip
     refine pH 114 (.bool true) (dTz (48 ≤ (bt s j)) (by omega)) ?_
     refine pV 115 (.bool true) ?_
     refine pl_val (want_on 2 true rfl 115 rfl (by kernel_rfl)) (some 116) rfl (.int .u8 (bt s j)) (fun _ => by kernel_rfl) ?_
     by_cases c3 : 57 < (bt s j)
     ·skip
      refine pl_val (want_on 2 true rfl 115 rfl (by kernel_rfl)) (some 117) rfl (.bool false) (fun w => Eq.trans (b := .ok (.value (.bool (decide ((bt s j) ≤ 57)))) w) (by kernel_rfl) (by rw [decide_eq_false (by omega)])) ?_
      refine pV 118 (.bool false) ?_
      refine pV 112 (.bool false) ?_
      refine nT ?_
      refine wp_cond_false (by kernel_rfl) ?_
      refine sR ?_
      refine pV 122 (.int .u8 (bt s j)) ?_
      refine pC M 123 112 #[.int .u8 (bt s j)] (.int .u8 (ob8 (bt s j) 32)) (fun w M => c_lower (bt s j) w) fun u2 M => ?_
      by_cases c4 : (ob8 (bt s j) 32) < 97
      ·exact absurd c4 (by rw [c1]; decide)
      ·skip
       refine pH 124 (.bool true) (dTz (97 ≤ (ob8 (bt s j) 32)) (by omega)) ?_
       refine pV 125 (.bool true) ?_
       refine pl_val (want_on 3 true rfl 125 rfl (by kernel_rfl)) (some 126) rfl (.int .u8 (bt s j)) (fun _ => by kernel_rfl) ?_
       refine pl_call M (want_on 3 true rfl 125 rfl (by kernel_rfl)) (some 127) rfl 112 #[.int .u8 (bt s j)] (.int .u8 (ob8 (bt s j) 32)) (fun _ => by kernel_rfl) (fun w M => c_lower (bt s j) w) fun u3 M => ?_
       by_cases c5 : 122 < (ob8 (bt s j) 32)
       ·skip
        refine pl_val (want_on 3 true rfl 125 rfl (by kernel_rfl)) (some 128) rfl (.bool false) (fun w => Eq.trans (b := .ok (.value (.bool (decide ((ob8 (bt s j) 32) ≤ 122)))) w) (by kernel_rfl) (by rw [decide_eq_false (by omega)])) ?_
        refine pV 129 (.bool false) ?_
        refine pV 121 (.bool false) ?_
        refine nT ?_
        refine wp_cond_false (by kernel_rfl) ?_
        refine sR ?_
        refine pV 105 (.iface 131 (.int .i64 2)) ?_
        refine pV 6 (.int .u64 0) ?_
        refine pV 7 (.iface 131 (.int .i64 2)) ?_
        refine nT ?_
        refine wp_ret ?_
        refine au_block_ret ?_
        refine au_then_ret ?_
        refine au_block_ret ?_
        refine au_then_ret ?_
        refine au_then_ret ?_
        refine au_block_ret ?_
        refine au_then_ret ?_
        exact bodyPost_ret (v := .tuple #[.int .u64 0, .iface 131 (.int .i64 2)]) (results_tmp2 Tryz.results92 _ _ _ _ (by kernel_rfl) (by kernel_rfl)) (by kernel_rfl) ⟨.inr ⟨prs_none hj (pz_bad hx (dv_n (bt s j) (by omega) (by omega)) (by omega)), 0, 2, .inr rfl, rfl⟩, below_grown M.old⟩
       ·exact absurd c5 (by rw [c1]; decide)
     ·omega
   ·skip
    refine pH 108 (.bool false) (dF ((bt s j) = 95) (c1)) ?_
    refine pV 109 (.bool false) ?_
    refine pl_skip (want_off 2 true rfl 109 rfl (by kernel_rfl)) (some 110) rfl ?_
    refine pV 111 (.bool false) ?_
    refine pV 106 (.bool false) ?_
    refine nT ?_
    refine wp_cond_false (by kernel_rfl) ?_
    refine sR ?_
    refine pV 113 (.int .u8 (bt s j)) ?_
    by_cases c2 : (bt s j) < 48
    ·skip
     refine pH 114 (.bool false) (dF (48 ≤ (bt s j)) (by omega)) ?_
     refine pV 115 (.bool false) ?_
     refine pl_skip (want_off 2 true rfl 115 rfl (by kernel_rfl)) (some 116) rfl ?_
     refine pl_skip (want_off 2 true rfl 115 rfl (by kernel_rfl)) (some 117) rfl ?_
     refine pV 118 (.bool false) ?_
     refine pV 112 (.bool false) ?_
     refine nT ?_
     refine wp_cond_false (by kernel_rfl) ?_
     refine sR ?_
     refine pV 122 (.int .u8 (bt s j)) ?_
     refine pC M 123 112 #[.int .u8 (bt s j)] (.int .u8 (ob8 (bt s j) 32)) (fun w M => c_lower (bt s j) w) fun u2 M => ?_
     by_cases c3 : (ob8 (bt s j) 32) < 97
     ·skip
      refine pH 124 (.bool false) (dF (97 ≤ (ob8 (bt s j) 32)) (by omega)) ?_
      refine pV 125 (.bool false) ?_
      refine pl_skip (want_off 3 true rfl 125 rfl (by kernel_rfl)) (some 126) rfl ?_
      refine pl_skip (want_off 3 true rfl 125 rfl (by kernel_rfl)) (some 127) rfl ?_
      refine pl_skip (want_off 3 true rfl 125 rfl (by kernel_rfl)) (some 128) rfl ?_
      refine pV 129 (.bool false) ?_
      refine pV 121 (.bool false) ?_
      refine nT ?_
      refine wp_cond_false (by kernel_rfl) ?_
      refine sR ?_
      refine pV 105 (.iface 131 (.int .i64 2)) ?_
      refine pV 6 (.int .u64 0) ?_
      refine pV 7 (.iface 131 (.int .i64 2)) ?_
      refine nT ?_
      refine wp_ret ?_
      refine au_block_ret ?_
      refine au_then_ret ?_
      refine au_block_ret ?_
      refine au_then_ret ?_
      refine au_then_ret ?_
      refine au_block_ret ?_
      refine au_then_ret ?_
      exact bodyPost_ret (v := .tuple #[.int .u64 0, .iface 131 (.int .i64 2)]) (results_tmp2 Tryz.results92 _ _ _ _ (by kernel_rfl) (by kernel_rfl)) (by kernel_rfl) ⟨.inr ⟨prs_none hj (pz_bad hx (dv_n (bt s j) (by omega) (by omega)) (by omega)), 0, 2, .inr rfl, rfl⟩, below_grown M.old⟩
     ·skip
      refine pH 124 (.bool true) (dTz (97 ≤ (ob8 (bt s j) 32)) (by omega)) ?_
      refine pV 125 (.bool true) ?_
      refine pl_val (want_on 3 true rfl 125 rfl (by kernel_rfl)) (some 126) rfl (.int .u8 (bt s j)) (fun _ => by kernel_rfl) ?_
      refine pl_call M (want_on 3 true rfl 125 rfl (by kernel_rfl)) (some 127) rfl 112 #[.int .u8 (bt s j)] (.int .u8 (ob8 (bt s j) 32)) (fun _ => by kernel_rfl) (fun w M => c_lower (bt s j) w) fun u3 M => ?_
      by_cases c4 : 122 < (ob8 (bt s j) 32)
      ·skip
       refine pl_val (want_on 3 true rfl 125 rfl (by kernel_rfl)) (some 128) rfl (.bool false) (fun w => Eq.trans (b := .ok (.value (.bool (decide ((ob8 (bt s j) 32) ≤ 122)))) w) (by kernel_rfl) (by rw [decide_eq_false (by omega)])) ?_
       refine pV 129 (.bool false) ?_
       refine pV 121 (.bool false) ?_
       refine nT ?_
       refine wp_cond_false (by kernel_rfl) ?_
       refine sR ?_
       refine pV 105 (.iface 131 (.int .i64 2)) ?_
       refine pV 6 (.int .u64 0) ?_
       refine pV 7 (.iface 131 (.int .i64 2)) ?_
       refine nT ?_
       refine wp_ret ?_
       refine au_block_ret ?_
       refine au_then_ret ?_
       refine au_block_ret ?_
       refine au_then_ret ?_
       refine au_then_ret ?_
       refine au_block_ret ?_
       refine au_then_ret ?_
       exact bodyPost_ret (v := .tuple #[.int .u64 0, .iface 131 (.int .i64 2)]) (results_tmp2 Tryz.results92 _ _ _ _ (by kernel_rfl) (by kernel_rfl)) (by kernel_rfl) ⟨.inr ⟨prs_none hj (pz_bad hx (dv_n (bt s j) (by omega) (by omega)) (by omega)), 0, 2, .inr rfl, rfl⟩, below_grown M.old⟩
      ·skip
       refine pl_val (want_on 3 true rfl 125 rfl (by kernel_rfl)) (some 128) rfl (.bool true) (fun w => Eq.trans (b := .ok (.value (.bool (decide ((ob8 (bt s j) 32) ≤ 122)))) w) (by kernel_rfl) (by rw [decide_eq_true (by omega)])) ?_
       refine pV 129 (.bool true) ?_
       refine pV 121 (.bool true) ?_
       refine nT ?_
       refine wp_cond_true (by kernel_rfl) ?_
       refine rg_lit ?_
       refine pV 130 (.int .u8 (bt s j)) ?_
       refine pC M 131 112 #[.int .u8 (bt s j)] (.int .u8 (ob8 (bt s j) 32)) (fun w M => c_lower (bt s j) w) fun u4 M => ?_
       refine pH 132 (.int .u8 (ob8 (bt s j) 32 - 97)) (fun w => Eq.trans (b := .ok (.value (.int .u8 (cv .u8 (ob8 (bt s j) 32 - 97)))) w) (by kernel_rfl) (by rw [cv_u8]; congr 3; omega)) ?_
       refine pH 133 (.int .u8 (ob8 (bt s j) 32 - 97 + 10)) (fun w => Eq.trans (b := .ok (.value (.int .u8 (cv .u8 (ob8 (bt s j) 32 - 97 + 10)))) w) (by kernel_rfl) (by rw [cv_u8]; congr 3; omega)) ?_
       refine pV 16 (.int .u8 (ob8 (bt s j) 32 - 97 + 10)) ?_
       refine pl_nil ?_
       refine au_block ?_
       refine au_then ?_
       refine wp_seq ?_
       refine sR ?_
       refine pV 134 (.int .u8 (ob8 (bt s j) 32 - 97 + 10)) ?_
       refine pV 135 (.int .i64 16) ?_
       refine pV 136 (.int .u8 16) ?_
       by_cases c5 : (ob8 (bt s j) 32 - 97 + 10) < 16
       ·skip
        refine pH 137 (.bool false) (dF (16 ≤ (ob8 (bt s j) 32 - 97 + 10)) (by omega)) ?_
        refine nT ?_
        refine wp_cond_false (by kernel_rfl) ?_
        refine wp_skip ?_
        refine au_then ?_
        refine wp_seq ?_
        refine sR ?_
        refine pV 139 (.int .u64 (pv 16 65535 s j)) ?_
        refine pV 140 (.int .u64 1152921504606846976) ?_
        refine pH 141 (.bool false) (dF (1152921504606846976 ≤ (pv 16 65535 s j)) (by omega)) ?_
        refine nT ?_
        refine wp_cond_false (by kernel_rfl) ?_
        refine wp_skip ?_
        refine au_then ?_
        refine sR ?_
        refine pV 144 (.int .u64 (pv 16 65535 s j)) ?_
        refine pV 145 (.int .i64 16) ?_
        refine pV 146 (.int .u64 16) ?_
        refine pH 147 (.int .u64 (pv 16 65535 s j * 16)) (fun w => Eq.trans (b := .ok (.value (.int .u64 (cv .u64 (pv 16 65535 s j * 16)))) w) (by kernel_rfl) (by rw [cv_u64]; congr 3; omega)) ?_
        refine pV 13 (.int .u64 (pv 16 65535 s j * 16)) ?_
        refine nT ?_
        refine sR ?_
        refine pV 148 (.int .u64 (pv 16 65535 s j * 16)) ?_
        refine pV 149 (.int .u8 (ob8 (bt s j) 32 - 97 + 10)) ?_
        refine pH 150 (.int .u64 (ob8 (bt s j) 32 - 97 + 10)) (fun w => Eq.trans (b := .ok (.value (.int .u64 (cv .u64 (ob8 (bt s j) 32 - 97 + 10)))) w) (by kernel_rfl) (by rw [cv_u64]; congr 3; omega)) ?_
        refine pH 151 (.int .u64 (pv 16 65535 s j * 16 + (ob8 (bt s j) 32 - 97 + 10))) (fun w => Eq.trans (b := .ok (.value (.int .u64 (cv .u64 (pv 16 65535 s j * 16 + (ob8 (bt s j) 32 - 97 + 10))))) w) (by kernel_rfl) (by rw [cv_u64]; congr 3; omega)) ?_
        refine pV 17 (.int .u64 (pv 16 65535 s j * 16 + (ob8 (bt s j) 32 - 97 + 10))) ?_
        refine nT ?_
        refine wp_seq ?_
        refine sR ?_
        refine pV 152 (.int .u64 (pv 16 65535 s j * 16 + (ob8 (bt s j) 32 - 97 + 10))) ?_
        refine pV 153 (.int .u64 (pv 16 65535 s j * 16)) ?_
        refine pH 154 (.bool false) (dF ((pv 16 65535 s j * 16 + (ob8 (bt s j) 32 - 97 + 10)) < (pv 16 65535 s j * 16)) (by omega)) ?_
        refine pV 155 (.bool false) ?_
        refine pl_val (want_on 3 false rfl 155 rfl (by kernel_rfl)) (some 156) rfl (.int .u64 (pv 16 65535 s j * 16 + (ob8 (bt s j) 32 - 97 + 10))) (fun _ => by kernel_rfl) ?_
        refine pl_val (want_on 3 false rfl 155 rfl (by kernel_rfl)) (some 157) rfl (.int .u64 65535) (fun _ => by kernel_rfl) ?_
        by_cases c6 : 65535 < (pv 16 65535 s j * 16 + (ob8 (bt s j) 32 - 97 + 10))
        ·skip
         refine pl_val (want_on 3 false rfl 155 rfl (by kernel_rfl)) (some 158) rfl (.bool true) (fun w => Eq.trans (b := .ok (.value (.bool (decide (65535 < (pv 16 65535 s j * 16 + (ob8 (bt s j) 32 - 97 + 10)))))) w) (by kernel_rfl) (by rw [decide_eq_true (c6)])) ?_
         refine pV 159 (.bool true) ?_
         refine nT ?_
         refine wp_cond_true (by kernel_rfl) ?_
         refine sR ?_
         refine pV 160 (.int .u64 65535) ?_
         refine pV 161 (.iface 131 (.int .i64 1)) ?_
         refine pV 6 (.int .u64 65535) ?_
         refine pV 7 (.iface 131 (.int .i64 1)) ?_
         refine nT ?_
         refine wp_ret ?_
         refine au_then_ret ?_
         refine au_block_ret ?_
         refine au_then_ret ?_
         refine au_then_ret ?_
         refine au_block_ret ?_
         refine au_then_ret ?_
         exact bodyPost_ret (v := .tuple #[.int .u64 65535, .iface 131 (.int .i64 1)]) (results_tmp2 Tryz.results92 _ _ _ _ (by kernel_rfl) (by kernel_rfl)) (by kernel_rfl) ⟨.inr ⟨prs_none hj (pz_big hx (dv_l (bt s j) (by omega) (by omega)) (by omega) (by omega)), 65535, 1, .inl rfl, rfl⟩, below_grown M.old⟩
        ·skip
         refine pl_val (want_on 3 false rfl 155 rfl (by kernel_rfl)) (some 158) rfl (.bool false) (fun w => Eq.trans (b := .ok (.value (.bool (decide (65535 < (pv 16 65535 s j * 16 + (ob8 (bt s j) 32 - 97 + 10)))))) w) (by kernel_rfl) (by rw [decide_eq_false (c6)])) ?_
         refine pV 159 (.bool false) ?_
         refine nT ?_
         refine wp_cond_false (by kernel_rfl) ?_
         refine wp_skip ?_
         refine au_then ?_
         refine rg_lit ?_
         refine pV 162 (.int .u64 (pv 16 65535 s j * 16 + (ob8 (bt s j) 32 - 97 + 10))) ?_
         have hpy := pz_ok hx (dv_l (bt s j) (by omega) (by omega)) (by omega) (by omega)
         have hpv : pv 16 65535 s (j + 1) = pv 16 65535 s j * 16 + (ob8 (bt s j) 32 - 97 + 10) := by unfold pv; rw [hpy]; rfl
         have hpz : pz 16 65535 s (j + 1) = some (pv 16 65535 s (j + 1)) := by rw [hpv]; exact hpy
         refine pH 13 (.int .u64 (pv 16 65535 s (j + 1))) (fun w => Eq.trans (b := .ok (.value (.int .u64 (pv 16 65535 s j * 16 + (ob8 (bt s j) 32 - 97 + 10)))) w) (by kernel_rfl) (by rw [hpv])) ?_
         refine pl_nil ?_
         refine au_block ?_
         refine au_then ?_
         refine rg_lit ?_
         refine pH 163 (.int .i64 ((j + 1 : Nat) : Int)) (iV ((j : Int) + 1) (by omega) (by omega) (by omega)) ?_
         refine pV 101 (.int .i64 ((j + 1 : Nat) : Int)) ?_
         refine nT ?_
         exact ⟨fun k_ => ([v1 6, v1 7, undef, undef, undef, undef, undef, undef, undef, .int .u8 (bt s j), .int .u8 (ob8 (bt s j) 32 - 97 + 10), .int .u64 (pv 16 65535 s j * 16 + (ob8 (bt s j) 32 - 97 + 10)), undef, undef, undef, undef, undef, undef, undef, undef, undef, undef, undef, undef, undef, undef, undef, undef, undef, undef, undef, undef, undef, undef, undef, undef, undef, undef, undef, undef, undef, undef, undef, undef, undef, undef, undef, undef, undef, undef, undef, undef, undef, undef, undef, undef, undef, undef, undef, undef, undef, undef, undef, undef, undef, undef, undef, undef, undef, undef, undef, undef, undef, undef, undef, undef, undef, undef, undef, undef, undef, undef, undef, undef, undef, undef, undef, undef, undef, undef, undef, undef, undef, undef, undef, undef, .bool true, .pointer (some ⟨g1, j, none⟩), .int .u8 (bt s j), v1 105, .bool false, .int .u8 (bt s j), .bool false, .bool false, undef, .bool false, .bool false, .int .u8 (bt s j), .bool false, .bool false, undef, undef, .bool false, v1 119, v1 120, .bool true, .int .u8 (bt s j), .int .u8 (ob8 (bt s j) 32), .bool true, .bool true, .int .u8 (bt s j), .int .u8 (ob8 (bt s j) 32), .bool true, .bool true, .int .u8 (bt s j), .int .u8 (ob8 (bt s j) 32), .int .u8 (ob8 (bt s j) 32 - 97), .int .u8 (ob8 (bt s j) 32 - 97 + 10), .int .u8 (ob8 (bt s j) 32 - 97 + 10), .int .i64 16, .int .u8 16, .bool false, v1 138, .int .u64 (pv 16 65535 s j), .int .u64 1152921504606846976, .bool false, v1 142, v1 143, .int .u64 (pv 16 65535 s j), .int .i64 16, .int .u64 16, .int .u64 (pv 16 65535 s j * 16), .int .u64 (pv 16 65535 s j * 16), .int .u8 (ob8 (bt s j) 32 - 97 + 10), .int .u64 (ob8 (bt s j) 32 - 97 + 10), .int .u64 (pv 16 65535 s j * 16 + (ob8 (bt s j) 32 - 97 + 10)), .int .u64 (pv 16 65535 s j * 16 + (ob8 (bt s j) 32 - 97 + 10)), .int .u64 (pv 16 65535 s j * 16), .bool false, .bool false, .int .u64 (pv 16 65535 s j * 16 + (ob8 (bt s j) 32 - 97 + 10)), .int .u64 65535, .bool false, .bool false, v1 160, v1 161, .int .u64 (pv 16 65535 s j * 16 + (ob8 (bt s j) 32 - 97 + 10)), .int .i64 ((j + 1 : Nat) : Int)] : List Value).getD (k_ - 6) undef, by kernel_rfl, M, hpz⟩
       ·skip
        refine pH 137 (.bool true) (dTz (16 ≤ (ob8 (bt s j) 32 - 97 + 10)) (by omega)) ?_
        refine nT ?_
        refine wp_cond_true (by kernel_rfl) ?_
        refine sR ?_
        refine pV 138 (.iface 131 (.int .i64 2)) ?_
        refine pV 6 (.int .u64 0) ?_
        refine pV 7 (.iface 131 (.int .i64 2)) ?_
        refine nT ?_
        refine wp_ret ?_
        refine au_then_ret ?_
        refine au_block_ret ?_
        refine au_then_ret ?_
        refine au_then_ret ?_
        refine au_block_ret ?_
        refine au_then_ret ?_
        exact bodyPost_ret (v := .tuple #[.int .u64 0, .iface 131 (.int .i64 2)]) (results_tmp2 Tryz.results92 _ _ _ _ (by kernel_rfl) (by kernel_rfl)) (by kernel_rfl) ⟨.inr ⟨prs_none hj (pz_bad hx (dv_l (bt s j) (by omega) (by omega)) (by omega)), 0, 2, .inr rfl, rfl⟩, below_grown M.old⟩
    ·skip
     refine pH 114 (.bool true) (dTz (48 ≤ (bt s j)) (by omega)) ?_
     refine pV 115 (.bool true) ?_
     refine pl_val (want_on 2 true rfl 115 rfl (by kernel_rfl)) (some 116) rfl (.int .u8 (bt s j)) (fun _ => by kernel_rfl) ?_
     by_cases c3 : 57 < (bt s j)
     ·skip
      refine pl_val (want_on 2 true rfl 115 rfl (by kernel_rfl)) (some 117) rfl (.bool false) (fun w => Eq.trans (b := .ok (.value (.bool (decide ((bt s j) ≤ 57)))) w) (by kernel_rfl) (by rw [decide_eq_false (by omega)])) ?_
      refine pV 118 (.bool false) ?_
      refine pV 112 (.bool false) ?_
      refine nT ?_
      refine wp_cond_false (by kernel_rfl) ?_
      refine sR ?_
      refine pV 122 (.int .u8 (bt s j)) ?_
      refine pC M 123 112 #[.int .u8 (bt s j)] (.int .u8 (ob8 (bt s j) 32)) (fun w M => c_lower (bt s j) w) fun u2 M => ?_
      by_cases c4 : (ob8 (bt s j) 32) < 97
      ·skip
       refine pH 124 (.bool false) (dF (97 ≤ (ob8 (bt s j) 32)) (by omega)) ?_
       refine pV 125 (.bool false) ?_
       refine pl_skip (want_off 3 true rfl 125 rfl (by kernel_rfl)) (some 126) rfl ?_
       refine pl_skip (want_off 3 true rfl 125 rfl (by kernel_rfl)) (some 127) rfl ?_
       refine pl_skip (want_off 3 true rfl 125 rfl (by kernel_rfl)) (some 128) rfl ?_
       refine pV 129 (.bool false) ?_
       refine pV 121 (.bool false) ?_
       refine nT ?_
       refine wp_cond_false (by kernel_rfl) ?_
       refine sR ?_
       refine pV 105 (.iface 131 (.int .i64 2)) ?_
       refine pV 6 (.int .u64 0) ?_
       refine pV 7 (.iface 131 (.int .i64 2)) ?_
       refine nT ?_
       refine wp_ret ?_
       refine au_block_ret ?_
       refine au_then_ret ?_
       refine au_block_ret ?_
       refine au_then_ret ?_
       refine au_then_ret ?_
       refine au_block_ret ?_
       refine au_then_ret ?_
       exact bodyPost_ret (v := .tuple #[.int .u64 0, .iface 131 (.int .i64 2)]) (results_tmp2 Tryz.results92 _ _ _ _ (by kernel_rfl) (by kernel_rfl)) (by kernel_rfl) ⟨.inr ⟨prs_none hj (pz_bad hx (dv_n (bt s j) (by omega) (by omega)) (by omega)), 0, 2, .inr rfl, rfl⟩, below_grown M.old⟩
      ·skip
       refine pH 124 (.bool true) (dTz (97 ≤ (ob8 (bt s j) 32)) (by omega)) ?_
       refine pV 125 (.bool true) ?_
       refine pl_val (want_on 3 true rfl 125 rfl (by kernel_rfl)) (some 126) rfl (.int .u8 (bt s j)) (fun _ => by kernel_rfl) ?_
       refine pl_call M (want_on 3 true rfl 125 rfl (by kernel_rfl)) (some 127) rfl 112 #[.int .u8 (bt s j)] (.int .u8 (ob8 (bt s j) 32)) (fun _ => by kernel_rfl) (fun w M => c_lower (bt s j) w) fun u3 M => ?_
       by_cases c5 : 122 < (ob8 (bt s j) 32)
       ·skip
        refine pl_val (want_on 3 true rfl 125 rfl (by kernel_rfl)) (some 128) rfl (.bool false) (fun w => Eq.trans (b := .ok (.value (.bool (decide ((ob8 (bt s j) 32) ≤ 122)))) w) (by kernel_rfl) (by rw [decide_eq_false (by omega)])) ?_
        refine pV 129 (.bool false) ?_
        refine pV 121 (.bool false) ?_
        refine nT ?_
        refine wp_cond_false (by kernel_rfl) ?_
        refine sR ?_
        refine pV 105 (.iface 131 (.int .i64 2)) ?_
        refine pV 6 (.int .u64 0) ?_
        refine pV 7 (.iface 131 (.int .i64 2)) ?_
        refine nT ?_
        refine wp_ret ?_
        refine au_block_ret ?_
        refine au_then_ret ?_
        refine au_block_ret ?_
        refine au_then_ret ?_
        refine au_then_ret ?_
        refine au_block_ret ?_
        refine au_then_ret ?_
        exact bodyPost_ret (v := .tuple #[.int .u64 0, .iface 131 (.int .i64 2)]) (results_tmp2 Tryz.results92 _ _ _ _ (by kernel_rfl) (by kernel_rfl)) (by kernel_rfl) ⟨.inr ⟨prs_none hj (pz_bad hx (dv_n (bt s j) (by omega) (by omega)) (by omega)), 0, 2, .inr rfl, rfl⟩, below_grown M.old⟩
       ·skip
        refine pl_val (want_on 3 true rfl 125 rfl (by kernel_rfl)) (some 128) rfl (.bool true) (fun w => Eq.trans (b := .ok (.value (.bool (decide ((ob8 (bt s j) 32) ≤ 122)))) w) (by kernel_rfl) (by rw [decide_eq_true (by omega)])) ?_
        refine pV 129 (.bool true) ?_
        refine pV 121 (.bool true) ?_
        refine nT ?_
        refine wp_cond_true (by kernel_rfl) ?_
        refine rg_lit ?_
        refine pV 130 (.int .u8 (bt s j)) ?_
        refine pC M 131 112 #[.int .u8 (bt s j)] (.int .u8 (ob8 (bt s j) 32)) (fun w M => c_lower (bt s j) w) fun u4 M => ?_
        refine pH 132 (.int .u8 (ob8 (bt s j) 32 - 97)) (fun w => Eq.trans (b := .ok (.value (.int .u8 (cv .u8 (ob8 (bt s j) 32 - 97)))) w) (by kernel_rfl) (by rw [cv_u8]; congr 3; omega)) ?_
        refine pH 133 (.int .u8 (ob8 (bt s j) 32 - 97 + 10)) (fun w => Eq.trans (b := .ok (.value (.int .u8 (cv .u8 (ob8 (bt s j) 32 - 97 + 10)))) w) (by kernel_rfl) (by rw [cv_u8]; congr 3; omega)) ?_
        refine pV 16 (.int .u8 (ob8 (bt s j) 32 - 97 + 10)) ?_
        refine pl_nil ?_
        refine au_block ?_
        refine au_then ?_
        refine wp_seq ?_
        refine sR ?_
        refine pV 134 (.int .u8 (ob8 (bt s j) 32 - 97 + 10)) ?_
        refine pV 135 (.int .i64 16) ?_
        refine pV 136 (.int .u8 16) ?_
        by_cases c6 : (ob8 (bt s j) 32 - 97 + 10) < 16
        ·skip
         refine pH 137 (.bool false) (dF (16 ≤ (ob8 (bt s j) 32 - 97 + 10)) (by omega)) ?_
         refine nT ?_
         refine wp_cond_false (by kernel_rfl) ?_
         refine wp_skip ?_
         refine au_then ?_
         refine wp_seq ?_
         refine sR ?_
         refine pV 139 (.int .u64 (pv 16 65535 s j)) ?_
         refine pV 140 (.int .u64 1152921504606846976) ?_
         refine pH 141 (.bool false) (dF (1152921504606846976 ≤ (pv 16 65535 s j)) (by omega)) ?_
         refine nT ?_
         refine wp_cond_false (by kernel_rfl) ?_
         refine wp_skip ?_
         refine au_then ?_
         refine sR ?_
         refine pV 144 (.int .u64 (pv 16 65535 s j)) ?_
         refine pV 145 (.int .i64 16) ?_
         refine pV 146 (.int .u64 16) ?_
         refine pH 147 (.int .u64 (pv 16 65535 s j * 16)) (fun w => Eq.trans (b := .ok (.value (.int .u64 (cv .u64 (pv 16 65535 s j * 16)))) w) (by kernel_rfl) (by rw [cv_u64]; congr 3; omega)) ?_
         refine pV 13 (.int .u64 (pv 16 65535 s j * 16)) ?_
         refine nT ?_
         refine sR ?_
         refine pV 148 (.int .u64 (pv 16 65535 s j * 16)) ?_
         refine pV 149 (.int .u8 (ob8 (bt s j) 32 - 97 + 10)) ?_
         refine pH 150 (.int .u64 (ob8 (bt s j) 32 - 97 + 10)) (fun w => Eq.trans (b := .ok (.value (.int .u64 (cv .u64 (ob8 (bt s j) 32 - 97 + 10)))) w) (by kernel_rfl) (by rw [cv_u64]; congr 3; omega)) ?_
         refine pH 151 (.int .u64 (pv 16 65535 s j * 16 + (ob8 (bt s j) 32 - 97 + 10))) (fun w => Eq.trans (b := .ok (.value (.int .u64 (cv .u64 (pv 16 65535 s j * 16 + (ob8 (bt s j) 32 - 97 + 10))))) w) (by kernel_rfl) (by rw [cv_u64]; congr 3; omega)) ?_
         refine pV 17 (.int .u64 (pv 16 65535 s j * 16 + (ob8 (bt s j) 32 - 97 + 10))) ?_
         refine nT ?_
         refine wp_seq ?_
         refine sR ?_
         refine pV 152 (.int .u64 (pv 16 65535 s j * 16 + (ob8 (bt s j) 32 - 97 + 10))) ?_
         refine pV 153 (.int .u64 (pv 16 65535 s j * 16)) ?_
         refine pH 154 (.bool false) (dF ((pv 16 65535 s j * 16 + (ob8 (bt s j) 32 - 97 + 10)) < (pv 16 65535 s j * 16)) (by omega)) ?_
         refine pV 155 (.bool false) ?_
         refine pl_val (want_on 3 false rfl 155 rfl (by kernel_rfl)) (some 156) rfl (.int .u64 (pv 16 65535 s j * 16 + (ob8 (bt s j) 32 - 97 + 10))) (fun _ => by kernel_rfl) ?_
         refine pl_val (want_on 3 false rfl 155 rfl (by kernel_rfl)) (some 157) rfl (.int .u64 65535) (fun _ => by kernel_rfl) ?_
         by_cases c7 : 65535 < (pv 16 65535 s j * 16 + (ob8 (bt s j) 32 - 97 + 10))
         ·skip
          refine pl_val (want_on 3 false rfl 155 rfl (by kernel_rfl)) (some 158) rfl (.bool true) (fun w => Eq.trans (b := .ok (.value (.bool (decide (65535 < (pv 16 65535 s j * 16 + (ob8 (bt s j) 32 - 97 + 10)))))) w) (by kernel_rfl) (by rw [decide_eq_true (c7)])) ?_
          refine pV 159 (.bool true) ?_
          refine nT ?_
          refine wp_cond_true (by kernel_rfl) ?_
          refine sR ?_
          refine pV 160 (.int .u64 65535) ?_
          refine pV 161 (.iface 131 (.int .i64 1)) ?_
          refine pV 6 (.int .u64 65535) ?_
          refine pV 7 (.iface 131 (.int .i64 1)) ?_
          refine nT ?_
          refine wp_ret ?_
          refine au_then_ret ?_
          refine au_block_ret ?_
          refine au_then_ret ?_
          refine au_then_ret ?_
          refine au_block_ret ?_
          refine au_then_ret ?_
          exact bodyPost_ret (v := .tuple #[.int .u64 65535, .iface 131 (.int .i64 1)]) (results_tmp2 Tryz.results92 _ _ _ _ (by kernel_rfl) (by kernel_rfl)) (by kernel_rfl) ⟨.inr ⟨prs_none hj (pz_big hx (dv_l (bt s j) (by omega) (by omega)) (by omega) (by omega)), 65535, 1, .inl rfl, rfl⟩, below_grown M.old⟩
         ·skip
          refine pl_val (want_on 3 false rfl 155 rfl (by kernel_rfl)) (some 158) rfl (.bool false) (fun w => Eq.trans (b := .ok (.value (.bool (decide (65535 < (pv 16 65535 s j * 16 + (ob8 (bt s j) 32 - 97 + 10)))))) w) (by kernel_rfl) (by rw [decide_eq_false (c7)])) ?_
          refine pV 159 (.bool false) ?_
          refine nT ?_
          refine wp_cond_false (by kernel_rfl) ?_
          refine wp_skip ?_
          refine au_then ?_
          refine rg_lit ?_
          refine pV 162 (.int .u64 (pv 16 65535 s j * 16 + (ob8 (bt s j) 32 - 97 + 10))) ?_
          have hpy := pz_ok hx (dv_l (bt s j) (by omega) (by omega)) (by omega) (by omega)
          have hpv : pv 16 65535 s (j + 1) = pv 16 65535 s j * 16 + (ob8 (bt s j) 32 - 97 + 10) := by unfold pv; rw [hpy]; rfl
          have hpz : pz 16 65535 s (j + 1) = some (pv 16 65535 s (j + 1)) := by rw [hpv]; exact hpy
          refine pH 13 (.int .u64 (pv 16 65535 s (j + 1))) (fun w => Eq.trans (b := .ok (.value (.int .u64 (pv 16 65535 s j * 16 + (ob8 (bt s j) 32 - 97 + 10)))) w) (by kernel_rfl) (by rw [hpv])) ?_
          refine pl_nil ?_
          refine au_block ?_
          refine au_then ?_
          refine rg_lit ?_
          refine pH 163 (.int .i64 ((j + 1 : Nat) : Int)) (iV ((j : Int) + 1) (by omega) (by omega) (by omega)) ?_
          refine pV 101 (.int .i64 ((j + 1 : Nat) : Int)) ?_
          refine nT ?_
          exact ⟨fun k_ => ([v1 6, v1 7, undef, undef, undef, undef, undef, undef, undef, .int .u8 (bt s j), .int .u8 (ob8 (bt s j) 32 - 97 + 10), .int .u64 (pv 16 65535 s j * 16 + (ob8 (bt s j) 32 - 97 + 10)), undef, undef, undef, undef, undef, undef, undef, undef, undef, undef, undef, undef, undef, undef, undef, undef, undef, undef, undef, undef, undef, undef, undef, undef, undef, undef, undef, undef, undef, undef, undef, undef, undef, undef, undef, undef, undef, undef, undef, undef, undef, undef, undef, undef, undef, undef, undef, undef, undef, undef, undef, undef, undef, undef, undef, undef, undef, undef, undef, undef, undef, undef, undef, undef, undef, undef, undef, undef, undef, undef, undef, undef, undef, undef, undef, undef, undef, undef, undef, undef, undef, undef, undef, undef, .bool true, .pointer (some ⟨g1, j, none⟩), .int .u8 (bt s j), v1 105, .bool false, .int .u8 (bt s j), .bool false, .bool false, undef, .bool false, .bool false, .int .u8 (bt s j), .bool true, .bool true, .int .u8 (bt s j), .bool false, .bool false, v1 119, v1 120, .bool true, .int .u8 (bt s j), .int .u8 (ob8 (bt s j) 32), .bool true, .bool true, .int .u8 (bt s j), .int .u8 (ob8 (bt s j) 32), .bool true, .bool true, .int .u8 (bt s j), .int .u8 (ob8 (bt s j) 32), .int .u8 (ob8 (bt s j) 32 - 97), .int .u8 (ob8 (bt s j) 32 - 97 + 10), .int .u8 (ob8 (bt s j) 32 - 97 + 10), .int .i64 16, .int .u8 16, .bool false, v1 138, .int .u64 (pv 16 65535 s j), .int .u64 1152921504606846976, .bool false, v1 142, v1 143, .int .u64 (pv 16 65535 s j), .int .i64 16, .int .u64 16, .int .u64 (pv 16 65535 s j * 16), .int .u64 (pv 16 65535 s j * 16), .int .u8 (ob8 (bt s j) 32 - 97 + 10), .int .u64 (ob8 (bt s j) 32 - 97 + 10), .int .u64 (pv 16 65535 s j * 16 + (ob8 (bt s j) 32 - 97 + 10)), .int .u64 (pv 16 65535 s j * 16 + (ob8 (bt s j) 32 - 97 + 10)), .int .u64 (pv 16 65535 s j * 16), .bool false, .bool false, .int .u64 (pv 16 65535 s j * 16 + (ob8 (bt s j) 32 - 97 + 10)), .int .u64 65535, .bool false, .bool false, v1 160, v1 161, .int .u64 (pv 16 65535 s j * 16 + (ob8 (bt s j) 32 - 97 + 10)), .int .i64 ((j + 1 : Nat) : Int)] : List Value).getD (k_ - 6) undef, by kernel_rfl, M, hpz⟩
        ·skip
         refine pH 137 (.bool true) (dTz (16 ≤ (ob8 (bt s j) 32 - 97 + 10)) (by omega)) ?_
         refine nT ?_
         refine wp_cond_true (by kernel_rfl) ?_
         refine sR ?_
         refine pV 138 (.iface 131 (.int .i64 2)) ?_
         refine pV 6 (.int .u64 0) ?_
         refine pV 7 (.iface 131 (.int .i64 2)) ?_
         refine nT ?_
         refine wp_ret ?_
         refine au_then_ret ?_
         refine au_block_ret ?_
         refine au_then_ret ?_
         refine au_then_ret ?_
         refine au_block_ret ?_
         refine au_then_ret ?_
         exact bodyPost_ret (v := .tuple #[.int .u64 0, .iface 131 (.int .i64 2)]) (results_tmp2 Tryz.results92 _ _ _ _ (by kernel_rfl) (by kernel_rfl)) (by kernel_rfl) ⟨.inr ⟨prs_none hj (pz_bad hx (dv_l (bt s j) (by omega) (by omega)) (by omega)), 0, 2, .inr rfl, rfl⟩, below_grown M.old⟩
     ·skip
      refine pl_val (want_on 2 true rfl 115 rfl (by kernel_rfl)) (some 117) rfl (.bool true) (fun w => Eq.trans (b := .ok (.value (.bool (decide ((bt s j) ≤ 57)))) w) (by kernel_rfl) (by rw [decide_eq_true (by omega)])) ?_
      refine pV 118 (.bool true) ?_
      refine pV 112 (.bool true) ?_
      refine nT ?_
      refine wp_cond_true (by kernel_rfl) ?_
      refine rg_lit ?_
      refine pV 119 (.int .u8 (bt s j)) ?_
      refine pH 120 (.int .u8 (bt s j - 48)) (fun w => Eq.trans (b := .ok (.value (.int .u8 (cv .u8 (bt s j - 48)))) w) (by kernel_rfl) (by rw [cv_u8]; congr 3; omega)) ?_
      refine pV 16 (.int .u8 (bt s j - 48)) ?_
      refine pl_nil ?_
      refine au_block ?_
      refine au_then ?_
      refine wp_seq ?_
      refine sR ?_
      refine pV 134 (.int .u8 (bt s j - 48)) ?_
      refine pV 135 (.int .i64 16) ?_
      refine pV 136 (.int .u8 16) ?_
      by_cases c4 : (bt s j - 48) < 16
      ·skip
       refine pH 137 (.bool false) (dF (16 ≤ (bt s j - 48)) (by omega)) ?_
       refine nT ?_
       refine wp_cond_false (by kernel_rfl) ?_
       refine wp_skip ?_
       refine au_then ?_
       refine wp_seq ?_
       refine sR ?_
       refine pV 139 (.int .u64 (pv 16 65535 s j)) ?_
       refine pV 140 (.int .u64 1152921504606846976) ?_
       refine pH 141 (.bool false) (dF (1152921504606846976 ≤ (pv 16 65535 s j)) (by omega)) ?_
       refine nT ?_
       refine wp_cond_false (by kernel_rfl) ?_
       refine wp_skip ?_
       refine au_then ?_
       refine sR ?_
       refine pV 144 (.int .u64 (pv 16 65535 s j)) ?_
       refine pV 145 (.int .i64 16) ?_
       refine pV 146 (.int .u64 16) ?_
       refine pH 147 (.int .u64 (pv 16 65535 s j * 16)) (fun w => Eq.trans (b := .ok (.value (.int .u64 (cv .u64 (pv 16 65535 s j * 16)))) w) (by kernel_rfl) (by rw [cv_u64]; congr 3; omega)) ?_
       refine pV 13 (.int .u64 (pv 16 65535 s j * 16)) ?_
       refine nT ?_
       refine sR ?_
       refine pV 148 (.int .u64 (pv 16 65535 s j * 16)) ?_
       refine pV 149 (.int .u8 (bt s j - 48)) ?_
       refine pH 150 (.int .u64 (bt s j - 48)) (fun w => Eq.trans (b := .ok (.value (.int .u64 (cv .u64 (bt s j - 48)))) w) (by kernel_rfl) (by rw [cv_u64]; congr 3; omega)) ?_
       refine pH 151 (.int .u64 (pv 16 65535 s j * 16 + (bt s j - 48))) (fun w => Eq.trans (b := .ok (.value (.int .u64 (cv .u64 (pv 16 65535 s j * 16 + (bt s j - 48))))) w) (by kernel_rfl) (by rw [cv_u64]; congr 3; omega)) ?_
       refine pV 17 (.int .u64 (pv 16 65535 s j * 16 + (bt s j - 48))) ?_
       refine nT ?_
       refine wp_seq ?_
       refine sR ?_
       refine pV 152 (.int .u64 (pv 16 65535 s j * 16 + (bt s j - 48))) ?_
       refine pV 153 (.int .u64 (pv 16 65535 s j * 16)) ?_
       refine pH 154 (.bool false) (dF ((pv 16 65535 s j * 16 + (bt s j - 48)) < (pv 16 65535 s j * 16)) (by omega)) ?_
       refine pV 155 (.bool false) ?_
       refine pl_val (want_on 3 false rfl 155 rfl (by kernel_rfl)) (some 156) rfl (.int .u64 (pv 16 65535 s j * 16 + (bt s j - 48))) (fun _ => by kernel_rfl) ?_
       refine pl_val (want_on 3 false rfl 155 rfl (by kernel_rfl)) (some 157) rfl (.int .u64 65535) (fun _ => by kernel_rfl) ?_
       by_cases c5 : 65535 < (pv 16 65535 s j * 16 + (bt s j - 48))
       ·skip
        refine pl_val (want_on 3 false rfl 155 rfl (by kernel_rfl)) (some 158) rfl (.bool true) (fun w => Eq.trans (b := .ok (.value (.bool (decide (65535 < (pv 16 65535 s j * 16 + (bt s j - 48)))))) w) (by kernel_rfl) (by rw [decide_eq_true (c5)])) ?_
        refine pV 159 (.bool true) ?_
        refine nT ?_
        refine wp_cond_true (by kernel_rfl) ?_
        refine sR ?_
        refine pV 160 (.int .u64 65535) ?_
        refine pV 161 (.iface 131 (.int .i64 1)) ?_
        refine pV 6 (.int .u64 65535) ?_
        refine pV 7 (.iface 131 (.int .i64 1)) ?_
        refine nT ?_
        refine wp_ret ?_
        refine au_then_ret ?_
        refine au_block_ret ?_
        refine au_then_ret ?_
        refine au_then_ret ?_
        refine au_block_ret ?_
        refine au_then_ret ?_
        exact bodyPost_ret (v := .tuple #[.int .u64 65535, .iface 131 (.int .i64 1)]) (results_tmp2 Tryz.results92 _ _ _ _ (by kernel_rfl) (by kernel_rfl)) (by kernel_rfl) ⟨.inr ⟨prs_none hj (pz_big hx (dv_d (bt s j) (by omega)) (by omega) (by omega)), 65535, 1, .inl rfl, rfl⟩, below_grown M.old⟩
       ·skip
        refine pl_val (want_on 3 false rfl 155 rfl (by kernel_rfl)) (some 158) rfl (.bool false) (fun w => Eq.trans (b := .ok (.value (.bool (decide (65535 < (pv 16 65535 s j * 16 + (bt s j - 48)))))) w) (by kernel_rfl) (by rw [decide_eq_false (c5)])) ?_
        refine pV 159 (.bool false) ?_
        refine nT ?_
        refine wp_cond_false (by kernel_rfl) ?_
        refine wp_skip ?_
        refine au_then ?_
        refine rg_lit ?_
        refine pV 162 (.int .u64 (pv 16 65535 s j * 16 + (bt s j - 48))) ?_
        have hpy := pz_ok hx (dv_d (bt s j) (by omega)) (by omega) (by omega)
        have hpv : pv 16 65535 s (j + 1) = pv 16 65535 s j * 16 + (bt s j - 48) := by unfold pv; rw [hpy]; rfl
        have hpz : pz 16 65535 s (j + 1) = some (pv 16 65535 s (j + 1)) := by rw [hpv]; exact hpy
        refine pH 13 (.int .u64 (pv 16 65535 s (j + 1))) (fun w => Eq.trans (b := .ok (.value (.int .u64 (pv 16 65535 s j * 16 + (bt s j - 48)))) w) (by kernel_rfl) (by rw [hpv])) ?_
        refine pl_nil ?_
        refine au_block ?_
        refine au_then ?_
        refine rg_lit ?_
        refine pH 163 (.int .i64 ((j + 1 : Nat) : Int)) (iV ((j : Int) + 1) (by omega) (by omega) (by omega)) ?_
        refine pV 101 (.int .i64 ((j + 1 : Nat) : Int)) ?_
        refine nT ?_
        exact ⟨fun k_ => ([v1 6, v1 7, undef, undef, undef, undef, undef, undef, undef, .int .u8 (bt s j), .int .u8 (bt s j - 48), .int .u64 (pv 16 65535 s j * 16 + (bt s j - 48)), undef, undef, undef, undef, undef, undef, undef, undef, undef, undef, undef, undef, undef, undef, undef, undef, undef, undef, undef, undef, undef, undef, undef, undef, undef, undef, undef, undef, undef, undef, undef, undef, undef, undef, undef, undef, undef, undef, undef, undef, undef, undef, undef, undef, undef, undef, undef, undef, undef, undef, undef, undef, undef, undef, undef, undef, undef, undef, undef, undef, undef, undef, undef, undef, undef, undef, undef, undef, undef, undef, undef, undef, undef, undef, undef, undef, undef, undef, undef, undef, undef, undef, undef, undef, .bool true, .pointer (some ⟨g1, j, none⟩), .int .u8 (bt s j), v1 105, .bool false, .int .u8 (bt s j), .bool false, .bool false, undef, .bool false, .bool true, .int .u8 (bt s j), .bool true, .bool true, .int .u8 (bt s j), .bool true, .bool true, .int .u8 (bt s j), .int .u8 (bt s j - 48), v1 121, v1 122, v1 123, v1 124, v1 125, v1 126, v1 127, v1 128, v1 129, v1 130, v1 131, v1 132, v1 133, .int .u8 (bt s j - 48), .int .i64 16, .int .u8 16, .bool false, v1 138, .int .u64 (pv 16 65535 s j), .int .u64 1152921504606846976, .bool false, v1 142, v1 143, .int .u64 (pv 16 65535 s j), .int .i64 16, .int .u64 16, .int .u64 (pv 16 65535 s j * 16), .int .u64 (pv 16 65535 s j * 16), .int .u8 (bt s j - 48), .int .u64 (bt s j - 48), .int .u64 (pv 16 65535 s j * 16 + (bt s j - 48)), .int .u64 (pv 16 65535 s j * 16 + (bt s j - 48)), .int .u64 (pv 16 65535 s j * 16), .bool false, .bool false, .int .u64 (pv 16 65535 s j * 16 + (bt s j - 48)), .int .u64 65535, .bool false, .bool false, v1 160, v1 161, .int .u64 (pv 16 65535 s j * 16 + (bt s j - 48)), .int .i64 ((j + 1 : Nat) : Int)] : List Value).getD (k_ - 6) undef, by kernel_rfl, M, hpz⟩
      ·skip
       refine pH 137 (.bool true) (dTz (16 ≤ (bt s j - 48)) (by omega)) ?_
       refine nT ?_
       refine wp_cond_true (by kernel_rfl) ?_
       refine sR ?_
       refine pV 138 (.iface 131 (.int .i64 2)) ?_
       refine pV 6 (.int .u64 0) ?_
       refine pV 7 (.iface 131 (.int .i64 2)) ?_
       refine nT ?_
       refine wp_ret ?_
       refine au_then_ret ?_
       refine au_block_ret ?_
       refine au_then_ret ?_
       refine au_then_ret ?_
       refine au_block_ret ?_
       refine au_then_ret ?_
       exact bodyPost_ret (v := .tuple #[.int .u64 0, .iface 131 (.int .i64 2)]) (results_tmp2 Tryz.results92 _ _ _ _ (by kernel_rfl) (by kernel_rfl)) (by kernel_rfl) ⟨.inr ⟨prs_none hj (pz_bad hx (dv_d (bt s j) (by omega)) (by omega)), 0, 2, .inr rfl, rfl⟩, below_grown M.old⟩
  ·intro a u0 hI
   obtain ⟨v1, rfl, M, hx⟩ := hI
   refine sR ?_
   refine pH 102 (.bool false) (dF (((s.size : Nat) : Int) < ((s.size : Nat) : Int)) (by omega)) ?_
   refine nT ?_
   refine wp_seq ?_
   refine wp_cond_false (by kernel_rfl) ?_
   refine wp_exit ?_
   refine au_then_exit ?_
   refine au_then_exit ?_
   refine au_block_exit ?_
   refine au_then ?_
   refine wp_seq ?_
   refine sR ?_
   refine pV 164 (.bool false) ?_
   refine pV 165 (.bool false) ?_
   refine pl_skip (want_off 1 true rfl 165 rfl (by kernel_rfl)) (some 166) rfl ?_
   refine pl_skip (want_off 1 true rfl 165 rfl (by kernel_rfl)) (some 167) rfl ?_
   refine pl_skip (want_off 1 true rfl 165 rfl (by kernel_rfl)) (some 168) rfl ?_
   refine pV 169 (.bool false) ?_
   refine nT ?_
   refine wp_cond_false (by kernel_rfl) ?_
   refine wp_skip ?_
   refine au_then ?_
   refine sR ?_
   refine pV 171 (.int .u64 (pv 16 65535 s (s.size))) ?_
   refine pV 6 (.int .u64 (pv 16 65535 s (s.size))) ?_
   refine pV 7 (.nilIface) ?_
   refine nT ?_
   refine wp_ret ?_
   exact bodyPost_ret (v := .tuple #[.int .u64 (pv 16 65535 s (s.size)), .nilIface]) (results_tmp2 Tryz.results92 _ _ _ _ (by kernel_rfl) (by kernel_rfl)) (by kernel_rfl) ⟨.inl ⟨(pv 16 65535 s (s.size)), by unfold prs; rw [if_neg c0]; exact hx, rfl⟩, below_grown M.old⟩
theorem c_toErr (fn s : ByteArray) (b bits k : Int) (hk : k = 1 ∨ k = 2) (hs : s.size ≤ 1000) (w : World) (hL : Laid w) :
  Calls Tryz.prog 93 #[.string fn, .string s, .int .i64 b, .int .i64 bits, .iface 131 (.int .i64 k)] w fun r w' => (∃ N, r = .returned (.iface 133 (.pointer (some ⟨N, 0, none⟩)))) ∧ Below w.heap.size w w' := by
 rcases hk with rfl | rfl
 ·obtain ⟨t, p, h⟩ := hL.rg
  exact (Any.strconv_toError_range laysC245 fn s b bits _ w (by omega) h (.inr ⟨t, p, rfl⟩)).mono fun e w' ⟨n, he, _, _, hb⟩ => ⟨⟨n, he⟩, hb⟩
 ·obtain ⟨t, p, h⟩ := hL.sy
  exact (Any.strconv_toError_syntax laysC245 fn s b bits _ w (by omega) h (.inr ⟨t, p, rfl⟩)).mono fun e w' ⟨n, he, _, _, hb⟩ => ⟨⟨n, he⟩, hb⟩
section
variable {P : Program} {ops : Array Oper} {rest : List Oper} {o : Oper} {a : Act} {w : World} {c : Ctx} {L : List Blk} {Q : Exit → Act → World → Prop}
theorem pl_callx {α : Type} (M : Mem c L w) (hw : Region.wanted o (yielded ops a.tmps) = true) (d : Option Tmp) (hd : o.dst = d) (f : FuncId) (args : Array Value) (v : α → Value) (K : α → Prop) (hrun : ∀ w, (execOp a.eval o).run P w = .ok (.enter f args) w)
  (hc : ∀ w, Mem c L w → Calls P f args w fun e w' => (∃ x, K x ∧ e = .returned (v x)) ∧ Below w.heap.size w w') (h : ∀ x w', K x → Mem c L w' → PL P ops Q rest (a.put d (v x)) w') : PL P ops Q (o :: rest) a w :=
 pl_callq hw d hd f args hrun ((hc w M).mono fun _ w' ⟨⟨x, hk, he⟩, hb⟩ => ⟨v x, he, h x w' hk (M.keep hb)⟩)
end
theorem c_ipu10S (s : ByteArray) (hs : s.size ≤ 1000) (x : Int) (h : prs 10 255 s = some x) (w : World) (hL : Laid w) : Calls Tryz.prog 92 #[.string s, .int .i64 10, .int .i64 8] w fun r w' => r = .returned (.tuple #[.int .u64 x, .nilIface]) ∧ Below w.heap.size w w' :=
 (c_ipu10 s hs w hL).mono fun e w' ⟨h1, h2⟩ => ⟨(by
  rcases h1 with ⟨y, hy, he⟩ | ⟨hn, _⟩
  ·rw [h] at hy
   cases hy
   exact he
  ·rw [h] at hn
   cases hn), h2⟩
theorem c_ipu10N (s : ByteArray) (hs : s.size ≤ 1000) (h : prs 10 255 s = none) (w : World) (hL : Laid w) : Calls Tryz.prog 92 #[.string s, .int .i64 10, .int .i64 8] w fun r w' => (∃ x : Int × Int, (x.2 = 1 ∨ x.2 = 2) ∧ r = .returned (.tuple #[.int .u64 x.1, .iface 131 (.int .i64 x.2)])) ∧ Below w.heap.size w w' :=
 (c_ipu10 s hs w hL).mono fun e w' ⟨h1, h2⟩ => ⟨(by
  rcases h1 with ⟨y, hy, he⟩ | ⟨_, y, k, hk, he⟩
  ·rw [h] at hy
   cases hy
  ·exact ⟨(y, k), hk, he⟩), h2⟩
set_option maxRecDepth 100000 in
set_option maxHeartbeats 4000000 in
set_option linter.unusedSimpArgs false in
theorem c_pu10S (s : ByteArray) (hs : s.size ≤ 1000) (x : Int) (h : prs 10 255 s = some x) (w : World) (hL : Laid w)  :
  Calls Tryz.prog 72 #[.string s, .int .i64 10, .int .i64 8] w fun r w' => r = .returned (.tuple #[.int .u64 x, .nilIface]) ∧ Below w.heap.size w w' := by
 go_enter Tryz.func72, Tryz.ntmps72
 have M := Mem.start hL
 refine sR ?_
 refine pV 6 (.int .u64 0) ?_
 refine pV 7 (.nilIface) ?_
 refine nT ?_
 refine sR ?_
 refine pV 11 (.string s) ?_
 refine pV 12 (.int .i64 10) ?_
 refine pV 13 (.int .i64 8) ?_
 refine pC M 14 92 #[.string s, .int .i64 10, .int .i64 8] (.tuple #[.int .u64 x, .nilIface]) (fun w M => c_ipu10S s hs x h w M.laid) fun u1 M => ?_
 refine pV 10 (.tuple #[.int .u64 x, .nilIface]) ?_
 refine pV 15 (.int .u64 x) ?_
 refine pV 16 (.nilIface) ?_
 refine pV 8 (.int .u64 x) ?_
 refine pV 9 (.nilIface) ?_
 refine nT ?_
 refine wp_seq ?_
 refine sR ?_
 refine pV 17 (.nilIface) ?_
 refine pV 18 (.bool false) ?_
 refine nT ?_
 refine wp_cond_false (by kernel_rfl) ?_
 refine wp_skip ?_
 refine au_then ?_
 refine sR ?_
 refine pV 25 (.int .u64 x) ?_
 refine pV 6 (.int .u64 x) ?_
 refine pV 7 (.nilIface) ?_
 refine nT ?_
 refine wp_ret ?_
 exact bodyPost_ret (v := .tuple #[.int .u64 x, .nilIface]) (results_tmp2 Tryz.results72 _ _ _ _ (by kernel_rfl) (by kernel_rfl)) (by kernel_rfl) ⟨rfl, below_grown M.old⟩
set_option maxRecDepth 100000 in
set_option maxHeartbeats 4000000 in
set_option linter.unusedSimpArgs false in
theorem c_pu10N (s : ByteArray) (hs : s.size ≤ 1000) (h : prs 10 255 s = none) (w : World) (hL : Laid w)  :
  Calls Tryz.prog 72 #[.string s, .int .i64 10, .int .i64 8] w fun r w' => (∃ x : Int × TypeId × Value, True ∧ r = .returned (.tuple #[.int .u64 x.1, .iface x.2.1 x.2.2])) ∧ Below w.heap.size w w' := by
 go_enter Tryz.func72, Tryz.ntmps72
 have M := Mem.start hL
 refine sR ?_
 refine pV 6 (.int .u64 0) ?_
 refine pV 7 (.nilIface) ?_
 refine nT ?_
 refine sR ?_
 refine pV 11 (.string s) ?_
 refine pV 12 (.int .i64 10) ?_
 refine pV 13 (.int .i64 8) ?_
 refine pl_callx M (want_no rfl) (some 14) rfl 92 #[.string s, .int .i64 10, .int .i64 8] (fun x : Int × Int => .tuple #[.int .u64 x.1, .iface 131 (.int .i64 x.2)]) (fun x => x.2 = 1 ∨ x.2 = 2) (fun _ => by kernel_rfl) (fun w M => c_ipu10N s hs h w M.laid) ?_
 intro x u1 hk M
 refine pV 10 (.tuple #[.int .u64 x.1, .iface 131 (.int .i64 x.2)]) ?_
 refine pV 15 (.int .u64 x.1) ?_
 refine pV 16 (.iface 131 (.int .i64 x.2)) ?_
 refine pV 8 (.int .u64 x.1) ?_
 refine pV 9 (.iface 131 (.int .i64 x.2)) ?_
 refine nT ?_
 refine wp_seq ?_
 refine sR ?_
 refine pV 17 (.iface 131 (.int .i64 x.2)) ?_
 refine pV 18 (.bool true) ?_
 refine nT ?_
 refine wp_cond_true (by kernel_rfl) ?_
 refine sR ?_
 refine pV 19 (.int .u64 x.1) ?_
 refine pV 20 (.string s) ?_
 refine pV 21 (.int .i64 10) ?_
 refine pV 22 (.int .i64 8) ?_
 refine pV 23 (.iface 131 (.int .i64 x.2)) ?_
 refine pl_callx M (want_no rfl) (some 24) rfl 93 #[.string ⟨#[80, 97, 114, 115, 101, 85, 105, 110, 116]⟩, .string s, .int .i64 10, .int .i64 8, .iface 131 (.int .i64 x.2)] (fun n : Nat => .iface 133 (.pointer (some ⟨n, 0, none⟩))) (fun _ => True) (fun _ => by kernel_rfl) (fun w M => (c_toErr _ s _ _ x.2 hk hs w M.laid).mono fun e w2 ⟨⟨n, he⟩, hb⟩ => ⟨⟨n, trivial, he⟩, hb⟩) ?_
 intro n u2 _ M
 refine pV 6 (.int .u64 x.1) ?_
 refine pV 7 (.iface 133 (.pointer (some ⟨n, 0, none⟩))) ?_
 refine nT ?_
 refine wp_ret ?_
 refine au_then_ret ?_
 exact bodyPost_ret (v := .tuple #[.int .u64 x.1, .iface 133 (.pointer (some ⟨n, 0, none⟩))]) (results_tmp2 Tryz.results72 _ _ _ _ (by kernel_rfl) (by kernel_rfl)) (by kernel_rfl) ⟨⟨(x.1, 133, .pointer (some ⟨n, 0, none⟩)), trivial, rfl⟩, below_grown M.old⟩
theorem prs_lt10 {s : ByteArray} {x : Int} (h : prs 10 255 s = some x) : 0 ≤ x ∧ x ≤ 255 := by
 unfold prs at h
 split at h
 ·cases h
 ·have := pv_le (b := 10) (m := 255) (s := s) (by decide) (by decide) s.size
  unfold pv at this
  rw [h] at this
  exact this
set_option maxRecDepth 100000 in
set_option maxHeartbeats 4000000 in
set_option linter.unusedSimpArgs false in
theorem c_number10 (s : ByteArray) (w : World) (hL : Laid w)  :
  Calls Tryz.prog 47 #[.string s, .int .i64 10, .int .i64 8] w fun r w' => r = .returned (.tuple #[.int .u16 ((nmb 10 255 s).getD 0), .bool ((nmb 10 255 s).isSome)]) ∧ Below w.heap.size w w' := by
 go_enter Tryz.func47, Tryz.ntmps47
 have M := Mem.start hL
 refine sR ?_
 refine pV 6 (.int .u16 0) ?_
 refine pV 7 (.bool false) ?_
 refine nT ?_
 refine wp_seq ?_
 refine sR ?_
 refine pV 10 (.string s) ?_
 refine pV 11 (.int .i64 (s.size : Int)) ?_
 by_cases c0 : 4 < (s.size : Int)
 ·skip
  refine pH 12 (.bool true) (dTz (4 < (s.size : Int)) (c0)) ?_
  refine nT ?_
  refine wp_cond_true (by kernel_rfl) ?_
  refine sR ?_
  refine pV 6 (.int .u16 0) ?_
  refine pV 7 (.bool false) ?_
  refine nT ?_
  refine wp_ret ?_
  refine au_then_ret ?_
  have e0 : ((nmb 10 255 s).getD 0) = 0 := by rw [(show nmb 10 255 s = none from if_pos c0)]; rfl
  have e1 : (nmb 10 255 s).isSome = false := by rw [(show nmb 10 255 s = none from if_pos c0)]; rfl
  exact bodyPost_ret (v := .tuple #[.int .u16 0, .bool false]) (results_tmp2 Tryz.results47 _ _ _ _ (by kernel_rfl) (by kernel_rfl)) (by kernel_rfl) ⟨by rw [e0, e1], below_grown M.old⟩
 ·skip
  refine pH 12 (.bool false) (dF (4 < (s.size : Int)) (c0)) ?_
  refine nT ?_
  refine wp_cond_false (by kernel_rfl) ?_
  refine wp_skip ?_
  refine au_then ?_
  refine sR ?_
  refine pV 14 (.string s) ?_
  refine pV 15 (.int .i64 10) ?_
  refine pV 16 (.int .i64 8) ?_
  rcases hP : prs 10 255 s with _ | y
  ·skip
   refine pl_callx M (want_no rfl) (some 17) rfl 72 #[.string s, .int .i64 10, .int .i64 8] (fun x : Int × TypeId × Value => .tuple #[.int .u64 x.1, .iface x.2.1 x.2.2]) (fun _ => True) (fun _ => by kernel_rfl) (fun w M => c_pu10N s (by omega) hP w M.laid) ?_
   intro x u1 _ M
   refine pV 13 (.tuple #[.int .u64 x.1, .iface x.2.1 x.2.2]) ?_
   refine pV 18 (.int .u64 x.1) ?_
   refine pV 19 (.iface x.2.1 x.2.2) ?_
   refine pV 8 (.int .u64 x.1) ?_
   refine pV 9 (.iface x.2.1 x.2.2) ?_
   refine nT ?_
   refine wp_seq ?_
   refine sR ?_
   refine pV 20 (.iface x.2.1 x.2.2) ?_
   refine pV 21 (.bool true) ?_
   refine nT ?_
   refine wp_cond_true (by kernel_rfl) ?_
   refine sR ?_
   refine pV 6 (.int .u16 0) ?_
   refine pV 7 (.bool false) ?_
   refine nT ?_
   refine wp_ret ?_
   refine au_then_ret ?_
   have e0 : ((nmb 10 255 s).getD 0) = 0 := by rw [(show nmb 10 255 s = none from (by unfold nmb; rw [if_neg c0]; exact hP : nmb 10 255 s = none))]; rfl
   have e1 : (nmb 10 255 s).isSome = false := by rw [(show nmb 10 255 s = none from (by unfold nmb; rw [if_neg c0]; exact hP : nmb 10 255 s = none))]; rfl
   exact bodyPost_ret (v := .tuple #[.int .u16 0, .bool false]) (results_tmp2 Tryz.results47 _ _ _ _ (by kernel_rfl) (by kernel_rfl)) (by kernel_rfl) ⟨by rw [e0, e1], below_grown M.old⟩
  ·skip
   refine pC M 17 72 #[.string s, .int .i64 10, .int .i64 8] (.tuple #[.int .u64 y, .nilIface]) (fun w M => c_pu10S s (by omega) y hP w M.laid) fun u1 M => ?_
   refine pV 13 (.tuple #[.int .u64 y, .nilIface]) ?_
   refine pV 18 (.int .u64 y) ?_
   refine pV 19 (.nilIface) ?_
   refine pV 8 (.int .u64 y) ?_
   refine pV 9 (.nilIface) ?_
   refine nT ?_
   refine wp_seq ?_
   refine sR ?_
   refine pV 20 (.nilIface) ?_
   refine pV 21 (.bool false) ?_
   refine nT ?_
   refine wp_cond_false (by kernel_rfl) ?_
   refine wp_skip ?_
   refine au_then ?_
   refine sR ?_
   refine pV 22 (.int .u64 y) ?_
   refine pH 23 (.int .u16 y) (fun w => Eq.trans (b := .ok (.value (.int .u16 (cv .u16 y))) w) (by kernel_rfl) (by have := prs_lt10 hP; rw [cv_u16]; congr 3; omega)) ?_
   refine pV 6 (.int .u16 y) ?_
   refine pV 7 (.bool true) ?_
   refine nT ?_
   refine wp_ret ?_
   have e0 : ((nmb 10 255 s).getD 0) = y := by rw [(show nmb 10 255 s = some y from (by unfold nmb; rw [if_neg c0]; exact hP : nmb 10 255 s = some y))]; rfl
   have e1 : (nmb 10 255 s).isSome = true := by rw [(show nmb 10 255 s = some y from (by unfold nmb; rw [if_neg c0]; exact hP : nmb 10 255 s = some y))]; rfl
   exact bodyPost_ret (v := .tuple #[.int .u16 y, .bool true]) (results_tmp2 Tryz.results47 _ _ _ _ (by kernel_rfl) (by kernel_rfl)) (by kernel_rfl) ⟨by rw [e0, e1], below_grown M.old⟩
theorem c_ipu16S (s : ByteArray) (hs : s.size ≤ 1000) (x : Int) (h : prs 16 65535 s = some x) (w : World) (hL : Laid w) : Calls Tryz.prog 92 #[.string s, .int .i64 16, .int .i64 16] w fun r w' => r = .returned (.tuple #[.int .u64 x, .nilIface]) ∧ Below w.heap.size w w' :=
 (c_ipu16 s hs w hL).mono fun e w' ⟨h1, h2⟩ => ⟨(by
  rcases h1 with ⟨y, hy, he⟩ | ⟨hn, _⟩
  ·rw [h] at hy
   cases hy
   exact he
  ·rw [h] at hn
   cases hn), h2⟩
theorem c_ipu16N (s : ByteArray) (hs : s.size ≤ 1000) (h : prs 16 65535 s = none) (w : World) (hL : Laid w) : Calls Tryz.prog 92 #[.string s, .int .i64 16, .int .i64 16] w fun r w' => (∃ x : Int × Int, (x.2 = 1 ∨ x.2 = 2) ∧ r = .returned (.tuple #[.int .u64 x.1, .iface 131 (.int .i64 x.2)])) ∧ Below w.heap.size w w' :=
 (c_ipu16 s hs w hL).mono fun e w' ⟨h1, h2⟩ => ⟨(by
  rcases h1 with ⟨y, hy, he⟩ | ⟨_, y, k, hk, he⟩
  ·rw [h] at hy
   cases hy
  ·exact ⟨(y, k), hk, he⟩), h2⟩
set_option maxRecDepth 100000 in
set_option maxHeartbeats 4000000 in
set_option linter.unusedSimpArgs false in
theorem c_pu16S (s : ByteArray) (hs : s.size ≤ 1000) (x : Int) (h : prs 16 65535 s = some x) (w : World) (hL : Laid w)  :
  Calls Tryz.prog 72 #[.string s, .int .i64 16, .int .i64 16] w fun r w' => r = .returned (.tuple #[.int .u64 x, .nilIface]) ∧ Below w.heap.size w w' := by
 go_enter Tryz.func72, Tryz.ntmps72
 have M := Mem.start hL
 refine sR ?_
 refine pV 6 (.int .u64 0) ?_
 refine pV 7 (.nilIface) ?_
 refine nT ?_
 refine sR ?_
 refine pV 11 (.string s) ?_
 refine pV 12 (.int .i64 16) ?_
 refine pV 13 (.int .i64 16) ?_
 refine pC M 14 92 #[.string s, .int .i64 16, .int .i64 16] (.tuple #[.int .u64 x, .nilIface]) (fun w M => c_ipu16S s hs x h w M.laid) fun u1 M => ?_
 refine pV 10 (.tuple #[.int .u64 x, .nilIface]) ?_
 refine pV 15 (.int .u64 x) ?_
 refine pV 16 (.nilIface) ?_
 refine pV 8 (.int .u64 x) ?_
 refine pV 9 (.nilIface) ?_
 refine nT ?_
 refine wp_seq ?_
 refine sR ?_
 refine pV 17 (.nilIface) ?_
 refine pV 18 (.bool false) ?_
 refine nT ?_
 refine wp_cond_false (by kernel_rfl) ?_
 refine wp_skip ?_
 refine au_then ?_
 refine sR ?_
 refine pV 25 (.int .u64 x) ?_
 refine pV 6 (.int .u64 x) ?_
 refine pV 7 (.nilIface) ?_
 refine nT ?_
 refine wp_ret ?_
 exact bodyPost_ret (v := .tuple #[.int .u64 x, .nilIface]) (results_tmp2 Tryz.results72 _ _ _ _ (by kernel_rfl) (by kernel_rfl)) (by kernel_rfl) ⟨rfl, below_grown M.old⟩
set_option maxRecDepth 100000 in
set_option maxHeartbeats 4000000 in
set_option linter.unusedSimpArgs false in
theorem c_pu16N (s : ByteArray) (hs : s.size ≤ 1000) (h : prs 16 65535 s = none) (w : World) (hL : Laid w)  :
  Calls Tryz.prog 72 #[.string s, .int .i64 16, .int .i64 16] w fun r w' => (∃ x : Int × TypeId × Value, True ∧ r = .returned (.tuple #[.int .u64 x.1, .iface x.2.1 x.2.2])) ∧ Below w.heap.size w w' := by
 go_enter Tryz.func72, Tryz.ntmps72
 have M := Mem.start hL
 refine sR ?_
 refine pV 6 (.int .u64 0) ?_
 refine pV 7 (.nilIface) ?_
 refine nT ?_
 refine sR ?_
 refine pV 11 (.string s) ?_
 refine pV 12 (.int .i64 16) ?_
 refine pV 13 (.int .i64 16) ?_
 refine pl_callx M (want_no rfl) (some 14) rfl 92 #[.string s, .int .i64 16, .int .i64 16] (fun x : Int × Int => .tuple #[.int .u64 x.1, .iface 131 (.int .i64 x.2)]) (fun x => x.2 = 1 ∨ x.2 = 2) (fun _ => by kernel_rfl) (fun w M => c_ipu16N s hs h w M.laid) ?_
 intro x u1 hk M
 refine pV 10 (.tuple #[.int .u64 x.1, .iface 131 (.int .i64 x.2)]) ?_
 refine pV 15 (.int .u64 x.1) ?_
 refine pV 16 (.iface 131 (.int .i64 x.2)) ?_
 refine pV 8 (.int .u64 x.1) ?_
 refine pV 9 (.iface 131 (.int .i64 x.2)) ?_
 refine nT ?_
 refine wp_seq ?_
 refine sR ?_
 refine pV 17 (.iface 131 (.int .i64 x.2)) ?_
 refine pV 18 (.bool true) ?_
 refine nT ?_
 refine wp_cond_true (by kernel_rfl) ?_
 refine sR ?_
 refine pV 19 (.int .u64 x.1) ?_
 refine pV 20 (.string s) ?_
 refine pV 21 (.int .i64 16) ?_
 refine pV 22 (.int .i64 16) ?_
 refine pV 23 (.iface 131 (.int .i64 x.2)) ?_
 refine pl_callx M (want_no rfl) (some 24) rfl 93 #[.string ⟨#[80, 97, 114, 115, 101, 85, 105, 110, 116]⟩, .string s, .int .i64 16, .int .i64 16, .iface 131 (.int .i64 x.2)] (fun n : Nat => .iface 133 (.pointer (some ⟨n, 0, none⟩))) (fun _ => True) (fun _ => by kernel_rfl) (fun w M => (c_toErr _ s _ _ x.2 hk hs w M.laid).mono fun e w2 ⟨⟨n, he⟩, hb⟩ => ⟨⟨n, trivial, he⟩, hb⟩) ?_
 intro n u2 _ M
 refine pV 6 (.int .u64 x.1) ?_
 refine pV 7 (.iface 133 (.pointer (some ⟨n, 0, none⟩))) ?_
 refine nT ?_
 refine wp_ret ?_
 refine au_then_ret ?_
 exact bodyPost_ret (v := .tuple #[.int .u64 x.1, .iface 133 (.pointer (some ⟨n, 0, none⟩))]) (results_tmp2 Tryz.results72 _ _ _ _ (by kernel_rfl) (by kernel_rfl)) (by kernel_rfl) ⟨⟨(x.1, 133, .pointer (some ⟨n, 0, none⟩)), trivial, rfl⟩, below_grown M.old⟩
theorem prs_lt16 {s : ByteArray} {x : Int} (h : prs 16 65535 s = some x) : 0 ≤ x ∧ x ≤ 65535 := by
 unfold prs at h
 split at h
 ·cases h
 ·have := pv_le (b := 16) (m := 65535) (s := s) (by decide) (by decide) s.size
  unfold pv at this
  rw [h] at this
  exact this
set_option maxRecDepth 100000 in
set_option maxHeartbeats 4000000 in
set_option linter.unusedSimpArgs false in
theorem c_number16 (s : ByteArray) (w : World) (hL : Laid w)  :
  Calls Tryz.prog 47 #[.string s, .int .i64 16, .int .i64 16] w fun r w' => r = .returned (.tuple #[.int .u16 ((nmb 16 65535 s).getD 0), .bool ((nmb 16 65535 s).isSome)]) ∧ Below w.heap.size w w' := by
 go_enter Tryz.func47, Tryz.ntmps47
 have M := Mem.start hL
 refine sR ?_
 refine pV 6 (.int .u16 0) ?_
 refine pV 7 (.bool false) ?_
 refine nT ?_
 refine wp_seq ?_
 refine sR ?_
 refine pV 10 (.string s) ?_
 refine pV 11 (.int .i64 (s.size : Int)) ?_
 by_cases c0 : 4 < (s.size : Int)
 ·skip
  refine pH 12 (.bool true) (dTz (4 < (s.size : Int)) (c0)) ?_
  refine nT ?_
  refine wp_cond_true (by kernel_rfl) ?_
  refine sR ?_
  refine pV 6 (.int .u16 0) ?_
  refine pV 7 (.bool false) ?_
  refine nT ?_
  refine wp_ret ?_
  refine au_then_ret ?_
  have e0 : ((nmb 16 65535 s).getD 0) = 0 := by rw [(show nmb 16 65535 s = none from if_pos c0)]; rfl
  have e1 : (nmb 16 65535 s).isSome = false := by rw [(show nmb 16 65535 s = none from if_pos c0)]; rfl
  exact bodyPost_ret (v := .tuple #[.int .u16 0, .bool false]) (results_tmp2 Tryz.results47 _ _ _ _ (by kernel_rfl) (by kernel_rfl)) (by kernel_rfl) ⟨by rw [e0, e1], below_grown M.old⟩
 ·skip
  refine pH 12 (.bool false) (dF (4 < (s.size : Int)) (c0)) ?_
  refine nT ?_
  refine wp_cond_false (by kernel_rfl) ?_
  refine wp_skip ?_
  refine au_then ?_
  refine sR ?_
  refine pV 14 (.string s) ?_
  refine pV 15 (.int .i64 16) ?_
  refine pV 16 (.int .i64 16) ?_
  rcases hP : prs 16 65535 s with _ | y
  ·skip
   refine pl_callx M (want_no rfl) (some 17) rfl 72 #[.string s, .int .i64 16, .int .i64 16] (fun x : Int × TypeId × Value => .tuple #[.int .u64 x.1, .iface x.2.1 x.2.2]) (fun _ => True) (fun _ => by kernel_rfl) (fun w M => c_pu16N s (by omega) hP w M.laid) ?_
   intro x u1 _ M
   refine pV 13 (.tuple #[.int .u64 x.1, .iface x.2.1 x.2.2]) ?_
   refine pV 18 (.int .u64 x.1) ?_
   refine pV 19 (.iface x.2.1 x.2.2) ?_
   refine pV 8 (.int .u64 x.1) ?_
   refine pV 9 (.iface x.2.1 x.2.2) ?_
   refine nT ?_
   refine wp_seq ?_
   refine sR ?_
   refine pV 20 (.iface x.2.1 x.2.2) ?_
   refine pV 21 (.bool true) ?_
   refine nT ?_
   refine wp_cond_true (by kernel_rfl) ?_
   refine sR ?_
   refine pV 6 (.int .u16 0) ?_
   refine pV 7 (.bool false) ?_
   refine nT ?_
   refine wp_ret ?_
   refine au_then_ret ?_
   have e0 : ((nmb 16 65535 s).getD 0) = 0 := by rw [(show nmb 16 65535 s = none from (by unfold nmb; rw [if_neg c0]; exact hP : nmb 16 65535 s = none))]; rfl
   have e1 : (nmb 16 65535 s).isSome = false := by rw [(show nmb 16 65535 s = none from (by unfold nmb; rw [if_neg c0]; exact hP : nmb 16 65535 s = none))]; rfl
   exact bodyPost_ret (v := .tuple #[.int .u16 0, .bool false]) (results_tmp2 Tryz.results47 _ _ _ _ (by kernel_rfl) (by kernel_rfl)) (by kernel_rfl) ⟨by rw [e0, e1], below_grown M.old⟩
  ·skip
   refine pC M 17 72 #[.string s, .int .i64 16, .int .i64 16] (.tuple #[.int .u64 y, .nilIface]) (fun w M => c_pu16S s (by omega) y hP w M.laid) fun u1 M => ?_
   refine pV 13 (.tuple #[.int .u64 y, .nilIface]) ?_
   refine pV 18 (.int .u64 y) ?_
   refine pV 19 (.nilIface) ?_
   refine pV 8 (.int .u64 y) ?_
   refine pV 9 (.nilIface) ?_
   refine nT ?_
   refine wp_seq ?_
   refine sR ?_
   refine pV 20 (.nilIface) ?_
   refine pV 21 (.bool false) ?_
   refine nT ?_
   refine wp_cond_false (by kernel_rfl) ?_
   refine wp_skip ?_
   refine au_then ?_
   refine sR ?_
   refine pV 22 (.int .u64 y) ?_
   refine pH 23 (.int .u16 y) (fun w => Eq.trans (b := .ok (.value (.int .u16 (cv .u16 y))) w) (by kernel_rfl) (by have := prs_lt16 hP; rw [cv_u16]; congr 3; omega)) ?_
   refine pV 6 (.int .u16 y) ?_
   refine pV 7 (.bool true) ?_
   refine nT ?_
   refine wp_ret ?_
   have e0 : ((nmb 16 65535 s).getD 0) = y := by rw [(show nmb 16 65535 s = some y from (by unfold nmb; rw [if_neg c0]; exact hP : nmb 16 65535 s = some y))]; rfl
   have e1 : (nmb 16 65535 s).isSome = true := by rw [(show nmb 16 65535 s = some y from (by unfold nmb; rw [if_neg c0]; exact hP : nmb 16 65535 s = some y))]; rfl
   exact bodyPost_ret (v := .tuple #[.int .u16 y, .bool true]) (results_tmp2 Tryz.results47 _ _ _ _ (by kernel_rfl) (by kernel_rfl)) (by kernel_rfl) ⟨by rw [e0, e1], below_grown M.old⟩
end Go.Proofs.YtndonmdgplojnaaGreatDoor

namespace Go.Proofs.YtndonmdgplojnaaGreatDoor
open Go.RowKit
def dd (c : Int) : Int := if 97 ≤ c ∧ c ≤ 102 then c - 97 + 10 else if 48 ≤ c ∧ c ≤ 57 then c - 48 else -1
def dz (b : Int) (s : ByteArray) : Nat → Option Int
 | 0 => some 0
 | j + 1 => (dz b s j).bind fun n => if 0 ≤ dd (bt s j) ∧ dd (bt s j) < b then some (n * b + dd (bt s j)) else none
def dzv (b : Int) (s : ByteArray) (j : Nat) : Int := (dz b s j).getD 0
def dgs (b : Int) (s : ByteArray) : Int := if (s.size : Int) < 1 then -1 else if (4 : Int) < (s.size : Int) then -1 else (dz b s s.size).getD (-1)
theorem dd_d (c : Int) (h0 : 48 ≤ c) (h1 : c ≤ 57) : dd c = c - 48 := by
 unfold dd
 rw [if_neg (by omega), if_pos ⟨h0, h1⟩]
theorem dd_l (c : Int) (h0 : 97 ≤ c) (h1 : c ≤ 102) : dd c = c - 97 + 10 := if_pos ⟨h0, h1⟩
theorem dd_n (c : Int) (h0 : ¬ (97 ≤ c ∧ c ≤ 102)) (h1 : ¬ (48 ≤ c ∧ c ≤ 57)) : dd c = -1 := by
 unfold dd
 rw [if_neg h0, if_neg h1]
theorem dz_ok {b : Int} {s : ByteArray} {j : Nat} {n d : Int} (h : dz b s j = some n) (hd : dd (bt s j) = d) (h1 : 0 ≤ d) (h2 : d < b) : dz b s (j + 1) = some (n * b + d) := by
 rw [dz, h, Option.bind_some, hd, if_pos ⟨h1, h2⟩]
theorem dz_bad {b : Int} {s : ByteArray} {j : Nat} {n d : Int} (h : dz b s j = some n) (hd : dd (bt s j) = d) (h1 : ¬ (0 ≤ d ∧ d < b)) : dz b s (j + 1) = none := by
 rw [dz, h, Option.bind_some, hd, if_neg h1]
theorem dz_none {b : Int} {s : ByteArray} {j : Nat} (h : dz b s j = none) (k : Nat) : dz b s (j + k) = none := by
 induction k with
 | zero => exact h
 | succ k ih =>
  show dz b s (j + k + 1) = none
  rw [dz, ih]
  rfl
theorem dgs_none {b : Int} {s : ByteArray} {j : Nat} (hj : j < s.size) (h : dz b s (j + 1) = none) : dgs b s = -1 := by
 unfold dgs
 split
 ·rfl
 split
 ·rfl
 ·obtain ⟨k, hk⟩ : ∃ k, s.size = j + 1 + k := ⟨s.size - (j + 1), by omega⟩
  rw [hk, dz_none h k]
  rfl
theorem dgs_some {b n : Int} {s : ByteArray} (h1 : ¬ (s.size : Int) < 1) (h2 : ¬ (4 : Int) < (s.size : Int)) (h : dz b s s.size = some n) : dgs b s = n := by
 unfold dgs
 rw [if_neg h1, if_neg h2, h]
 rfl
theorem dzv_lt (b : Int) (hb : 0 ≤ b ∧ b ≤ 16) (s : ByteArray) (j : Nat) : 0 ≤ dzv b s j ∧ dzv b s j < 16 ^ j := by
 unfold dzv
 induction j with
 | zero => exact ⟨Int.le_refl 0, show (0 : Int) < 1 by decide⟩
 | succ j ih =>
  have hp : (0 : Int) < 16 ^ (j + 1) := Int.pow_pos (by decide)
  rw [dz]
  cases h : dz b s j with
  | none => exact ⟨Int.le_refl 0, hp⟩
  | some n =>
   rw [h] at ih
   simp only [Option.bind_some, Option.getD_some] at ih ⊢
   split
   ·rename_i c
    simp only [Option.getD_some]
    have hn : 0 ≤ n * b := Int.mul_nonneg ih.1 hb.1
    have hm : n * b ≤ n * 16 := Int.mul_le_mul_of_nonneg_left hb.2 ih.1
    rw [Int.pow_succ] at hp ⊢
    omega
   ·exact ⟨Int.le_refl 0, hp⟩
theorem dzv_4 (b : Int) (hb : 0 ≤ b ∧ b ≤ 16) (s : ByteArray) (j : Nat) (hj : j < 4) : 0 ≤ dzv b s j ∧ dzv b s j < 4096 := by
 have h := dzv_lt b hb s j
 rcases j with _ | _ | _ | _ | j
 ·have : (16 : Int) ^ 0 = 1 := rfl
  omega
 ·have : (16 : Int) ^ (0 + 1) = 16 := rfl
  omega
 ·have : (16 : Int) ^ (0 + 1 + 1) = 256 := rfl
  omega
 ·have : (16 : Int) ^ (0 + 1 + 1 + 1) = 4096 := rfl
  omega
 ·omega
set_option maxRecDepth 100000 in
set_option maxHeartbeats 4000000 in
set_option linter.unusedSimpArgs false in
theorem d_digits10 (s : ByteArray) (w : World) (hL : Laid w)  :
  Calls Tryz.prog 49 #[.string s, .int .i64 10] w fun r w' => r = .returned (.int .i64 (dgs 10 s)) ∧ Below w.heap.size w w' := by
 go_enter Tryz.func49, Tryz.ntmps49
 have M := Mem.start hL
 refine sR ?_
 refine pV 4 (.int .i64 0) ?_
 refine nT ?_
 refine wp_seq ?_
 refine sR ?_
 refine pV 8 (.string s) ?_
 refine pV 9 (.int .i64 (s.size : Int)) ?_
 by_cases c0 : (s.size : Int) < 1
 ·skip
  refine pH 10 (.bool true) (dTz ((s.size : Int) < 1) (c0)) ?_
  refine pV 11 (.bool true) ?_
  refine pl_skip (want_off 3 false rfl 11 rfl (by kernel_rfl)) (some 12) rfl ?_
  refine pl_skip (want_off 3 false rfl 11 rfl (by kernel_rfl)) (some 13) rfl ?_
  refine pl_skip (want_off 3 false rfl 11 rfl (by kernel_rfl)) (some 14) rfl ?_
  refine pV 15 (.bool true) ?_
  refine nT ?_
  refine wp_cond_true (by kernel_rfl) ?_
  refine sR ?_
  refine pV 4 (.int .i64 (-1)) ?_
  refine nT ?_
  refine wp_ret ?_
  refine au_then_ret ?_
  have e0 : (dgs 10 s) = -1 := if_pos c0
  exact bodyPost_ret (v := .int .i64 (-1)) (results_tmp1 Tryz.results49 _ _ _ (by kernel_rfl)) (by kernel_rfl) ⟨by rw [e0], below_grown M.old⟩
 ·skip
  refine pH 10 (.bool false) (dF ((s.size : Int) < 1) (c0)) ?_
  refine pV 11 (.bool false) ?_
  refine pl_val (want_on 3 false rfl 11 rfl (by kernel_rfl)) (some 12) rfl (.string s) (fun _ => by kernel_rfl) ?_
  refine pl_val (want_on 3 false rfl 11 rfl (by kernel_rfl)) (some 13) rfl (.int .i64 (s.size : Int)) (fun _ => by kernel_rfl) ?_
  by_cases c1 : 4 < (s.size : Int)
  ·skip
   refine pl_val (want_on 3 false rfl 11 rfl (by kernel_rfl)) (some 14) rfl (.bool true) (fun w => Eq.trans (b := .ok (.value (.bool (decide (4 < (s.size : Int))))) w) (by kernel_rfl) (by rw [decide_eq_true (c1)])) ?_
   refine pV 15 (.bool true) ?_
   refine nT ?_
   refine wp_cond_true (by kernel_rfl) ?_
   refine sR ?_
   refine pV 4 (.int .i64 (-1)) ?_
   refine nT ?_
   refine wp_ret ?_
   refine au_then_ret ?_
   have e0 : (dgs 10 s) = -1 := by unfold dgs; rw [if_neg c0, if_pos c1]
   exact bodyPost_ret (v := .int .i64 (-1)) (results_tmp1 Tryz.results49 _ _ _ (by kernel_rfl)) (by kernel_rfl) ⟨by rw [e0], below_grown M.old⟩
  ·skip
   refine pl_val (want_on 3 false rfl 11 rfl (by kernel_rfl)) (some 14) rfl (.bool false) (fun w => Eq.trans (b := .ok (.value (.bool (decide (4 < (s.size : Int))))) w) (by kernel_rfl) (by rw [decide_eq_false (c1)])) ?_
   refine pV 15 (.bool false) ?_
   refine nT ?_
   refine wp_cond_false (by kernel_rfl) ?_
   refine wp_skip ?_
   refine au_then ?_
   refine sR ?_
   refine pV 5 (.int .i64 0) ?_
   refine nT ?_
   refine wp_seq ?_
   refine sR ?_
   refine pV 6 (.int .i64 0) ?_
   refine nT ?_
   refine wp_block ?_
   refine au_loop (fun j a w' => ∃ v1 : Nat → Value, a = ⟨#[.string s, .int .i64 10, undef, undef, v1 4, .int .i64 (dzv 10 s j), .int .i64 (j : Int), v1 7, .string s, .int .i64 (s.size : Int), .bool false, .bool false, .string s, .int .i64 (s.size : Int), .bool false, .bool false, v1 16, v1 17, v1 18, v1 19, v1 20, v1 21, v1 22, v1 23, v1 24, v1 25, v1 26, v1 27, v1 28, v1 29, v1 30, v1 31, v1 32, v1 33, v1 34, v1 35, v1 36, v1 37, v1 38, v1 39, v1 40, v1 41, v1 42, v1 43, v1 44, v1 45, v1 46, v1 47, v1 48, v1 49, v1 50, v1 51, v1 52, v1 53, v1 54, v1 55, v1 56, v1 57, v1 58, v1 59, v1 60, v1 61, v1 62, v1 63, v1 64, undef], []⟩ ∧ Mem ⟨w, []⟩ [] w' ∧ dz 10 s j = some (dzv 10 s j)) s.size ⟨fun k_ => ([.int .i64 0, undef, undef, undef, undef, undef, undef, undef, undef, undef, undef, undef, undef, undef, undef, undef, undef, undef, undef, undef, undef, undef, undef, undef, undef, undef, undef, undef, undef, undef, undef, undef, undef, undef, undef, undef, undef, undef, undef, undef, undef, undef, undef, undef, undef, undef, undef, undef, undef, undef, undef, undef, undef, undef, undef, undef, undef, undef, undef, undef, undef] : List Value).getD (k_ - 4) undef, by kernel_rfl, M, rfl⟩ ?_ ?_
   ·intro j a u0 hj hI
    obtain ⟨v1, rfl, M, hx⟩ := hI
    have hb := bt_nn s j
    have hp := dzv_4 10 (by decide) s j (by omega)
    refine wp_seq ?_
    refine sR ?_
    refine pV 16 (.int .i64 (j : Int)) ?_
    refine pV 17 (.string s) ?_
    refine pV 18 (.int .i64 (s.size : Int)) ?_
    refine pH 19 (.bool true) (dTz ((j : Int) < (s.size : Int)) (by omega)) ?_
    refine nT ?_
    refine wp_cond_true (by kernel_rfl) ?_
    refine wp_skip ?_
    refine au_then ?_
    refine wp_seq ?_
    refine wp_block ?_
    refine sR ?_
    refine pV 7 (.int .i64 (-1)) ?_
    refine nT ?_
    refine wp_seq ?_
    refine sR ?_
    refine pV 22 (.string s) ?_
    refine pV 23 (.int .i64 (j : Int)) ?_
    refine pH 24 (.int .u8 (bt s j)) (run_ixS 9 Tryz.underlying9 _ _ rfl s (by kernel_rfl) .i64 j (by kernel_rfl) (by omega)) ?_
    by_cases c2 : (bt s j) < 48
    ·skip
     refine pH 25 (.bool false) (dF (48 ≤ (bt s j)) (by omega)) ?_
     refine pV 26 (.bool false) ?_
     refine pl_skip (want_off 4 true rfl 26 rfl (by kernel_rfl)) (some 27) rfl ?_
     refine pl_skip (want_off 4 true rfl 26 rfl (by kernel_rfl)) (some 28) rfl ?_
     refine pl_skip (want_off 4 true rfl 26 rfl (by kernel_rfl)) (some 29) rfl ?_
     refine pl_skip (want_off 4 true rfl 26 rfl (by kernel_rfl)) (some 30) rfl ?_
     refine pV 31 (.bool false) ?_
     refine nT ?_
     refine wp_cond_false (by kernel_rfl) ?_
     refine wp_skip ?_
     refine au_then ?_
     refine wp_seq ?_
     refine sR ?_
     refine pV 37 (.string s) ?_
     refine pV 38 (.int .i64 (j : Int)) ?_
     refine pH 39 (.int .u8 (bt s j)) (run_ixS 9 Tryz.underlying9 _ _ rfl s (by kernel_rfl) .i64 j (by kernel_rfl) (by omega)) ?_
     by_cases c3 : (bt s j) < 97
     ·skip
      refine pH 40 (.bool false) (dF (97 ≤ (bt s j)) (by omega)) ?_
      refine pV 41 (.bool false) ?_
      refine pl_skip (want_off 4 true rfl 41 rfl (by kernel_rfl)) (some 42) rfl ?_
      refine pl_skip (want_off 4 true rfl 41 rfl (by kernel_rfl)) (some 43) rfl ?_
      refine pl_skip (want_off 4 true rfl 41 rfl (by kernel_rfl)) (some 44) rfl ?_
      refine pl_skip (want_off 4 true rfl 41 rfl (by kernel_rfl)) (some 45) rfl ?_
      refine pV 46 (.bool false) ?_
      refine nT ?_
      refine wp_cond_false (by kernel_rfl) ?_
      refine wp_skip ?_
      refine au_then ?_
      refine wp_seq ?_
      refine sR ?_
      refine pV 53 (.int .i64 (-1)) ?_
      refine pV 54 (.bool true) ?_
      refine pV 55 (.bool true) ?_
      refine pl_skip (want_off 2 false rfl 55 rfl (by kernel_rfl)) (some 56) rfl ?_
      refine pl_skip (want_off 2 false rfl 55 rfl (by kernel_rfl)) (some 57) rfl ?_
      refine pl_skip (want_off 2 false rfl 55 rfl (by kernel_rfl)) (some 58) rfl ?_
      refine pV 59 (.bool true) ?_
      refine nT ?_
      refine wp_cond_true (by kernel_rfl) ?_
      refine sR ?_
      refine pV 4 (.int .i64 (-1)) ?_
      refine nT ?_
      refine wp_ret ?_
      refine au_then_ret ?_
      refine au_block_ret ?_
      refine au_then_ret ?_
      refine au_then_ret ?_
      refine au_block_ret ?_
      refine au_then_ret ?_
      have e0 : (dgs 10 s) = -1 := dgs_none hj (dz_bad hx (dd_n (bt s j) (by omega) (by omega)) (by omega))
      exact bodyPost_ret (v := .int .i64 (-1)) (results_tmp1 Tryz.results49 _ _ _ (by kernel_rfl)) (by kernel_rfl) ⟨by rw [e0], below_grown M.old⟩
     ·skip
      refine pH 40 (.bool true) (dTz (97 ≤ (bt s j)) (by omega)) ?_
      refine pV 41 (.bool true) ?_
      refine pl_val (want_on 4 true rfl 41 rfl (by kernel_rfl)) (some 42) rfl (.string s) (fun _ => by kernel_rfl) ?_
      refine pl_val (want_on 4 true rfl 41 rfl (by kernel_rfl)) (some 43) rfl (.int .i64 (j : Int)) (fun _ => by kernel_rfl) ?_
      refine pl_val (want_on 4 true rfl 41 rfl (by kernel_rfl)) (some 44) rfl (.int .u8 (bt s j)) (run_ixS 9 Tryz.underlying9 _ _ rfl s (by kernel_rfl) .i64 j (by kernel_rfl) (by omega)) ?_
      by_cases c4 : 102 < (bt s j)
      ·skip
       refine pl_val (want_on 4 true rfl 41 rfl (by kernel_rfl)) (some 45) rfl (.bool false) (fun w => Eq.trans (b := .ok (.value (.bool (decide ((bt s j) ≤ 102)))) w) (by kernel_rfl) (by rw [decide_eq_false (by omega)])) ?_
       refine pV 46 (.bool false) ?_
       refine nT ?_
       refine wp_cond_false (by kernel_rfl) ?_
       refine wp_skip ?_
       refine au_then ?_
       refine wp_seq ?_
       refine sR ?_
       refine pV 53 (.int .i64 (-1)) ?_
       refine pV 54 (.bool true) ?_
       refine pV 55 (.bool true) ?_
       refine pl_skip (want_off 2 false rfl 55 rfl (by kernel_rfl)) (some 56) rfl ?_
       refine pl_skip (want_off 2 false rfl 55 rfl (by kernel_rfl)) (some 57) rfl ?_
       refine pl_skip (want_off 2 false rfl 55 rfl (by kernel_rfl)) (some 58) rfl ?_
       refine pV 59 (.bool true) ?_
       refine nT ?_
       refine wp_cond_true (by kernel_rfl) ?_
       refine sR ?_
       refine pV 4 (.int .i64 (-1)) ?_
       refine nT ?_
       refine wp_ret ?_
       refine au_then_ret ?_
       refine au_block_ret ?_
       refine au_then_ret ?_
       refine au_then_ret ?_
       refine au_block_ret ?_
       refine au_then_ret ?_
       have e0 : (dgs 10 s) = -1 := dgs_none hj (dz_bad hx (dd_n (bt s j) (by omega) (by omega)) (by omega))
       exact bodyPost_ret (v := .int .i64 (-1)) (results_tmp1 Tryz.results49 _ _ _ (by kernel_rfl)) (by kernel_rfl) ⟨by rw [e0], below_grown M.old⟩
      ·skip
       refine pl_val (want_on 4 true rfl 41 rfl (by kernel_rfl)) (some 45) rfl (.bool true) (fun w => Eq.trans (b := .ok (.value (.bool (decide ((bt s j) ≤ 102)))) w) (by kernel_rfl) (by rw [decide_eq_true (by omega)])) ?_
       refine pV 46 (.bool true) ?_
       refine nT ?_
       refine wp_cond_true (by kernel_rfl) ?_
       refine rg_lit ?_
       refine pV 47 (.string s) ?_
       refine pV 48 (.int .i64 (j : Int)) ?_
       refine pH 49 (.int .u8 (bt s j)) (run_ixS 9 Tryz.underlying9 _ _ rfl s (by kernel_rfl) .i64 j (by kernel_rfl) (by omega)) ?_
       refine pH 50 (.int .u8 (bt s j - 97)) (fun w => Eq.trans (b := .ok (.value (.int .u8 (cv .u8 (bt s j - 97)))) w) (by kernel_rfl) (by rw [cv_u8]; congr 3; omega)) ?_
       refine pH 51 (.int .i64 (bt s j - 97)) (fun w => Eq.trans (b := .ok (.value (.int .i64 (cv .i64 (bt s j - 97)))) w) (by kernel_rfl) (by rw [cv_i64 (by omega) (by omega)])) ?_
       refine pH 52 (.int .i64 (bt s j - 97 + 10)) (fun w => Eq.trans (b := .ok (.value (.int .i64 (cv .i64 (bt s j - 97 + 10)))) w) (by kernel_rfl) (by rw [cv_i64 (by omega) (by omega)])) ?_
       refine pV 7 (.int .i64 (bt s j - 97 + 10)) ?_
       refine nT ?_
       refine wp_seq ?_
       refine sR ?_
       refine pV 53 (.int .i64 (bt s j - 97 + 10)) ?_
       by_cases c5 : (bt s j - 97 + 10) < 0
       ·omega
       ·skip
        refine pH 54 (.bool false) (dF ((bt s j - 97 + 10) < 0) (c5)) ?_
        refine pV 55 (.bool false) ?_
        refine pl_val (want_on 2 false rfl 55 rfl (by kernel_rfl)) (some 56) rfl (.int .i64 (bt s j - 97 + 10)) (fun _ => by kernel_rfl) ?_
        refine pl_val (want_on 2 false rfl 55 rfl (by kernel_rfl)) (some 57) rfl (.int .i64 10) (fun _ => by kernel_rfl) ?_
        by_cases c6 : (bt s j - 97 + 10) < 10
        ·skip
         refine pl_val (want_on 2 false rfl 55 rfl (by kernel_rfl)) (some 58) rfl (.bool false) (fun w => Eq.trans (b := .ok (.value (.bool (decide (10 ≤ (bt s j - 97 + 10))))) w) (by kernel_rfl) (by rw [decide_eq_false (by omega)])) ?_
         refine pV 59 (.bool false) ?_
         refine nT ?_
         refine wp_cond_false (by kernel_rfl) ?_
         refine wp_skip ?_
         refine au_then ?_
         refine rg_lit ?_
         refine pV 60 (.int .i64 (dzv 10 s j)) ?_
         refine pV 61 (.int .i64 10) ?_
         refine pH 62 (.int .i64 (dzv 10 s j * 10)) (fun w => Eq.trans (b := .ok (.value (.int .i64 (cv .i64 (dzv 10 s j * 10)))) w) (by kernel_rfl) (by rw [cv_i64 (by omega) (by omega)])) ?_
         refine pV 63 (.int .i64 (bt s j - 97 + 10)) ?_
         refine pH 64 (.int .i64 (dzv 10 s j * 10 + (bt s j - 97 + 10))) (fun w => Eq.trans (b := .ok (.value (.int .i64 (cv .i64 (dzv 10 s j * 10 + (bt s j - 97 + 10))))) w) (by kernel_rfl) (by rw [cv_i64 (by omega) (by omega)])) ?_
         have hpy := dz_ok hx (dd_l (bt s j) (by omega) (by omega)) (by omega) (by omega)
         have hpv : dzv 10 s (j + 1) = dzv 10 s j * 10 + (bt s j - 97 + 10) := by unfold dzv; rw [hpy]; rfl
         have hpz : dz 10 s (j + 1) = some (dzv 10 s (j + 1)) := by rw [hpv]; exact hpy
         refine pH 5 (.int .i64 (dzv 10 s (j + 1))) (fun w => Eq.trans (b := .ok (.value (.int .i64 (dzv 10 s j * 10 + (bt s j - 97 + 10)))) w) (by kernel_rfl) (by rw [hpv])) ?_
         refine pl_nil ?_
         refine au_block ?_
         refine au_then ?_
         refine rg_lit ?_
         refine pV 20 (.int .i64 (j : Int)) ?_
         refine pH 21 (.int .i64 ((j + 1 : Nat) : Int)) (iV ((j : Int) + 1) (by omega) (by omega) (by omega)) ?_
         refine pV 6 (.int .i64 ((j + 1 : Nat) : Int)) ?_
         refine nT ?_
         exact ⟨fun k_ => ([v1 4, undef, undef, .int .i64 (bt s j - 97 + 10), undef, undef, undef, undef, undef, undef, undef, undef, .int .i64 (j : Int), .string s, .int .i64 (s.size : Int), .bool true, .int .i64 (j : Int), .int .i64 ((j + 1 : Nat) : Int), .string s, .int .i64 (j : Int), .int .u8 (bt s j), .bool false, .bool false, undef, undef, undef, undef, .bool false, v1 32, v1 33, v1 34, v1 35, v1 36, .string s, .int .i64 (j : Int), .int .u8 (bt s j), .bool true, .bool true, .string s, .int .i64 (j : Int), .int .u8 (bt s j), .bool true, .bool true, .string s, .int .i64 (j : Int), .int .u8 (bt s j), .int .u8 (bt s j - 97), .int .i64 (bt s j - 97), .int .i64 (bt s j - 97 + 10), .int .i64 (bt s j - 97 + 10), .bool false, .bool false, .int .i64 (bt s j - 97 + 10), .int .i64 10, .bool false, .bool false, .int .i64 (dzv 10 s j), .int .i64 10, .int .i64 (dzv 10 s j * 10), .int .i64 (bt s j - 97 + 10), .int .i64 (dzv 10 s j * 10 + (bt s j - 97 + 10))] : List Value).getD (k_ - 4) undef, by kernel_rfl, M, hpz⟩
        ·skip
         refine pl_val (want_on 2 false rfl 55 rfl (by kernel_rfl)) (some 58) rfl (.bool true) (fun w => Eq.trans (b := .ok (.value (.bool (decide (10 ≤ (bt s j - 97 + 10))))) w) (by kernel_rfl) (by rw [decide_eq_true (by omega)])) ?_
         refine pV 59 (.bool true) ?_
         refine nT ?_
         refine wp_cond_true (by kernel_rfl) ?_
         refine sR ?_
         refine pV 4 (.int .i64 (-1)) ?_
         refine nT ?_
         refine wp_ret ?_
         refine au_then_ret ?_
         refine au_block_ret ?_
         refine au_then_ret ?_
         refine au_then_ret ?_
         refine au_block_ret ?_
         refine au_then_ret ?_
         have e0 : (dgs 10 s) = -1 := dgs_none hj (dz_bad hx (dd_l (bt s j) (by omega) (by omega)) (by omega))
         exact bodyPost_ret (v := .int .i64 (-1)) (results_tmp1 Tryz.results49 _ _ _ (by kernel_rfl)) (by kernel_rfl) ⟨by rw [e0], below_grown M.old⟩
    ·skip
     refine pH 25 (.bool true) (dTz (48 ≤ (bt s j)) (by omega)) ?_
     refine pV 26 (.bool true) ?_
     refine pl_val (want_on 4 true rfl 26 rfl (by kernel_rfl)) (some 27) rfl (.string s) (fun _ => by kernel_rfl) ?_
     refine pl_val (want_on 4 true rfl 26 rfl (by kernel_rfl)) (some 28) rfl (.int .i64 (j : Int)) (fun _ => by kernel_rfl) ?_
     refine pl_val (want_on 4 true rfl 26 rfl (by kernel_rfl)) (some 29) rfl (.int .u8 (bt s j)) (run_ixS 9 Tryz.underlying9 _ _ rfl s (by kernel_rfl) .i64 j (by kernel_rfl) (by omega)) ?_
     by_cases c3 : 57 < (bt s j)
     ·skip
      refine pl_val (want_on 4 true rfl 26 rfl (by kernel_rfl)) (some 30) rfl (.bool false) (fun w => Eq.trans (b := .ok (.value (.bool (decide ((bt s j) ≤ 57)))) w) (by kernel_rfl) (by rw [decide_eq_false (by omega)])) ?_
      refine pV 31 (.bool false) ?_
      refine nT ?_
      refine wp_cond_false (by kernel_rfl) ?_
      refine wp_skip ?_
      refine au_then ?_
      refine wp_seq ?_
      refine sR ?_
      refine pV 37 (.string s) ?_
      refine pV 38 (.int .i64 (j : Int)) ?_
      refine pH 39 (.int .u8 (bt s j)) (run_ixS 9 Tryz.underlying9 _ _ rfl s (by kernel_rfl) .i64 j (by kernel_rfl) (by omega)) ?_
      by_cases c4 : (bt s j) < 97
      ·skip
       refine pH 40 (.bool false) (dF (97 ≤ (bt s j)) (by omega)) ?_
       refine pV 41 (.bool false) ?_
       refine pl_skip (want_off 4 true rfl 41 rfl (by kernel_rfl)) (some 42) rfl ?_
       refine pl_skip (want_off 4 true rfl 41 rfl (by kernel_rfl)) (some 43) rfl ?_
       refine pl_skip (want_off 4 true rfl 41 rfl (by kernel_rfl)) (some 44) rfl ?_
       refine pl_skip (want_off 4 true rfl 41 rfl (by kernel_rfl)) (some 45) rfl ?_
       refine pV 46 (.bool false) ?_
       refine nT ?_
       refine wp_cond_false (by kernel_rfl) ?_
       refine wp_skip ?_
       refine au_then ?_
       refine wp_seq ?_
       refine sR ?_
       refine pV 53 (.int .i64 (-1)) ?_
       refine pV 54 (.bool true) ?_
       refine pV 55 (.bool true) ?_
       refine pl_skip (want_off 2 false rfl 55 rfl (by kernel_rfl)) (some 56) rfl ?_
       refine pl_skip (want_off 2 false rfl 55 rfl (by kernel_rfl)) (some 57) rfl ?_
       refine pl_skip (want_off 2 false rfl 55 rfl (by kernel_rfl)) (some 58) rfl ?_
       refine pV 59 (.bool true) ?_
       refine nT ?_
       refine wp_cond_true (by kernel_rfl) ?_
       refine sR ?_
       refine pV 4 (.int .i64 (-1)) ?_
       refine nT ?_
       refine wp_ret ?_
       refine au_then_ret ?_
       refine au_block_ret ?_
       refine au_then_ret ?_
       refine au_then_ret ?_
       refine au_block_ret ?_
       refine au_then_ret ?_
       have e0 : (dgs 10 s) = -1 := dgs_none hj (dz_bad hx (dd_n (bt s j) (by omega) (by omega)) (by omega))
       exact bodyPost_ret (v := .int .i64 (-1)) (results_tmp1 Tryz.results49 _ _ _ (by kernel_rfl)) (by kernel_rfl) ⟨by rw [e0], below_grown M.old⟩
      ·skip
       refine pH 40 (.bool true) (dTz (97 ≤ (bt s j)) (by omega)) ?_
       refine pV 41 (.bool true) ?_
       refine pl_val (want_on 4 true rfl 41 rfl (by kernel_rfl)) (some 42) rfl (.string s) (fun _ => by kernel_rfl) ?_
       refine pl_val (want_on 4 true rfl 41 rfl (by kernel_rfl)) (some 43) rfl (.int .i64 (j : Int)) (fun _ => by kernel_rfl) ?_
       refine pl_val (want_on 4 true rfl 41 rfl (by kernel_rfl)) (some 44) rfl (.int .u8 (bt s j)) (run_ixS 9 Tryz.underlying9 _ _ rfl s (by kernel_rfl) .i64 j (by kernel_rfl) (by omega)) ?_
       by_cases c5 : 102 < (bt s j)
       ·skip
        refine pl_val (want_on 4 true rfl 41 rfl (by kernel_rfl)) (some 45) rfl (.bool false) (fun w => Eq.trans (b := .ok (.value (.bool (decide ((bt s j) ≤ 102)))) w) (by kernel_rfl) (by rw [decide_eq_false (by omega)])) ?_
        refine pV 46 (.bool false) ?_
        refine nT ?_
        refine wp_cond_false (by kernel_rfl) ?_
        refine wp_skip ?_
        refine au_then ?_
        refine wp_seq ?_
        refine sR ?_
        refine pV 53 (.int .i64 (-1)) ?_
        refine pV 54 (.bool true) ?_
        refine pV 55 (.bool true) ?_
        refine pl_skip (want_off 2 false rfl 55 rfl (by kernel_rfl)) (some 56) rfl ?_
        refine pl_skip (want_off 2 false rfl 55 rfl (by kernel_rfl)) (some 57) rfl ?_
        refine pl_skip (want_off 2 false rfl 55 rfl (by kernel_rfl)) (some 58) rfl ?_
        refine pV 59 (.bool true) ?_
        refine nT ?_
        refine wp_cond_true (by kernel_rfl) ?_
        refine sR ?_
        refine pV 4 (.int .i64 (-1)) ?_
        refine nT ?_
        refine wp_ret ?_
        refine au_then_ret ?_
        refine au_block_ret ?_
        refine au_then_ret ?_
        refine au_then_ret ?_
        refine au_block_ret ?_
        refine au_then_ret ?_
        have e0 : (dgs 10 s) = -1 := dgs_none hj (dz_bad hx (dd_n (bt s j) (by omega) (by omega)) (by omega))
        exact bodyPost_ret (v := .int .i64 (-1)) (results_tmp1 Tryz.results49 _ _ _ (by kernel_rfl)) (by kernel_rfl) ⟨by rw [e0], below_grown M.old⟩
       ·skip
        refine pl_val (want_on 4 true rfl 41 rfl (by kernel_rfl)) (some 45) rfl (.bool true) (fun w => Eq.trans (b := .ok (.value (.bool (decide ((bt s j) ≤ 102)))) w) (by kernel_rfl) (by rw [decide_eq_true (by omega)])) ?_
        refine pV 46 (.bool true) ?_
        refine nT ?_
        refine wp_cond_true (by kernel_rfl) ?_
        refine rg_lit ?_
        refine pV 47 (.string s) ?_
        refine pV 48 (.int .i64 (j : Int)) ?_
        refine pH 49 (.int .u8 (bt s j)) (run_ixS 9 Tryz.underlying9 _ _ rfl s (by kernel_rfl) .i64 j (by kernel_rfl) (by omega)) ?_
        refine pH 50 (.int .u8 (bt s j - 97)) (fun w => Eq.trans (b := .ok (.value (.int .u8 (cv .u8 (bt s j - 97)))) w) (by kernel_rfl) (by rw [cv_u8]; congr 3; omega)) ?_
        refine pH 51 (.int .i64 (bt s j - 97)) (fun w => Eq.trans (b := .ok (.value (.int .i64 (cv .i64 (bt s j - 97)))) w) (by kernel_rfl) (by rw [cv_i64 (by omega) (by omega)])) ?_
        refine pH 52 (.int .i64 (bt s j - 97 + 10)) (fun w => Eq.trans (b := .ok (.value (.int .i64 (cv .i64 (bt s j - 97 + 10)))) w) (by kernel_rfl) (by rw [cv_i64 (by omega) (by omega)])) ?_
        refine pV 7 (.int .i64 (bt s j - 97 + 10)) ?_
        refine nT ?_
        refine wp_seq ?_
        refine sR ?_
        refine pV 53 (.int .i64 (bt s j - 97 + 10)) ?_
        by_cases c6 : (bt s j - 97 + 10) < 0
        ·omega
        ·skip
         refine pH 54 (.bool false) (dF ((bt s j - 97 + 10) < 0) (c6)) ?_
         refine pV 55 (.bool false) ?_
         refine pl_val (want_on 2 false rfl 55 rfl (by kernel_rfl)) (some 56) rfl (.int .i64 (bt s j - 97 + 10)) (fun _ => by kernel_rfl) ?_
         refine pl_val (want_on 2 false rfl 55 rfl (by kernel_rfl)) (some 57) rfl (.int .i64 10) (fun _ => by kernel_rfl) ?_
         by_cases c7 : (bt s j - 97 + 10) < 10
         ·skip
          refine pl_val (want_on 2 false rfl 55 rfl (by kernel_rfl)) (some 58) rfl (.bool false) (fun w => Eq.trans (b := .ok (.value (.bool (decide (10 ≤ (bt s j - 97 + 10))))) w) (by kernel_rfl) (by rw [decide_eq_false (by omega)])) ?_
          refine pV 59 (.bool false) ?_
          refine nT ?_
          refine wp_cond_false (by kernel_rfl) ?_
          refine wp_skip ?_
          refine au_then ?_
          refine rg_lit ?_
          refine pV 60 (.int .i64 (dzv 10 s j)) ?_
          refine pV 61 (.int .i64 10) ?_
          refine pH 62 (.int .i64 (dzv 10 s j * 10)) (fun w => Eq.trans (b := .ok (.value (.int .i64 (cv .i64 (dzv 10 s j * 10)))) w) (by kernel_rfl) (by rw [cv_i64 (by omega) (by omega)])) ?_
          refine pV 63 (.int .i64 (bt s j - 97 + 10)) ?_
          refine pH 64 (.int .i64 (dzv 10 s j * 10 + (bt s j - 97 + 10))) (fun w => Eq.trans (b := .ok (.value (.int .i64 (cv .i64 (dzv 10 s j * 10 + (bt s j - 97 + 10))))) w) (by kernel_rfl) (by rw [cv_i64 (by omega) (by omega)])) ?_
          have hpy := dz_ok hx (dd_l (bt s j) (by omega) (by omega)) (by omega) (by omega)
          have hpv : dzv 10 s (j + 1) = dzv 10 s j * 10 + (bt s j - 97 + 10) := by unfold dzv; rw [hpy]; rfl
          have hpz : dz 10 s (j + 1) = some (dzv 10 s (j + 1)) := by rw [hpv]; exact hpy
          refine pH 5 (.int .i64 (dzv 10 s (j + 1))) (fun w => Eq.trans (b := .ok (.value (.int .i64 (dzv 10 s j * 10 + (bt s j - 97 + 10)))) w) (by kernel_rfl) (by rw [hpv])) ?_
          refine pl_nil ?_
          refine au_block ?_
          refine au_then ?_
          refine rg_lit ?_
          refine pV 20 (.int .i64 (j : Int)) ?_
          refine pH 21 (.int .i64 ((j + 1 : Nat) : Int)) (iV ((j : Int) + 1) (by omega) (by omega) (by omega)) ?_
          refine pV 6 (.int .i64 ((j + 1 : Nat) : Int)) ?_
          refine nT ?_
          exact ⟨fun k_ => ([v1 4, undef, undef, .int .i64 (bt s j - 97 + 10), undef, undef, undef, undef, undef, undef, undef, undef, .int .i64 (j : Int), .string s, .int .i64 (s.size : Int), .bool true, .int .i64 (j : Int), .int .i64 ((j + 1 : Nat) : Int), .string s, .int .i64 (j : Int), .int .u8 (bt s j), .bool true, .bool true, .string s, .int .i64 (j : Int), .int .u8 (bt s j), .bool false, .bool false, v1 32, v1 33, v1 34, v1 35, v1 36, .string s, .int .i64 (j : Int), .int .u8 (bt s j), .bool true, .bool true, .string s, .int .i64 (j : Int), .int .u8 (bt s j), .bool true, .bool true, .string s, .int .i64 (j : Int), .int .u8 (bt s j), .int .u8 (bt s j - 97), .int .i64 (bt s j - 97), .int .i64 (bt s j - 97 + 10), .int .i64 (bt s j - 97 + 10), .bool false, .bool false, .int .i64 (bt s j - 97 + 10), .int .i64 10, .bool false, .bool false, .int .i64 (dzv 10 s j), .int .i64 10, .int .i64 (dzv 10 s j * 10), .int .i64 (bt s j - 97 + 10), .int .i64 (dzv 10 s j * 10 + (bt s j - 97 + 10))] : List Value).getD (k_ - 4) undef, by kernel_rfl, M, hpz⟩
         ·skip
          refine pl_val (want_on 2 false rfl 55 rfl (by kernel_rfl)) (some 58) rfl (.bool true) (fun w => Eq.trans (b := .ok (.value (.bool (decide (10 ≤ (bt s j - 97 + 10))))) w) (by kernel_rfl) (by rw [decide_eq_true (by omega)])) ?_
          refine pV 59 (.bool true) ?_
          refine nT ?_
          refine wp_cond_true (by kernel_rfl) ?_
          refine sR ?_
          refine pV 4 (.int .i64 (-1)) ?_
          refine nT ?_
          refine wp_ret ?_
          refine au_then_ret ?_
          refine au_block_ret ?_
          refine au_then_ret ?_
          refine au_then_ret ?_
          refine au_block_ret ?_
          refine au_then_ret ?_
          have e0 : (dgs 10 s) = -1 := dgs_none hj (dz_bad hx (dd_l (bt s j) (by omega) (by omega)) (by omega))
          exact bodyPost_ret (v := .int .i64 (-1)) (results_tmp1 Tryz.results49 _ _ _ (by kernel_rfl)) (by kernel_rfl) ⟨by rw [e0], below_grown M.old⟩
     ·skip
      refine pl_val (want_on 4 true rfl 26 rfl (by kernel_rfl)) (some 30) rfl (.bool true) (fun w => Eq.trans (b := .ok (.value (.bool (decide ((bt s j) ≤ 57)))) w) (by kernel_rfl) (by rw [decide_eq_true (by omega)])) ?_
      refine pV 31 (.bool true) ?_
      refine nT ?_
      refine wp_cond_true (by kernel_rfl) ?_
      refine rg_lit ?_
      refine pV 32 (.string s) ?_
      refine pV 33 (.int .i64 (j : Int)) ?_
      refine pH 34 (.int .u8 (bt s j)) (run_ixS 9 Tryz.underlying9 _ _ rfl s (by kernel_rfl) .i64 j (by kernel_rfl) (by omega)) ?_
      refine pH 35 (.int .u8 (bt s j - 48)) (fun w => Eq.trans (b := .ok (.value (.int .u8 (cv .u8 (bt s j - 48)))) w) (by kernel_rfl) (by rw [cv_u8]; congr 3; omega)) ?_
      refine pH 36 (.int .i64 (bt s j - 48)) (fun w => Eq.trans (b := .ok (.value (.int .i64 (cv .i64 (bt s j - 48)))) w) (by kernel_rfl) (by rw [cv_i64 (by omega) (by omega)])) ?_
      refine pV 7 (.int .i64 (bt s j - 48)) ?_
      refine nT ?_
      refine wp_seq ?_
      refine sR ?_
      refine pV 37 (.string s) ?_
      refine pV 38 (.int .i64 (j : Int)) ?_
      refine pH 39 (.int .u8 (bt s j)) (run_ixS 9 Tryz.underlying9 _ _ rfl s (by kernel_rfl) .i64 j (by kernel_rfl) (by omega)) ?_
      by_cases c4 : (bt s j) < 97
      ·skip
       refine pH 40 (.bool false) (dF (97 ≤ (bt s j)) (by omega)) ?_
       refine pV 41 (.bool false) ?_
       refine pl_skip (want_off 4 true rfl 41 rfl (by kernel_rfl)) (some 42) rfl ?_
       refine pl_skip (want_off 4 true rfl 41 rfl (by kernel_rfl)) (some 43) rfl ?_
       refine pl_skip (want_off 4 true rfl 41 rfl (by kernel_rfl)) (some 44) rfl ?_
       refine pl_skip (want_off 4 true rfl 41 rfl (by kernel_rfl)) (some 45) rfl ?_
       refine pV 46 (.bool false) ?_
       refine nT ?_
       refine wp_cond_false (by kernel_rfl) ?_
       refine wp_skip ?_
       refine au_then ?_
       refine wp_seq ?_
       refine sR ?_
       refine pV 53 (.int .i64 (bt s j - 48)) ?_
       by_cases c5 : (bt s j - 48) < 0
       ·omega
       ·skip
        refine pH 54 (.bool false) (dF ((bt s j - 48) < 0) (c5)) ?_
        refine pV 55 (.bool false) ?_
        refine pl_val (want_on 2 false rfl 55 rfl (by kernel_rfl)) (some 56) rfl (.int .i64 (bt s j - 48)) (fun _ => by kernel_rfl) ?_
        refine pl_val (want_on 2 false rfl 55 rfl (by kernel_rfl)) (some 57) rfl (.int .i64 10) (fun _ => by kernel_rfl) ?_
        by_cases c6 : (bt s j - 48) < 10
        ·skip
         refine pl_val (want_on 2 false rfl 55 rfl (by kernel_rfl)) (some 58) rfl (.bool false) (fun w => Eq.trans (b := .ok (.value (.bool (decide (10 ≤ (bt s j - 48))))) w) (by kernel_rfl) (by rw [decide_eq_false (by omega)])) ?_
         refine pV 59 (.bool false) ?_
         refine nT ?_
         refine wp_cond_false (by kernel_rfl) ?_
         refine wp_skip ?_
         refine au_then ?_
         refine rg_lit ?_
         refine pV 60 (.int .i64 (dzv 10 s j)) ?_
         refine pV 61 (.int .i64 10) ?_
         refine pH 62 (.int .i64 (dzv 10 s j * 10)) (fun w => Eq.trans (b := .ok (.value (.int .i64 (cv .i64 (dzv 10 s j * 10)))) w) (by kernel_rfl) (by rw [cv_i64 (by omega) (by omega)])) ?_
         refine pV 63 (.int .i64 (bt s j - 48)) ?_
         refine pH 64 (.int .i64 (dzv 10 s j * 10 + (bt s j - 48))) (fun w => Eq.trans (b := .ok (.value (.int .i64 (cv .i64 (dzv 10 s j * 10 + (bt s j - 48))))) w) (by kernel_rfl) (by rw [cv_i64 (by omega) (by omega)])) ?_
         have hpy := dz_ok hx (dd_d (bt s j) (by omega) (by omega)) (by omega) (by omega)
         have hpv : dzv 10 s (j + 1) = dzv 10 s j * 10 + (bt s j - 48) := by unfold dzv; rw [hpy]; rfl
         have hpz : dz 10 s (j + 1) = some (dzv 10 s (j + 1)) := by rw [hpv]; exact hpy
         refine pH 5 (.int .i64 (dzv 10 s (j + 1))) (fun w => Eq.trans (b := .ok (.value (.int .i64 (dzv 10 s j * 10 + (bt s j - 48)))) w) (by kernel_rfl) (by rw [hpv])) ?_
         refine pl_nil ?_
         refine au_block ?_
         refine au_then ?_
         refine rg_lit ?_
         refine pV 20 (.int .i64 (j : Int)) ?_
         refine pH 21 (.int .i64 ((j + 1 : Nat) : Int)) (iV ((j : Int) + 1) (by omega) (by omega) (by omega)) ?_
         refine pV 6 (.int .i64 ((j + 1 : Nat) : Int)) ?_
         refine nT ?_
         exact ⟨fun k_ => ([v1 4, undef, undef, .int .i64 (bt s j - 48), undef, undef, undef, undef, undef, undef, undef, undef, .int .i64 (j : Int), .string s, .int .i64 (s.size : Int), .bool true, .int .i64 (j : Int), .int .i64 ((j + 1 : Nat) : Int), .string s, .int .i64 (j : Int), .int .u8 (bt s j), .bool true, .bool true, .string s, .int .i64 (j : Int), .int .u8 (bt s j), .bool true, .bool true, .string s, .int .i64 (j : Int), .int .u8 (bt s j), .int .u8 (bt s j - 48), .int .i64 (bt s j - 48), .string s, .int .i64 (j : Int), .int .u8 (bt s j), .bool false, .bool false, undef, undef, undef, undef, .bool false, v1 47, v1 48, v1 49, v1 50, v1 51, v1 52, .int .i64 (bt s j - 48), .bool false, .bool false, .int .i64 (bt s j - 48), .int .i64 10, .bool false, .bool false, .int .i64 (dzv 10 s j), .int .i64 10, .int .i64 (dzv 10 s j * 10), .int .i64 (bt s j - 48), .int .i64 (dzv 10 s j * 10 + (bt s j - 48))] : List Value).getD (k_ - 4) undef, by kernel_rfl, M, hpz⟩
        ·skip
         refine pl_val (want_on 2 false rfl 55 rfl (by kernel_rfl)) (some 58) rfl (.bool true) (fun w => Eq.trans (b := .ok (.value (.bool (decide (10 ≤ (bt s j - 48))))) w) (by kernel_rfl) (by rw [decide_eq_true (by omega)])) ?_
         refine pV 59 (.bool true) ?_
         refine nT ?_
         refine wp_cond_true (by kernel_rfl) ?_
         refine sR ?_
         refine pV 4 (.int .i64 (-1)) ?_
         refine nT ?_
         refine wp_ret ?_
         refine au_then_ret ?_
         refine au_block_ret ?_
         refine au_then_ret ?_
         refine au_then_ret ?_
         refine au_block_ret ?_
         refine au_then_ret ?_
         have e0 : (dgs 10 s) = -1 := dgs_none hj (dz_bad hx (dd_d (bt s j) (by omega) (by omega)) (by omega))
         exact bodyPost_ret (v := .int .i64 (-1)) (results_tmp1 Tryz.results49 _ _ _ (by kernel_rfl)) (by kernel_rfl) ⟨by rw [e0], below_grown M.old⟩
      ·omega
   ·intro a u0 hI
    obtain ⟨v1, rfl, M, hx⟩ := hI
    refine wp_seq ?_
    refine sR ?_
    refine pV 16 (.int .i64 ((s.size : Nat) : Int)) ?_
    refine pV 17 (.string s) ?_
    refine pV 18 (.int .i64 (s.size : Int)) ?_
    refine pH 19 (.bool false) (dF (((s.size : Nat) : Int) < (s.size : Int)) (by omega)) ?_
    refine nT ?_
    refine wp_cond_false (by kernel_rfl) ?_
    refine wp_exit ?_
    refine au_then_exit ?_
    refine au_then_exit ?_
    refine au_block_exit ?_
    refine au_then ?_
    refine sR ?_
    refine pV 65 (.int .i64 (dzv 10 s s.size)) ?_
    refine pV 4 (.int .i64 (dzv 10 s s.size)) ?_
    refine nT ?_
    refine wp_ret ?_
    have e0 : (dgs 10 s) = (dzv 10 s s.size) := dgs_some c0 c1 hx
    exact bodyPost_ret (v := .int .i64 (dzv 10 s s.size)) (results_tmp1 Tryz.results49 _ _ _ (by kernel_rfl)) (by kernel_rfl) ⟨by rw [e0], below_grown M.old⟩
set_option maxRecDepth 100000 in
set_option maxHeartbeats 4000000 in
set_option linter.unusedSimpArgs false in
theorem d_digits16 (s : ByteArray) (w : World) (hL : Laid w)  :
  Calls Tryz.prog 49 #[.string s, .int .i64 16] w fun r w' => r = .returned (.int .i64 (dgs 16 s)) ∧ Below w.heap.size w w' := by
 go_enter Tryz.func49, Tryz.ntmps49
 have M := Mem.start hL
 refine sR ?_
 refine pV 4 (.int .i64 0) ?_
 refine nT ?_
 refine wp_seq ?_
 refine sR ?_
 refine pV 8 (.string s) ?_
 refine pV 9 (.int .i64 (s.size : Int)) ?_
 by_cases c0 : (s.size : Int) < 1
 ·skip
  refine pH 10 (.bool true) (dTz ((s.size : Int) < 1) (c0)) ?_
  refine pV 11 (.bool true) ?_
  refine pl_skip (want_off 3 false rfl 11 rfl (by kernel_rfl)) (some 12) rfl ?_
  refine pl_skip (want_off 3 false rfl 11 rfl (by kernel_rfl)) (some 13) rfl ?_
  refine pl_skip (want_off 3 false rfl 11 rfl (by kernel_rfl)) (some 14) rfl ?_
  refine pV 15 (.bool true) ?_
  refine nT ?_
  refine wp_cond_true (by kernel_rfl) ?_
  refine sR ?_
  refine pV 4 (.int .i64 (-1)) ?_
  refine nT ?_
  refine wp_ret ?_
  refine au_then_ret ?_
  have e0 : (dgs 16 s) = -1 := if_pos c0
  exact bodyPost_ret (v := .int .i64 (-1)) (results_tmp1 Tryz.results49 _ _ _ (by kernel_rfl)) (by kernel_rfl) ⟨by rw [e0], below_grown M.old⟩
 ·skip
  refine pH 10 (.bool false) (dF ((s.size : Int) < 1) (c0)) ?_
  refine pV 11 (.bool false) ?_
  refine pl_val (want_on 3 false rfl 11 rfl (by kernel_rfl)) (some 12) rfl (.string s) (fun _ => by kernel_rfl) ?_
  refine pl_val (want_on 3 false rfl 11 rfl (by kernel_rfl)) (some 13) rfl (.int .i64 (s.size : Int)) (fun _ => by kernel_rfl) ?_
  by_cases c1 : 4 < (s.size : Int)
  ·skip
   refine pl_val (want_on 3 false rfl 11 rfl (by kernel_rfl)) (some 14) rfl (.bool true) (fun w => Eq.trans (b := .ok (.value (.bool (decide (4 < (s.size : Int))))) w) (by kernel_rfl) (by rw [decide_eq_true (c1)])) ?_
   refine pV 15 (.bool true) ?_
   refine nT ?_
   refine wp_cond_true (by kernel_rfl) ?_
   refine sR ?_
   refine pV 4 (.int .i64 (-1)) ?_
   refine nT ?_
   refine wp_ret ?_
   refine au_then_ret ?_
   have e0 : (dgs 16 s) = -1 := by unfold dgs; rw [if_neg c0, if_pos c1]
   exact bodyPost_ret (v := .int .i64 (-1)) (results_tmp1 Tryz.results49 _ _ _ (by kernel_rfl)) (by kernel_rfl) ⟨by rw [e0], below_grown M.old⟩
  ·skip
   refine pl_val (want_on 3 false rfl 11 rfl (by kernel_rfl)) (some 14) rfl (.bool false) (fun w => Eq.trans (b := .ok (.value (.bool (decide (4 < (s.size : Int))))) w) (by kernel_rfl) (by rw [decide_eq_false (c1)])) ?_
   refine pV 15 (.bool false) ?_
   refine nT ?_
   refine wp_cond_false (by kernel_rfl) ?_
   refine wp_skip ?_
   refine au_then ?_
   refine sR ?_
   refine pV 5 (.int .i64 0) ?_
   refine nT ?_
   refine wp_seq ?_
   refine sR ?_
   refine pV 6 (.int .i64 0) ?_
   refine nT ?_
   refine wp_block ?_
   refine au_loop (fun j a w' => ∃ v1 : Nat → Value, a = ⟨#[.string s, .int .i64 16, undef, undef, v1 4, .int .i64 (dzv 16 s j), .int .i64 (j : Int), v1 7, .string s, .int .i64 (s.size : Int), .bool false, .bool false, .string s, .int .i64 (s.size : Int), .bool false, .bool false, v1 16, v1 17, v1 18, v1 19, v1 20, v1 21, v1 22, v1 23, v1 24, v1 25, v1 26, v1 27, v1 28, v1 29, v1 30, v1 31, v1 32, v1 33, v1 34, v1 35, v1 36, v1 37, v1 38, v1 39, v1 40, v1 41, v1 42, v1 43, v1 44, v1 45, v1 46, v1 47, v1 48, v1 49, v1 50, v1 51, v1 52, v1 53, v1 54, v1 55, v1 56, v1 57, v1 58, v1 59, v1 60, v1 61, v1 62, v1 63, v1 64, undef], []⟩ ∧ Mem ⟨w, []⟩ [] w' ∧ dz 16 s j = some (dzv 16 s j)) s.size ⟨fun k_ => ([.int .i64 0, undef, undef, undef, undef, undef, undef, undef, undef, undef, undef, undef, undef, undef, undef, undef, undef, undef, undef, undef, undef, undef, undef, undef, undef, undef, undef, undef, undef, undef, undef, undef, undef, undef, undef, undef, undef, undef, undef, undef, undef, undef, undef, undef, undef, undef, undef, undef, undef, undef, undef, undef, undef, undef, undef, undef, undef, undef, undef, undef, undef] : List Value).getD (k_ - 4) undef, by kernel_rfl, M, rfl⟩ ?_ ?_
   ·intro j a u0 hj hI
    obtain ⟨v1, rfl, M, hx⟩ := hI
    have hb := bt_nn s j
    have hp := dzv_4 16 (by decide) s j (by omega)
    refine wp_seq ?_
    refine sR ?_
    refine pV 16 (.int .i64 (j : Int)) ?_
    refine pV 17 (.string s) ?_
    refine pV 18 (.int .i64 (s.size : Int)) ?_
    refine pH 19 (.bool true) (dTz ((j : Int) < (s.size : Int)) (by omega)) ?_
    refine nT ?_
    refine wp_cond_true (by kernel_rfl) ?_
    refine wp_skip ?_
    refine au_then ?_
    refine wp_seq ?_
    refine wp_block ?_
    refine sR ?_
    refine pV 7 (.int .i64 (-1)) ?_
    refine nT ?_
    refine wp_seq ?_
    refine sR ?_
    refine pV 22 (.string s) ?_
    refine pV 23 (.int .i64 (j : Int)) ?_
    refine pH 24 (.int .u8 (bt s j)) (run_ixS 9 Tryz.underlying9 _ _ rfl s (by kernel_rfl) .i64 j (by kernel_rfl) (by omega)) ?_
    by_cases c2 : (bt s j) < 48
    ·skip
     refine pH 25 (.bool false) (dF (48 ≤ (bt s j)) (by omega)) ?_
     refine pV 26 (.bool false) ?_
     refine pl_skip (want_off 4 true rfl 26 rfl (by kernel_rfl)) (some 27) rfl ?_
     refine pl_skip (want_off 4 true rfl 26 rfl (by kernel_rfl)) (some 28) rfl ?_
     refine pl_skip (want_off 4 true rfl 26 rfl (by kernel_rfl)) (some 29) rfl ?_
     refine pl_skip (want_off 4 true rfl 26 rfl (by kernel_rfl)) (some 30) rfl ?_
     refine pV 31 (.bool false) ?_
     refine nT ?_
     refine wp_cond_false (by kernel_rfl) ?_
     refine wp_skip ?_
     refine au_then ?_
     refine wp_seq ?_
     refine sR ?_
     refine pV 37 (.string s) ?_
     refine pV 38 (.int .i64 (j : Int)) ?_
     refine pH 39 (.int .u8 (bt s j)) (run_ixS 9 Tryz.underlying9 _ _ rfl s (by kernel_rfl) .i64 j (by kernel_rfl) (by omega)) ?_
     by_cases c3 : (bt s j) < 97
     ·skip
      refine pH 40 (.bool false) (dF (97 ≤ (bt s j)) (by omega)) ?_
      refine pV 41 (.bool false) ?_
      refine pl_skip (want_off 4 true rfl 41 rfl (by kernel_rfl)) (some 42) rfl ?_
      refine pl_skip (want_off 4 true rfl 41 rfl (by kernel_rfl)) (some 43) rfl ?_
      refine pl_skip (want_off 4 true rfl 41 rfl (by kernel_rfl)) (some 44) rfl ?_
      refine pl_skip (want_off 4 true rfl 41 rfl (by kernel_rfl)) (some 45) rfl ?_
      refine pV 46 (.bool false) ?_
      refine nT ?_
      refine wp_cond_false (by kernel_rfl) ?_
      refine wp_skip ?_
      refine au_then ?_
      refine wp_seq ?_
      refine sR ?_
      refine pV 53 (.int .i64 (-1)) ?_
      refine pV 54 (.bool true) ?_
      refine pV 55 (.bool true) ?_
      refine pl_skip (want_off 2 false rfl 55 rfl (by kernel_rfl)) (some 56) rfl ?_
      refine pl_skip (want_off 2 false rfl 55 rfl (by kernel_rfl)) (some 57) rfl ?_
      refine pl_skip (want_off 2 false rfl 55 rfl (by kernel_rfl)) (some 58) rfl ?_
      refine pV 59 (.bool true) ?_
      refine nT ?_
      refine wp_cond_true (by kernel_rfl) ?_
      refine sR ?_
      refine pV 4 (.int .i64 (-1)) ?_
      refine nT ?_
      refine wp_ret ?_
      refine au_then_ret ?_
      refine au_block_ret ?_
      refine au_then_ret ?_
      refine au_then_ret ?_
      refine au_block_ret ?_
      refine au_then_ret ?_
      have e0 : (dgs 16 s) = -1 := dgs_none hj (dz_bad hx (dd_n (bt s j) (by omega) (by omega)) (by omega))
      exact bodyPost_ret (v := .int .i64 (-1)) (results_tmp1 Tryz.results49 _ _ _ (by kernel_rfl)) (by kernel_rfl) ⟨by rw [e0], below_grown M.old⟩
     ·skip
      refine pH 40 (.bool true) (dTz (97 ≤ (bt s j)) (by omega)) ?_
      refine pV 41 (.bool true) ?_
      refine pl_val (want_on 4 true rfl 41 rfl (by kernel_rfl)) (some 42) rfl (.string s) (fun _ => by kernel_rfl) ?_
      refine pl_val (want_on 4 true rfl 41 rfl (by kernel_rfl)) (some 43) rfl (.int .i64 (j : Int)) (fun _ => by kernel_rfl) ?_
      refine pl_val (want_on 4 true rfl 41 rfl (by kernel_rfl)) (some 44) rfl (.int .u8 (bt s j)) (run_ixS 9 Tryz.underlying9 _ _ rfl s (by kernel_rfl) .i64 j (by kernel_rfl) (by omega)) ?_
      by_cases c4 : 102 < (bt s j)
      ·skip
       refine pl_val (want_on 4 true rfl 41 rfl (by kernel_rfl)) (some 45) rfl (.bool false) (fun w => Eq.trans (b := .ok (.value (.bool (decide ((bt s j) ≤ 102)))) w) (by kernel_rfl) (by rw [decide_eq_false (by omega)])) ?_
       refine pV 46 (.bool false) ?_
       refine nT ?_
       refine wp_cond_false (by kernel_rfl) ?_
       refine wp_skip ?_
       refine au_then ?_
       refine wp_seq ?_
       refine sR ?_
       refine pV 53 (.int .i64 (-1)) ?_
       refine pV 54 (.bool true) ?_
       refine pV 55 (.bool true) ?_
       refine pl_skip (want_off 2 false rfl 55 rfl (by kernel_rfl)) (some 56) rfl ?_
       refine pl_skip (want_off 2 false rfl 55 rfl (by kernel_rfl)) (some 57) rfl ?_
       refine pl_skip (want_off 2 false rfl 55 rfl (by kernel_rfl)) (some 58) rfl ?_
       refine pV 59 (.bool true) ?_
       refine nT ?_
       refine wp_cond_true (by kernel_rfl) ?_
       refine sR ?_
       refine pV 4 (.int .i64 (-1)) ?_
       refine nT ?_
       refine wp_ret ?_
       refine au_then_ret ?_
       refine au_block_ret ?_
       refine au_then_ret ?_
       refine au_then_ret ?_
       refine au_block_ret ?_
       refine au_then_ret ?_
       have e0 : (dgs 16 s) = -1 := dgs_none hj (dz_bad hx (dd_n (bt s j) (by omega) (by omega)) (by omega))
       exact bodyPost_ret (v := .int .i64 (-1)) (results_tmp1 Tryz.results49 _ _ _ (by kernel_rfl)) (by kernel_rfl) ⟨by rw [e0], below_grown M.old⟩
      ·skip
       refine pl_val (want_on 4 true rfl 41 rfl (by kernel_rfl)) (some 45) rfl (.bool true) (fun w => Eq.trans (b := .ok (.value (.bool (decide ((bt s j) ≤ 102)))) w) (by kernel_rfl) (by rw [decide_eq_true (by omega)])) ?_
       refine pV 46 (.bool true) ?_
       refine nT ?_
       refine wp_cond_true (by kernel_rfl) ?_
       refine rg_lit ?_
       refine pV 47 (.string s) ?_
       refine pV 48 (.int .i64 (j : Int)) ?_
       refine pH 49 (.int .u8 (bt s j)) (run_ixS 9 Tryz.underlying9 _ _ rfl s (by kernel_rfl) .i64 j (by kernel_rfl) (by omega)) ?_
       refine pH 50 (.int .u8 (bt s j - 97)) (fun w => Eq.trans (b := .ok (.value (.int .u8 (cv .u8 (bt s j - 97)))) w) (by kernel_rfl) (by rw [cv_u8]; congr 3; omega)) ?_
       refine pH 51 (.int .i64 (bt s j - 97)) (fun w => Eq.trans (b := .ok (.value (.int .i64 (cv .i64 (bt s j - 97)))) w) (by kernel_rfl) (by rw [cv_i64 (by omega) (by omega)])) ?_
       refine pH 52 (.int .i64 (bt s j - 97 + 10)) (fun w => Eq.trans (b := .ok (.value (.int .i64 (cv .i64 (bt s j - 97 + 10)))) w) (by kernel_rfl) (by rw [cv_i64 (by omega) (by omega)])) ?_
       refine pV 7 (.int .i64 (bt s j - 97 + 10)) ?_
       refine nT ?_
       refine wp_seq ?_
       refine sR ?_
       refine pV 53 (.int .i64 (bt s j - 97 + 10)) ?_
       by_cases c5 : (bt s j - 97 + 10) < 0
       ·omega
       ·skip
        refine pH 54 (.bool false) (dF ((bt s j - 97 + 10) < 0) (c5)) ?_
        refine pV 55 (.bool false) ?_
        refine pl_val (want_on 2 false rfl 55 rfl (by kernel_rfl)) (some 56) rfl (.int .i64 (bt s j - 97 + 10)) (fun _ => by kernel_rfl) ?_
        refine pl_val (want_on 2 false rfl 55 rfl (by kernel_rfl)) (some 57) rfl (.int .i64 16) (fun _ => by kernel_rfl) ?_
        by_cases c6 : (bt s j - 97 + 10) < 16
        ·skip
         refine pl_val (want_on 2 false rfl 55 rfl (by kernel_rfl)) (some 58) rfl (.bool false) (fun w => Eq.trans (b := .ok (.value (.bool (decide (16 ≤ (bt s j - 97 + 10))))) w) (by kernel_rfl) (by rw [decide_eq_false (by omega)])) ?_
         refine pV 59 (.bool false) ?_
         refine nT ?_
         refine wp_cond_false (by kernel_rfl) ?_
         refine wp_skip ?_
         refine au_then ?_
         refine rg_lit ?_
         refine pV 60 (.int .i64 (dzv 16 s j)) ?_
         refine pV 61 (.int .i64 16) ?_
         refine pH 62 (.int .i64 (dzv 16 s j * 16)) (fun w => Eq.trans (b := .ok (.value (.int .i64 (cv .i64 (dzv 16 s j * 16)))) w) (by kernel_rfl) (by rw [cv_i64 (by omega) (by omega)])) ?_
         refine pV 63 (.int .i64 (bt s j - 97 + 10)) ?_
         refine pH 64 (.int .i64 (dzv 16 s j * 16 + (bt s j - 97 + 10))) (fun w => Eq.trans (b := .ok (.value (.int .i64 (cv .i64 (dzv 16 s j * 16 + (bt s j - 97 + 10))))) w) (by kernel_rfl) (by rw [cv_i64 (by omega) (by omega)])) ?_
         have hpy := dz_ok hx (dd_l (bt s j) (by omega) (by omega)) (by omega) (by omega)
         have hpv : dzv 16 s (j + 1) = dzv 16 s j * 16 + (bt s j - 97 + 10) := by unfold dzv; rw [hpy]; rfl
         have hpz : dz 16 s (j + 1) = some (dzv 16 s (j + 1)) := by rw [hpv]; exact hpy
         refine pH 5 (.int .i64 (dzv 16 s (j + 1))) (fun w => Eq.trans (b := .ok (.value (.int .i64 (dzv 16 s j * 16 + (bt s j - 97 + 10)))) w) (by kernel_rfl) (by rw [hpv])) ?_
         refine pl_nil ?_
         refine au_block ?_
         refine au_then ?_
         refine rg_lit ?_
         refine pV 20 (.int .i64 (j : Int)) ?_
         refine pH 21 (.int .i64 ((j + 1 : Nat) : Int)) (iV ((j : Int) + 1) (by omega) (by omega) (by omega)) ?_
         refine pV 6 (.int .i64 ((j + 1 : Nat) : Int)) ?_
         refine nT ?_
         exact ⟨fun k_ => ([v1 4, undef, undef, .int .i64 (bt s j - 97 + 10), undef, undef, undef, undef, undef, undef, undef, undef, .int .i64 (j : Int), .string s, .int .i64 (s.size : Int), .bool true, .int .i64 (j : Int), .int .i64 ((j + 1 : Nat) : Int), .string s, .int .i64 (j : Int), .int .u8 (bt s j), .bool false, .bool false, undef, undef, undef, undef, .bool false, v1 32, v1 33, v1 34, v1 35, v1 36, .string s, .int .i64 (j : Int), .int .u8 (bt s j), .bool true, .bool true, .string s, .int .i64 (j : Int), .int .u8 (bt s j), .bool true, .bool true, .string s, .int .i64 (j : Int), .int .u8 (bt s j), .int .u8 (bt s j - 97), .int .i64 (bt s j - 97), .int .i64 (bt s j - 97 + 10), .int .i64 (bt s j - 97 + 10), .bool false, .bool false, .int .i64 (bt s j - 97 + 10), .int .i64 16, .bool false, .bool false, .int .i64 (dzv 16 s j), .int .i64 16, .int .i64 (dzv 16 s j * 16), .int .i64 (bt s j - 97 + 10), .int .i64 (dzv 16 s j * 16 + (bt s j - 97 + 10))] : List Value).getD (k_ - 4) undef, by kernel_rfl, M, hpz⟩
        ·skip
         refine pl_val (want_on 2 false rfl 55 rfl (by kernel_rfl)) (some 58) rfl (.bool true) (fun w => Eq.trans (b := .ok (.value (.bool (decide (16 ≤ (bt s j - 97 + 10))))) w) (by kernel_rfl) (by rw [decide_eq_true (by omega)])) ?_
         refine pV 59 (.bool true) ?_
         refine nT ?_
         refine wp_cond_true (by kernel_rfl) ?_
         refine sR ?_
         refine pV 4 (.int .i64 (-1)) ?_
         refine nT ?_
         refine wp_ret ?_
         refine au_then_ret ?_
         refine au_block_ret ?_
         refine au_then_ret ?_
         refine au_then_ret ?_
         refine au_block_ret ?_
         refine au_then_ret ?_
         have e0 : (dgs 16 s) = -1 := dgs_none hj (dz_bad hx (dd_l (bt s j) (by omega) (by omega)) (by omega))
         exact bodyPost_ret (v := .int .i64 (-1)) (results_tmp1 Tryz.results49 _ _ _ (by kernel_rfl)) (by kernel_rfl) ⟨by rw [e0], below_grown M.old⟩
    ·skip
     refine pH 25 (.bool true) (dTz (48 ≤ (bt s j)) (by omega)) ?_
     refine pV 26 (.bool true) ?_
     refine pl_val (want_on 4 true rfl 26 rfl (by kernel_rfl)) (some 27) rfl (.string s) (fun _ => by kernel_rfl) ?_
     refine pl_val (want_on 4 true rfl 26 rfl (by kernel_rfl)) (some 28) rfl (.int .i64 (j : Int)) (fun _ => by kernel_rfl) ?_
     refine pl_val (want_on 4 true rfl 26 rfl (by kernel_rfl)) (some 29) rfl (.int .u8 (bt s j)) (run_ixS 9 Tryz.underlying9 _ _ rfl s (by kernel_rfl) .i64 j (by kernel_rfl) (by omega)) ?_
     by_cases c3 : 57 < (bt s j)
     ·skip
      refine pl_val (want_on 4 true rfl 26 rfl (by kernel_rfl)) (some 30) rfl (.bool false) (fun w => Eq.trans (b := .ok (.value (.bool (decide ((bt s j) ≤ 57)))) w) (by kernel_rfl) (by rw [decide_eq_false (by omega)])) ?_
      refine pV 31 (.bool false) ?_
      refine nT ?_
      refine wp_cond_false (by kernel_rfl) ?_
      refine wp_skip ?_
      refine au_then ?_
      refine wp_seq ?_
      refine sR ?_
      refine pV 37 (.string s) ?_
      refine pV 38 (.int .i64 (j : Int)) ?_
      refine pH 39 (.int .u8 (bt s j)) (run_ixS 9 Tryz.underlying9 _ _ rfl s (by kernel_rfl) .i64 j (by kernel_rfl) (by omega)) ?_
      by_cases c4 : (bt s j) < 97
      ·skip
       refine pH 40 (.bool false) (dF (97 ≤ (bt s j)) (by omega)) ?_
       refine pV 41 (.bool false) ?_
       refine pl_skip (want_off 4 true rfl 41 rfl (by kernel_rfl)) (some 42) rfl ?_
       refine pl_skip (want_off 4 true rfl 41 rfl (by kernel_rfl)) (some 43) rfl ?_
       refine pl_skip (want_off 4 true rfl 41 rfl (by kernel_rfl)) (some 44) rfl ?_
       refine pl_skip (want_off 4 true rfl 41 rfl (by kernel_rfl)) (some 45) rfl ?_
       refine pV 46 (.bool false) ?_
       refine nT ?_
       refine wp_cond_false (by kernel_rfl) ?_
       refine wp_skip ?_
       refine au_then ?_
       refine wp_seq ?_
       refine sR ?_
       refine pV 53 (.int .i64 (-1)) ?_
       refine pV 54 (.bool true) ?_
       refine pV 55 (.bool true) ?_
       refine pl_skip (want_off 2 false rfl 55 rfl (by kernel_rfl)) (some 56) rfl ?_
       refine pl_skip (want_off 2 false rfl 55 rfl (by kernel_rfl)) (some 57) rfl ?_
       refine pl_skip (want_off 2 false rfl 55 rfl (by kernel_rfl)) (some 58) rfl ?_
       refine pV 59 (.bool true) ?_
       refine nT ?_
       refine wp_cond_true (by kernel_rfl) ?_
       refine sR ?_
       refine pV 4 (.int .i64 (-1)) ?_
       refine nT ?_
       refine wp_ret ?_
       refine au_then_ret ?_
       refine au_block_ret ?_
       refine au_then_ret ?_
       refine au_then_ret ?_
       refine au_block_ret ?_
       refine au_then_ret ?_
       have e0 : (dgs 16 s) = -1 := dgs_none hj (dz_bad hx (dd_n (bt s j) (by omega) (by omega)) (by omega))
       exact bodyPost_ret (v := .int .i64 (-1)) (results_tmp1 Tryz.results49 _ _ _ (by kernel_rfl)) (by kernel_rfl) ⟨by rw [e0], below_grown M.old⟩
      ·skip
       refine pH 40 (.bool true) (dTz (97 ≤ (bt s j)) (by omega)) ?_
       refine pV 41 (.bool true) ?_
       refine pl_val (want_on 4 true rfl 41 rfl (by kernel_rfl)) (some 42) rfl (.string s) (fun _ => by kernel_rfl) ?_
       refine pl_val (want_on 4 true rfl 41 rfl (by kernel_rfl)) (some 43) rfl (.int .i64 (j : Int)) (fun _ => by kernel_rfl) ?_
       refine pl_val (want_on 4 true rfl 41 rfl (by kernel_rfl)) (some 44) rfl (.int .u8 (bt s j)) (run_ixS 9 Tryz.underlying9 _ _ rfl s (by kernel_rfl) .i64 j (by kernel_rfl) (by omega)) ?_
       by_cases c5 : 102 < (bt s j)
       ·skip
        refine pl_val (want_on 4 true rfl 41 rfl (by kernel_rfl)) (some 45) rfl (.bool false) (fun w => Eq.trans (b := .ok (.value (.bool (decide ((bt s j) ≤ 102)))) w) (by kernel_rfl) (by rw [decide_eq_false (by omega)])) ?_
        refine pV 46 (.bool false) ?_
        refine nT ?_
        refine wp_cond_false (by kernel_rfl) ?_
        refine wp_skip ?_
        refine au_then ?_
        refine wp_seq ?_
        refine sR ?_
        refine pV 53 (.int .i64 (-1)) ?_
        refine pV 54 (.bool true) ?_
        refine pV 55 (.bool true) ?_
        refine pl_skip (want_off 2 false rfl 55 rfl (by kernel_rfl)) (some 56) rfl ?_
        refine pl_skip (want_off 2 false rfl 55 rfl (by kernel_rfl)) (some 57) rfl ?_
        refine pl_skip (want_off 2 false rfl 55 rfl (by kernel_rfl)) (some 58) rfl ?_
        refine pV 59 (.bool true) ?_
        refine nT ?_
        refine wp_cond_true (by kernel_rfl) ?_
        refine sR ?_
        refine pV 4 (.int .i64 (-1)) ?_
        refine nT ?_
        refine wp_ret ?_
        refine au_then_ret ?_
        refine au_block_ret ?_
        refine au_then_ret ?_
        refine au_then_ret ?_
        refine au_block_ret ?_
        refine au_then_ret ?_
        have e0 : (dgs 16 s) = -1 := dgs_none hj (dz_bad hx (dd_n (bt s j) (by omega) (by omega)) (by omega))
        exact bodyPost_ret (v := .int .i64 (-1)) (results_tmp1 Tryz.results49 _ _ _ (by kernel_rfl)) (by kernel_rfl) ⟨by rw [e0], below_grown M.old⟩
       ·skip
        refine pl_val (want_on 4 true rfl 41 rfl (by kernel_rfl)) (some 45) rfl (.bool true) (fun w => Eq.trans (b := .ok (.value (.bool (decide ((bt s j) ≤ 102)))) w) (by kernel_rfl) (by rw [decide_eq_true (by omega)])) ?_
        refine pV 46 (.bool true) ?_
        refine nT ?_
        refine wp_cond_true (by kernel_rfl) ?_
        refine rg_lit ?_
        refine pV 47 (.string s) ?_
        refine pV 48 (.int .i64 (j : Int)) ?_
        refine pH 49 (.int .u8 (bt s j)) (run_ixS 9 Tryz.underlying9 _ _ rfl s (by kernel_rfl) .i64 j (by kernel_rfl) (by omega)) ?_
        refine pH 50 (.int .u8 (bt s j - 97)) (fun w => Eq.trans (b := .ok (.value (.int .u8 (cv .u8 (bt s j - 97)))) w) (by kernel_rfl) (by rw [cv_u8]; congr 3; omega)) ?_
        refine pH 51 (.int .i64 (bt s j - 97)) (fun w => Eq.trans (b := .ok (.value (.int .i64 (cv .i64 (bt s j - 97)))) w) (by kernel_rfl) (by rw [cv_i64 (by omega) (by omega)])) ?_
        refine pH 52 (.int .i64 (bt s j - 97 + 10)) (fun w => Eq.trans (b := .ok (.value (.int .i64 (cv .i64 (bt s j - 97 + 10)))) w) (by kernel_rfl) (by rw [cv_i64 (by omega) (by omega)])) ?_
        refine pV 7 (.int .i64 (bt s j - 97 + 10)) ?_
        refine nT ?_
        refine wp_seq ?_
        refine sR ?_
        refine pV 53 (.int .i64 (bt s j - 97 + 10)) ?_
        by_cases c6 : (bt s j - 97 + 10) < 0
        ·omega
        ·skip
         refine pH 54 (.bool false) (dF ((bt s j - 97 + 10) < 0) (c6)) ?_
         refine pV 55 (.bool false) ?_
         refine pl_val (want_on 2 false rfl 55 rfl (by kernel_rfl)) (some 56) rfl (.int .i64 (bt s j - 97 + 10)) (fun _ => by kernel_rfl) ?_
         refine pl_val (want_on 2 false rfl 55 rfl (by kernel_rfl)) (some 57) rfl (.int .i64 16) (fun _ => by kernel_rfl) ?_
         by_cases c7 : (bt s j - 97 + 10) < 16
         ·skip
          refine pl_val (want_on 2 false rfl 55 rfl (by kernel_rfl)) (some 58) rfl (.bool false) (fun w => Eq.trans (b := .ok (.value (.bool (decide (16 ≤ (bt s j - 97 + 10))))) w) (by kernel_rfl) (by rw [decide_eq_false (by omega)])) ?_
          refine pV 59 (.bool false) ?_
          refine nT ?_
          refine wp_cond_false (by kernel_rfl) ?_
          refine wp_skip ?_
          refine au_then ?_
          refine rg_lit ?_
          refine pV 60 (.int .i64 (dzv 16 s j)) ?_
          refine pV 61 (.int .i64 16) ?_
          refine pH 62 (.int .i64 (dzv 16 s j * 16)) (fun w => Eq.trans (b := .ok (.value (.int .i64 (cv .i64 (dzv 16 s j * 16)))) w) (by kernel_rfl) (by rw [cv_i64 (by omega) (by omega)])) ?_
          refine pV 63 (.int .i64 (bt s j - 97 + 10)) ?_
          refine pH 64 (.int .i64 (dzv 16 s j * 16 + (bt s j - 97 + 10))) (fun w => Eq.trans (b := .ok (.value (.int .i64 (cv .i64 (dzv 16 s j * 16 + (bt s j - 97 + 10))))) w) (by kernel_rfl) (by rw [cv_i64 (by omega) (by omega)])) ?_
          have hpy := dz_ok hx (dd_l (bt s j) (by omega) (by omega)) (by omega) (by omega)
          have hpv : dzv 16 s (j + 1) = dzv 16 s j * 16 + (bt s j - 97 + 10) := by unfold dzv; rw [hpy]; rfl
          have hpz : dz 16 s (j + 1) = some (dzv 16 s (j + 1)) := by rw [hpv]; exact hpy
          refine pH 5 (.int .i64 (dzv 16 s (j + 1))) (fun w => Eq.trans (b := .ok (.value (.int .i64 (dzv 16 s j * 16 + (bt s j - 97 + 10)))) w) (by kernel_rfl) (by rw [hpv])) ?_
          refine pl_nil ?_
          refine au_block ?_
          refine au_then ?_
          refine rg_lit ?_
          refine pV 20 (.int .i64 (j : Int)) ?_
          refine pH 21 (.int .i64 ((j + 1 : Nat) : Int)) (iV ((j : Int) + 1) (by omega) (by omega) (by omega)) ?_
          refine pV 6 (.int .i64 ((j + 1 : Nat) : Int)) ?_
          refine nT ?_
          exact ⟨fun k_ => ([v1 4, undef, undef, .int .i64 (bt s j - 97 + 10), undef, undef, undef, undef, undef, undef, undef, undef, .int .i64 (j : Int), .string s, .int .i64 (s.size : Int), .bool true, .int .i64 (j : Int), .int .i64 ((j + 1 : Nat) : Int), .string s, .int .i64 (j : Int), .int .u8 (bt s j), .bool true, .bool true, .string s, .int .i64 (j : Int), .int .u8 (bt s j), .bool false, .bool false, v1 32, v1 33, v1 34, v1 35, v1 36, .string s, .int .i64 (j : Int), .int .u8 (bt s j), .bool true, .bool true, .string s, .int .i64 (j : Int), .int .u8 (bt s j), .bool true, .bool true, .string s, .int .i64 (j : Int), .int .u8 (bt s j), .int .u8 (bt s j - 97), .int .i64 (bt s j - 97), .int .i64 (bt s j - 97 + 10), .int .i64 (bt s j - 97 + 10), .bool false, .bool false, .int .i64 (bt s j - 97 + 10), .int .i64 16, .bool false, .bool false, .int .i64 (dzv 16 s j), .int .i64 16, .int .i64 (dzv 16 s j * 16), .int .i64 (bt s j - 97 + 10), .int .i64 (dzv 16 s j * 16 + (bt s j - 97 + 10))] : List Value).getD (k_ - 4) undef, by kernel_rfl, M, hpz⟩
         ·skip
          refine pl_val (want_on 2 false rfl 55 rfl (by kernel_rfl)) (some 58) rfl (.bool true) (fun w => Eq.trans (b := .ok (.value (.bool (decide (16 ≤ (bt s j - 97 + 10))))) w) (by kernel_rfl) (by rw [decide_eq_true (by omega)])) ?_
          refine pV 59 (.bool true) ?_
          refine nT ?_
          refine wp_cond_true (by kernel_rfl) ?_
          refine sR ?_
          refine pV 4 (.int .i64 (-1)) ?_
          refine nT ?_
          refine wp_ret ?_
          refine au_then_ret ?_
          refine au_block_ret ?_
          refine au_then_ret ?_
          refine au_then_ret ?_
          refine au_block_ret ?_
          refine au_then_ret ?_
          have e0 : (dgs 16 s) = -1 := dgs_none hj (dz_bad hx (dd_l (bt s j) (by omega) (by omega)) (by omega))
          exact bodyPost_ret (v := .int .i64 (-1)) (results_tmp1 Tryz.results49 _ _ _ (by kernel_rfl)) (by kernel_rfl) ⟨by rw [e0], below_grown M.old⟩
     ·skip
      refine pl_val (want_on 4 true rfl 26 rfl (by kernel_rfl)) (some 30) rfl (.bool true) (fun w => Eq.trans (b := .ok (.value (.bool (decide ((bt s j) ≤ 57)))) w) (by kernel_rfl) (by rw [decide_eq_true (by omega)])) ?_
      refine pV 31 (.bool true) ?_
      refine nT ?_
      refine wp_cond_true (by kernel_rfl) ?_
      refine rg_lit ?_
      refine pV 32 (.string s) ?_
      refine pV 33 (.int .i64 (j : Int)) ?_
      refine pH 34 (.int .u8 (bt s j)) (run_ixS 9 Tryz.underlying9 _ _ rfl s (by kernel_rfl) .i64 j (by kernel_rfl) (by omega)) ?_
      refine pH 35 (.int .u8 (bt s j - 48)) (fun w => Eq.trans (b := .ok (.value (.int .u8 (cv .u8 (bt s j - 48)))) w) (by kernel_rfl) (by rw [cv_u8]; congr 3; omega)) ?_
      refine pH 36 (.int .i64 (bt s j - 48)) (fun w => Eq.trans (b := .ok (.value (.int .i64 (cv .i64 (bt s j - 48)))) w) (by kernel_rfl) (by rw [cv_i64 (by omega) (by omega)])) ?_
      refine pV 7 (.int .i64 (bt s j - 48)) ?_
      refine nT ?_
      refine wp_seq ?_
      refine sR ?_
      refine pV 37 (.string s) ?_
      refine pV 38 (.int .i64 (j : Int)) ?_
      refine pH 39 (.int .u8 (bt s j)) (run_ixS 9 Tryz.underlying9 _ _ rfl s (by kernel_rfl) .i64 j (by kernel_rfl) (by omega)) ?_
      by_cases c4 : (bt s j) < 97
      ·skip
       refine pH 40 (.bool false) (dF (97 ≤ (bt s j)) (by omega)) ?_
       refine pV 41 (.bool false) ?_
       refine pl_skip (want_off 4 true rfl 41 rfl (by kernel_rfl)) (some 42) rfl ?_
       refine pl_skip (want_off 4 true rfl 41 rfl (by kernel_rfl)) (some 43) rfl ?_
       refine pl_skip (want_off 4 true rfl 41 rfl (by kernel_rfl)) (some 44) rfl ?_
       refine pl_skip (want_off 4 true rfl 41 rfl (by kernel_rfl)) (some 45) rfl ?_
       refine pV 46 (.bool false) ?_
       refine nT ?_
       refine wp_cond_false (by kernel_rfl) ?_
       refine wp_skip ?_
       refine au_then ?_
       refine wp_seq ?_
       refine sR ?_
       refine pV 53 (.int .i64 (bt s j - 48)) ?_
       by_cases c5 : (bt s j - 48) < 0
       ·omega
       ·skip
        refine pH 54 (.bool false) (dF ((bt s j - 48) < 0) (c5)) ?_
        refine pV 55 (.bool false) ?_
        refine pl_val (want_on 2 false rfl 55 rfl (by kernel_rfl)) (some 56) rfl (.int .i64 (bt s j - 48)) (fun _ => by kernel_rfl) ?_
        refine pl_val (want_on 2 false rfl 55 rfl (by kernel_rfl)) (some 57) rfl (.int .i64 16) (fun _ => by kernel_rfl) ?_
        by_cases c6 : (bt s j - 48) < 16
        ·skip
         refine pl_val (want_on 2 false rfl 55 rfl (by kernel_rfl)) (some 58) rfl (.bool false) (fun w => Eq.trans (b := .ok (.value (.bool (decide (16 ≤ (bt s j - 48))))) w) (by kernel_rfl) (by rw [decide_eq_false (by omega)])) ?_
         refine pV 59 (.bool false) ?_
         refine nT ?_
         refine wp_cond_false (by kernel_rfl) ?_
         refine wp_skip ?_
         refine au_then ?_
         refine rg_lit ?_
         refine pV 60 (.int .i64 (dzv 16 s j)) ?_
         refine pV 61 (.int .i64 16) ?_
         refine pH 62 (.int .i64 (dzv 16 s j * 16)) (fun w => Eq.trans (b := .ok (.value (.int .i64 (cv .i64 (dzv 16 s j * 16)))) w) (by kernel_rfl) (by rw [cv_i64 (by omega) (by omega)])) ?_
         refine pV 63 (.int .i64 (bt s j - 48)) ?_
         refine pH 64 (.int .i64 (dzv 16 s j * 16 + (bt s j - 48))) (fun w => Eq.trans (b := .ok (.value (.int .i64 (cv .i64 (dzv 16 s j * 16 + (bt s j - 48))))) w) (by kernel_rfl) (by rw [cv_i64 (by omega) (by omega)])) ?_
         have hpy := dz_ok hx (dd_d (bt s j) (by omega) (by omega)) (by omega) (by omega)
         have hpv : dzv 16 s (j + 1) = dzv 16 s j * 16 + (bt s j - 48) := by unfold dzv; rw [hpy]; rfl
         have hpz : dz 16 s (j + 1) = some (dzv 16 s (j + 1)) := by rw [hpv]; exact hpy
         refine pH 5 (.int .i64 (dzv 16 s (j + 1))) (fun w => Eq.trans (b := .ok (.value (.int .i64 (dzv 16 s j * 16 + (bt s j - 48)))) w) (by kernel_rfl) (by rw [hpv])) ?_
         refine pl_nil ?_
         refine au_block ?_
         refine au_then ?_
         refine rg_lit ?_
         refine pV 20 (.int .i64 (j : Int)) ?_
         refine pH 21 (.int .i64 ((j + 1 : Nat) : Int)) (iV ((j : Int) + 1) (by omega) (by omega) (by omega)) ?_
         refine pV 6 (.int .i64 ((j + 1 : Nat) : Int)) ?_
         refine nT ?_
         exact ⟨fun k_ => ([v1 4, undef, undef, .int .i64 (bt s j - 48), undef, undef, undef, undef, undef, undef, undef, undef, .int .i64 (j : Int), .string s, .int .i64 (s.size : Int), .bool true, .int .i64 (j : Int), .int .i64 ((j + 1 : Nat) : Int), .string s, .int .i64 (j : Int), .int .u8 (bt s j), .bool true, .bool true, .string s, .int .i64 (j : Int), .int .u8 (bt s j), .bool true, .bool true, .string s, .int .i64 (j : Int), .int .u8 (bt s j), .int .u8 (bt s j - 48), .int .i64 (bt s j - 48), .string s, .int .i64 (j : Int), .int .u8 (bt s j), .bool false, .bool false, undef, undef, undef, undef, .bool false, v1 47, v1 48, v1 49, v1 50, v1 51, v1 52, .int .i64 (bt s j - 48), .bool false, .bool false, .int .i64 (bt s j - 48), .int .i64 16, .bool false, .bool false, .int .i64 (dzv 16 s j), .int .i64 16, .int .i64 (dzv 16 s j * 16), .int .i64 (bt s j - 48), .int .i64 (dzv 16 s j * 16 + (bt s j - 48))] : List Value).getD (k_ - 4) undef, by kernel_rfl, M, hpz⟩
        ·skip
         refine pl_val (want_on 2 false rfl 55 rfl (by kernel_rfl)) (some 58) rfl (.bool true) (fun w => Eq.trans (b := .ok (.value (.bool (decide (16 ≤ (bt s j - 48))))) w) (by kernel_rfl) (by rw [decide_eq_true (by omega)])) ?_
         refine pV 59 (.bool true) ?_
         refine nT ?_
         refine wp_cond_true (by kernel_rfl) ?_
         refine sR ?_
         refine pV 4 (.int .i64 (-1)) ?_
         refine nT ?_
         refine wp_ret ?_
         refine au_then_ret ?_
         refine au_block_ret ?_
         refine au_then_ret ?_
         refine au_then_ret ?_
         refine au_block_ret ?_
         refine au_then_ret ?_
         have e0 : (dgs 16 s) = -1 := dgs_none hj (dz_bad hx (dd_d (bt s j) (by omega) (by omega)) (by omega))
         exact bodyPost_ret (v := .int .i64 (-1)) (results_tmp1 Tryz.results49 _ _ _ (by kernel_rfl)) (by kernel_rfl) ⟨by rw [e0], below_grown M.old⟩
      ·omega
   ·intro a u0 hI
    obtain ⟨v1, rfl, M, hx⟩ := hI
    refine wp_seq ?_
    refine sR ?_
    refine pV 16 (.int .i64 ((s.size : Nat) : Int)) ?_
    refine pV 17 (.string s) ?_
    refine pV 18 (.int .i64 (s.size : Int)) ?_
    refine pH 19 (.bool false) (dF (((s.size : Nat) : Int) < (s.size : Int)) (by omega)) ?_
    refine nT ?_
    refine wp_cond_false (by kernel_rfl) ?_
    refine wp_exit ?_
    refine au_then_exit ?_
    refine au_then_exit ?_
    refine au_block_exit ?_
    refine au_then ?_
    refine sR ?_
    refine pV 65 (.int .i64 (dzv 16 s s.size)) ?_
    refine pV 4 (.int .i64 (dzv 16 s s.size)) ?_
    refine nT ?_
    refine wp_ret ?_
    have e0 : (dgs 16 s) = (dzv 16 s s.size) := dgs_some c0 c1 hx
    exact bodyPost_ret (v := .int .i64 (dzv 16 s s.size)) (results_tmp1 Tryz.results49 _ _ _ (by kernel_rfl)) (by kernel_rfl) ⟨by rw [e0], below_grown M.old⟩
end Go.Proofs.YtndonmdgplojnaaGreatDoor

namespace Go.Proofs.YtndonmdgplojnaaGreatDoor
open Go.RowKit
def InfoIs (P : Program) (e : TypeId) (zv : Value) : Prop := ∃ i, P.info? e = some i ∧ i.zero = some zv ∧ i.size = 1 ∧ i.bytes ≤ 16
theorem infoIs {P : Program} {e : TypeId} {zv : Value} {b : Nat} (h1 : (P.info? e).map (·.zero) = some (some zv)) (h2 : (P.info? e).map (·.size) = some 1) (h3 : (P.info? e).map (·.bytes) = some b) (hb : b ≤ 16) : InfoIs P e zv := by
 cases h : P.info? e with
 | none => rw [h] at h2; cases h2
 | some i =>
  rw [h] at h1 h2 h3
  simp only [Option.map_some, Option.some.injEq] at h1 h2 h3
  exact ⟨i, h, h1, h2, by omega⟩
theorem info9 : InfoIs Tryz.prog 9 (.string ⟨#[]⟩) := infoIs (b := 16) (by kernel_rfl) (by kernel_rfl) (by kernel_rfl) (by decide)
section
variable {P : Program} {ops : Array Oper} {rest : List Oper} {o : Oper} {a : Act} {w : World} {c : Ctx} {L : List Blk} {Q : Exit → Act → World → Prop}
theorem pl_appI (M : Mem c L w) (hw : Region.wanted o (yielded ops a.tmps) = true) (d : Option Tmp) (hd : o.dst = d) (t ty e : TypeId) (zv : Value) (ht : P.underlying t = some (.slice e)) (hin : InfoIs P e zv) (hzc : zv.cells.size = 1) (i g n cap : Nat) (Z : Obj) (l : List Value) (hi : L[i]? = some ⟨g, Z⟩) (hs : SB Z cap l) (hn : l.length = n) (hle : n < 1000000) (j gx Tx : Nat) (v : Value) (hj : L[j]? = some ⟨gx, .cells (av 1 (fun _ => v)) Tx⟩) (h1 : v.oneCell' = true)
  (hrun : ∀ w, (execOp a.eval o).run P w = (do pure (Next.value (← Builtin.append_ #[t, t] ty #[.slice (some ⟨g, 0, none⟩) n cap, .slice (some ⟨gx, 0, none⟩) 1 1]))).run P w)
  (h : ∀ g' cap' Z' w', SB Z' cap' (l ++ [v]) → Mem c (L.eraseIdx i ++ [⟨g', Z'⟩]) w' → PL P ops Q rest (a.put d (.slice (some ⟨g', 0, none⟩) (n + 1) cap')) w') : PL P ops Q (o :: rest) a w := by
 obtain ⟨info, i1, i2, i3, i4⟩ := hin
 exact pl_app M hw d hd t ty e info zv ht i1 i2 i3 i4 hzc i g n cap Z l hi hs hn hle j gx Tx v hj h1 hrun h
theorem pl_app0I (M : Mem c L w) (hw : Region.wanted o (yielded ops a.tmps) = true) (d : Option Tmp) (hd : o.dst = d) (t ty e : TypeId) (zv : Value) (ht : P.underlying t = some (.slice e)) (hin : InfoIs P e zv) (hzc : zv.cells.size = 1) (j gx Tx : Nat) (v : Value) (hj : L[j]? = some ⟨gx, .cells (av 1 (fun _ => v)) Tx⟩)
  (hrun : ∀ w, (execOp a.eval o).run P w = (do pure (Next.value (← Builtin.append_ #[t, t] ty #[.slice none 0 0, .slice (some ⟨gx, 0, none⟩) 1 1]))).run P w)
  (h : ∀ g' cap' Z' w', SB Z' cap' [v] → Mem c (L ++ [⟨g', Z'⟩]) w' → PL P ops Q rest (a.put d (.slice (some ⟨g', 0, none⟩) 1 cap')) w') : PL P ops Q (o :: rest) a w := by
 obtain ⟨info, i1, i2, i3, i4⟩ := hin
 exact pl_app0 M hw d hd t ty e info zv ht i1 i2 i3 i4 hzc j gx Tx v hj hrun h
end
theorem info32 : InfoIs Tryz.prog 32 (.int .u16 0) := infoIs (b := 2) (by kernel_rfl) (by kernel_rfl) (by kernel_rfl) (by decide)
section
variable {P : Program} {ops : Array Oper} {rest : List Oper} {o : Oper} {a : Act} {w : World} {c : Ctx} {L : List Blk} {Q : Exit → Act → World → Prop}
theorem pl_makeI (M : Mem c L w) (hw : Region.wanted o (yielded ops a.tmps) = true) (d : Option Tmp) (hd : o.dst = d) (t e : TypeId) (zv : Value) (ht : P.underlying t = some (.slice e)) (hin : InfoIs P e zv) (x y : Operand) (ho : o.op = .makeSlice t x y) (kx ky : IntKind) (hx : a.eval x = .int kx 0) (cap : Nat) (hy : a.eval y = .int ky (cap : Int)) (hc : cap < 1000000)
  (h : ∀ g Z w', SB Z cap [] → Mem c (L ++ [⟨g, Z⟩]) w' → PL P ops Q rest (a.put d (.slice (some ⟨g, 0, none⟩) 0 cap)) w') : PL P ops Q (o :: rest) a w := by
 obtain ⟨info, i1, i2, i3, i4⟩ := hin
 exact pl_make M hw d hd t e info zv ht i1 i2 i3 i4 x y ho kx ky hx cap hy hc h
end
def cutf (f : Nat → Int) (j : Nat) : Nat → Int := fun i => if i < j then f i else 0
theorem cutf_upd (f : Nat → Int) (j : Nat) : upd (cutf f j) j (f j) = cutf f (j + 1) := by
 funext i
 unfold upd cutf
 by_cases h : i = j
 ·subst h
  rw [if_pos rfl, if_pos (by omega)]
 ·rw [if_neg h]
  by_cases h2 : i < j
  ·rw [if_pos h2, if_pos (by omega)]
  ·rw [if_neg h2, if_neg (by omega)]
theorem cutf_0 (f : Nat → Int) : cutf f 0 = fun _ => 0 := by
 funext i
 exact if_neg (by omega)
def gp (h l : Int) (j : Nat) : Int := cv .u16 (sr (if 4 ≤ j then l else h) (48 - 16 * ((j % 4 : Nat) : Int)).toNat)
def ggs (h l : Int) : Nat → Int := cutf (gp h l) 8
theorem cutf_nn {f : Nat → Int} {m : Int} (hm : 0 < m) (h : ∀ i, 0 ≤ f i ∧ f i < m) (j i : Nat) : 0 ≤ cutf f j i ∧ cutf f j i < m := by
 unfold cutf
 split
 ·exact h i
 ·omega
theorem gp_nn (h l : Int) (j : Nat) : 0 ≤ gp h l j ∧ gp h l j < 65536 := by
 unfold gp
 rw [cv_u16]
 omega
theorem ggs_nn (h l : Int) (j : Nat) : 0 ≤ ggs h l j ∧ ggs h l j < 65536 := cutf_nn (by decide) (gp_nn h l) 8 j
set_option maxRecDepth 100000 in
set_option maxHeartbeats 4000000 in
set_option linter.unusedSimpArgs false in
theorem c_groupsOf (v : Bool) (h l : Int) (w : World) (hL : Laid w)  :
  Calls Tryz.prog 73 #[.agg (av 3 (ls [.bool (v), .int .u64 h, .int .u64 l]))] w fun r w' => r = .returned (.agg (av 8 (w16 (ggs h l)))) ∧ Below w.heap.size w w' := by
 go_enter Tryz.func73, Tryz.ntmps73
 have M := Mem.start hL
 refine sR ?_
 refine pN M 1 (.cells (av 3 (ls [.bool (v), .int .u64 h, .int .u64 l])) 24) fun g1 u1 M => ?_
 refine pN M 2 (.cells (av 8 (w16 (fun _ => 0))) 94) fun g2 u2 M => ?_
 refine nT ?_
 refine sR ?_
 refine pN M 3 (.cells (av 8 (w16 (fun _ => 0))) 94) fun g3 u3 M => ?_
 refine nT ?_
 refine wp_seq ?_
 refine sR ?_
 refine pV 6 (.int .i64 0) ?_
 refine nT ?_
 refine wp_block ?_
 refine au_loop (fun j a w' => ∃ v1 : Nat → Value, a = ⟨#[.agg (av 3 (ls [.bool (v), .int .u64 h, .int .u64 l])), .pointer (some ⟨g1, 0, none⟩), .pointer (some ⟨g2, 0, none⟩), .pointer (some ⟨g3, 0, none⟩), v1 4, v1 5, .int .i64 (j : Int), v1 7, v1 8, v1 9, v1 10, v1 11, v1 12, v1 13, v1 14, v1 15, v1 16, v1 17, v1 18, v1 19, v1 20, v1 21, v1 22, v1 23, v1 24, undef], []⟩ ∧ Mem ⟨w, []⟩ [⟨g1, .cells (av 3 (ls [.bool (v), .int .u64 h, .int .u64 l])) 24⟩, ⟨g2, .cells (av 8 (w16 (fun _ => 0))) 94⟩, ⟨g3, .cells (av 8 (w16 (cutf (gp h l) j))) 94⟩] w') 8 ⟨fun k_ => ([undef, undef, undef, undef, undef, undef, undef, undef, undef, undef, undef, undef, undef, undef, undef, undef, undef, undef, undef, undef, undef] : List Value).getD (k_ - 4) undef, by kernel_rfl, (by rw [cutf_0]; exact M)⟩ ?_ ?_
 ·intro j a u0 hj hI
  obtain ⟨v1, rfl, M⟩ := hI
  refine sR ?_
  refine pH 7 (.bool true) (dTz ((j : Int) < 8) (by omega)) ?_
  refine nT ?_
  refine wp_seq ?_
  refine wp_cond_true (by kernel_rfl) ?_
  refine wp_skip ?_
  refine au_then ?_
  refine wp_seq ?_
  refine wp_block ?_
  refine sR ?_
  refine pV 8 (.int .i64 (j : Int)) ?_
  refine pV 4 (.int .i64 (j : Int)) ?_
  refine nT ?_
  refine sR ?_
  refine pV 9 (.pointer (some ⟨g1, 1, none⟩)) ?_
  refine pEz M 10 g1 1 (.int .u64 h) (fun w M => M.cell 0 rfl (by decide) rfl) ?_
  refine pV 5 (.int .u64 h) ?_
  refine nT ?_
  refine wp_seq ?_
  refine sR ?_
  refine pV 11 (.int .i64 (j : Int)) ?_
  by_cases c0 : (j : Int) < 4
  ·skip
   refine pH 12 (.bool false) (dF (4 ≤ (j : Int)) (by omega)) ?_
   refine nT ?_
   refine wp_cond_false (by kernel_rfl) ?_
   refine wp_skip ?_
   refine au_then ?_
   refine rg_lit ?_
   refine pV 15 (.int .i64 (j : Int)) ?_
   refine pV 16 (.int .u64 h) ?_
   refine pV 17 (.int .i64 (j : Int)) ?_
   refine pH 18 (.int .i64 ((j % 4 : Nat) : Int)) (fun w => Eq.trans (b := .ok (.value (.int .i64 (Int.tmod (j : Int) 4))) w) (by kernel_rfl) (by rw [Int.tmod_eq_emod_of_nonneg (by omega)]; rfl)) ?_
   refine pH 19 (.int .i64 (16 * ((j % 4 : Nat) : Int))) (fun w => Eq.trans (b := .ok (.value (.int .i64 (IntKind.wrap .i64 (16 * ((j % 4 : Nat) : Int))))) w) (by kernel_rfl) (by rw [wrap64 (by omega) (by omega)])) ?_
   refine pH 20 (.int .i64 (48 - (16 * ((j % 4 : Nat) : Int)))) (fun w => Eq.trans (b := .ok (.value (.int .i64 (IntKind.wrap .i64 (48 - (16 * ((j % 4 : Nat) : Int)))))) w) (by kernel_rfl) (by rw [wrap64 (by omega) (by omega)])) ?_
   refine pH 21 (.int .u64 (sr h ((48 - (16 * ((j % 4 : Nat) : Int))).toNat))) (run_shrV 22 3 _ _ rfl h .i64 ((48 - (16 * ((j % 4 : Nat) : Int))).toNat) (by kernel_rfl) (nat_of (k := .i64) (by kernel_rfl) (by omega)) (by omega)) ?_
   refine pH 22 (.int .u16 (gp h l j)) (fun w => Eq.trans (b := .ok (.value (.int .u16 (cv .u16 (sr h ((48 - (16 * ((j % 4 : Nat) : Int))).toNat))))) w) (by kernel_rfl) (by unfold gp; rw [if_neg (by omega)])) ?_
   refine pH 23 (.pointer (some ⟨g3, j, none⟩)) (run_ix1 94 8 32 Tryz.underlying94 inz32 _ _ rfl g3 (by kernel_rfl) .i64 (j) (by kernel_rfl) (by omega)) ?_
   refine pP M 2 rfl j (.int .u16 (gp h l j)) (w16 (upd (cutf (gp h l) j) j (gp h l j))) (by omega) (fun j _ => put_w16 _ _ _ j) fun u4 M => ?_
   refine pl_nil ?_
   refine au_block ?_
   refine au_then ?_
   refine rg_lit ?_
   refine pH 24 (.int .i64 ((j + 1 : Nat) : Int)) (iV ((j : Int) + 1) (by omega) (by omega) (by omega)) ?_
   refine pV 6 (.int .i64 ((j + 1 : Nat) : Int)) ?_
   refine nT ?_
   rw [cutf_upd] at M
   exact ⟨fun k_ => ([.int .i64 (j : Int), .int .u64 h, undef, .bool true, .int .i64 (j : Int), .pointer (some ⟨g1, 1, none⟩), .int .u64 h, .int .i64 (j : Int), .bool false, v1 13, v1 14, .int .i64 (j : Int), .int .u64 h, .int .i64 (j : Int), .int .i64 ((j % 4 : Nat) : Int), .int .i64 (16 * ((j % 4 : Nat) : Int)), .int .i64 (48 - (16 * ((j % 4 : Nat) : Int))), .int .u64 (sr h ((48 - (16 * ((j % 4 : Nat) : Int))).toNat)), .int .u16 (gp h l j), .pointer (some ⟨g3, j, none⟩), .int .i64 ((j + 1 : Nat) : Int)] : List Value).getD (k_ - 4) undef, by kernel_rfl, M⟩
  ·skip
   refine pH 12 (.bool true) (dTz (4 ≤ (j : Int)) (by omega)) ?_
   refine nT ?_
   refine wp_cond_true (by kernel_rfl) ?_
   refine rg_lit ?_
   refine pV 13 (.pointer (some ⟨g1, 2, none⟩)) ?_
   refine pEz M 14 g1 2 (.int .u64 l) (fun w M => M.cell 0 rfl (by decide) rfl) ?_
   refine pV 5 (.int .u64 l) ?_
   refine nT ?_
   refine rg_lit ?_
   refine pV 15 (.int .i64 (j : Int)) ?_
   refine pV 16 (.int .u64 l) ?_
   refine pV 17 (.int .i64 (j : Int)) ?_
   refine pH 18 (.int .i64 ((j % 4 : Nat) : Int)) (fun w => Eq.trans (b := .ok (.value (.int .i64 (Int.tmod (j : Int) 4))) w) (by kernel_rfl) (by rw [Int.tmod_eq_emod_of_nonneg (by omega)]; rfl)) ?_
   refine pH 19 (.int .i64 (16 * ((j % 4 : Nat) : Int))) (fun w => Eq.trans (b := .ok (.value (.int .i64 (IntKind.wrap .i64 (16 * ((j % 4 : Nat) : Int))))) w) (by kernel_rfl) (by rw [wrap64 (by omega) (by omega)])) ?_
   refine pH 20 (.int .i64 (48 - (16 * ((j % 4 : Nat) : Int)))) (fun w => Eq.trans (b := .ok (.value (.int .i64 (IntKind.wrap .i64 (48 - (16 * ((j % 4 : Nat) : Int)))))) w) (by kernel_rfl) (by rw [wrap64 (by omega) (by omega)])) ?_
   refine pH 21 (.int .u64 (sr l ((48 - (16 * ((j % 4 : Nat) : Int))).toNat))) (run_shrV 22 3 _ _ rfl l .i64 ((48 - (16 * ((j % 4 : Nat) : Int))).toNat) (by kernel_rfl) (nat_of (k := .i64) (by kernel_rfl) (by omega)) (by omega)) ?_
   refine pH 22 (.int .u16 (gp h l j)) (fun w => Eq.trans (b := .ok (.value (.int .u16 (cv .u16 (sr l ((48 - (16 * ((j % 4 : Nat) : Int))).toNat))))) w) (by kernel_rfl) (by unfold gp; rw [if_pos (by omega)])) ?_
   refine pH 23 (.pointer (some ⟨g3, j, none⟩)) (run_ix1 94 8 32 Tryz.underlying94 inz32 _ _ rfl g3 (by kernel_rfl) .i64 (j) (by kernel_rfl) (by omega)) ?_
   refine pP M 2 rfl j (.int .u16 (gp h l j)) (w16 (upd (cutf (gp h l) j) j (gp h l j))) (by omega) (fun j _ => put_w16 _ _ _ j) fun u4 M => ?_
   refine pl_nil ?_
   refine au_block ?_
   refine au_then ?_
   refine rg_lit ?_
   refine pH 24 (.int .i64 ((j + 1 : Nat) : Int)) (iV ((j : Int) + 1) (by omega) (by omega) (by omega)) ?_
   refine pV 6 (.int .i64 ((j + 1 : Nat) : Int)) ?_
   refine nT ?_
   rw [cutf_upd] at M
   exact ⟨fun k_ => ([.int .i64 (j : Int), .int .u64 l, undef, .bool true, .int .i64 (j : Int), .pointer (some ⟨g1, 1, none⟩), .int .u64 h, .int .i64 (j : Int), .bool true, .pointer (some ⟨g1, 2, none⟩), .int .u64 l, .int .i64 (j : Int), .int .u64 l, .int .i64 (j : Int), .int .i64 ((j % 4 : Nat) : Int), .int .i64 (16 * ((j % 4 : Nat) : Int)), .int .i64 (48 - (16 * ((j % 4 : Nat) : Int))), .int .u64 (sr l ((48 - (16 * ((j % 4 : Nat) : Int))).toNat)), .int .u16 (gp h l j), .pointer (some ⟨g3, j, none⟩), .int .i64 ((j + 1 : Nat) : Int)] : List Value).getD (k_ - 4) undef, by kernel_rfl, M⟩
 ·intro a u0 hI
  obtain ⟨v1, rfl, M⟩ := hI
  refine sR ?_
  refine pH 7 (.bool false) (dF ((8 : Int) < 8) (by omega)) ?_
  refine nT ?_
  refine wp_seq ?_
  refine wp_cond_false (by kernel_rfl) ?_
  refine wp_exit ?_
  refine au_then_exit ?_
  refine au_then_exit ?_
  refine au_block_exit ?_
  refine au_then ?_
  refine sR ?_
  refine pAz M 25 2 8 (w16 (cutf (gp h l) 8)) ?_
  refine pl_put M (want_no rfl) rfl 94 _ _ rfl 1 g2 0 (by kernel_rfl) 8 94 (w16 (fun _ => 0)) rfl 8 (w16 (cutf (gp h l) 8)) (w16 (cutf (gp h l) 8)) (by kernel_rfl) inz94 (by decide) (fun _ _ => rfl) (fun j hj => by rw [if_pos (by omega), Nat.sub_zero]) fun u4 M => ?_
  refine nT ?_
  refine wp_ret ?_
  have e0 : (w16 (ggs h l)) = (w16 (cutf (gp h l) 8)) := rfl
  exact bodyPost_ret (v := .agg (av 8 (w16 (cutf (gp h l) 8)))) (results_cell_row Tryz.results73 _ _ g2 94 (av 8 (w16 (cutf (gp h l) 8))) (0, 0) _ (by kernel_rfl) (M.get 1 rfl) Tryz.underlying94 rfl (by rw [av_size]; exact inz94)) (by kernel_rfl) ⟨by rw [e0], below_grown M.old⟩
def adH (f : Nat → Int) : Int := (uo (sl (uo (sl (uo (sl (uo (sl 0 16) (cv .u64 (f 0))) 16) (cv .u64 (f 1))) 16) (cv .u64 (f 2))) 16) (cv .u64 (f 3)))
def adL (f : Nat → Int) : Int := (uo (sl (uo (sl (uo (sl (uo (sl 0 16) (cv .u64 (f 4))) 16) (cv .u64 (f 5))) 16) (cv .u64 (f 6))) 16) (cv .u64 (f 7)))
set_option maxRecDepth 100000 in
set_option maxHeartbeats 4000000 in
set_option linter.unusedSimpArgs false in
theorem c_addr (f : Nat → Int) (w : World) (hL : Laid w)  :
  Calls Tryz.prog 90 #[.agg (av 8 (w16 f))] w fun r w' => r = .returned (.agg (av 3 (ls [.bool true, .int .u64 (adH f), .int .u64 (adL f)]))) ∧ Below w.heap.size w w' := by
 go_enter Tryz.func90, Tryz.ntmps90
 have M := Mem.start hL
 refine sR ?_
 refine pN M 1 (.cells (av 8 (w16 f)) 94) fun g1 u1 M => ?_
 refine pN M 2 (.cells (av 3 (ls [.bool false, .int .u64 0, .int .u64 0])) 24) fun g2 u2 M => ?_
 refine nT ?_
 refine sR ?_
 refine pV 5 (.agg (av 3 (ls [.bool true, .int .u64 0, .int .u64 0]))) ?_
 refine pN M 3 (.cells (av 3 (ls [.bool false, .int .u64 0, .int .u64 0])) 24) fun g3 u3 M => ?_
 refine pl_put M (want_no rfl) rfl 24 _ _ rfl 2 g3 0 (by kernel_rfl) 3 24 (ls [.bool false, .int .u64 0, .int .u64 0]) rfl 3 (ls [.bool true, .int .u64 0, .int .u64 0]) (ls [.bool true, .int .u64 0, .int .u64 0]) (by kernel_rfl) inz24 (by decide) (one_ls _ rfl) (fun j hj => by rw [if_pos (by omega), Nat.sub_zero]) fun u4 M => ?_
 refine nT ?_
 refine wp_seq ?_
 refine sR ?_
 refine pV 6 (.int .i64 0) ?_
 refine nT ?_
 refine wp_block ?_
 refine wp_loop_rounds 5 ?_
 refine rounds_go ?_
 refine sR ?_
 refine pV 7 (.bool true) ?_
 refine nT ?_
 refine wp_seq ?_
 refine wp_cond_true (by kernel_rfl) ?_
 refine wp_skip ?_
 refine au_then ?_
 refine wp_seq ?_
 refine wp_block ?_
 refine sR ?_
 refine pV 8 (.int .i64 0) ?_
 refine pV 4 (.int .i64 0) ?_
 refine nT ?_
 refine wp_seq ?_
 refine rg_tail M 9 (by kernel_rfl) (by kernel_rfl) ?_
 simp only [List.take_succ_cons, List.take_zero]
 refine kV 9 (.pointer (some ⟨g3, 1, none⟩)) ?_
 refine kE M 10 g3 1 (.int .u64 0) (fun w M => M.cell 2 rfl (by decide) rfl) ?_
 refine kV 11 (.int .u64 (sl 0 16)) ?_
 refine kV 12 (.int .i64 0) ?_
 refine kV 13 (.pointer (some ⟨g1, 0, none⟩)) ?_
 refine kE M 14 g1 0 (.int .u16 (f 0)) (fun w M => M.cell 0 rfl (by decide) rfl) ?_
 refine kV 15 (.int .u64 (cv .u64 (f 0))) ?_
 refine kV 16 (.int .u64 (uo (sl 0 16) (cv .u64 (f 0)))) ?_
 refine kV 17 (.pointer (some ⟨g3, 1, none⟩)) ?_
 refine kl_nil fun u5 M => ?_
 refine pP M 2 rfl 1 (.int .u64 (uo (sl 0 16) (cv .u64 (f 0)))) (ls [.bool true, .int .u64 (uo (sl 0 16) (cv .u64 (f 0))), .int .u64 0]) (by decide) (put_ls _ 1 _ _ rfl) fun u6 M => ?_
 refine nT ?_
 refine rg_tail M 10 (by kernel_rfl) (by kernel_rfl) ?_
 simp only [List.take_succ_cons, List.take_zero]
 refine kV 18 (.pointer (some ⟨g3, 2, none⟩)) ?_
 refine kE M 19 g3 2 (.int .u64 0) (fun w M => M.cell 2 rfl (by decide) rfl) ?_
 refine kV 20 (.int .u64 (sl 0 16)) ?_
 refine kV 21 (.int .i64 0) ?_
 refine kV 22 (.int .i64 4) ?_
 refine kV 23 (.pointer (some ⟨g1, 4, none⟩)) ?_
 refine kE M 24 g1 4 (.int .u16 (f 4)) (fun w M => M.cell 0 rfl (by decide) rfl) ?_
 refine kV 25 (.int .u64 (cv .u64 (f 4))) ?_
 refine kV 26 (.int .u64 (uo (sl 0 16) (cv .u64 (f 4)))) ?_
 refine kV 27 (.pointer (some ⟨g3, 2, none⟩)) ?_
 refine kl_nil fun u7 M => ?_
 refine pP M 2 rfl 2 (.int .u64 (uo (sl 0 16) (cv .u64 (f 4)))) (ls [.bool true, .int .u64 (uo (sl 0 16) (cv .u64 (f 0))), .int .u64 (uo (sl 0 16) (cv .u64 (f 4)))]) (by decide) (put_ls _ 2 _ _ rfl) fun u8 M => ?_
 refine pl_nil ?_
 refine au_block ?_
 refine au_then ?_
 refine rg_lit ?_
 refine pV 28 (.int .i64 1) ?_
 refine pV 6 (.int .i64 1) ?_
 refine nT ?_
 refine rounds_go ?_
 refine sR ?_
 refine pV 7 (.bool true) ?_
 refine nT ?_
 refine wp_seq ?_
 refine wp_cond_true (by kernel_rfl) ?_
 refine wp_skip ?_
 refine au_then ?_
 refine wp_seq ?_
 refine wp_block ?_
 refine sR ?_
 refine pV 8 (.int .i64 1) ?_
 refine pV 4 (.int .i64 1) ?_
 refine nT ?_
 refine wp_seq ?_
 refine rg_tail M 9 (by kernel_rfl) (by kernel_rfl) ?_
 simp only [List.take_succ_cons, List.take_zero]
 refine kV 9 (.pointer (some ⟨g3, 1, none⟩)) ?_
 refine kE M 10 g3 1 (.int .u64 (uo (sl 0 16) (cv .u64 (f 0)))) (fun w M => M.cell 2 rfl (by decide) rfl) ?_
 refine kV 11 (.int .u64 (sl (uo (sl 0 16) (cv .u64 (f 0))) 16)) ?_
 refine kV 12 (.int .i64 1) ?_
 refine kV 13 (.pointer (some ⟨g1, 1, none⟩)) ?_
 refine kE M 14 g1 1 (.int .u16 (f 1)) (fun w M => M.cell 0 rfl (by decide) rfl) ?_
 refine kV 15 (.int .u64 (cv .u64 (f 1))) ?_
 refine kV 16 (.int .u64 (uo (sl (uo (sl 0 16) (cv .u64 (f 0))) 16) (cv .u64 (f 1)))) ?_
 refine kV 17 (.pointer (some ⟨g3, 1, none⟩)) ?_
 refine kl_nil fun u9 M => ?_
 refine pP M 2 rfl 1 (.int .u64 (uo (sl (uo (sl 0 16) (cv .u64 (f 0))) 16) (cv .u64 (f 1)))) (ls [.bool true, .int .u64 (uo (sl (uo (sl 0 16) (cv .u64 (f 0))) 16) (cv .u64 (f 1))), .int .u64 (uo (sl 0 16) (cv .u64 (f 4)))]) (by decide) (put_ls _ 1 _ _ rfl) fun u10 M => ?_
 refine nT ?_
 refine rg_tail M 10 (by kernel_rfl) (by kernel_rfl) ?_
 simp only [List.take_succ_cons, List.take_zero]
 refine kV 18 (.pointer (some ⟨g3, 2, none⟩)) ?_
 refine kE M 19 g3 2 (.int .u64 (uo (sl 0 16) (cv .u64 (f 4)))) (fun w M => M.cell 2 rfl (by decide) rfl) ?_
 refine kV 20 (.int .u64 (sl (uo (sl 0 16) (cv .u64 (f 4))) 16)) ?_
 refine kV 21 (.int .i64 1) ?_
 refine kV 22 (.int .i64 5) ?_
 refine kV 23 (.pointer (some ⟨g1, 5, none⟩)) ?_
 refine kE M 24 g1 5 (.int .u16 (f 5)) (fun w M => M.cell 0 rfl (by decide) rfl) ?_
 refine kV 25 (.int .u64 (cv .u64 (f 5))) ?_
 refine kV 26 (.int .u64 (uo (sl (uo (sl 0 16) (cv .u64 (f 4))) 16) (cv .u64 (f 5)))) ?_
 refine kV 27 (.pointer (some ⟨g3, 2, none⟩)) ?_
 refine kl_nil fun u11 M => ?_
 refine pP M 2 rfl 2 (.int .u64 (uo (sl (uo (sl 0 16) (cv .u64 (f 4))) 16) (cv .u64 (f 5)))) (ls [.bool true, .int .u64 (uo (sl (uo (sl 0 16) (cv .u64 (f 0))) 16) (cv .u64 (f 1))), .int .u64 (uo (sl (uo (sl 0 16) (cv .u64 (f 4))) 16) (cv .u64 (f 5)))]) (by decide) (put_ls _ 2 _ _ rfl) fun u12 M => ?_
 refine pl_nil ?_
 refine au_block ?_
 refine au_then ?_
 refine rg_lit ?_
 refine pV 28 (.int .i64 2) ?_
 refine pV 6 (.int .i64 2) ?_
 refine nT ?_
 refine rounds_go ?_
 refine sR ?_
 refine pV 7 (.bool true) ?_
 refine nT ?_
 refine wp_seq ?_
 refine wp_cond_true (by kernel_rfl) ?_
 refine wp_skip ?_
 refine au_then ?_
 refine wp_seq ?_
 refine wp_block ?_
 refine sR ?_
 refine pV 8 (.int .i64 2) ?_
 refine pV 4 (.int .i64 2) ?_
 refine nT ?_
 refine wp_seq ?_
 refine rg_tail M 9 (by kernel_rfl) (by kernel_rfl) ?_
 simp only [List.take_succ_cons, List.take_zero]
 refine kV 9 (.pointer (some ⟨g3, 1, none⟩)) ?_
 refine kE M 10 g3 1 (.int .u64 (uo (sl (uo (sl 0 16) (cv .u64 (f 0))) 16) (cv .u64 (f 1)))) (fun w M => M.cell 2 rfl (by decide) rfl) ?_
 refine kV 11 (.int .u64 (sl (uo (sl (uo (sl 0 16) (cv .u64 (f 0))) 16) (cv .u64 (f 1))) 16)) ?_
 refine kV 12 (.int .i64 2) ?_
 refine kV 13 (.pointer (some ⟨g1, 2, none⟩)) ?_
 refine kE M 14 g1 2 (.int .u16 (f 2)) (fun w M => M.cell 0 rfl (by decide) rfl) ?_
 refine kV 15 (.int .u64 (cv .u64 (f 2))) ?_
 refine kV 16 (.int .u64 (uo (sl (uo (sl (uo (sl 0 16) (cv .u64 (f 0))) 16) (cv .u64 (f 1))) 16) (cv .u64 (f 2)))) ?_
 refine kV 17 (.pointer (some ⟨g3, 1, none⟩)) ?_
 refine kl_nil fun u13 M => ?_
 refine pP M 2 rfl 1 (.int .u64 (uo (sl (uo (sl (uo (sl 0 16) (cv .u64 (f 0))) 16) (cv .u64 (f 1))) 16) (cv .u64 (f 2)))) (ls [.bool true, .int .u64 (uo (sl (uo (sl (uo (sl 0 16) (cv .u64 (f 0))) 16) (cv .u64 (f 1))) 16) (cv .u64 (f 2))), .int .u64 (uo (sl (uo (sl 0 16) (cv .u64 (f 4))) 16) (cv .u64 (f 5)))]) (by decide) (put_ls _ 1 _ _ rfl) fun u14 M => ?_
 refine nT ?_
 refine rg_tail M 10 (by kernel_rfl) (by kernel_rfl) ?_
 simp only [List.take_succ_cons, List.take_zero]
 refine kV 18 (.pointer (some ⟨g3, 2, none⟩)) ?_
 refine kE M 19 g3 2 (.int .u64 (uo (sl (uo (sl 0 16) (cv .u64 (f 4))) 16) (cv .u64 (f 5)))) (fun w M => M.cell 2 rfl (by decide) rfl) ?_
 refine kV 20 (.int .u64 (sl (uo (sl (uo (sl 0 16) (cv .u64 (f 4))) 16) (cv .u64 (f 5))) 16)) ?_
 refine kV 21 (.int .i64 2) ?_
 refine kV 22 (.int .i64 6) ?_
 refine kV 23 (.pointer (some ⟨g1, 6, none⟩)) ?_
 refine kE M 24 g1 6 (.int .u16 (f 6)) (fun w M => M.cell 0 rfl (by decide) rfl) ?_
 refine kV 25 (.int .u64 (cv .u64 (f 6))) ?_
 refine kV 26 (.int .u64 (uo (sl (uo (sl (uo (sl 0 16) (cv .u64 (f 4))) 16) (cv .u64 (f 5))) 16) (cv .u64 (f 6)))) ?_
 refine kV 27 (.pointer (some ⟨g3, 2, none⟩)) ?_
 refine kl_nil fun u15 M => ?_
 refine pP M 2 rfl 2 (.int .u64 (uo (sl (uo (sl (uo (sl 0 16) (cv .u64 (f 4))) 16) (cv .u64 (f 5))) 16) (cv .u64 (f 6)))) (ls [.bool true, .int .u64 (uo (sl (uo (sl (uo (sl 0 16) (cv .u64 (f 0))) 16) (cv .u64 (f 1))) 16) (cv .u64 (f 2))), .int .u64 (uo (sl (uo (sl (uo (sl 0 16) (cv .u64 (f 4))) 16) (cv .u64 (f 5))) 16) (cv .u64 (f 6)))]) (by decide) (put_ls _ 2 _ _ rfl) fun u16 M => ?_
 refine pl_nil ?_
 refine au_block ?_
 refine au_then ?_
 refine rg_lit ?_
 refine pV 28 (.int .i64 3) ?_
 refine pV 6 (.int .i64 3) ?_
 refine nT ?_
 refine rounds_go ?_
 refine sR ?_
 refine pV 7 (.bool true) ?_
 refine nT ?_
 refine wp_seq ?_
 refine wp_cond_true (by kernel_rfl) ?_
 refine wp_skip ?_
 refine au_then ?_
 refine wp_seq ?_
 refine wp_block ?_
 refine sR ?_
 refine pV 8 (.int .i64 3) ?_
 refine pV 4 (.int .i64 3) ?_
 refine nT ?_
 refine wp_seq ?_
 refine rg_tail M 9 (by kernel_rfl) (by kernel_rfl) ?_
 simp only [List.take_succ_cons, List.take_zero]
 refine kV 9 (.pointer (some ⟨g3, 1, none⟩)) ?_
 refine kE M 10 g3 1 (.int .u64 (uo (sl (uo (sl (uo (sl 0 16) (cv .u64 (f 0))) 16) (cv .u64 (f 1))) 16) (cv .u64 (f 2)))) (fun w M => M.cell 2 rfl (by decide) rfl) ?_
 refine kV 11 (.int .u64 (sl (uo (sl (uo (sl (uo (sl 0 16) (cv .u64 (f 0))) 16) (cv .u64 (f 1))) 16) (cv .u64 (f 2))) 16)) ?_
 refine kV 12 (.int .i64 3) ?_
 refine kV 13 (.pointer (some ⟨g1, 3, none⟩)) ?_
 refine kE M 14 g1 3 (.int .u16 (f 3)) (fun w M => M.cell 0 rfl (by decide) rfl) ?_
 refine kV 15 (.int .u64 (cv .u64 (f 3))) ?_
 refine kV 16 (.int .u64 (uo (sl (uo (sl (uo (sl (uo (sl 0 16) (cv .u64 (f 0))) 16) (cv .u64 (f 1))) 16) (cv .u64 (f 2))) 16) (cv .u64 (f 3)))) ?_
 refine kV 17 (.pointer (some ⟨g3, 1, none⟩)) ?_
 refine kl_nil fun u17 M => ?_
 refine pP M 2 rfl 1 (.int .u64 (uo (sl (uo (sl (uo (sl (uo (sl 0 16) (cv .u64 (f 0))) 16) (cv .u64 (f 1))) 16) (cv .u64 (f 2))) 16) (cv .u64 (f 3)))) (ls [.bool true, .int .u64 (uo (sl (uo (sl (uo (sl (uo (sl 0 16) (cv .u64 (f 0))) 16) (cv .u64 (f 1))) 16) (cv .u64 (f 2))) 16) (cv .u64 (f 3))), .int .u64 (uo (sl (uo (sl (uo (sl 0 16) (cv .u64 (f 4))) 16) (cv .u64 (f 5))) 16) (cv .u64 (f 6)))]) (by decide) (put_ls _ 1 _ _ rfl) fun u18 M => ?_
 refine nT ?_
 refine rg_tail M 10 (by kernel_rfl) (by kernel_rfl) ?_
 simp only [List.take_succ_cons, List.take_zero]
 refine kV 18 (.pointer (some ⟨g3, 2, none⟩)) ?_
 refine kE M 19 g3 2 (.int .u64 (uo (sl (uo (sl (uo (sl 0 16) (cv .u64 (f 4))) 16) (cv .u64 (f 5))) 16) (cv .u64 (f 6)))) (fun w M => M.cell 2 rfl (by decide) rfl) ?_
 refine kV 20 (.int .u64 (sl (uo (sl (uo (sl (uo (sl 0 16) (cv .u64 (f 4))) 16) (cv .u64 (f 5))) 16) (cv .u64 (f 6))) 16)) ?_
 refine kV 21 (.int .i64 3) ?_
 refine kV 22 (.int .i64 7) ?_
 refine kV 23 (.pointer (some ⟨g1, 7, none⟩)) ?_
 refine kE M 24 g1 7 (.int .u16 (f 7)) (fun w M => M.cell 0 rfl (by decide) rfl) ?_
 refine kV 25 (.int .u64 (cv .u64 (f 7))) ?_
 refine kV 26 (.int .u64 (uo (sl (uo (sl (uo (sl (uo (sl 0 16) (cv .u64 (f 4))) 16) (cv .u64 (f 5))) 16) (cv .u64 (f 6))) 16) (cv .u64 (f 7)))) ?_
 refine kV 27 (.pointer (some ⟨g3, 2, none⟩)) ?_
 refine kl_nil fun u19 M => ?_
 refine pP M 2 rfl 2 (.int .u64 (uo (sl (uo (sl (uo (sl (uo (sl 0 16) (cv .u64 (f 4))) 16) (cv .u64 (f 5))) 16) (cv .u64 (f 6))) 16) (cv .u64 (f 7)))) (ls [.bool true, .int .u64 (uo (sl (uo (sl (uo (sl (uo (sl 0 16) (cv .u64 (f 0))) 16) (cv .u64 (f 1))) 16) (cv .u64 (f 2))) 16) (cv .u64 (f 3))), .int .u64 (uo (sl (uo (sl (uo (sl (uo (sl 0 16) (cv .u64 (f 4))) 16) (cv .u64 (f 5))) 16) (cv .u64 (f 6))) 16) (cv .u64 (f 7)))]) (by decide) (put_ls _ 2 _ _ rfl) fun u20 M => ?_
 refine pl_nil ?_
 refine au_block ?_
 refine au_then ?_
 refine rg_lit ?_
 refine pV 28 (.int .i64 4) ?_
 refine pV 6 (.int .i64 4) ?_
 refine nT ?_
 refine rounds_go ?_
 refine sR ?_
 refine pV 7 (.bool false) ?_
 refine nT ?_
 refine wp_seq ?_
 refine wp_cond_false (by kernel_rfl) ?_
 refine wp_exit ?_
 refine au_then_exit ?_
 refine au_then_exit ?_
 refine au_block_exit ?_
 refine au_then ?_
 refine sR ?_
 refine pAz M 29 2 3 (ls [.bool true, .int .u64 (uo (sl (uo (sl (uo (sl (uo (sl 0 16) (cv .u64 (f 0))) 16) (cv .u64 (f 1))) 16) (cv .u64 (f 2))) 16) (cv .u64 (f 3))), .int .u64 (uo (sl (uo (sl (uo (sl (uo (sl 0 16) (cv .u64 (f 4))) 16) (cv .u64 (f 5))) 16) (cv .u64 (f 6))) 16) (cv .u64 (f 7)))]) ?_
 refine pl_put M (want_no rfl) rfl 24 _ _ rfl 1 g2 0 (by kernel_rfl) 3 24 (ls [.bool false, .int .u64 0, .int .u64 0]) rfl 3 (ls [.bool true, .int .u64 (uo (sl (uo (sl (uo (sl (uo (sl 0 16) (cv .u64 (f 0))) 16) (cv .u64 (f 1))) 16) (cv .u64 (f 2))) 16) (cv .u64 (f 3))), .int .u64 (uo (sl (uo (sl (uo (sl (uo (sl 0 16) (cv .u64 (f 4))) 16) (cv .u64 (f 5))) 16) (cv .u64 (f 6))) 16) (cv .u64 (f 7)))]) (ls [.bool true, .int .u64 (uo (sl (uo (sl (uo (sl (uo (sl 0 16) (cv .u64 (f 0))) 16) (cv .u64 (f 1))) 16) (cv .u64 (f 2))) 16) (cv .u64 (f 3))), .int .u64 (uo (sl (uo (sl (uo (sl (uo (sl 0 16) (cv .u64 (f 4))) 16) (cv .u64 (f 5))) 16) (cv .u64 (f 6))) 16) (cv .u64 (f 7)))]) (by kernel_rfl) inz24 (by decide) (one_ls _ rfl) (fun j hj => by rw [if_pos (by omega), Nat.sub_zero]) fun u21 M => ?_
 refine nT ?_
 refine wp_ret ?_
 have e0 : (adH f) = (uo (sl (uo (sl (uo (sl (uo (sl 0 16) (cv .u64 (f 0))) 16) (cv .u64 (f 1))) 16) (cv .u64 (f 2))) 16) (cv .u64 (f 3))) := rfl
 have e1 : (adL f) = (uo (sl (uo (sl (uo (sl (uo (sl 0 16) (cv .u64 (f 4))) 16) (cv .u64 (f 5))) 16) (cv .u64 (f 6))) 16) (cv .u64 (f 7))) := rfl
 exact bodyPost_ret (v := .agg (av 3 (ls [.bool true, .int .u64 (uo (sl (uo (sl (uo (sl (uo (sl 0 16) (cv .u64 (f 0))) 16) (cv .u64 (f 1))) 16) (cv .u64 (f 2))) 16) (cv .u64 (f 3))), .int .u64 (uo (sl (uo (sl (uo (sl (uo (sl 0 16) (cv .u64 (f 4))) 16) (cv .u64 (f 5))) 16) (cv .u64 (f 6))) 16) (cv .u64 (f 7)))]))) (results_cell_row Tryz.results90 _ _ g2 24 (av 3 (ls [.bool true, .int .u64 (uo (sl (uo (sl (uo (sl (uo (sl 0 16) (cv .u64 (f 0))) 16) (cv .u64 (f 1))) 16) (cv .u64 (f 2))) 16) (cv .u64 (f 3))), .int .u64 (uo (sl (uo (sl (uo (sl (uo (sl 0 16) (cv .u64 (f 4))) 16) (cv .u64 (f 5))) 16) (cv .u64 (f 6))) 16) (cv .u64 (f 7)))])) (0, 0) _ (by kernel_rfl) (M.get 1 rfl) Tryz.underlying24 rfl (by rw [av_size]; exact inz24)) (by kernel_rfl) ⟨by rw [e0, e1], below_grown M.old⟩
def uN (f : Nat → Int) (j : Nat) (x : Int × Int × Int) : Int × Int × Int := if max (x.2.2 - x.2.1) 1 < (j : Int) + 1 - (if f j = 0 then x.1 else (j : Int) + 1) then ((if f j = 0 then x.1 else (j : Int) + 1), (if f j = 0 then x.1 else (j : Int) + 1), (j : Int) + 1) else ((if f j = 0 then x.1 else (j : Int) + 1), x.2.1, x.2.2)
def uS (f : Nat → Int) : Nat → Int × Int × Int
 | 0 => (0, 0, 0)
 | j + 1 => uN f j (uS f j)
theorem uS_nn (f : Nat → Int) (j : Nat) : 0 ≤ (uS f j).1 ∧ (uS f j).1 ≤ j ∧ 0 ≤ (uS f j).2.1 ∧ (uS f j).2.1 ≤ (uS f j).2.2 ∧ (uS f j).2.2 ≤ j := by
 induction j with
 | zero =>
  show (0 : Int) ≤ 0 ∧ (0 : Int) ≤ ((0 : Nat) : Int) ∧ (0 : Int) ≤ 0 ∧ (0 : Int) ≤ 0 ∧ (0 : Int) ≤ ((0 : Nat) : Int)
  decide
 | succ j ih =>
  show 0 ≤ (uN f j (uS f j)).1 ∧ (uN f j (uS f j)).1 ≤ ((j + 1 : Nat) : Int) ∧ 0 ≤ (uN f j (uS f j)).2.1 ∧ (uN f j (uS f j)).2.1 ≤ (uN f j (uS f j)).2.2 ∧ (uN f j (uS f j)).2.2 ≤ ((j + 1 : Nat) : Int)
  unfold uN
  by_cases h : f j = 0
  ·rw [if_pos h]
   split <;> simp only <;> omega
  ·rw [if_neg h]
   split <;> simp only <;> omega
set_option maxRecDepth 100000 in
set_option maxHeartbeats 4000000 in
set_option linter.unusedSimpArgs false in
theorem c_untold (f : Nat → Int) (w : World) (hL : Laid w)  :
  Calls Tryz.prog 74 #[.agg (av 8 (w16 f))] w fun r w' => r = .returned (.tuple #[.int .i64 (uS f 8).2.1, .int .i64 (uS f 8).2.2]) ∧ Below w.heap.size w w' := by
 go_enter Tryz.func74, Tryz.ntmps74
 have M := Mem.start hL
 refine sR ?_
 refine pN M 1 (.cells (av 8 (w16 f)) 94) fun g1 u1 M => ?_
 refine pV 2 (.int .i64 0) ?_
 refine pV 3 (.int .i64 0) ?_
 refine nT ?_
 refine sR ?_
 refine pV 4 (.int .i64 0) ?_
 refine nT ?_
 refine wp_seq ?_
 refine sR ?_
 refine pAz M 7 0 8 (w16 f) ?_
 refine pV 8 (.int .i64 0) ?_
 refine nT ?_
 refine wp_block ?_
 refine au_loop (fun j a w' => ∃ v1 : Nat → Value, a = ⟨#[.agg (av 8 (w16 f)), .pointer (some ⟨g1, 0, none⟩), .int .i64 (uS f j).2.1, .int .i64 (uS f j).2.2, .int .i64 (uS f j).1, v1 5, v1 6, .agg (av 8 (w16 f)), .int .i64 (j : Int), v1 9, v1 10, v1 11, v1 12, v1 13, v1 14, v1 15, v1 16, v1 17, v1 18, v1 19, v1 20, v1 21, v1 22, v1 23, v1 24, v1 25, v1 26, v1 27, v1 28, undef, undef], []⟩ ∧ Mem ⟨w, []⟩ [⟨g1, .cells (av 8 (w16 f)) 94⟩] w') 8 ⟨fun k_ => ([undef, undef, undef, undef, undef, undef, undef, undef, undef, undef, undef, undef, undef, undef, undef, undef, undef, undef, undef, undef, undef, undef, undef, undef] : List Value).getD (k_ - 5) undef, by kernel_rfl, M⟩ ?_ ?_
 ·intro j a u0 hj hI
  obtain ⟨v1, rfl, M⟩ := hI
  have hu := uS_nn f j
  refine sR ?_
  refine pH 9 (.bool true) (dTz ((j : Int) < 8) (by omega)) ?_
  refine nT ?_
  refine wp_seq ?_
  refine wp_cond_true (by kernel_rfl) ?_
  refine wp_skip ?_
  refine au_then ?_
  refine wp_seq ?_
  refine wp_block ?_
  refine sR ?_
  refine pV 10 (.int .i64 (j : Int)) ?_
  refine pH 11 (.int .u16 (f j)) (run_ixA 94 8 32 Tryz.underlying94 inz32 (fun _ => by kernel_rfl) _ _ rfl (w16 f) (by kernel_rfl) .i64 j (by kernel_rfl) (by omega) rfl) ?_
  refine pV 5 (.int .i64 (j : Int)) ?_
  refine pV 6 (.int .u16 (f j)) ?_
  refine nT ?_
  refine wp_seq ?_
  refine sR ?_
  refine pV 12 (.int .u16 (f j)) ?_
  by_cases c0 : (f j) = 0
  ·skip
   refine pH 13 (.bool false) (nF ((f j) = 0) (c0)) ?_
   refine nT ?_
   refine wp_cond_false (by kernel_rfl) ?_
   refine wp_skip ?_
   refine au_then ?_
   refine sR ?_
   refine pV 16 (.int .i64 (j : Int)) ?_
   refine pH 17 (.int .i64 ((j : Int) + 1)) (fun w => Eq.trans (b := .ok (.value (.int .i64 (IntKind.wrap .i64 ((j : Int) + 1)))) w) (by kernel_rfl) (by rw [wrap64 (by omega) (by omega)])) ?_
   refine pV 18 (.int .i64 (uS f j).1) ?_
   refine pH 19 (.int .i64 (((j : Int) + 1) - ((uS f j).1))) (fun w => Eq.trans (b := .ok (.value (.int .i64 (IntKind.wrap .i64 (((j : Int) + 1) - ((uS f j).1))))) w) (by kernel_rfl) (by rw [wrap64 (by omega) (by omega)])) ?_
   refine pV 20 (.int .i64 (uS f j).2.2) ?_
   refine pV 21 (.int .i64 (uS f j).2.1) ?_
   refine pH 22 (.int .i64 (((uS f j).2.2) - ((uS f j).2.1))) (fun w => Eq.trans (b := .ok (.value (.int .i64 (IntKind.wrap .i64 (((uS f j).2.2) - ((uS f j).2.1))))) w) (by kernel_rfl) (by rw [wrap64 (by omega) (by omega)])) ?_
   refine pH 23 (.int .i64 (max (((uS f j).2.2) - ((uS f j).2.1)) 1)) (fun w => Eq.trans (b := .ok (.value (.int .i64 (if (1 : Int) > (((uS f j).2.2) - ((uS f j).2.1)) then 1 else (((uS f j).2.2) - ((uS f j).2.1))))) w) (by kernel_rfl) (by rw [if_max])) ?_
   by_cases c1 : (max (((uS f j).2.2) - ((uS f j).2.1)) 1) < (((j : Int) + 1) - ((uS f j).1))
   ·skip
    refine pH 24 (.bool true) (dTz ((max (((uS f j).2.2) - ((uS f j).2.1)) 1) < (((j : Int) + 1) - ((uS f j).1))) (c1)) ?_
    refine nT ?_
    refine wp_cond_true (by kernel_rfl) ?_
    refine rg_lit ?_
    refine pV 25 (.int .i64 (uS f j).1) ?_
    refine pV 26 (.int .i64 (j : Int)) ?_
    refine pH 27 (.int .i64 ((j : Int) + 1)) (fun w => Eq.trans (b := .ok (.value (.int .i64 (IntKind.wrap .i64 ((j : Int) + 1)))) w) (by kernel_rfl) (by rw [wrap64 (by omega) (by omega)])) ?_
    refine pV 2 (.int .i64 (uS f j).1) ?_
    refine pV 3 (.int .i64 ((j : Int) + 1)) ?_
    refine pl_nil ?_
    refine au_block ?_
    refine au_then ?_
    refine rg_lit ?_
    refine pH 28 (.int .i64 ((j + 1 : Nat) : Int)) (iV ((j : Int) + 1) (by omega) (by omega) (by omega)) ?_
    refine pV 8 (.int .i64 ((j + 1 : Nat) : Int)) ?_
    refine nT ?_
    have hU : uS f (j + 1) = ((uS f j).1, (uS f j).1, ((j : Int) + 1)) := by show uN f j (uS f j) = _; unfold uN; rw [if_pos c0, if_pos c1]
    exact ⟨fun k_ => ([.int .i64 (j : Int), .int .u16 (f j), undef, undef, .bool true, .int .i64 (j : Int), .int .u16 (f j), .int .u16 (f j), .bool false, v1 14, v1 15, .int .i64 (j : Int), .int .i64 ((j : Int) + 1), .int .i64 (uS f j).1, .int .i64 (((j : Int) + 1) - ((uS f j).1)), .int .i64 (uS f j).2.2, .int .i64 (uS f j).2.1, .int .i64 (((uS f j).2.2) - ((uS f j).2.1)), .int .i64 (max (((uS f j).2.2) - ((uS f j).2.1)) 1), .bool true, .int .i64 (uS f j).1, .int .i64 (j : Int), .int .i64 ((j : Int) + 1), .int .i64 ((j + 1 : Nat) : Int)] : List Value).getD (k_ - 5) undef, by rw [hU]; kernel_rfl, M⟩
   ·skip
    refine pH 24 (.bool false) (dF ((max (((uS f j).2.2) - ((uS f j).2.1)) 1) < (((j : Int) + 1) - ((uS f j).1))) (c1)) ?_
    refine nT ?_
    refine wp_cond_false (by kernel_rfl) ?_
    refine wp_skip ?_
    refine au_block ?_
    refine au_then ?_
    refine rg_lit ?_
    refine pH 28 (.int .i64 ((j + 1 : Nat) : Int)) (iV ((j : Int) + 1) (by omega) (by omega) (by omega)) ?_
    refine pV 8 (.int .i64 ((j + 1 : Nat) : Int)) ?_
    refine nT ?_
    have hU : uS f (j + 1) = ((uS f j).1, (uS f j).2.1, (uS f j).2.2) := by show uN f j (uS f j) = _; unfold uN; rw [if_pos c0, if_neg c1]
    exact ⟨fun k_ => ([.int .i64 (j : Int), .int .u16 (f j), undef, undef, .bool true, .int .i64 (j : Int), .int .u16 (f j), .int .u16 (f j), .bool false, v1 14, v1 15, .int .i64 (j : Int), .int .i64 ((j : Int) + 1), .int .i64 (uS f j).1, .int .i64 (((j : Int) + 1) - ((uS f j).1)), .int .i64 (uS f j).2.2, .int .i64 (uS f j).2.1, .int .i64 (((uS f j).2.2) - ((uS f j).2.1)), .int .i64 (max (((uS f j).2.2) - ((uS f j).2.1)) 1), .bool false, v1 25, v1 26, v1 27, .int .i64 ((j + 1 : Nat) : Int)] : List Value).getD (k_ - 5) undef, by rw [hU]; kernel_rfl, M⟩
  ·skip
   refine pH 13 (.bool true) (nU ((f j) = 0) (c0)) ?_
   refine nT ?_
   refine wp_cond_true (by kernel_rfl) ?_
   refine rg_lit ?_
   refine pV 14 (.int .i64 (j : Int)) ?_
   refine pH 15 (.int .i64 ((j : Int) + 1)) (fun w => Eq.trans (b := .ok (.value (.int .i64 (IntKind.wrap .i64 ((j : Int) + 1)))) w) (by kernel_rfl) (by rw [wrap64 (by omega) (by omega)])) ?_
   refine pV 4 (.int .i64 ((j : Int) + 1)) ?_
   refine nT ?_
   refine sR ?_
   refine pV 16 (.int .i64 (j : Int)) ?_
   refine pH 17 (.int .i64 ((j : Int) + 1)) (fun w => Eq.trans (b := .ok (.value (.int .i64 (IntKind.wrap .i64 ((j : Int) + 1)))) w) (by kernel_rfl) (by rw [wrap64 (by omega) (by omega)])) ?_
   refine pV 18 (.int .i64 ((j : Int) + 1)) ?_
   refine pH 19 (.int .i64 (((j : Int) + 1) - ((j : Int) + 1))) (fun w => Eq.trans (b := .ok (.value (.int .i64 (IntKind.wrap .i64 (((j : Int) + 1) - ((j : Int) + 1))))) w) (by kernel_rfl) (by rw [wrap64 (by omega) (by omega)])) ?_
   refine pV 20 (.int .i64 (uS f j).2.2) ?_
   refine pV 21 (.int .i64 (uS f j).2.1) ?_
   refine pH 22 (.int .i64 (((uS f j).2.2) - ((uS f j).2.1))) (fun w => Eq.trans (b := .ok (.value (.int .i64 (IntKind.wrap .i64 (((uS f j).2.2) - ((uS f j).2.1))))) w) (by kernel_rfl) (by rw [wrap64 (by omega) (by omega)])) ?_
   refine pH 23 (.int .i64 (max (((uS f j).2.2) - ((uS f j).2.1)) 1)) (fun w => Eq.trans (b := .ok (.value (.int .i64 (if (1 : Int) > (((uS f j).2.2) - ((uS f j).2.1)) then 1 else (((uS f j).2.2) - ((uS f j).2.1))))) w) (by kernel_rfl) (by rw [if_max])) ?_
   by_cases c1 : (max (((uS f j).2.2) - ((uS f j).2.1)) 1) < (((j : Int) + 1) - ((j : Int) + 1))
   ·skip
    refine pH 24 (.bool true) (dTz ((max (((uS f j).2.2) - ((uS f j).2.1)) 1) < (((j : Int) + 1) - ((j : Int) + 1))) (c1)) ?_
    refine nT ?_
    refine wp_cond_true (by kernel_rfl) ?_
    refine rg_lit ?_
    refine pV 25 (.int .i64 ((j : Int) + 1)) ?_
    refine pV 26 (.int .i64 (j : Int)) ?_
    refine pH 27 (.int .i64 ((j : Int) + 1)) (fun w => Eq.trans (b := .ok (.value (.int .i64 (IntKind.wrap .i64 ((j : Int) + 1)))) w) (by kernel_rfl) (by rw [wrap64 (by omega) (by omega)])) ?_
    refine pV 2 (.int .i64 ((j : Int) + 1)) ?_
    refine pV 3 (.int .i64 ((j : Int) + 1)) ?_
    refine pl_nil ?_
    refine au_block ?_
    refine au_then ?_
    refine rg_lit ?_
    refine pH 28 (.int .i64 ((j + 1 : Nat) : Int)) (iV ((j : Int) + 1) (by omega) (by omega) (by omega)) ?_
    refine pV 8 (.int .i64 ((j + 1 : Nat) : Int)) ?_
    refine nT ?_
    have hU : uS f (j + 1) = (((j : Int) + 1), ((j : Int) + 1), ((j : Int) + 1)) := by show uN f j (uS f j) = _; unfold uN; rw [if_neg c0, if_pos c1]
    exact ⟨fun k_ => ([.int .i64 (j : Int), .int .u16 (f j), undef, undef, .bool true, .int .i64 (j : Int), .int .u16 (f j), .int .u16 (f j), .bool true, .int .i64 (j : Int), .int .i64 ((j : Int) + 1), .int .i64 (j : Int), .int .i64 ((j : Int) + 1), .int .i64 ((j : Int) + 1), .int .i64 (((j : Int) + 1) - ((j : Int) + 1)), .int .i64 (uS f j).2.2, .int .i64 (uS f j).2.1, .int .i64 (((uS f j).2.2) - ((uS f j).2.1)), .int .i64 (max (((uS f j).2.2) - ((uS f j).2.1)) 1), .bool true, .int .i64 ((j : Int) + 1), .int .i64 (j : Int), .int .i64 ((j : Int) + 1), .int .i64 ((j + 1 : Nat) : Int)] : List Value).getD (k_ - 5) undef, by rw [hU]; kernel_rfl, M⟩
   ·skip
    refine pH 24 (.bool false) (dF ((max (((uS f j).2.2) - ((uS f j).2.1)) 1) < (((j : Int) + 1) - ((j : Int) + 1))) (c1)) ?_
    refine nT ?_
    refine wp_cond_false (by kernel_rfl) ?_
    refine wp_skip ?_
    refine au_block ?_
    refine au_then ?_
    refine rg_lit ?_
    refine pH 28 (.int .i64 ((j + 1 : Nat) : Int)) (iV ((j : Int) + 1) (by omega) (by omega) (by omega)) ?_
    refine pV 8 (.int .i64 ((j + 1 : Nat) : Int)) ?_
    refine nT ?_
    have hU : uS f (j + 1) = (((j : Int) + 1), (uS f j).2.1, (uS f j).2.2) := by show uN f j (uS f j) = _; unfold uN; rw [if_neg c0, if_neg c1]
    exact ⟨fun k_ => ([.int .i64 (j : Int), .int .u16 (f j), undef, undef, .bool true, .int .i64 (j : Int), .int .u16 (f j), .int .u16 (f j), .bool true, .int .i64 (j : Int), .int .i64 ((j : Int) + 1), .int .i64 (j : Int), .int .i64 ((j : Int) + 1), .int .i64 ((j : Int) + 1), .int .i64 (((j : Int) + 1) - ((j : Int) + 1)), .int .i64 (uS f j).2.2, .int .i64 (uS f j).2.1, .int .i64 (((uS f j).2.2) - ((uS f j).2.1)), .int .i64 (max (((uS f j).2.2) - ((uS f j).2.1)) 1), .bool false, v1 25, v1 26, v1 27, .int .i64 ((j + 1 : Nat) : Int)] : List Value).getD (k_ - 5) undef, by rw [hU]; kernel_rfl, M⟩
 ·intro a u0 hI
  obtain ⟨v1, rfl, M⟩ := hI
  refine sR ?_
  refine pH 9 (.bool false) (dF ((8 : Int) < 8) (by omega)) ?_
  refine nT ?_
  refine wp_seq ?_
  refine wp_cond_false (by kernel_rfl) ?_
  refine wp_exit ?_
  refine au_then_exit ?_
  refine au_then_exit ?_
  refine au_block_exit ?_
  refine au_then ?_
  refine sR ?_
  refine pV 29 (.int .i64 (uS f 8).2.1) ?_
  refine pV 30 (.int .i64 (uS f 8).2.2) ?_
  refine pV 2 (.int .i64 (uS f 8).2.1) ?_
  refine pV 3 (.int .i64 (uS f 8).2.2) ?_
  refine nT ?_
  refine wp_ret ?_
  exact bodyPost_ret (v := .tuple #[.int .i64 (uS f 8).2.1, .int .i64 (uS f 8).2.2]) (results_tmp2 Tryz.results74 _ _ _ _ (by kernel_rfl) (by kernel_rfl)) (by kernel_rfl) ⟨rfl, below_grown M.old⟩
def ws16 (f : Nat → Int) (n : Nat) : List ByteArray := (List.range n).map fun i => hxT (f i).toNat
def ws10 (f : Nat → Int) (n : Nat) : List ByteArray := (List.range n).map fun i => dcT (((f i).toNat : Nat) : Int)
theorem ws16_len (f : Nat → Int) (n : Nat) : (ws16 f n).length = n := by simp [ws16]
theorem ws10_len (f : Nat → Int) (n : Nat) : (ws10 f n).length = n := by simp [ws10]
theorem vS_len (l : List ByteArray) : (vS l).length = l.length := by simp [vS]
theorem ws16_step (f : Nat → Int) (j : Nat) : vS (ws16 f (j + 1)) = vS (ws16 f j) ++ [.string (hxT (f j).toNat)] := by simp [vS, ws16, List.range_succ]
theorem ws10_step (f : Nat → Int) (j : Nat) : vS (ws10 f (j + 1)) = vS (ws10 f j) ++ [.string (dcT (((f j).toNat : Nat) : Int))] := by simp [vS, ws10, List.range_succ]
theorem join_le (m : Nat) (sep : List UInt8) (xs : List (List UInt8)) (h : ∀ x ∈ xs, x.length ≤ m) : (Lib.join xs sep).length ≤ xs.length * (m + sep.length) := by
 cases xs with
 | nil => simp [Lib.join]
 | cons x r =>
  rw [Lib.join_length]
  have e : ∀ l : List (List UInt8), (∀ y ∈ l, y.length ≤ m) → Lib.lens l ≤ l.length * m := fun l hl => by
   induction l with
   | nil => simp [Lib.lens]
   | cons a l ih =>
    have h1 := hl a (List.mem_cons_self ..)
    have h2 := ih fun y hy => hl y (List.mem_cons_of_mem _ hy)
    simp only [Lib.lens, List.map_cons, List.sum_cons, List.length_cons] at h2 ⊢
    rw [Nat.add_mul, Nat.one_mul]
    omega
  have h3 := e (x :: r) h
  have h4 : (r.length + 1) * (m + sep.length) = (r.length + 1) * m + (r.length * sep.length + sep.length) := by rw [Nat.mul_add, Nat.add_mul r.length 1 sep.length, Nat.one_mul]
  have h5 := Nat.mul_comm sep.length r.length
  rw [List.length_cons] at h3 ⊢
  omega
theorem c_JoinN (g cap n : Nat) (Z : Obj) (xs : List ByteArray) (sep : ByteArray) (hx : xs.length = n) (hN : n ≤ 1000) (hlen : (Lib.join (xs.map (·.data.toList)) sep.data.toList).length ≤ 100000) (w : World) (hg : w.heap[g]? = some Z) (hs : SB Z cap (vS xs)) :
  Calls Tryz.prog 94 #[.slice (some ⟨g, 0, none⟩) n cap, .string sep] w fun r w' => r = .returned (.string (jn xs sep)) ∧ Below w.heap.size w w' := by
 subst hx
 exact c_Join g cap Z xs sep hN hlen w hg hs
theorem hxT_size (n : Nat) : (hxT n).size ≤ 4 := by
 unfold hxT
 split
 ·rw [bs_size]; exact Nat.le_of_ble_eq_true rfl
 ·split
  ·rw [bs_size]; exact Nat.le_of_ble_eq_true rfl
  ·split <;> (rw [bs_size]; exact Nat.le_of_ble_eq_true rfl)
theorem dcT_size (x : Int) : (dcT x).size ≤ 3 := by
 unfold dcT
 split
 ·rw [bs_size]; exact Nat.le_of_ble_eq_true rfl
 ·split <;> (rw [bs_size]; exact Nat.le_of_ble_eq_true rfl)
theorem ws16_join (f : Nat → Int) (n : Nat) (hn : n ≤ 8) (sep : ByteArray) (hs : sep.size ≤ 4) : (Lib.join ((ws16 f n).map (·.data.toList)) sep.data.toList).length ≤ 100 := by
 have := join_le 4 sep.data.toList ((ws16 f n).map (·.data.toList)) (fun x hx => by
  obtain ⟨y, hy, rfl⟩ := List.mem_map.1 hx
  obtain ⟨i, _, rfl⟩ := List.mem_map.1 hy
  exact hxT_size _)
 rw [List.length_map, ws16_len] at this
 have e : sep.data.toList.length = sep.size := rfl
 rw [e] at this
 have h2 : n * (4 + sep.size) ≤ 8 * 8 := Nat.mul_le_mul hn (by omega)
 omega
theorem ws10_join (f : Nat → Int) (n : Nat) (hn : n ≤ 8) (sep : ByteArray) (hs : sep.size ≤ 4) : (Lib.join ((ws10 f n).map (·.data.toList)) sep.data.toList).length ≤ 100 := by
 have := join_le 4 sep.data.toList ((ws10 f n).map (·.data.toList)) (fun x hx => by
  obtain ⟨y, hy, rfl⟩ := List.mem_map.1 hx
  obtain ⟨i, _, rfl⟩ := List.mem_map.1 hy
  have := dcT_size (((f i).toNat : Nat) : Int)
  show (dcT _).size ≤ 4
  omega)
 rw [List.length_map, ws10_len] at this
 have e : sep.data.toList.length = sep.size := rfl
 rw [e] at this
 have h2 : n * (4 + sep.size) ≤ 8 * 8 := Nat.mul_le_mul hn (by omega)
 omega
set_option maxRecDepth 100000 in
set_option maxHeartbeats 4000000 in
set_option linter.unusedSimpArgs false in
theorem c_joined16 (g o n cap : Nat) (f : Nat → Int) (sep : ByteArray) (hn : n ≤ 8) (hs : sep.size ≤ 4) (hf : ∀ i, 0 ≤ f i ∧ f i < 65536) (w : World) (hL : Laid w) (hc : ∀ i, i < n → w.cell? ⟨g, o + i, none⟩ = some (.int .u16 (f i))) :
  Calls Tryz.prog 75 #[.slice (some ⟨g, o, none⟩) n cap, .string sep, .int .i64 16] w fun r w' => r = .returned (.string (jn (ws16 f n) sep)) ∧ Below w.heap.size w w' := by
 go_enter Tryz.func75, Tryz.ntmps75
 have M := Mem.start hL
 refine sR ?_
 refine pV 6 (.string ⟨#[]⟩) ?_
 refine nT ?_
 refine sR ?_
 refine pV 10 (.slice (some ⟨g, o, none⟩) n cap) ?_
 refine pV 11 (.int .i64 (n : Int)) ?_
 refine pl_makeI M (want_no rfl) (some 12) rfl 72 9 (.string ⟨#[]⟩) Tryz.underlying72 info9 _ _ rfl .i64 .i64 (by kernel_rfl) n (by kernel_rfl) (by omega) ?_
 intro g8 Z8 u1 hZ8 M
 refine pV 7 (.slice (some ⟨g8, 0, none⟩) 0 n) ?_
 refine nT ?_
 refine wp_seq ?_
 refine sR ?_
 refine pV 13 (.slice (some ⟨g, o, none⟩) n cap) ?_
 refine pV 14 (.int .i64 (n : Int)) ?_
 refine pV 15 (.int .i64 0) ?_
 refine nT ?_
 refine wp_block ?_
 refine au_loop (fun j a w' => ∃ (v1 : Nat → Value) (g9 cap9 : Nat) (Z9 : Obj), a = ⟨#[.slice (some ⟨g, o, none⟩) n cap, .string sep, .int .i64 16, undef, undef, undef, .string ⟨#[]⟩, .slice (some ⟨g9, 0, none⟩) j cap9, undef, v1 9, .slice (some ⟨g, o, none⟩) n cap, .int .i64 (n : Int), .slice (some ⟨g8, 0, none⟩) 0 n, .slice (some ⟨g, o, none⟩) n cap, .int .i64 (n : Int), .int .i64 (j : Int), v1 16, v1 17, v1 18, v1 19, v1 20, v1 21, v1 22, v1 23, v1 24, v1 25, v1 26, undef, undef, undef], []⟩ ∧ SB Z9 cap9 (vS (ws16 f j)) ∧ Mem ⟨w, []⟩ [⟨g9, Z9⟩] w') n ⟨fun k_ => ([undef, undef, undef, undef, undef, undef, undef, undef, undef, undef, undef, undef, undef, undef, undef, undef, undef, undef] : List Value).getD (k_ - 9) undef, g8, n, Z8, by kernel_rfl, hZ8, M⟩ ?_ ?_
 ·intro j a u0 hj hI
  obtain ⟨v1, g9, cap9, Z9, rfl, hZ9, M⟩ := hI
  refine sR ?_
  refine pH 16 (.bool true) (dTz ((j : Int) < (n : Int)) (by omega)) ?_
  refine nT ?_
  refine wp_seq ?_
  refine wp_cond_true (by kernel_rfl) ?_
  refine wp_skip ?_
  refine au_then ?_
  refine wp_seq ?_
  refine wp_block ?_
  refine sR ?_
  refine pH 17 (.pointer (some ⟨g, (o + j), none⟩)) (run_ixL 99 32 Tryz.underlying99 inz32 _ _ rfl g o n cap (by kernel_rfl) .i64 j (by kernel_rfl) (by omega)) ?_
  refine pEz M 18 g (o + j) (.int .u16 (f j)) (fun w M => M.oldc (hc j (by omega)) (by simp)) ?_
  refine pV 9 (.int .u16 (f j)) ?_
  refine nT ?_
  refine rg_lit ?_
  refine pV 19 (.slice (some ⟨g9, 0, none⟩) j cap9) ?_
  refine pV 20 (.int .u16 (f j)) ?_
  refine pH 21 (.int .u64 (((f j).toNat : Nat) : Int)) (fun w => Eq.trans (b := .ok (.value (.int .u64 (cv .u64 (f j)))) w) (by kernel_rfl) (by have := hf j; rw [cv_u64]; congr 3; omega)) ?_
  refine pV 22 (.int .i64 16) ?_
  refine pC M 23 53 #[.int .u64 (((f j).toNat : Nat) : Int), .int .i64 16] (.string (hxT (f j).toNat)) (fun w M => c_fmt16 (f j).toNat (by have := hf j; omega) w M.laid) fun u2 M => ?_
  refine pl_mk M (want_no rfl) (some 24) rfl (fun g1 => .slice (some ⟨g1, 0, none⟩) 1 1) (.cells (av 1 (fun _ => .string (hxT (f j).toNat))) 9) (fun _ => by kernel_rfl) fun g1 u3 M => ?_
  refine pl_appI M (want_no rfl) (some 25) rfl 72 72 9 (.string ⟨#[]⟩) Tryz.underlying72 info9 rfl 0 g9 j cap9 Z9 (vS (ws16 f j)) rfl hZ9 (by rw [vS_len, ws16_len]) (by omega) 1 g1 9 (.string (hxT (f j).toNat)) rfl rfl (fun _ => by kernel_rfl) ?_
  intro g7 cap7 Z7 u4 hZ7 M
  refine pV 7 (.slice (some ⟨g7, 0, none⟩) (j + 1) cap7) ?_
  refine pl_nil ?_
  refine au_block ?_
  refine au_then ?_
  refine rg_lit ?_
  refine pH 26 (.int .i64 ((j + 1 : Nat) : Int)) (iV ((j : Int) + 1) (by omega) (by omega) (by omega)) ?_
  refine pV 15 (.int .i64 ((j + 1 : Nat) : Int)) ?_
  refine nT ?_
  exact ⟨fun k_ => ([.int .u16 (f j), undef, undef, undef, undef, undef, undef, .bool true, .pointer (some ⟨g, (o + j), none⟩), .int .u16 (f j), .slice (some ⟨g9, 0, none⟩) j cap9, .int .u16 (f j), .int .u64 (((f j).toNat : Nat) : Int), .int .i64 16, .string (hxT (f j).toNat), .slice (some ⟨g1, 0, none⟩) 1 1, .slice (some ⟨g7, 0, none⟩) (j + 1) cap7, .int .i64 ((j + 1 : Nat) : Int)] : List Value).getD (k_ - 9) undef, g7, cap7, Z7, by kernel_rfl, by rw [ws16_step]; exact hZ7, M.drop (.cons _ (.cons_cons _ .slnil))⟩
 ·intro a u0 hI
  obtain ⟨v1, g9, cap9, Z9, rfl, hZ9, M⟩ := hI
  refine sR ?_
  refine pH 16 (.bool false) (dF ((n : Int) < (n : Int)) (by omega)) ?_
  refine nT ?_
  refine wp_seq ?_
  refine wp_cond_false (by kernel_rfl) ?_
  refine wp_exit ?_
  refine au_then_exit ?_
  refine au_then_exit ?_
  refine au_block_exit ?_
  refine au_then ?_
  refine sR ?_
  refine pV 27 (.slice (some ⟨g9, 0, none⟩) n cap9) ?_
  refine pV 28 (.string sep) ?_
  refine pC M 29 94 #[.slice (some ⟨g9, 0, none⟩) n cap9, .string sep] (.string (jn (ws16 f n) sep)) (fun w M => c_JoinN g9 cap9 n Z9 (ws16 f n) sep (ws16_len f n) (by omega) (by have := ws16_join f n hn sep hs; omega) w (M.get 0 rfl) hZ9) fun u2 M => ?_
  refine pV 6 (.string (jn (ws16 f n) sep)) ?_
  refine nT ?_
  refine wp_ret ?_
  exact bodyPost_ret (v := .string (jn (ws16 f n) sep)) (results_tmp1 Tryz.results75 _ _ _ (by kernel_rfl)) (by kernel_rfl) ⟨rfl, below_grown M.old⟩
set_option maxRecDepth 100000 in
set_option maxHeartbeats 4000000 in
set_option linter.unusedSimpArgs false in
theorem c_joined10 (g o n cap : Nat) (f : Nat → Int) (sep : ByteArray) (hn : n ≤ 8) (hs : sep.size ≤ 4) (hf : ∀ i, 0 ≤ f i ∧ f i < 256) (w : World) (hL : Laid w) (hc : ∀ i, i < n → w.cell? ⟨g, o + i, none⟩ = some (.int .u16 (f i))) :
  Calls Tryz.prog 75 #[.slice (some ⟨g, o, none⟩) n cap, .string sep, .int .i64 10] w fun r w' => r = .returned (.string (jn (ws10 f n) sep)) ∧ Below w.heap.size w w' := by
 go_enter Tryz.func75, Tryz.ntmps75
 have M := Mem.start hL
 refine sR ?_
 refine pV 6 (.string ⟨#[]⟩) ?_
 refine nT ?_
 refine sR ?_
 refine pV 10 (.slice (some ⟨g, o, none⟩) n cap) ?_
 refine pV 11 (.int .i64 (n : Int)) ?_
 refine pl_makeI M (want_no rfl) (some 12) rfl 72 9 (.string ⟨#[]⟩) Tryz.underlying72 info9 _ _ rfl .i64 .i64 (by kernel_rfl) n (by kernel_rfl) (by omega) ?_
 intro g8 Z8 u1 hZ8 M
 refine pV 7 (.slice (some ⟨g8, 0, none⟩) 0 n) ?_
 refine nT ?_
 refine wp_seq ?_
 refine sR ?_
 refine pV 13 (.slice (some ⟨g, o, none⟩) n cap) ?_
 refine pV 14 (.int .i64 (n : Int)) ?_
 refine pV 15 (.int .i64 0) ?_
 refine nT ?_
 refine wp_block ?_
 refine au_loop (fun j a w' => ∃ (v1 : Nat → Value) (g9 cap9 : Nat) (Z9 : Obj), a = ⟨#[.slice (some ⟨g, o, none⟩) n cap, .string sep, .int .i64 10, undef, undef, undef, .string ⟨#[]⟩, .slice (some ⟨g9, 0, none⟩) j cap9, undef, v1 9, .slice (some ⟨g, o, none⟩) n cap, .int .i64 (n : Int), .slice (some ⟨g8, 0, none⟩) 0 n, .slice (some ⟨g, o, none⟩) n cap, .int .i64 (n : Int), .int .i64 (j : Int), v1 16, v1 17, v1 18, v1 19, v1 20, v1 21, v1 22, v1 23, v1 24, v1 25, v1 26, undef, undef, undef], []⟩ ∧ SB Z9 cap9 (vS (ws10 f j)) ∧ Mem ⟨w, []⟩ [⟨g9, Z9⟩] w') n ⟨fun k_ => ([undef, undef, undef, undef, undef, undef, undef, undef, undef, undef, undef, undef, undef, undef, undef, undef, undef, undef] : List Value).getD (k_ - 9) undef, g8, n, Z8, by kernel_rfl, hZ8, M⟩ ?_ ?_
 ·intro j a u0 hj hI
  obtain ⟨v1, g9, cap9, Z9, rfl, hZ9, M⟩ := hI
  refine sR ?_
  refine pH 16 (.bool true) (dTz ((j : Int) < (n : Int)) (by omega)) ?_
  refine nT ?_
  refine wp_seq ?_
  refine wp_cond_true (by kernel_rfl) ?_
  refine wp_skip ?_
  refine au_then ?_
  refine wp_seq ?_
  refine wp_block ?_
  refine sR ?_
  refine pH 17 (.pointer (some ⟨g, (o + j), none⟩)) (run_ixL 99 32 Tryz.underlying99 inz32 _ _ rfl g o n cap (by kernel_rfl) .i64 j (by kernel_rfl) (by omega)) ?_
  refine pEz M 18 g (o + j) (.int .u16 (f j)) (fun w M => M.oldc (hc j (by omega)) (by simp)) ?_
  refine pV 9 (.int .u16 (f j)) ?_
  refine nT ?_
  refine rg_lit ?_
  refine pV 19 (.slice (some ⟨g9, 0, none⟩) j cap9) ?_
  refine pV 20 (.int .u16 (f j)) ?_
  refine pH 21 (.int .u64 (((f j).toNat : Nat) : Int)) (fun w => Eq.trans (b := .ok (.value (.int .u64 (cv .u64 (f j)))) w) (by kernel_rfl) (by have := hf j; rw [cv_u64]; congr 3; omega)) ?_
  refine pV 22 (.int .i64 10) ?_
  refine pC M 23 53 #[.int .u64 (((f j).toNat : Nat) : Int), .int .i64 10] (.string (dcT (((f j).toNat : Nat) : Int))) (fun w M => c_fmt10 (f j).toNat (by have := hf j; omega) w M.laid) fun u2 M => ?_
  refine pl_mk M (want_no rfl) (some 24) rfl (fun g1 => .slice (some ⟨g1, 0, none⟩) 1 1) (.cells (av 1 (fun _ => .string (dcT (((f j).toNat : Nat) : Int)))) 9) (fun _ => by kernel_rfl) fun g1 u3 M => ?_
  refine pl_appI M (want_no rfl) (some 25) rfl 72 72 9 (.string ⟨#[]⟩) Tryz.underlying72 info9 rfl 0 g9 j cap9 Z9 (vS (ws10 f j)) rfl hZ9 (by rw [vS_len, ws10_len]) (by omega) 1 g1 9 (.string (dcT (((f j).toNat : Nat) : Int))) rfl rfl (fun _ => by kernel_rfl) ?_
  intro g7 cap7 Z7 u4 hZ7 M
  refine pV 7 (.slice (some ⟨g7, 0, none⟩) (j + 1) cap7) ?_
  refine pl_nil ?_
  refine au_block ?_
  refine au_then ?_
  refine rg_lit ?_
  refine pH 26 (.int .i64 ((j + 1 : Nat) : Int)) (iV ((j : Int) + 1) (by omega) (by omega) (by omega)) ?_
  refine pV 15 (.int .i64 ((j + 1 : Nat) : Int)) ?_
  refine nT ?_
  exact ⟨fun k_ => ([.int .u16 (f j), undef, undef, undef, undef, undef, undef, .bool true, .pointer (some ⟨g, (o + j), none⟩), .int .u16 (f j), .slice (some ⟨g9, 0, none⟩) j cap9, .int .u16 (f j), .int .u64 (((f j).toNat : Nat) : Int), .int .i64 10, .string (dcT (((f j).toNat : Nat) : Int)), .slice (some ⟨g1, 0, none⟩) 1 1, .slice (some ⟨g7, 0, none⟩) (j + 1) cap7, .int .i64 ((j + 1 : Nat) : Int)] : List Value).getD (k_ - 9) undef, g7, cap7, Z7, by kernel_rfl, by rw [ws10_step]; exact hZ7, M.drop (.cons _ (.cons_cons _ .slnil))⟩
 ·intro a u0 hI
  obtain ⟨v1, g9, cap9, Z9, rfl, hZ9, M⟩ := hI
  refine sR ?_
  refine pH 16 (.bool false) (dF ((n : Int) < (n : Int)) (by omega)) ?_
  refine nT ?_
  refine wp_seq ?_
  refine wp_cond_false (by kernel_rfl) ?_
  refine wp_exit ?_
  refine au_then_exit ?_
  refine au_then_exit ?_
  refine au_block_exit ?_
  refine au_then ?_
  refine sR ?_
  refine pV 27 (.slice (some ⟨g9, 0, none⟩) n cap9) ?_
  refine pV 28 (.string sep) ?_
  refine pC M 29 94 #[.slice (some ⟨g9, 0, none⟩) n cap9, .string sep] (.string (jn (ws10 f n) sep)) (fun w M => c_JoinN g9 cap9 n Z9 (ws10 f n) sep (ws10_len f n) (by omega) (by have := ws10_join f n hn sep hs; omega) w (M.get 0 rfl) hZ9) fun u2 M => ?_
  refine pV 6 (.string (jn (ws10 f n) sep)) ?_
  refine nT ?_
  refine wp_ret ?_
  exact bodyPost_ret (v := .string (jn (ws10 f n) sep)) (results_tmp1 Tryz.results75 _ _ _ (by kernel_rfl)) (by kernel_rfl) ⟨rfl, below_grown M.old⟩
end Go.Proofs.YtndonmdgplojnaaGreatDoor
