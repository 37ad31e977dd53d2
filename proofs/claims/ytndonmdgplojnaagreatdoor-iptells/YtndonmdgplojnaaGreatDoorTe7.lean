/- Part 7 of the walks and facts behind ipTells_holds. -/
import Derived.Test.YtndonmdgplojnaaGreatDoorTe6
import Derived.HandedShaped
import Derived.Lay
import Derived.OpenShut
import Derived.ProofKit
import Derived.Shelf.Vars
import Derived.Test.YtndonmdgplojnaaGreatDoorRows
import Derived.Test.YtndonmdgplojnaaGreatDoorTie
namespace Go.Proofs.YtndonmdgplojnaaGreatDoor
open Go.RowKit
theorem un_low (x : Int) (k : Nat) (hk : k ≤ 63) (m : Int) (hm : m = 2 ^ k - 1) (h0 : 0 ≤ x) (h1 : x < 18446744073709551616) : un x m = x % 2 ^ k := by
 subst hm
 obtain ⟨n, rfl⟩ := Int.eq_ofNat_of_zero_le h0
 have hp : 0 < 2 ^ k := Nat.two_pow_pos k
 have hq : 2 ^ k ≤ 2 ^ 63 := Nat.pow_le_pow_right (by omega) hk
 have hm : (2 : Int) ^ k - 1 = ((2 ^ k - 1 : Nat) : Int) := by
  have : ((2 ^ k : Nat) : Int) = (2 : Int) ^ k := by rw [Int.natCast_pow]; rfl
  rw [← this]
  omega
 have e1 : BitVec.ofInt 64 (n : Int) = BitVec.ofNat 64 n := rfl
 have e2 : BitVec.ofInt 64 ((2 ^ k - 1 : Nat) : Int) = BitVec.ofNat 64 (2 ^ k - 1) := rfl
 have hl : n % 2 ^ k < 2 ^ k := Nat.mod_lt _ hp
 unfold un
 rw [hm, e1, e2, BitVec.toNat_and, BitVec.toNat_ofNat, BitVec.toNat_ofNat, Nat.mod_eq_of_lt (by omega), Nat.mod_eq_of_lt (by omega), Nat.and_two_pow_sub_one_eq_mod, IntKind.wrap_u64]
 have e3 : (n : Int) % 2 ^ k = ((n % 2 ^ k : Nat) : Int) := by
  rw [Int.natCast_emod, Int.natCast_pow]
  rfl
 rw [e3]
 generalize n % 2 ^ k = z at *
 omega
theorem sr_nn (x : Int) (n : Nat) (h0 : 0 ≤ x) (h1 : x < 18446744073709551616) : 0 ≤ sr x n ∧ sr x n < 18446744073709551616 := by
 obtain ⟨m, rfl⟩ := Int.eq_ofNat_of_zero_le h0
 have hs : sr (m : Int) n = ((m / 2 ^ n : Nat) : Int) := by
  rw [sr_ed, Int.natCast_ediv, Int.natCast_pow]
  rfl
 have hle : m / 2 ^ n ≤ m := Nat.div_le_self _ _
 rw [hs]
 generalize m / 2 ^ n = z at *
 omega
theorem q4i (l : Int) (l0 : 0 ≤ l) (l1 : l < 18446744073709551616) (j : Nat) (hj : j < 4) : cv .i64 (un (sr l (8 * (3 - (j : Int))).toNat) 255) = (((qf l j).toNat : Nat) : Int) := by
 have hn := sr_nn l (24 - 8 * (j : Int)).toNat l0 l1
 rw [show 8 * (3 - (j : Int)) = 24 - 8 * (j : Int) by omega, un_low _ 8 (by omega) 255 rfl hn.1 hn.2]
 unfold qf cutf qp
 rw [if_pos hj, cv_16, cv_u8]
 generalize sr l (24 - 8 * (j : Int)).toNat = z at *
 rw [show (2 : Int) ^ 8 = 256 from rfl, cv_i64 (by omega) (by omega)]
 omega
theorem g6i (x : Int) (n : Nat) (h0 : 0 ≤ x) (h1 : x < 18446744073709551616) : un (sr x n) 65535 = cv .u16 (sr x n) := by
 have hn := sr_nn x n h0 h1
 rw [un_low _ 16 (by omega) 65535 rfl hn.1 hn.2, cv_16]
 rfl
def t4s (l : Int) : Nat → ByteArray
 | 0 => ⟨#[]⟩
 | j + 1 => if j < 3 then (t4s l j ++ dcT (((qf l j).toNat : Nat) : Int)) ++ (⟨#[46]⟩ : ByteArray) else t4s l j ++ dcT (((qf l j).toNat : Nat) : Int)
theorem t4s_le (l : Int) (j : Nat) : (t4s l j).size ≤ 4 * j := by
 have z1 : (⟨#[46]⟩ : ByteArray).size = 1 := rfl
 induction j with
 | zero => exact Nat.le_refl 0
 | succ j ih =>
  have := dcT_size (((qf l j).toNat : Nat) : Int)
  rw [t4s]
  split
  ·rw [ByteArray.size_append, ByteArray.size_append, z1]
   omega
  ·rw [ByteArray.size_append]
   omega
theorem t4s_eq (l : Int) (j : Nat) (hj : j ≤ 4) : t4s l j = if 0 < j ∧ j < 4 then jn (ws10 (qf l) j) ⟨#[46]⟩ ++ (⟨#[46]⟩ : ByteArray) else jn (ws10 (qf l) j) ⟨#[46]⟩ := by
 induction j with
 | zero => rfl
 | succ j ih =>
  have ih := ih (by omega)
  have e : t4s l j ++ dcT (((qf l j).toNat : Nat) : Int) = jn (ws10 (qf l) (j + 1)) ⟨#[46]⟩ := by
   rw [ih]
   unfold ws10
   rw [jn_succ]
   by_cases c : 0 < j
   ·rw [if_pos c, if_pos ⟨c, by omega⟩]
   ·rw [if_neg c, if_neg fun e => c e.1]
  rw [t4s, e]
  by_cases c : j < 3
  ·rw [if_pos c, if_pos (by omega)]
  ·rw [if_neg c, if_neg (by omega)]
theorem t4s_tx4 (l : Int) : t4s l 4 = tx4 l := by
 rw [t4s_eq l 4 (Nat.le_refl _), if_neg (by omega)]
 rfl
theorem t4s_a (l : Int) (j : Nat) (h : j < 3) : t4s l (j + 1) = (t4s l j ++ dcT (((qf l j).toNat : Nat) : Int)) ++ (⟨#[46]⟩ : ByteArray) := if_pos h
theorem t4s_b (l : Int) (j : Nat) (h : ¬ j < 3) : t4s l (j + 1) = t4s l j ++ dcT (((qf l j).toNat : Nat) : Int) := if_neg h
theorem aM_bd (f : Nat → Int) (j : Nat) (hj : j ≤ 8) : -1 ≤ (aM f j).1 ∧ (aM f j).1 ≤ 7 ∧ 1 ≤ (aM f j).2 ∧ (aM f j).2 ≤ 8 := by
 induction j with
 | zero => exact (show (-1 : Int) ≤ -1 ∧ (-1 : Int) ≤ 7 ∧ (1 : Int) ≤ 1 ∧ (1 : Int) ≤ 8 by decide)
 | succ j ih =>
  have ih := ih (by omega)
  have := rl_le f j
  rw [aM]
  split
  ·simp only
   omega
  ·exact ih
def dT (h l : Int) (j : Nat) : ByteArray := sB (fun i => hxT (ggs h l i).toNat) (aM (ggs h l) 8).1 (aM (ggs h l) 8).2 j
theorem dT_le (h l : Int) (j : Nat) : (dT h l j).size ≤ 6 * j := by
 have z1 : (⟨#[58]⟩ : ByteArray).size = 1 := rfl
 have z2 : (⟨#[58, 58]⟩ : ByteArray).size = 2 := rfl
 unfold dT
 induction j with
 | zero => exact Nat.le_refl 0
 | succ j ih =>
  have := hxT_size (ggs h l j).toNat
  rw [sB]
  split
  ·split
   ·rw [ByteArray.size_append, z2]
    omega
   ·omega
  ·rw [ByteArray.size_append]
   split
   ·rw [ByteArray.size_append, z1]
    omega
   ·omega
section
variable (h l : Int) (i : Nat)
theorem dT_cc (c : 0 ≤ (aM (ggs h l) 8).1 ∧ (aM (ggs h l) 8).1 ≤ (i : Int) ∧ (i : Int) < (aM (ggs h l) 8).1 + (aM (ggs h l) 8).2) (e : (i : Int) = (aM (ggs h l) 8).1) : dT h l (i + 1) = dT h l i ++ (⟨#[58, 58]⟩ : ByteArray) := by
 unfold dT
 rw [sB, if_pos c, if_pos e]
theorem dT_sk (c : 0 ≤ (aM (ggs h l) 8).1 ∧ (aM (ggs h l) 8).1 ≤ (i : Int) ∧ (i : Int) < (aM (ggs h l) 8).1 + (aM (ggs h l) 8).2) (e : ¬ (i : Int) = (aM (ggs h l) 8).1) : dT h l (i + 1) = dT h l i := by
 unfold dT
 rw [sB, if_pos c, if_neg e]
theorem dT_co (c : ¬ (0 ≤ (aM (ggs h l) 8).1 ∧ (aM (ggs h l) 8).1 ≤ (i : Int) ∧ (i : Int) < (aM (ggs h l) 8).1 + (aM (ggs h l) 8).2)) (e : 0 < (i : Int) ∧ ¬ (0 ≤ (aM (ggs h l) 8).1 ∧ (i : Int) = (aM (ggs h l) 8).1 + (aM (ggs h l) 8).2)) : dT h l (i + 1) = (dT h l i ++ (⟨#[58]⟩ : ByteArray)) ++ hxT (ggs h l i).toNat := by
 unfold dT
 rw [sB, if_neg c, if_pos e]
theorem dT_no (c : ¬ (0 ≤ (aM (ggs h l) 8).1 ∧ (aM (ggs h l) 8).1 ≤ (i : Int) ∧ (i : Int) < (aM (ggs h l) 8).1 + (aM (ggs h l) 8).2)) (e : ¬ (0 < (i : Int) ∧ ¬ (0 ≤ (aM (ggs h l) 8).1 ∧ (i : Int) = (aM (ggs h l) 8).1 + (aM (ggs h l) 8).2))) : dT h l (i + 1) = dT h l i ++ hxT (ggs h l i).toNat := by
 unfold dT
 rw [sB, if_neg c, if_neg e]
end
theorem c_fmt16I (x : Int) (h0 : 0 ≤ x) (h1 : x < 65536) (w : World) (hL : Laid w) : Calls Tryz.prog 53 #[.int .u64 x, .int .i64 16] w fun r w' => r = .returned (.string (hxT x.toNat)) ∧ Below w.heap.size w w' := by
 have := c_fmt16 x.toNat (by omega) w hL
 rw [Int.toNat_of_nonneg h0] at this
 exact this
set_option maxRecDepth 100000 in
set_option maxHeartbeats 4000000 in
set_option linter.unusedSimpArgs false in
theorem d_Text (v : Bool) (h l : Int) (h0 : 0 ≤ h) (h1 : h < 18446744073709551616) (l0 : 0 ≤ l) (l1 : l < 18446744073709551616) (w : World) (hL : Laid w)  :
  Calls Tryz.prog 23 #[.agg (av 3 (ls [.bool (v), .int .u64 h, .int .u64 l]))] w fun r w' => r = .returned (.string (txt v h l)) ∧ Below w.heap.size w w' := by
 go_enter Tryz.func23, Tryz.ntmps23
 have M := Mem.start hL
 refine sR ?_
 refine pN M 1 (.cells (av 3 (ls [.bool (v), .int .u64 h, .int .u64 l])) 24) fun g1 u1 M => ?_
 refine pV 2 (.string ⟨#[]⟩) ?_
 refine nT ?_
 refine wp_seq ?_
 refine sR ?_
 refine pAz M 14 0 3 (ls [.bool (v), .int .u64 h, .int .u64 l]) ?_
 rcases Bool.eq_false_or_eq_true (mA v h l) with c0 | c0
 ·skip
  refine pC M 15 38 #[.agg (av 3 (ls [.bool (v), .int .u64 h, .int .u64 l]))] (.bool true) (fun w M => call_val (d_MayAddr v h l w M.laid) (congrArg Value.bool c0)) fun u2 M => ?_
  refine pV 16 (.bool false) ?_
  refine nT ?_
  refine wp_cond_false (by kernel_rfl) ?_
  refine wp_skip ?_
  refine au_then ?_
  refine wp_seq ?_
  refine sR ?_
  refine pV 17 (.pointer (some ⟨g1, 0, none⟩)) ?_
  rcases Bool.eq_false_or_eq_true (v) with c1 | c1
  ·skip
   refine pEz M 18 g1 0 (.bool true) (fun w M => M.cell 0 rfl (by decide) (congrArg Value.bool c1)) ?_
   refine pV 19 (.bool false) ?_
   refine nT ?_
   refine wp_cond_false (by kernel_rfl) ?_
   refine wp_skip ?_
   refine au_then ?_
   refine sR ?_
   refine pN M 5 (.cells (av 8 (ls [.int .u64 0, .int .u64 0, .int .u64 0, .int .u64 0, .int .u64 0, .int .u64 0, .int .u64 0, .int .u64 0])) 76) fun g2 u3 M => ?_
   refine nT ?_
   refine wp_seq ?_
   refine sR ?_
   refine pV 6 (.int .i64 0) ?_
   refine nT ?_
   refine wp_block ?_
   refine au_loop (fun j a w' => ∃ v1 : Nat → Value, a = ⟨#[.agg (av 3 (ls [.bool (v), .int .u64 h, .int .u64 l])), .pointer (some ⟨g1, 0, none⟩), .string ⟨#[]⟩, undef, undef, .pointer (some ⟨g2, 0, none⟩), .int .i64 (j : Int), v1 7, undef, undef, undef, undef, undef, undef, .agg (av 3 (ls [.bool (v), .int .u64 h, .int .u64 l])), .bool true, .bool false, .pointer (some ⟨g1, 0, none⟩), .bool true, .bool false, undef, undef, undef, undef, undef, undef, undef, undef, undef, undef, undef, undef, undef, undef, undef, undef, undef, undef, undef, undef, v1 40, v1 41, v1 42, v1 43, v1 44, v1 45, v1 46, v1 47, v1 48, v1 49, v1 50, v1 51, v1 52, v1 53, v1 54, v1 55, v1 56, v1 57, v1 58, v1 59, undef, undef, undef, undef, undef, undef, undef, undef, undef, undef, undef, undef, undef, undef, undef, undef, undef, undef, undef, undef, undef, undef, undef, undef, undef, undef, undef, undef, undef, undef, undef, undef, undef, undef, undef, undef, undef, undef, undef, undef, undef, undef, undef, undef, undef, undef, undef, undef, undef, undef, undef, undef, undef, undef, undef, undef, undef, undef, undef, undef, undef, undef, undef, undef, undef, undef, undef, undef, undef], []⟩ ∧ Mem ⟨w, []⟩ [⟨g1, .cells (av 3 (ls [.bool (v), .int .u64 h, .int .u64 l])) 24⟩, ⟨g2, .cells (av 8 (w64 (cutf (gp h l) j))) 76⟩] w') 8 ⟨fun k_ => ([undef, undef, undef, undef, undef, undef, undef, undef, undef, undef, undef, undef, undef, undef, undef, undef, undef, undef, undef, undef, undef, undef, undef, undef, undef, undef, undef, undef, undef, undef, undef, undef, undef, undef, undef, undef, undef, undef, undef, undef, undef, undef, undef, undef, undef, undef, undef, undef, undef, undef, undef, undef, undef] : List Value).getD (k_ - 7) undef, by kernel_rfl, (by rw [cutf_0]; exact M)⟩ ?_ ?_
   ·intro j a u0 hj hI
    obtain ⟨v1, rfl, M⟩ := hI
    refine wp_seq ?_
    refine sR ?_
    refine pV 40 (.int .i64 (j : Int)) ?_
    refine pH 41 (.bool true) (dTz ((j : Int) < 8) (by omega)) ?_
    refine nT ?_
    refine wp_cond_true (by kernel_rfl) ?_
    refine wp_skip ?_
    refine au_then ?_
    refine wp_seq ?_
    refine wp_block ?_
    refine sR ?_
    refine pV 44 (.pointer (some ⟨g1, 1, none⟩)) ?_
    refine pEz M 45 g1 1 (.int .u64 h) (fun w M => M.cell 0 rfl (by decide) rfl) ?_
    refine pV 7 (.int .u64 h) ?_
    refine nT ?_
    refine wp_seq ?_
    refine sR ?_
    refine pV 46 (.int .i64 (j : Int)) ?_
    by_cases c2 : (j : Int) < 4
    ·skip
     refine pH 47 (.bool false) (dF (4 ≤ (j : Int)) (by omega)) ?_
     refine nT ?_
     refine wp_cond_false (by kernel_rfl) ?_
     refine wp_skip ?_
     refine au_then ?_
     refine rg_lit ?_
     refine pV 50 (.int .i64 (j : Int)) ?_
     refine pV 51 (.int .u64 h) ?_
     refine pV 52 (.int .i64 (j : Int)) ?_
     refine pH 53 (.int .i64 ((j % 4 : Nat) : Int)) (fun w => Eq.trans (b := .ok (.value (.int .i64 (Int.tmod (j : Int) 4))) w) (by kernel_rfl) (by rw [Int.tmod_eq_emod_of_nonneg (by omega)]; rfl)) ?_
     refine pH 54 (.int .i64 (16 * ((j % 4 : Nat) : Int))) (fun w => Eq.trans (b := .ok (.value (.int .i64 (cv .i64 (16 * ((j % 4 : Nat) : Int))))) w) (by kernel_rfl) (by rw [cv_i64 (by omega) (by omega)])) ?_
     refine pH 55 (.int .i64 (48 - 16 * ((j % 4 : Nat) : Int))) (fun w => Eq.trans (b := .ok (.value (.int .i64 (cv .i64 (48 - 16 * ((j % 4 : Nat) : Int))))) w) (by kernel_rfl) (by rw [cv_i64 (by omega) (by omega)])) ?_
     refine pH 56 (.int .u64 (48 - 16 * ((j % 4 : Nat) : Int))) (fun w => Eq.trans (b := .ok (.value (.int .u64 (cv .u64 (48 - 16 * ((j % 4 : Nat) : Int))))) w) (by kernel_rfl) (by rw [cv_u64]; congr 3; omega)) ?_
     refine pH 57 (.int .u64 (sr h ((48 - 16 * ((j % 4 : Nat) : Int)).toNat))) (run_shrV 22 53 _ _ rfl h .u64 ((48 - 16 * ((j % 4 : Nat) : Int)).toNat) (by kernel_rfl) (nat_of (k := .u64) (by kernel_rfl) (by omega)) (by omega)) ?_
     refine pH 58 (.int .u64 (gp h l j)) (fun w => Eq.trans (b := .ok (.value (.int .u64 (un (sr h ((48 - 16 * ((j % 4 : Nat) : Int)).toNat)) 65535))) w) (by kernel_rfl) (by unfold gp; rw [if_neg (by omega), g6i _ _ h0 h1])) ?_
     refine pH 59 (.pointer (some ⟨g2, j, none⟩)) (run_ix1 76 8 22 Tryz.underlying76 inz22 _ _ rfl g2 (by kernel_rfl) .i64 (j) (by kernel_rfl) (by omega)) ?_
     refine pP M 1 rfl j (.int .u64 (gp h l j)) (w64 (upd (cutf (gp h l) j) j (gp h l j))) (by omega) (fun j _ => put_w64 _ _ _ j) fun u4 M => ?_
     refine pl_nil ?_
     refine au_block ?_
     refine au_then ?_
     refine rg_lit ?_
     refine pV 42 (.int .i64 (j : Int)) ?_
     refine pH 43 (.int .i64 ((j + 1 : Nat) : Int)) (iV ((j : Int) + 1) (by omega) (by omega) (by omega)) ?_
     refine pV 6 (.int .i64 ((j + 1 : Nat) : Int)) ?_
     refine nT ?_
     rw [cutf_upd] at M
     exact ⟨fun k_ => ([.int .u64 h, undef, undef, undef, undef, undef, undef, undef, undef, undef, undef, undef, undef, undef, undef, undef, undef, undef, undef, undef, undef, undef, undef, undef, undef, undef, undef, undef, undef, undef, undef, undef, undef, .int .i64 (j : Int), .bool true, .int .i64 (j : Int), .int .i64 ((j + 1 : Nat) : Int), .pointer (some ⟨g1, 1, none⟩), .int .u64 h, .int .i64 (j : Int), .bool false, v1 48, v1 49, .int .i64 (j : Int), .int .u64 h, .int .i64 (j : Int), .int .i64 ((j % 4 : Nat) : Int), .int .i64 (16 * ((j % 4 : Nat) : Int)), .int .i64 (48 - 16 * ((j % 4 : Nat) : Int)), .int .u64 (48 - 16 * ((j % 4 : Nat) : Int)), .int .u64 (sr h ((48 - 16 * ((j % 4 : Nat) : Int)).toNat)), .int .u64 (gp h l j), .pointer (some ⟨g2, j, none⟩)] : List Value).getD (k_ - 7) undef, by kernel_rfl, M⟩
    ·skip
     refine pH 47 (.bool true) (dTz (4 ≤ (j : Int)) (by omega)) ?_
     refine nT ?_
     refine wp_cond_true (by kernel_rfl) ?_
     refine rg_lit ?_
     refine pV 48 (.pointer (some ⟨g1, 2, none⟩)) ?_
     refine pEz M 49 g1 2 (.int .u64 l) (fun w M => M.cell 0 rfl (by decide) rfl) ?_
     refine pV 7 (.int .u64 l) ?_
     refine nT ?_
     refine rg_lit ?_
     refine pV 50 (.int .i64 (j : Int)) ?_
     refine pV 51 (.int .u64 l) ?_
     refine pV 52 (.int .i64 (j : Int)) ?_
     refine pH 53 (.int .i64 ((j % 4 : Nat) : Int)) (fun w => Eq.trans (b := .ok (.value (.int .i64 (Int.tmod (j : Int) 4))) w) (by kernel_rfl) (by rw [Int.tmod_eq_emod_of_nonneg (by omega)]; rfl)) ?_
     refine pH 54 (.int .i64 (16 * ((j % 4 : Nat) : Int))) (fun w => Eq.trans (b := .ok (.value (.int .i64 (cv .i64 (16 * ((j % 4 : Nat) : Int))))) w) (by kernel_rfl) (by rw [cv_i64 (by omega) (by omega)])) ?_
     refine pH 55 (.int .i64 (48 - 16 * ((j % 4 : Nat) : Int))) (fun w => Eq.trans (b := .ok (.value (.int .i64 (cv .i64 (48 - 16 * ((j % 4 : Nat) : Int))))) w) (by kernel_rfl) (by rw [cv_i64 (by omega) (by omega)])) ?_
     refine pH 56 (.int .u64 (48 - 16 * ((j % 4 : Nat) : Int))) (fun w => Eq.trans (b := .ok (.value (.int .u64 (cv .u64 (48 - 16 * ((j % 4 : Nat) : Int))))) w) (by kernel_rfl) (by rw [cv_u64]; congr 3; omega)) ?_
     refine pH 57 (.int .u64 (sr l ((48 - 16 * ((j % 4 : Nat) : Int)).toNat))) (run_shrV 22 53 _ _ rfl l .u64 ((48 - 16 * ((j % 4 : Nat) : Int)).toNat) (by kernel_rfl) (nat_of (k := .u64) (by kernel_rfl) (by omega)) (by omega)) ?_
     refine pH 58 (.int .u64 (gp h l j)) (fun w => Eq.trans (b := .ok (.value (.int .u64 (un (sr l ((48 - 16 * ((j % 4 : Nat) : Int)).toNat)) 65535))) w) (by kernel_rfl) (by unfold gp; rw [if_pos (by omega), g6i _ _ l0 l1])) ?_
     refine pH 59 (.pointer (some ⟨g2, j, none⟩)) (run_ix1 76 8 22 Tryz.underlying76 inz22 _ _ rfl g2 (by kernel_rfl) .i64 (j) (by kernel_rfl) (by omega)) ?_
     refine pP M 1 rfl j (.int .u64 (gp h l j)) (w64 (upd (cutf (gp h l) j) j (gp h l j))) (by omega) (fun j _ => put_w64 _ _ _ j) fun u4 M => ?_
     refine pl_nil ?_
     refine au_block ?_
     refine au_then ?_
     refine rg_lit ?_
     refine pV 42 (.int .i64 (j : Int)) ?_
     refine pH 43 (.int .i64 ((j + 1 : Nat) : Int)) (iV ((j : Int) + 1) (by omega) (by omega) (by omega)) ?_
     refine pV 6 (.int .i64 ((j + 1 : Nat) : Int)) ?_
     refine nT ?_
     rw [cutf_upd] at M
     exact ⟨fun k_ => ([.int .u64 l, undef, undef, undef, undef, undef, undef, undef, undef, undef, undef, undef, undef, undef, undef, undef, undef, undef, undef, undef, undef, undef, undef, undef, undef, undef, undef, undef, undef, undef, undef, undef, undef, .int .i64 (j : Int), .bool true, .int .i64 (j : Int), .int .i64 ((j + 1 : Nat) : Int), .pointer (some ⟨g1, 1, none⟩), .int .u64 h, .int .i64 (j : Int), .bool true, .pointer (some ⟨g1, 2, none⟩), .int .u64 l, .int .i64 (j : Int), .int .u64 l, .int .i64 (j : Int), .int .i64 ((j % 4 : Nat) : Int), .int .i64 (16 * ((j % 4 : Nat) : Int)), .int .i64 (48 - 16 * ((j % 4 : Nat) : Int)), .int .u64 (48 - 16 * ((j % 4 : Nat) : Int)), .int .u64 (sr l ((48 - 16 * ((j % 4 : Nat) : Int)).toNat)), .int .u64 (gp h l j), .pointer (some ⟨g2, j, none⟩)] : List Value).getD (k_ - 7) undef, by kernel_rfl, M⟩
   ·intro a u0 hI
    obtain ⟨v1, rfl, M⟩ := hI
    refine wp_seq ?_
    refine sR ?_
    refine pV 40 (.int .i64 (8 : Int)) ?_
    refine pH 41 (.bool false) (dF ((8 : Int) < 8) (by omega)) ?_
    refine nT ?_
    refine wp_cond_false (by kernel_rfl) ?_
    refine wp_exit ?_
    refine au_then_exit ?_
    refine au_then_exit ?_
    refine au_block_exit ?_
    refine au_then ?_
    refine sR ?_
    refine pV 8 (.int .i64 (-1)) ?_
    refine pV 9 (.int .i64 1) ?_
    refine nT ?_
    refine wp_seq ?_
    refine sR ?_
    refine pV 10 (.int .i64 0) ?_
    refine nT ?_
    refine wp_block ?_
    refine au_loop (fun i a w' => ∃ v2 : Nat → Value, a = ⟨#[.agg (av 3 (ls [.bool (v), .int .u64 h, .int .u64 l])), .pointer (some ⟨g1, 0, none⟩), .string ⟨#[]⟩, undef, undef, .pointer (some ⟨g2, 0, none⟩), .int .i64 (8 : Int), v1 7, .int .i64 (aM (ggs h l) i).1, .int .i64 (aM (ggs h l) i).2, .int .i64 (i : Int), v2 11, undef, undef, .agg (av 3 (ls [.bool (v), .int .u64 h, .int .u64 l])), .bool true, .bool false, .pointer (some ⟨g1, 0, none⟩), .bool true, .bool false, undef, undef, undef, undef, undef, undef, undef, undef, undef, undef, undef, undef, undef, undef, undef, undef, undef, undef, undef, undef, .int .i64 (8 : Int), .bool false, v1 42, v1 43, v1 44, v1 45, v1 46, v1 47, v1 48, v1 49, v1 50, v1 51, v1 52, v1 53, v1 54, v1 55, v1 56, v1 57, v1 58, v1 59, v2 60, v2 61, v2 62, v2 63, v2 64, v2 65, v2 66, v2 67, v2 68, v2 69, v2 70, v2 71, v2 72, v2 73, v2 74, v2 75, v2 76, v2 77, v2 78, v2 79, v2 80, v2 81, v2 82, undef, undef, undef, undef, undef, undef, undef, undef, undef, undef, undef, undef, undef, undef, undef, undef, undef, undef, undef, undef, undef, undef, undef, undef, undef, undef, undef, undef, undef, undef, undef, undef, undef, undef, undef, undef, undef, undef, undef, undef, undef, undef, undef, undef, undef, undef], []⟩ ∧ Mem ⟨w, []⟩ [⟨g1, .cells (av 3 (ls [.bool (v), .int .u64 h, .int .u64 l])) 24⟩, ⟨g2, .cells (av 8 (w64 (ggs h l))) 76⟩] w') 8 ⟨fun k_ => ([undef, undef, undef, undef, undef, undef, undef, undef, undef, undef, undef, undef, undef, undef, undef, undef, undef, undef, undef, undef, undef, undef, undef, undef, undef, undef, undef, undef, undef, undef, undef, undef, undef, undef, undef, undef, undef, undef, undef, undef, undef, undef, undef, undef, undef, undef, undef, undef, undef, undef, undef, undef, undef, undef, undef, undef, undef, undef, undef, undef, undef, undef, undef, undef, undef, undef, undef, undef, undef, undef, undef, undef] : List Value).getD (k_ - 11) undef, by kernel_rfl, M⟩ ?_ ?_
    ·intro i a u0 hi hI
     obtain ⟨v2, rfl, M⟩ := hI
     have ha := aM_bd (ggs h l) i (by omega)
     have hr := rl_le (ggs h l) i
     refine wp_seq ?_
     refine sR ?_
     refine pV 60 (.int .i64 (i : Int)) ?_
     refine pH 61 (.bool true) (dTz ((i : Int) < 8) (by omega)) ?_
     refine nT ?_
     refine wp_cond_true (by kernel_rfl) ?_
     refine wp_skip ?_
     refine au_then ?_
     refine wp_seq ?_
     refine wp_block ?_
     refine sR ?_
     refine pV 11 (.int .i64 0) ?_
     refine nT ?_
     refine wp_seq ?_
     refine wp_block ?_
     refine au_loop (fun k a w' => ∃ v3 : Nat → Value, a = ⟨#[.agg (av 3 (ls [.bool (v), .int .u64 h, .int .u64 l])), .pointer (some ⟨g1, 0, none⟩), .string ⟨#[]⟩, undef, undef, .pointer (some ⟨g2, 0, none⟩), .int .i64 (8 : Int), v1 7, .int .i64 (aM (ggs h l) i).1, .int .i64 (aM (ggs h l) i).2, .int .i64 (i : Int), .int .i64 (k : Int), undef, undef, .agg (av 3 (ls [.bool (v), .int .u64 h, .int .u64 l])), .bool true, .bool false, .pointer (some ⟨g1, 0, none⟩), .bool true, .bool false, undef, undef, undef, undef, undef, undef, undef, undef, undef, undef, undef, undef, undef, undef, undef, undef, undef, undef, undef, undef, .int .i64 (8 : Int), .bool false, v1 42, v1 43, v1 44, v1 45, v1 46, v1 47, v1 48, v1 49, v1 50, v1 51, v1 52, v1 53, v1 54, v1 55, v1 56, v1 57, v1 58, v1 59, .int .i64 (i : Int), .bool true, v2 62, v2 63, v3 64, v3 65, v3 66, v3 67, v3 68, v3 69, v3 70, v3 71, v3 72, v3 73, v3 74, v3 75, v3 76, v3 77, v2 78, v2 79, v2 80, v2 81, v2 82, undef, undef, undef, undef, undef, undef, undef, undef, undef, undef, undef, undef, undef, undef, undef, undef, undef, undef, undef, undef, undef, undef, undef, undef, undef, undef, undef, undef, undef, undef, undef, undef, undef, undef, undef, undef, undef, undef, undef, undef, undef, undef, undef, undef, undef, undef], []⟩ ∧ Mem ⟨w, []⟩ [⟨g1, .cells (av 3 (ls [.bool (v), .int .u64 h, .int .u64 l])) 24⟩, ⟨g2, .cells (av 8 (w64 (ggs h l))) 76⟩] w') (rl (ggs h l) i) ⟨fun k_ => ([v2 64, v2 65, v2 66, v2 67, v2 68, v2 69, v2 70, v2 71, v2 72, v2 73, v2 74, v2 75, v2 76, v2 77] : List Value).getD (k_ - 64) undef, by kernel_rfl, M⟩ ?_ ?_
     ·intro k a u0 hk hI
      obtain ⟨v3, rfl, M⟩ := hI
      have hin := rl_in (ggs h l) i k hk
      refine wp_seq ?_
      refine sR ?_
      refine pV 64 (.int .i64 (i : Int)) ?_
      refine pV 65 (.int .i64 (k : Int)) ?_
      refine pH 66 (.int .i64 ((i + k : Nat) : Int)) (fun w => Eq.trans (b := .ok (.value (.int .i64 (cv .i64 ((i : Int) + (k : Int))))) w) (by kernel_rfl) (by rw [cv_i64 (by omega) (by omega)]; congr 3)) ?_
      refine pH 67 (.bool true) (dTz (((i + k : Nat) : Int) < 8) (by omega)) ?_
      refine pV 68 (.bool true) ?_
      refine pl_val (want_on 4 true rfl 68 rfl (by kernel_rfl)) (some 69) rfl (.int .i64 (i : Int)) (fun _ => by kernel_rfl) ?_
      refine pl_val (want_on 4 true rfl 68 rfl (by kernel_rfl)) (some 70) rfl (.int .i64 (k : Int)) (fun _ => by kernel_rfl) ?_
      refine pl_val (want_on 4 true rfl 68 rfl (by kernel_rfl)) (some 71) rfl (.int .i64 ((i + k : Nat) : Int)) (fun w => Eq.trans (b := .ok (.value (.int .i64 (cv .i64 ((i : Int) + (k : Int))))) w) (by kernel_rfl) (by rw [cv_i64 (by omega) (by omega)]; congr 3)) ?_
      refine pl_val (want_on 4 true rfl 68 rfl (by kernel_rfl)) (some 72) rfl (.pointer (some ⟨g2, ((i + k : Nat)), none⟩)) (run_ix1 76 8 22 Tryz.underlying76 inz22 _ _ rfl g2 (by kernel_rfl) .i64 ((i + k : Nat)) (by kernel_rfl) (by omega)) ?_
      refine pl_cell M (want_on 4 true rfl 68 rfl (by kernel_rfl)) (some 73) rfl 22 _ rfl g2 ((i + k : Nat)) (by kernel_rfl) (.int .u64 ((ggs h l) ((i + k : Nat)))) (fun _ => by kernel_rfl) (fun w M => M.cell 1 rfl (by omega) rfl) ?_
      refine pl_val (want_on 4 true rfl 68 rfl (by kernel_rfl)) (some 74) rfl (.bool true) (fun w => Eq.trans (b := .ok (.value (.bool (decide (((ggs h l) ((i + k : Nat))) = 0)))) w) (by kernel_rfl) (by rw [decide_eq_true hin.2])) ?_
      refine pV 75 (.bool true) ?_
      refine nT ?_
      refine wp_cond_true (by kernel_rfl) ?_
      refine wp_skip ?_
      refine au_then ?_
      refine wp_block ?_
      refine rg_lit ?_
      refine pV 76 (.int .i64 (k : Int)) ?_
      refine pH 77 (.int .i64 ((k + 1 : Nat) : Int)) (iV ((k : Int) + 1) (by omega) (by omega) (by omega)) ?_
      refine pV 11 (.int .i64 ((k + 1 : Nat) : Int)) ?_
      refine pl_nil ?_
      refine au_block ?_
      refine au_then ?_
      exact ⟨fun k_ => ([.int .i64 (i : Int), .int .i64 (k : Int), .int .i64 ((i + k : Nat) : Int), .bool true, .bool true, .int .i64 (i : Int), .int .i64 (k : Int), .int .i64 ((i + k : Nat) : Int), .pointer (some ⟨g2, ((i + k : Nat)), none⟩), .int .u64 ((ggs h l) ((i + k : Nat))), .bool true, .bool true, .int .i64 (k : Int), .int .i64 ((k + 1 : Nat) : Int)] : List Value).getD (k_ - 64) undef, by kernel_rfl, M⟩
     ·intro a u0 hI
      obtain ⟨v3, rfl, M⟩ := hI
      refine wp_seq ?_
      refine sR ?_
      refine pV 64 (.int .i64 (i : Int)) ?_
      refine pV 65 (.int .i64 ((rl (ggs h l) i : Nat) : Int)) ?_
      refine pH 66 (.int .i64 ((i + (rl (ggs h l) i) : Nat) : Int)) (fun w => Eq.trans (b := .ok (.value (.int .i64 (cv .i64 ((i : Int) + ((rl (ggs h l) i : Nat) : Int))))) w) (by kernel_rfl) (by rw [cv_i64 (by omega) (by omega)]; congr 3)) ?_
      by_cases c2 : ((i + (rl (ggs h l) i) : Nat) : Int) < 8
      ·skip
       refine pH 67 (.bool true) (dTz (((i + (rl (ggs h l) i) : Nat) : Int) < 8) (c2)) ?_
       refine pV 68 (.bool true) ?_
       refine pl_val (want_on 4 true rfl 68 rfl (by kernel_rfl)) (some 69) rfl (.int .i64 (i : Int)) (fun _ => by kernel_rfl) ?_
       refine pl_val (want_on 4 true rfl 68 rfl (by kernel_rfl)) (some 70) rfl (.int .i64 ((rl (ggs h l) i : Nat) : Int)) (fun _ => by kernel_rfl) ?_
       refine pl_val (want_on 4 true rfl 68 rfl (by kernel_rfl)) (some 71) rfl (.int .i64 ((i + (rl (ggs h l) i) : Nat) : Int)) (fun w => Eq.trans (b := .ok (.value (.int .i64 (cv .i64 ((i : Int) + ((rl (ggs h l) i : Nat) : Int))))) w) (by kernel_rfl) (by rw [cv_i64 (by omega) (by omega)]; congr 3)) ?_
       refine pl_val (want_on 4 true rfl 68 rfl (by kernel_rfl)) (some 72) rfl (.pointer (some ⟨g2, ((i + (rl (ggs h l) i) : Nat)), none⟩)) (run_ix1 76 8 22 Tryz.underlying76 inz22 _ _ rfl g2 (by kernel_rfl) .i64 ((i + (rl (ggs h l) i) : Nat)) (by kernel_rfl) (by omega)) ?_
       refine pl_cell M (want_on 4 true rfl 68 rfl (by kernel_rfl)) (some 73) rfl 22 _ rfl g2 ((i + (rl (ggs h l) i) : Nat)) (by kernel_rfl) (.int .u64 ((ggs h l) ((i + (rl (ggs h l) i) : Nat)))) (fun _ => by kernel_rfl) (fun w M => M.cell 1 rfl (by omega) rfl) ?_
       refine pl_val (want_on 4 true rfl 68 rfl (by kernel_rfl)) (some 74) rfl (.bool false) (fun w => Eq.trans (b := .ok (.value (.bool (decide (((ggs h l) ((i + (rl (ggs h l) i) : Nat))) = 0)))) w) (by kernel_rfl) (by rw [decide_eq_false (rl_out (ggs h l) i (by omega))])) ?_
       refine pV 75 (.bool false) ?_
       refine nT ?_
       refine wp_cond_false (by kernel_rfl) ?_
       refine wp_exit ?_
       refine au_then_exit ?_
       refine au_then_exit ?_
       refine au_block_exit ?_
       refine au_then ?_
       refine sR ?_
       refine pV 78 (.int .i64 ((rl (ggs h l) i : Nat) : Int)) ?_
       refine pV 79 (.int .i64 (aM (ggs h l) i).2) ?_
       by_cases c3 : ((aM (ggs h l) i).2) < ((rl (ggs h l) i : Nat) : Int)
       ·skip
        refine pH 80 (.bool true) (dTz (((aM (ggs h l) i).2) < ((rl (ggs h l) i : Nat) : Int)) (c3)) ?_
        refine nT ?_
        refine wp_cond_true (by kernel_rfl) ?_
        refine sR ?_
        refine pV 81 (.int .i64 (i : Int)) ?_
        refine pV 8 (.int .i64 (i : Int)) ?_
        refine nT ?_
        refine rg_lit ?_
        refine pV 82 (.int .i64 ((rl (ggs h l) i : Nat) : Int)) ?_
        refine pV 9 (.int .i64 ((rl (ggs h l) i : Nat) : Int)) ?_
        refine pl_nil ?_
        refine au_block ?_
        refine au_then ?_
        refine rg_lit ?_
        refine pV 62 (.int .i64 (i : Int)) ?_
        refine pH 63 (.int .i64 ((i + 1 : Nat) : Int)) (iV ((i : Int) + 1) (by omega) (by omega) (by omega)) ?_
        refine pV 10 (.int .i64 ((i + 1 : Nat) : Int)) ?_
        refine nT ?_
        exact ⟨fun k_ => ([.int .i64 ((rl (ggs h l) i : Nat) : Int), undef, undef, undef, undef, undef, undef, undef, undef, undef, undef, undef, undef, undef, undef, undef, undef, undef, undef, undef, undef, undef, undef, undef, undef, undef, undef, undef, undef, undef, undef, undef, undef, undef, undef, undef, undef, undef, undef, undef, undef, undef, undef, undef, undef, undef, undef, undef, undef, .int .i64 (i : Int), .bool true, .int .i64 (i : Int), .int .i64 ((i + 1 : Nat) : Int), .int .i64 (i : Int), .int .i64 ((rl (ggs h l) i : Nat) : Int), .int .i64 ((i + (rl (ggs h l) i) : Nat) : Int), .bool true, .bool true, .int .i64 (i : Int), .int .i64 ((rl (ggs h l) i : Nat) : Int), .int .i64 ((i + (rl (ggs h l) i) : Nat) : Int), .pointer (some ⟨g2, ((i + (rl (ggs h l) i) : Nat)), none⟩), .int .u64 ((ggs h l) ((i + (rl (ggs h l) i) : Nat))), .bool false, .bool false, v3 76, v3 77, .int .i64 ((rl (ggs h l) i : Nat) : Int), .int .i64 (aM (ggs h l) i).2, .bool true, .int .i64 (i : Int), .int .i64 ((rl (ggs h l) i : Nat) : Int)] : List Value).getD (k_ - 11) undef, by rw [show aM (ggs h l) (i + 1) = ((i : Int), (rl (ggs h l) i : Int)) from if_pos c3]; kernel_rfl, M⟩
       ·skip
        refine pH 80 (.bool false) (dF (((aM (ggs h l) i).2) < ((rl (ggs h l) i : Nat) : Int)) (c3)) ?_
        refine nT ?_
        refine wp_cond_false (by kernel_rfl) ?_
        refine wp_skip ?_
        refine au_block ?_
        refine au_then ?_
        refine rg_lit ?_
        refine pV 62 (.int .i64 (i : Int)) ?_
        refine pH 63 (.int .i64 ((i + 1 : Nat) : Int)) (iV ((i : Int) + 1) (by omega) (by omega) (by omega)) ?_
        refine pV 10 (.int .i64 ((i + 1 : Nat) : Int)) ?_
        refine nT ?_
        exact ⟨fun k_ => ([.int .i64 ((rl (ggs h l) i : Nat) : Int), undef, undef, undef, undef, undef, undef, undef, undef, undef, undef, undef, undef, undef, undef, undef, undef, undef, undef, undef, undef, undef, undef, undef, undef, undef, undef, undef, undef, undef, undef, undef, undef, undef, undef, undef, undef, undef, undef, undef, undef, undef, undef, undef, undef, undef, undef, undef, undef, .int .i64 (i : Int), .bool true, .int .i64 (i : Int), .int .i64 ((i + 1 : Nat) : Int), .int .i64 (i : Int), .int .i64 ((rl (ggs h l) i : Nat) : Int), .int .i64 ((i + (rl (ggs h l) i) : Nat) : Int), .bool true, .bool true, .int .i64 (i : Int), .int .i64 ((rl (ggs h l) i : Nat) : Int), .int .i64 ((i + (rl (ggs h l) i) : Nat) : Int), .pointer (some ⟨g2, ((i + (rl (ggs h l) i) : Nat)), none⟩), .int .u64 ((ggs h l) ((i + (rl (ggs h l) i) : Nat))), .bool false, .bool false, v3 76, v3 77, .int .i64 ((rl (ggs h l) i : Nat) : Int), .int .i64 (aM (ggs h l) i).2, .bool false, v2 81, v2 82] : List Value).getD (k_ - 11) undef, by rw [show aM (ggs h l) (i + 1) = aM (ggs h l) i from if_neg c3]; kernel_rfl, M⟩
      ·skip
       refine pH 67 (.bool false) (dF (((i + (rl (ggs h l) i) : Nat) : Int) < 8) (c2)) ?_
       refine pV 68 (.bool false) ?_
       refine pl_skip (want_off 4 true rfl 68 rfl (by kernel_rfl)) (some 69) rfl ?_
       refine pl_skip (want_off 4 true rfl 68 rfl (by kernel_rfl)) (some 70) rfl ?_
       refine pl_skip (want_off 4 true rfl 68 rfl (by kernel_rfl)) (some 71) rfl ?_
       refine pl_skip (want_off 4 true rfl 68 rfl (by kernel_rfl)) (some 72) rfl ?_
       refine pl_skip (want_off 4 true rfl 68 rfl (by kernel_rfl)) (some 73) rfl ?_
       refine pl_skip (want_off 4 true rfl 68 rfl (by kernel_rfl)) (some 74) rfl ?_
       refine pV 75 (.bool false) ?_
       refine nT ?_
       refine wp_cond_false (by kernel_rfl) ?_
       refine wp_exit ?_
       refine au_then_exit ?_
       refine au_then_exit ?_
       refine au_block_exit ?_
       refine au_then ?_
       refine sR ?_
       refine pV 78 (.int .i64 ((rl (ggs h l) i : Nat) : Int)) ?_
       refine pV 79 (.int .i64 (aM (ggs h l) i).2) ?_
       by_cases c3 : ((aM (ggs h l) i).2) < ((rl (ggs h l) i : Nat) : Int)
       ·skip
        refine pH 80 (.bool true) (dTz (((aM (ggs h l) i).2) < ((rl (ggs h l) i : Nat) : Int)) (c3)) ?_
        refine nT ?_
        refine wp_cond_true (by kernel_rfl) ?_
        refine sR ?_
        refine pV 81 (.int .i64 (i : Int)) ?_
        refine pV 8 (.int .i64 (i : Int)) ?_
        refine nT ?_
        refine rg_lit ?_
        refine pV 82 (.int .i64 ((rl (ggs h l) i : Nat) : Int)) ?_
        refine pV 9 (.int .i64 ((rl (ggs h l) i : Nat) : Int)) ?_
        refine pl_nil ?_
        refine au_block ?_
        refine au_then ?_
        refine rg_lit ?_
        refine pV 62 (.int .i64 (i : Int)) ?_
        refine pH 63 (.int .i64 ((i + 1 : Nat) : Int)) (iV ((i : Int) + 1) (by omega) (by omega) (by omega)) ?_
        refine pV 10 (.int .i64 ((i + 1 : Nat) : Int)) ?_
        refine nT ?_
        exact ⟨fun k_ => ([.int .i64 ((rl (ggs h l) i : Nat) : Int), undef, undef, undef, undef, undef, undef, undef, undef, undef, undef, undef, undef, undef, undef, undef, undef, undef, undef, undef, undef, undef, undef, undef, undef, undef, undef, undef, undef, undef, undef, undef, undef, undef, undef, undef, undef, undef, undef, undef, undef, undef, undef, undef, undef, undef, undef, undef, undef, .int .i64 (i : Int), .bool true, .int .i64 (i : Int), .int .i64 ((i + 1 : Nat) : Int), .int .i64 (i : Int), .int .i64 ((rl (ggs h l) i : Nat) : Int), .int .i64 ((i + (rl (ggs h l) i) : Nat) : Int), .bool false, .bool false, undef, undef, undef, undef, undef, undef, .bool false, v3 76, v3 77, .int .i64 ((rl (ggs h l) i : Nat) : Int), .int .i64 (aM (ggs h l) i).2, .bool true, .int .i64 (i : Int), .int .i64 ((rl (ggs h l) i : Nat) : Int)] : List Value).getD (k_ - 11) undef, by rw [show aM (ggs h l) (i + 1) = ((i : Int), (rl (ggs h l) i : Int)) from if_pos c3]; kernel_rfl, M⟩
       ·skip
        refine pH 80 (.bool false) (dF (((aM (ggs h l) i).2) < ((rl (ggs h l) i : Nat) : Int)) (c3)) ?_
        refine nT ?_
        refine wp_cond_false (by kernel_rfl) ?_
        refine wp_skip ?_
        refine au_block ?_
        refine au_then ?_
        refine rg_lit ?_
        refine pV 62 (.int .i64 (i : Int)) ?_
        refine pH 63 (.int .i64 ((i + 1 : Nat) : Int)) (iV ((i : Int) + 1) (by omega) (by omega) (by omega)) ?_
        refine pV 10 (.int .i64 ((i + 1 : Nat) : Int)) ?_
        refine nT ?_
        exact ⟨fun k_ => ([.int .i64 ((rl (ggs h l) i : Nat) : Int), undef, undef, undef, undef, undef, undef, undef, undef, undef, undef, undef, undef, undef, undef, undef, undef, undef, undef, undef, undef, undef, undef, undef, undef, undef, undef, undef, undef, undef, undef, undef, undef, undef, undef, undef, undef, undef, undef, undef, undef, undef, undef, undef, undef, undef, undef, undef, undef, .int .i64 (i : Int), .bool true, .int .i64 (i : Int), .int .i64 ((i + 1 : Nat) : Int), .int .i64 (i : Int), .int .i64 ((rl (ggs h l) i : Nat) : Int), .int .i64 ((i + (rl (ggs h l) i) : Nat) : Int), .bool false, .bool false, undef, undef, undef, undef, undef, undef, .bool false, v3 76, v3 77, .int .i64 ((rl (ggs h l) i : Nat) : Int), .int .i64 (aM (ggs h l) i).2, .bool false, v2 81, v2 82] : List Value).getD (k_ - 11) undef, by rw [show aM (ggs h l) (i + 1) = aM (ggs h l) i from if_neg c3]; kernel_rfl, M⟩
    ·intro a u0 hI
     obtain ⟨v2, rfl, M⟩ := hI
     refine wp_seq ?_
     refine sR ?_
     refine pV 60 (.int .i64 (8 : Int)) ?_
     refine pH 61 (.bool false) (dF ((8 : Int) < 8) (by omega)) ?_
     refine nT ?_
     refine wp_cond_false (by kernel_rfl) ?_
     refine wp_exit ?_
     refine au_then_exit ?_
     refine au_then_exit ?_
     refine au_block_exit ?_
     refine au_then ?_
     refine sR ?_
     refine pV 12 (.string ⟨#[]⟩) ?_
     refine nT ?_
     refine wp_seq ?_
     refine sR ?_
     refine pV 13 (.int .i64 0) ?_
     refine nT ?_
     refine wp_block ?_
     refine au_loop (fun i a w' => ∃ v3 : Nat → Value, a = ⟨#[.agg (av 3 (ls [.bool (v), .int .u64 h, .int .u64 l])), .pointer (some ⟨g1, 0, none⟩), .string ⟨#[]⟩, undef, undef, .pointer (some ⟨g2, 0, none⟩), .int .i64 (8 : Int), v1 7, .int .i64 (aM (ggs h l) 8).1, .int .i64 (aM (ggs h l) 8).2, .int .i64 (8 : Int), v2 11, .string (dT h l i), .int .i64 (i : Int), .agg (av 3 (ls [.bool (v), .int .u64 h, .int .u64 l])), .bool true, .bool false, .pointer (some ⟨g1, 0, none⟩), .bool true, .bool false, undef, undef, undef, undef, undef, undef, undef, undef, undef, undef, undef, undef, undef, undef, undef, undef, undef, undef, undef, undef, .int .i64 (8 : Int), .bool false, v1 42, v1 43, v1 44, v1 45, v1 46, v1 47, v1 48, v1 49, v1 50, v1 51, v1 52, v1 53, v1 54, v1 55, v1 56, v1 57, v1 58, v1 59, .int .i64 (8 : Int), .bool false, v2 62, v2 63, v2 64, v2 65, v2 66, v2 67, v2 68, v2 69, v2 70, v2 71, v2 72, v2 73, v2 74, v2 75, v2 76, v2 77, v2 78, v2 79, v2 80, v2 81, v2 82, v3 83, v3 84, v3 85, v3 86, v3 87, v3 88, v3 89, v3 90, v3 91, v3 92, v3 93, v3 94, v3 95, v3 96, v3 97, v3 98, v3 99, v3 100, v3 101, v3 102, v3 103, v3 104, v3 105, v3 106, v3 107, v3 108, v3 109, v3 110, v3 111, v3 112, v3 113, v3 114, v3 115, v3 116, v3 117, v3 118, v3 119, v3 120, v3 121, v3 122, v3 123, v3 124, v3 125, v3 126, v3 127, undef], []⟩ ∧ Mem ⟨w, []⟩ [⟨g1, .cells (av 3 (ls [.bool (v), .int .u64 h, .int .u64 l])) 24⟩, ⟨g2, .cells (av 8 (w64 (ggs h l))) 76⟩] w') 8 ⟨fun k_ => ([undef, undef, undef, undef, undef, undef, undef, undef, undef, undef, undef, undef, undef, undef, undef, undef, undef, undef, undef, undef, undef, undef, undef, undef, undef, undef, undef, undef, undef, undef, undef, undef, undef, undef, undef, undef, undef, undef, undef, undef, undef, undef, undef, undef, undef] : List Value).getD (k_ - 83) undef, by kernel_rfl, M⟩ ?_ ?_
     ·intro i a u0 hi hI
      obtain ⟨v3, rfl, M⟩ := hI
      have ha := aM_bd (ggs h l) 8 (by omega)
      have hz := dT_le h l i
      have hd := hxT_size (ggs h l i).toNat
      have hg := ggs_nn h l i
      refine wp_seq ?_
      refine sR ?_
      refine pV 83 (.int .i64 (i : Int)) ?_
      refine pH 84 (.bool true) (dTz ((i : Int) < 8) (by omega)) ?_
      refine nT ?_
      refine wp_cond_true (by kernel_rfl) ?_
      refine wp_skip ?_
      refine au_then ?_
      refine wp_seq ?_
      refine wp_block ?_
      refine wp_seq ?_
      refine sR ?_
      refine pV 87 (.int .i64 (aM (ggs h l) 8).1) ?_
      by_cases c2 : ((aM (ggs h l) 8).1) < 0
      ·skip
       refine pH 88 (.bool false) (dF (0 ≤ ((aM (ggs h l) 8).1)) (by omega)) ?_
       refine pV 89 (.bool false) ?_
       refine pl_skip (want_off 2 true rfl 89 rfl (by kernel_rfl)) (some 90) rfl ?_
       refine pl_skip (want_off 2 true rfl 89 rfl (by kernel_rfl)) (some 91) rfl ?_
       refine pl_skip (want_off 2 true rfl 89 rfl (by kernel_rfl)) (some 92) rfl ?_
       refine pV 93 (.bool false) ?_
       refine pV 94 (.bool false) ?_
       refine pl_skip (want_off 7 true rfl 94 rfl (by kernel_rfl)) (some 95) rfl ?_
       refine pl_skip (want_off 7 true rfl 94 rfl (by kernel_rfl)) (some 96) rfl ?_
       refine pl_skip (want_off 7 true rfl 94 rfl (by kernel_rfl)) (some 97) rfl ?_
       refine pl_skip (want_off 7 true rfl 94 rfl (by kernel_rfl)) (some 98) rfl ?_
       refine pl_skip (want_off 7 true rfl 94 rfl (by kernel_rfl)) (some 99) rfl ?_
       refine pV 100 (.bool false) ?_
       refine nT ?_
       refine wp_cond_false (by kernel_rfl) ?_
       refine wp_skip ?_
       refine au_then ?_
       refine wp_seq ?_
       refine sR ?_
       refine pV 106 (.int .i64 (i : Int)) ?_
       by_cases c3 : 0 < (i : Int)
       ·skip
        refine pH 107 (.bool true) (dTz (0 < (i : Int)) (c3)) ?_
        refine pV 108 (.bool true) ?_
        refine pl_val (want_on 2 true rfl 108 rfl (by kernel_rfl)) (some 109) rfl (.int .i64 (aM (ggs h l) 8).1) (fun _ => by kernel_rfl) ?_
        refine pl_val (want_on 2 true rfl 108 rfl (by kernel_rfl)) (some 110) rfl (.bool false) (fun w => Eq.trans (b := .ok (.value (.bool (decide (0 ≤ ((aM (ggs h l) 8).1))))) w) (by kernel_rfl) (by rw [decide_eq_false (by omega)])) ?_
        refine pl_val (want_on 2 true rfl 108 rfl (by kernel_rfl)) (some 111) rfl (.bool false) (fun _ => by kernel_rfl) ?_
        refine pl_skip (want_off 5 true rfl 111 rfl (by kernel_rfl)) (some 112) rfl ?_
        refine pl_skip (want_off 5 true rfl 111 rfl (by kernel_rfl)) (some 113) rfl ?_
        refine pl_skip (want_off 5 true rfl 111 rfl (by kernel_rfl)) (some 114) rfl ?_
        refine pl_skip (want_off 5 true rfl 111 rfl (by kernel_rfl)) (some 115) rfl ?_
        refine pl_skip (want_off 5 true rfl 111 rfl (by kernel_rfl)) (some 116) rfl ?_
        refine pl_val (want_on 2 true rfl 108 rfl (by kernel_rfl)) (some 117) rfl (.bool false) (fun _ => by kernel_rfl) ?_
        refine pl_val (want_on 2 true rfl 108 rfl (by kernel_rfl)) (some 118) rfl (.bool true) (fun _ => by kernel_rfl) ?_
        refine pV 119 (.bool true) ?_
        refine nT ?_
        refine wp_cond_true (by kernel_rfl) ?_
        refine rg_lit ?_
        refine pV 120 (.string (dT h l i)) ?_
        refine pH 121 (.string ((dT h l i) ++ (⟨#[58]⟩ : ByteArray))) (run_cat 9 9 _ _ rfl (dT h l i) ⟨#[58]⟩ (by kernel_rfl) (by kernel_rfl) (by have n1 : (⟨#[46]⟩ : ByteArray).size = 1 := rfl; have n2 : (⟨#[58]⟩ : ByteArray).size = 1 := rfl; have n3 : (⟨#[58, 58]⟩ : ByteArray).size = 2 := rfl; simp only [ByteArray.size_append, n1, n2, n3] at *; omega)) ?_
        refine pV 12 (.string ((dT h l i) ++ (⟨#[58]⟩ : ByteArray))) ?_
        refine nT ?_
        refine rg_lit ?_
        refine pV 122 (.string ((dT h l i) ++ (⟨#[58]⟩ : ByteArray))) ?_
        refine pV 123 (.int .i64 (i : Int)) ?_
        refine pH 124 (.pointer (some ⟨g2, i, none⟩)) (run_ix1 76 8 22 Tryz.underlying76 inz22 _ _ rfl g2 (by kernel_rfl) .i64 (i) (by kernel_rfl) (by omega)) ?_
        refine pEz M 125 g2 i (.int .u64 ((ggs h l) i)) (fun w M => M.cell 1 rfl (by omega) rfl) ?_
        refine pC M 126 53 #[.int .u64 ((ggs h l) i), .int .i64 16] (.string (hxT ((ggs h l) i).toNat)) (fun w M => c_fmt16I ((ggs h l) i) hg.1 hg.2 w M.laid) fun u4 M => ?_
        refine pH 127 (.string (((dT h l i) ++ (⟨#[58]⟩ : ByteArray)) ++ (hxT ((ggs h l) i).toNat))) (run_cat 9 9 _ _ rfl ((dT h l i) ++ (⟨#[58]⟩ : ByteArray)) (hxT ((ggs h l) i).toNat) (by kernel_rfl) (by kernel_rfl) (by have n1 : (⟨#[46]⟩ : ByteArray).size = 1 := rfl; have n2 : (⟨#[58]⟩ : ByteArray).size = 1 := rfl; have n3 : (⟨#[58, 58]⟩ : ByteArray).size = 2 := rfl; simp only [ByteArray.size_append, n1, n2, n3] at *; omega)) ?_
        refine pV 12 (.string (((dT h l i) ++ (⟨#[58]⟩ : ByteArray)) ++ (hxT ((ggs h l) i).toNat))) ?_
        refine pl_nil ?_
        refine au_block ?_
        refine au_then ?_
        refine rg_lit ?_
        refine pV 85 (.int .i64 (i : Int)) ?_
        refine pH 86 (.int .i64 ((i + 1 : Nat) : Int)) (iV ((i : Int) + 1) (by omega) (by omega) (by omega)) ?_
        refine pV 13 (.int .i64 ((i + 1 : Nat) : Int)) ?_
        refine nT ?_
        exact ⟨fun k_ => ([.int .i64 (i : Int), .bool true, .int .i64 (i : Int), .int .i64 ((i + 1 : Nat) : Int), .int .i64 (aM (ggs h l) 8).1, .bool false, .bool false, undef, undef, undef, .bool false, .bool false, undef, undef, undef, undef, undef, .bool false, v3 101, v3 102, v3 103, v3 104, v3 105, .int .i64 (i : Int), .bool true, .bool true, .int .i64 (aM (ggs h l) 8).1, .bool false, .bool false, undef, undef, undef, undef, undef, .bool false, .bool true, .bool true, .string (dT h l i), .string ((dT h l i) ++ (⟨#[58]⟩ : ByteArray)), .string ((dT h l i) ++ (⟨#[58]⟩ : ByteArray)), .int .i64 (i : Int), .pointer (some ⟨g2, i, none⟩), .int .u64 ((ggs h l) i), .string (hxT ((ggs h l) i).toNat), .string (((dT h l i) ++ (⟨#[58]⟩ : ByteArray)) ++ (hxT ((ggs h l) i).toNat))] : List Value).getD (k_ - 83) undef, by rw [dT_co h l i (by omega) (by omega)]; kernel_rfl, M⟩
       ·skip
        refine pH 107 (.bool false) (dF (0 < (i : Int)) (c3)) ?_
        refine pV 108 (.bool false) ?_
        refine pl_skip (want_off 2 true rfl 108 rfl (by kernel_rfl)) (some 109) rfl ?_
        refine pl_skip (want_off 2 true rfl 108 rfl (by kernel_rfl)) (some 110) rfl ?_
        refine pl_skip (want_off 2 true rfl 108 rfl (by kernel_rfl)) (some 111) rfl ?_
        refine pl_skip (want_und 5 true rfl 111 rfl (by kernel_rfl)) (some 112) rfl ?_
        refine pl_skip (want_und 5 true rfl 111 rfl (by kernel_rfl)) (some 113) rfl ?_
        refine pl_skip (want_und 5 true rfl 111 rfl (by kernel_rfl)) (some 114) rfl ?_
        refine pl_skip (want_und 5 true rfl 111 rfl (by kernel_rfl)) (some 115) rfl ?_
        refine pl_skip (want_und 5 true rfl 111 rfl (by kernel_rfl)) (some 116) rfl ?_
        refine pl_skip (want_off 2 true rfl 108 rfl (by kernel_rfl)) (some 117) rfl ?_
        refine pl_skip (want_off 2 true rfl 108 rfl (by kernel_rfl)) (some 118) rfl ?_
        refine pV 119 (.bool false) ?_
        refine nT ?_
        refine wp_cond_false (by kernel_rfl) ?_
        refine wp_skip ?_
        refine au_then ?_
        refine rg_lit ?_
        refine pV 122 (.string (dT h l i)) ?_
        refine pV 123 (.int .i64 (i : Int)) ?_
        refine pH 124 (.pointer (some ⟨g2, i, none⟩)) (run_ix1 76 8 22 Tryz.underlying76 inz22 _ _ rfl g2 (by kernel_rfl) .i64 (i) (by kernel_rfl) (by omega)) ?_
        refine pEz M 125 g2 i (.int .u64 ((ggs h l) i)) (fun w M => M.cell 1 rfl (by omega) rfl) ?_
        refine pC M 126 53 #[.int .u64 ((ggs h l) i), .int .i64 16] (.string (hxT ((ggs h l) i).toNat)) (fun w M => c_fmt16I ((ggs h l) i) hg.1 hg.2 w M.laid) fun u4 M => ?_
        refine pH 127 (.string ((dT h l i) ++ (hxT ((ggs h l) i).toNat))) (run_cat 9 9 _ _ rfl (dT h l i) (hxT ((ggs h l) i).toNat) (by kernel_rfl) (by kernel_rfl) (by have n1 : (⟨#[46]⟩ : ByteArray).size = 1 := rfl; have n2 : (⟨#[58]⟩ : ByteArray).size = 1 := rfl; have n3 : (⟨#[58, 58]⟩ : ByteArray).size = 2 := rfl; simp only [ByteArray.size_append, n1, n2, n3] at *; omega)) ?_
        refine pV 12 (.string ((dT h l i) ++ (hxT ((ggs h l) i).toNat))) ?_
        refine pl_nil ?_
        refine au_block ?_
        refine au_then ?_
        refine rg_lit ?_
        refine pV 85 (.int .i64 (i : Int)) ?_
        refine pH 86 (.int .i64 ((i + 1 : Nat) : Int)) (iV ((i : Int) + 1) (by omega) (by omega) (by omega)) ?_
        refine pV 13 (.int .i64 ((i + 1 : Nat) : Int)) ?_
        refine nT ?_
        exact ⟨fun k_ => ([.int .i64 (i : Int), .bool true, .int .i64 (i : Int), .int .i64 ((i + 1 : Nat) : Int), .int .i64 (aM (ggs h l) 8).1, .bool false, .bool false, undef, undef, undef, .bool false, .bool false, undef, undef, undef, undef, undef, .bool false, v3 101, v3 102, v3 103, v3 104, v3 105, .int .i64 (i : Int), .bool false, .bool false, undef, undef, undef, undef, undef, undef, undef, undef, undef, undef, .bool false, v3 120, v3 121, .string (dT h l i), .int .i64 (i : Int), .pointer (some ⟨g2, i, none⟩), .int .u64 ((ggs h l) i), .string (hxT ((ggs h l) i).toNat), .string ((dT h l i) ++ (hxT ((ggs h l) i).toNat))] : List Value).getD (k_ - 83) undef, by rw [dT_no h l i (by omega) (by omega)]; kernel_rfl, M⟩
      ·skip
       refine pH 88 (.bool true) (dTz (0 ≤ ((aM (ggs h l) 8).1)) (by omega)) ?_
       refine pV 89 (.bool true) ?_
       refine pl_val (want_on 2 true rfl 89 rfl (by kernel_rfl)) (some 90) rfl (.int .i64 (i : Int)) (fun _ => by kernel_rfl) ?_
       refine pl_val (want_on 2 true rfl 89 rfl (by kernel_rfl)) (some 91) rfl (.int .i64 (aM (ggs h l) 8).1) (fun _ => by kernel_rfl) ?_
       by_cases c3 : (i : Int) < ((aM (ggs h l) 8).1)
       ·skip
        refine pl_val (want_on 2 true rfl 89 rfl (by kernel_rfl)) (some 92) rfl (.bool false) (fun w => Eq.trans (b := .ok (.value (.bool (decide (((aM (ggs h l) 8).1) ≤ (i : Int))))) w) (by kernel_rfl) (by rw [decide_eq_false (by omega)])) ?_
        refine pV 93 (.bool false) ?_
        refine pV 94 (.bool false) ?_
        refine pl_skip (want_off 7 true rfl 94 rfl (by kernel_rfl)) (some 95) rfl ?_
        refine pl_skip (want_off 7 true rfl 94 rfl (by kernel_rfl)) (some 96) rfl ?_
        refine pl_skip (want_off 7 true rfl 94 rfl (by kernel_rfl)) (some 97) rfl ?_
        refine pl_skip (want_off 7 true rfl 94 rfl (by kernel_rfl)) (some 98) rfl ?_
        refine pl_skip (want_off 7 true rfl 94 rfl (by kernel_rfl)) (some 99) rfl ?_
        refine pV 100 (.bool false) ?_
        refine nT ?_
        refine wp_cond_false (by kernel_rfl) ?_
        refine wp_skip ?_
        refine au_then ?_
        refine wp_seq ?_
        refine sR ?_
        refine pV 106 (.int .i64 (i : Int)) ?_
        by_cases c4 : 0 < (i : Int)
        ·skip
         refine pH 107 (.bool true) (dTz (0 < (i : Int)) (c4)) ?_
         refine pV 108 (.bool true) ?_
         refine pl_val (want_on 2 true rfl 108 rfl (by kernel_rfl)) (some 109) rfl (.int .i64 (aM (ggs h l) 8).1) (fun _ => by kernel_rfl) ?_
         refine pl_val (want_on 2 true rfl 108 rfl (by kernel_rfl)) (some 110) rfl (.bool true) (fun w => Eq.trans (b := .ok (.value (.bool (decide (0 ≤ ((aM (ggs h l) 8).1))))) w) (by kernel_rfl) (by rw [decide_eq_true (by omega)])) ?_
         refine pl_val (want_on 2 true rfl 108 rfl (by kernel_rfl)) (some 111) rfl (.bool true) (fun _ => by kernel_rfl) ?_
         refine pl_val (want_on 5 true rfl 111 rfl (by kernel_rfl)) (some 112) rfl (.int .i64 (i : Int)) (fun _ => by kernel_rfl) ?_
         refine pl_val (want_on 5 true rfl 111 rfl (by kernel_rfl)) (some 113) rfl (.int .i64 (aM (ggs h l) 8).1) (fun _ => by kernel_rfl) ?_
         refine pl_val (want_on 5 true rfl 111 rfl (by kernel_rfl)) (some 114) rfl (.int .i64 (aM (ggs h l) 8).2) (fun _ => by kernel_rfl) ?_
         refine pl_val (want_on 5 true rfl 111 rfl (by kernel_rfl)) (some 115) rfl (.int .i64 ((aM (ggs h l) 8).1 + (aM (ggs h l) 8).2)) (fun w => Eq.trans (b := .ok (.value (.int .i64 (cv .i64 ((aM (ggs h l) 8).1 + (aM (ggs h l) 8).2)))) w) (by kernel_rfl) (by rw [cv_i64 (by omega) (by omega)])) ?_
         by_cases c5 : (i : Int) = ((aM (ggs h l) 8).1 + (aM (ggs h l) 8).2)
         ·skip
          refine pl_val (want_on 5 true rfl 111 rfl (by kernel_rfl)) (some 116) rfl (.bool true) (fun w => Eq.trans (b := .ok (.value (.bool (decide ((i : Int) = ((aM (ggs h l) 8).1 + (aM (ggs h l) 8).2))))) w) (by kernel_rfl) (by rw [decide_eq_true (c5)])) ?_
          refine pl_val (want_on 2 true rfl 108 rfl (by kernel_rfl)) (some 117) rfl (.bool true) (fun _ => by kernel_rfl) ?_
          refine pl_val (want_on 2 true rfl 108 rfl (by kernel_rfl)) (some 118) rfl (.bool false) (fun _ => by kernel_rfl) ?_
          refine pV 119 (.bool false) ?_
          refine nT ?_
          refine wp_cond_false (by kernel_rfl) ?_
          refine wp_skip ?_
          refine au_then ?_
          refine rg_lit ?_
          refine pV 122 (.string (dT h l i)) ?_
          refine pV 123 (.int .i64 (i : Int)) ?_
          refine pH 124 (.pointer (some ⟨g2, i, none⟩)) (run_ix1 76 8 22 Tryz.underlying76 inz22 _ _ rfl g2 (by kernel_rfl) .i64 (i) (by kernel_rfl) (by omega)) ?_
          refine pEz M 125 g2 i (.int .u64 ((ggs h l) i)) (fun w M => M.cell 1 rfl (by omega) rfl) ?_
          refine pC M 126 53 #[.int .u64 ((ggs h l) i), .int .i64 16] (.string (hxT ((ggs h l) i).toNat)) (fun w M => c_fmt16I ((ggs h l) i) hg.1 hg.2 w M.laid) fun u4 M => ?_
          refine pH 127 (.string ((dT h l i) ++ (hxT ((ggs h l) i).toNat))) (run_cat 9 9 _ _ rfl (dT h l i) (hxT ((ggs h l) i).toNat) (by kernel_rfl) (by kernel_rfl) (by have n1 : (⟨#[46]⟩ : ByteArray).size = 1 := rfl; have n2 : (⟨#[58]⟩ : ByteArray).size = 1 := rfl; have n3 : (⟨#[58, 58]⟩ : ByteArray).size = 2 := rfl; simp only [ByteArray.size_append, n1, n2, n3] at *; omega)) ?_
          refine pV 12 (.string ((dT h l i) ++ (hxT ((ggs h l) i).toNat))) ?_
          refine pl_nil ?_
          refine au_block ?_
          refine au_then ?_
          refine rg_lit ?_
          refine pV 85 (.int .i64 (i : Int)) ?_
          refine pH 86 (.int .i64 ((i + 1 : Nat) : Int)) (iV ((i : Int) + 1) (by omega) (by omega) (by omega)) ?_
          refine pV 13 (.int .i64 ((i + 1 : Nat) : Int)) ?_
          refine nT ?_
          exact ⟨fun k_ => ([.int .i64 (i : Int), .bool true, .int .i64 (i : Int), .int .i64 ((i + 1 : Nat) : Int), .int .i64 (aM (ggs h l) 8).1, .bool true, .bool true, .int .i64 (i : Int), .int .i64 (aM (ggs h l) 8).1, .bool false, .bool false, .bool false, undef, undef, undef, undef, undef, .bool false, v3 101, v3 102, v3 103, v3 104, v3 105, .int .i64 (i : Int), .bool true, .bool true, .int .i64 (aM (ggs h l) 8).1, .bool true, .bool true, .int .i64 (i : Int), .int .i64 (aM (ggs h l) 8).1, .int .i64 (aM (ggs h l) 8).2, .int .i64 ((aM (ggs h l) 8).1 + (aM (ggs h l) 8).2), .bool true, .bool true, .bool false, .bool false, v3 120, v3 121, .string (dT h l i), .int .i64 (i : Int), .pointer (some ⟨g2, i, none⟩), .int .u64 ((ggs h l) i), .string (hxT ((ggs h l) i).toNat), .string ((dT h l i) ++ (hxT ((ggs h l) i).toNat))] : List Value).getD (k_ - 83) undef, by rw [dT_no h l i (by omega) (by omega)]; kernel_rfl, M⟩
         ·skip
          refine pl_val (want_on 5 true rfl 111 rfl (by kernel_rfl)) (some 116) rfl (.bool false) (fun w => Eq.trans (b := .ok (.value (.bool (decide ((i : Int) = ((aM (ggs h l) 8).1 + (aM (ggs h l) 8).2))))) w) (by kernel_rfl) (by rw [decide_eq_false (c5)])) ?_
          refine pl_val (want_on 2 true rfl 108 rfl (by kernel_rfl)) (some 117) rfl (.bool false) (fun _ => by kernel_rfl) ?_
          refine pl_val (want_on 2 true rfl 108 rfl (by kernel_rfl)) (some 118) rfl (.bool true) (fun _ => by kernel_rfl) ?_
          refine pV 119 (.bool true) ?_
          refine nT ?_
          refine wp_cond_true (by kernel_rfl) ?_
          refine rg_lit ?_
          refine pV 120 (.string (dT h l i)) ?_
          refine pH 121 (.string ((dT h l i) ++ (⟨#[58]⟩ : ByteArray))) (run_cat 9 9 _ _ rfl (dT h l i) ⟨#[58]⟩ (by kernel_rfl) (by kernel_rfl) (by have n1 : (⟨#[46]⟩ : ByteArray).size = 1 := rfl; have n2 : (⟨#[58]⟩ : ByteArray).size = 1 := rfl; have n3 : (⟨#[58, 58]⟩ : ByteArray).size = 2 := rfl; simp only [ByteArray.size_append, n1, n2, n3] at *; omega)) ?_
          refine pV 12 (.string ((dT h l i) ++ (⟨#[58]⟩ : ByteArray))) ?_
          refine nT ?_
          refine rg_lit ?_
          refine pV 122 (.string ((dT h l i) ++ (⟨#[58]⟩ : ByteArray))) ?_
          refine pV 123 (.int .i64 (i : Int)) ?_
          refine pH 124 (.pointer (some ⟨g2, i, none⟩)) (run_ix1 76 8 22 Tryz.underlying76 inz22 _ _ rfl g2 (by kernel_rfl) .i64 (i) (by kernel_rfl) (by omega)) ?_
          refine pEz M 125 g2 i (.int .u64 ((ggs h l) i)) (fun w M => M.cell 1 rfl (by omega) rfl) ?_
          refine pC M 126 53 #[.int .u64 ((ggs h l) i), .int .i64 16] (.string (hxT ((ggs h l) i).toNat)) (fun w M => c_fmt16I ((ggs h l) i) hg.1 hg.2 w M.laid) fun u4 M => ?_
          refine pH 127 (.string (((dT h l i) ++ (⟨#[58]⟩ : ByteArray)) ++ (hxT ((ggs h l) i).toNat))) (run_cat 9 9 _ _ rfl ((dT h l i) ++ (⟨#[58]⟩ : ByteArray)) (hxT ((ggs h l) i).toNat) (by kernel_rfl) (by kernel_rfl) (by have n1 : (⟨#[46]⟩ : ByteArray).size = 1 := rfl; have n2 : (⟨#[58]⟩ : ByteArray).size = 1 := rfl; have n3 : (⟨#[58, 58]⟩ : ByteArray).size = 2 := rfl; simp only [ByteArray.size_append, n1, n2, n3] at *; omega)) ?_
          refine pV 12 (.string (((dT h l i) ++ (⟨#[58]⟩ : ByteArray)) ++ (hxT ((ggs h l) i).toNat))) ?_
          refine pl_nil ?_
          refine au_block ?_
          refine au_then ?_
          refine rg_lit ?_
          refine pV 85 (.int .i64 (i : Int)) ?_
          refine pH 86 (.int .i64 ((i + 1 : Nat) : Int)) (iV ((i : Int) + 1) (by omega) (by omega) (by omega)) ?_
          refine pV 13 (.int .i64 ((i + 1 : Nat) : Int)) ?_
          refine nT ?_
          exact ⟨fun k_ => ([.int .i64 (i : Int), .bool true, .int .i64 (i : Int), .int .i64 ((i + 1 : Nat) : Int), .int .i64 (aM (ggs h l) 8).1, .bool true, .bool true, .int .i64 (i : Int), .int .i64 (aM (ggs h l) 8).1, .bool false, .bool false, .bool false, undef, undef, undef, undef, undef, .bool false, v3 101, v3 102, v3 103, v3 104, v3 105, .int .i64 (i : Int), .bool true, .bool true, .int .i64 (aM (ggs h l) 8).1, .bool true, .bool true, .int .i64 (i : Int), .int .i64 (aM (ggs h l) 8).1, .int .i64 (aM (ggs h l) 8).2, .int .i64 ((aM (ggs h l) 8).1 + (aM (ggs h l) 8).2), .bool false, .bool false, .bool true, .bool true, .string (dT h l i), .string ((dT h l i) ++ (⟨#[58]⟩ : ByteArray)), .string ((dT h l i) ++ (⟨#[58]⟩ : ByteArray)), .int .i64 (i : Int), .pointer (some ⟨g2, i, none⟩), .int .u64 ((ggs h l) i), .string (hxT ((ggs h l) i).toNat), .string (((dT h l i) ++ (⟨#[58]⟩ : ByteArray)) ++ (hxT ((ggs h l) i).toNat))] : List Value).getD (k_ - 83) undef, by rw [dT_co h l i (by omega) (by omega)]; kernel_rfl, M⟩
        ·skip
         refine pH 107 (.bool false) (dF (0 < (i : Int)) (c4)) ?_
         refine pV 108 (.bool false) ?_
         refine pl_skip (want_off 2 true rfl 108 rfl (by kernel_rfl)) (some 109) rfl ?_
         refine pl_skip (want_off 2 true rfl 108 rfl (by kernel_rfl)) (some 110) rfl ?_
         refine pl_skip (want_off 2 true rfl 108 rfl (by kernel_rfl)) (some 111) rfl ?_
         refine pl_skip (want_und 5 true rfl 111 rfl (by kernel_rfl)) (some 112) rfl ?_
         refine pl_skip (want_und 5 true rfl 111 rfl (by kernel_rfl)) (some 113) rfl ?_
         refine pl_skip (want_und 5 true rfl 111 rfl (by kernel_rfl)) (some 114) rfl ?_
         refine pl_skip (want_und 5 true rfl 111 rfl (by kernel_rfl)) (some 115) rfl ?_
         refine pl_skip (want_und 5 true rfl 111 rfl (by kernel_rfl)) (some 116) rfl ?_
         refine pl_skip (want_off 2 true rfl 108 rfl (by kernel_rfl)) (some 117) rfl ?_
         refine pl_skip (want_off 2 true rfl 108 rfl (by kernel_rfl)) (some 118) rfl ?_
         refine pV 119 (.bool false) ?_
         refine nT ?_
         refine wp_cond_false (by kernel_rfl) ?_
         refine wp_skip ?_
         refine au_then ?_
         refine rg_lit ?_
         refine pV 122 (.string (dT h l i)) ?_
         refine pV 123 (.int .i64 (i : Int)) ?_
         refine pH 124 (.pointer (some ⟨g2, i, none⟩)) (run_ix1 76 8 22 Tryz.underlying76 inz22 _ _ rfl g2 (by kernel_rfl) .i64 (i) (by kernel_rfl) (by omega)) ?_
         refine pEz M 125 g2 i (.int .u64 ((ggs h l) i)) (fun w M => M.cell 1 rfl (by omega) rfl) ?_
         refine pC M 126 53 #[.int .u64 ((ggs h l) i), .int .i64 16] (.string (hxT ((ggs h l) i).toNat)) (fun w M => c_fmt16I ((ggs h l) i) hg.1 hg.2 w M.laid) fun u4 M => ?_
         refine pH 127 (.string ((dT h l i) ++ (hxT ((ggs h l) i).toNat))) (run_cat 9 9 _ _ rfl (dT h l i) (hxT ((ggs h l) i).toNat) (by kernel_rfl) (by kernel_rfl) (by have n1 : (⟨#[46]⟩ : ByteArray).size = 1 := rfl; have n2 : (⟨#[58]⟩ : ByteArray).size = 1 := rfl; have n3 : (⟨#[58, 58]⟩ : ByteArray).size = 2 := rfl; simp only [ByteArray.size_append, n1, n2, n3] at *; omega)) ?_
         refine pV 12 (.string ((dT h l i) ++ (hxT ((ggs h l) i).toNat))) ?_
         refine pl_nil ?_
         refine au_block ?_
         refine au_then ?_
         refine rg_lit ?_
         refine pV 85 (.int .i64 (i : Int)) ?_
         refine pH 86 (.int .i64 ((i + 1 : Nat) : Int)) (iV ((i : Int) + 1) (by omega) (by omega) (by omega)) ?_
         refine pV 13 (.int .i64 ((i + 1 : Nat) : Int)) ?_
         refine nT ?_
         exact ⟨fun k_ => ([.int .i64 (i : Int), .bool true, .int .i64 (i : Int), .int .i64 ((i + 1 : Nat) : Int), .int .i64 (aM (ggs h l) 8).1, .bool true, .bool true, .int .i64 (i : Int), .int .i64 (aM (ggs h l) 8).1, .bool false, .bool false, .bool false, undef, undef, undef, undef, undef, .bool false, v3 101, v3 102, v3 103, v3 104, v3 105, .int .i64 (i : Int), .bool false, .bool false, undef, undef, undef, undef, undef, undef, undef, undef, undef, undef, .bool false, v3 120, v3 121, .string (dT h l i), .int .i64 (i : Int), .pointer (some ⟨g2, i, none⟩), .int .u64 ((ggs h l) i), .string (hxT ((ggs h l) i).toNat), .string ((dT h l i) ++ (hxT ((ggs h l) i).toNat))] : List Value).getD (k_ - 83) undef, by rw [dT_no h l i (by omega) (by omega)]; kernel_rfl, M⟩
       ·skip
        refine pl_val (want_on 2 true rfl 89 rfl (by kernel_rfl)) (some 92) rfl (.bool true) (fun w => Eq.trans (b := .ok (.value (.bool (decide (((aM (ggs h l) 8).1) ≤ (i : Int))))) w) (by kernel_rfl) (by rw [decide_eq_true (by omega)])) ?_
        refine pV 93 (.bool true) ?_
        refine pV 94 (.bool true) ?_
        refine pl_val (want_on 7 true rfl 94 rfl (by kernel_rfl)) (some 95) rfl (.int .i64 (i : Int)) (fun _ => by kernel_rfl) ?_
        refine pl_val (want_on 7 true rfl 94 rfl (by kernel_rfl)) (some 96) rfl (.int .i64 (aM (ggs h l) 8).1) (fun _ => by kernel_rfl) ?_
        refine pl_val (want_on 7 true rfl 94 rfl (by kernel_rfl)) (some 97) rfl (.int .i64 (aM (ggs h l) 8).2) (fun _ => by kernel_rfl) ?_
        refine pl_val (want_on 7 true rfl 94 rfl (by kernel_rfl)) (some 98) rfl (.int .i64 ((aM (ggs h l) 8).1 + (aM (ggs h l) 8).2)) (fun w => Eq.trans (b := .ok (.value (.int .i64 (cv .i64 ((aM (ggs h l) 8).1 + (aM (ggs h l) 8).2)))) w) (by kernel_rfl) (by rw [cv_i64 (by omega) (by omega)])) ?_
        by_cases c4 : (i : Int) < ((aM (ggs h l) 8).1 + (aM (ggs h l) 8).2)
        ·skip
         refine pl_val (want_on 7 true rfl 94 rfl (by kernel_rfl)) (some 99) rfl (.bool true) (fun w => Eq.trans (b := .ok (.value (.bool (decide ((i : Int) < ((aM (ggs h l) 8).1 + (aM (ggs h l) 8).2))))) w) (by kernel_rfl) (by rw [decide_eq_true (c4)])) ?_
         refine pV 100 (.bool true) ?_
         refine nT ?_
         refine wp_cond_true (by kernel_rfl) ?_
         refine wp_seq ?_
         refine sR ?_
         refine pV 101 (.int .i64 (i : Int)) ?_
         refine pV 102 (.int .i64 (aM (ggs h l) 8).1) ?_
         by_cases c5 : (i : Int) = ((aM (ggs h l) 8).1)
         ·skip
          refine pH 103 (.bool true) (dTz ((i : Int) = ((aM (ggs h l) 8).1)) (c5)) ?_
          refine nT ?_
          refine wp_cond_true (by kernel_rfl) ?_
          refine rg_lit ?_
          refine pV 104 (.string (dT h l i)) ?_
          refine pH 105 (.string ((dT h l i) ++ (⟨#[58, 58]⟩ : ByteArray))) (run_cat 9 9 _ _ rfl (dT h l i) ⟨#[58, 58]⟩ (by kernel_rfl) (by kernel_rfl) (by have n1 : (⟨#[46]⟩ : ByteArray).size = 1 := rfl; have n2 : (⟨#[58]⟩ : ByteArray).size = 1 := rfl; have n3 : (⟨#[58, 58]⟩ : ByteArray).size = 2 := rfl; simp only [ByteArray.size_append, n1, n2, n3] at *; omega)) ?_
          refine pV 12 (.string ((dT h l i) ++ (⟨#[58, 58]⟩ : ByteArray))) ?_
          refine nT ?_
          refine wp_exit ?_
          refine au_then_exit ?_
          refine au_block_exit ?_
          refine au_then ?_
          refine rg_lit ?_
          refine pV 85 (.int .i64 (i : Int)) ?_
          refine pH 86 (.int .i64 ((i + 1 : Nat) : Int)) (iV ((i : Int) + 1) (by omega) (by omega) (by omega)) ?_
          refine pV 13 (.int .i64 ((i + 1 : Nat) : Int)) ?_
          refine nT ?_
          exact ⟨fun k_ => ([.int .i64 (i : Int), .bool true, .int .i64 (i : Int), .int .i64 ((i + 1 : Nat) : Int), .int .i64 (aM (ggs h l) 8).1, .bool true, .bool true, .int .i64 (i : Int), .int .i64 (aM (ggs h l) 8).1, .bool true, .bool true, .bool true, .int .i64 (i : Int), .int .i64 (aM (ggs h l) 8).1, .int .i64 (aM (ggs h l) 8).2, .int .i64 ((aM (ggs h l) 8).1 + (aM (ggs h l) 8).2), .bool true, .bool true, .int .i64 (i : Int), .int .i64 (aM (ggs h l) 8).1, .bool true, .string (dT h l i), .string ((dT h l i) ++ (⟨#[58, 58]⟩ : ByteArray)), v3 106, v3 107, v3 108, v3 109, v3 110, v3 111, v3 112, v3 113, v3 114, v3 115, v3 116, v3 117, v3 118, v3 119, v3 120, v3 121, v3 122, v3 123, v3 124, v3 125, v3 126, v3 127] : List Value).getD (k_ - 83) undef, by rw [dT_cc h l i (by omega) (by omega)]; kernel_rfl, M⟩
         ·skip
          refine pH 103 (.bool false) (dF ((i : Int) = ((aM (ggs h l) 8).1)) (c5)) ?_
          refine nT ?_
          refine wp_cond_false (by kernel_rfl) ?_
          refine wp_skip ?_
          refine au_then ?_
          refine wp_exit ?_
          refine au_then_exit ?_
          refine au_block_exit ?_
          refine au_then ?_
          refine rg_lit ?_
          refine pV 85 (.int .i64 (i : Int)) ?_
          refine pH 86 (.int .i64 ((i + 1 : Nat) : Int)) (iV ((i : Int) + 1) (by omega) (by omega) (by omega)) ?_
          refine pV 13 (.int .i64 ((i + 1 : Nat) : Int)) ?_
          refine nT ?_
          exact ⟨fun k_ => ([.int .i64 (i : Int), .bool true, .int .i64 (i : Int), .int .i64 ((i + 1 : Nat) : Int), .int .i64 (aM (ggs h l) 8).1, .bool true, .bool true, .int .i64 (i : Int), .int .i64 (aM (ggs h l) 8).1, .bool true, .bool true, .bool true, .int .i64 (i : Int), .int .i64 (aM (ggs h l) 8).1, .int .i64 (aM (ggs h l) 8).2, .int .i64 ((aM (ggs h l) 8).1 + (aM (ggs h l) 8).2), .bool true, .bool true, .int .i64 (i : Int), .int .i64 (aM (ggs h l) 8).1, .bool false, v3 104, v3 105, v3 106, v3 107, v3 108, v3 109, v3 110, v3 111, v3 112, v3 113, v3 114, v3 115, v3 116, v3 117, v3 118, v3 119, v3 120, v3 121, v3 122, v3 123, v3 124, v3 125, v3 126, v3 127] : List Value).getD (k_ - 83) undef, by rw [dT_sk h l i (by omega) (by omega)]; kernel_rfl, M⟩
        ·skip
         refine pl_val (want_on 7 true rfl 94 rfl (by kernel_rfl)) (some 99) rfl (.bool false) (fun w => Eq.trans (b := .ok (.value (.bool (decide ((i : Int) < ((aM (ggs h l) 8).1 + (aM (ggs h l) 8).2))))) w) (by kernel_rfl) (by rw [decide_eq_false (c4)])) ?_
         refine pV 100 (.bool false) ?_
         refine nT ?_
         refine wp_cond_false (by kernel_rfl) ?_
         refine wp_skip ?_
         refine au_then ?_
         refine wp_seq ?_
         refine sR ?_
         refine pV 106 (.int .i64 (i : Int)) ?_
         by_cases c5 : 0 < (i : Int)
         ·skip
          refine pH 107 (.bool true) (dTz (0 < (i : Int)) (c5)) ?_
          refine pV 108 (.bool true) ?_
          refine pl_val (want_on 2 true rfl 108 rfl (by kernel_rfl)) (some 109) rfl (.int .i64 (aM (ggs h l) 8).1) (fun _ => by kernel_rfl) ?_
          refine pl_val (want_on 2 true rfl 108 rfl (by kernel_rfl)) (some 110) rfl (.bool true) (fun w => Eq.trans (b := .ok (.value (.bool (decide (0 ≤ ((aM (ggs h l) 8).1))))) w) (by kernel_rfl) (by rw [decide_eq_true (by omega)])) ?_
          refine pl_val (want_on 2 true rfl 108 rfl (by kernel_rfl)) (some 111) rfl (.bool true) (fun _ => by kernel_rfl) ?_
          refine pl_val (want_on 5 true rfl 111 rfl (by kernel_rfl)) (some 112) rfl (.int .i64 (i : Int)) (fun _ => by kernel_rfl) ?_
          refine pl_val (want_on 5 true rfl 111 rfl (by kernel_rfl)) (some 113) rfl (.int .i64 (aM (ggs h l) 8).1) (fun _ => by kernel_rfl) ?_
          refine pl_val (want_on 5 true rfl 111 rfl (by kernel_rfl)) (some 114) rfl (.int .i64 (aM (ggs h l) 8).2) (fun _ => by kernel_rfl) ?_
          refine pl_val (want_on 5 true rfl 111 rfl (by kernel_rfl)) (some 115) rfl (.int .i64 ((aM (ggs h l) 8).1 + (aM (ggs h l) 8).2)) (fun w => Eq.trans (b := .ok (.value (.int .i64 (cv .i64 ((aM (ggs h l) 8).1 + (aM (ggs h l) 8).2)))) w) (by kernel_rfl) (by rw [cv_i64 (by omega) (by omega)])) ?_
          by_cases c6 : (i : Int) = ((aM (ggs h l) 8).1 + (aM (ggs h l) 8).2)
          ·skip
           refine pl_val (want_on 5 true rfl 111 rfl (by kernel_rfl)) (some 116) rfl (.bool true) (fun w => Eq.trans (b := .ok (.value (.bool (decide ((i : Int) = ((aM (ggs h l) 8).1 + (aM (ggs h l) 8).2))))) w) (by kernel_rfl) (by rw [decide_eq_true (c6)])) ?_
           refine pl_val (want_on 2 true rfl 108 rfl (by kernel_rfl)) (some 117) rfl (.bool true) (fun _ => by kernel_rfl) ?_
           refine pl_val (want_on 2 true rfl 108 rfl (by kernel_rfl)) (some 118) rfl (.bool false) (fun _ => by kernel_rfl) ?_
           refine pV 119 (.bool false) ?_
           refine nT ?_
           refine wp_cond_false (by kernel_rfl) ?_
           refine wp_skip ?_
           refine au_then ?_
           refine rg_lit ?_
           refine pV 122 (.string (dT h l i)) ?_
           refine pV 123 (.int .i64 (i : Int)) ?_
           refine pH 124 (.pointer (some ⟨g2, i, none⟩)) (run_ix1 76 8 22 Tryz.underlying76 inz22 _ _ rfl g2 (by kernel_rfl) .i64 (i) (by kernel_rfl) (by omega)) ?_
           refine pEz M 125 g2 i (.int .u64 ((ggs h l) i)) (fun w M => M.cell 1 rfl (by omega) rfl) ?_
           refine pC M 126 53 #[.int .u64 ((ggs h l) i), .int .i64 16] (.string (hxT ((ggs h l) i).toNat)) (fun w M => c_fmt16I ((ggs h l) i) hg.1 hg.2 w M.laid) fun u4 M => ?_
           refine pH 127 (.string ((dT h l i) ++ (hxT ((ggs h l) i).toNat))) (run_cat 9 9 _ _ rfl (dT h l i) (hxT ((ggs h l) i).toNat) (by kernel_rfl) (by kernel_rfl) (by have n1 : (⟨#[46]⟩ : ByteArray).size = 1 := rfl; have n2 : (⟨#[58]⟩ : ByteArray).size = 1 := rfl; have n3 : (⟨#[58, 58]⟩ : ByteArray).size = 2 := rfl; simp only [ByteArray.size_append, n1, n2, n3] at *; omega)) ?_
           refine pV 12 (.string ((dT h l i) ++ (hxT ((ggs h l) i).toNat))) ?_
           refine pl_nil ?_
           refine au_block ?_
           refine au_then ?_
           refine rg_lit ?_
           refine pV 85 (.int .i64 (i : Int)) ?_
           refine pH 86 (.int .i64 ((i + 1 : Nat) : Int)) (iV ((i : Int) + 1) (by omega) (by omega) (by omega)) ?_
           refine pV 13 (.int .i64 ((i + 1 : Nat) : Int)) ?_
           refine nT ?_
           exact ⟨fun k_ => ([.int .i64 (i : Int), .bool true, .int .i64 (i : Int), .int .i64 ((i + 1 : Nat) : Int), .int .i64 (aM (ggs h l) 8).1, .bool true, .bool true, .int .i64 (i : Int), .int .i64 (aM (ggs h l) 8).1, .bool true, .bool true, .bool true, .int .i64 (i : Int), .int .i64 (aM (ggs h l) 8).1, .int .i64 (aM (ggs h l) 8).2, .int .i64 ((aM (ggs h l) 8).1 + (aM (ggs h l) 8).2), .bool false, .bool false, v3 101, v3 102, v3 103, v3 104, v3 105, .int .i64 (i : Int), .bool true, .bool true, .int .i64 (aM (ggs h l) 8).1, .bool true, .bool true, .int .i64 (i : Int), .int .i64 (aM (ggs h l) 8).1, .int .i64 (aM (ggs h l) 8).2, .int .i64 ((aM (ggs h l) 8).1 + (aM (ggs h l) 8).2), .bool true, .bool true, .bool false, .bool false, v3 120, v3 121, .string (dT h l i), .int .i64 (i : Int), .pointer (some ⟨g2, i, none⟩), .int .u64 ((ggs h l) i), .string (hxT ((ggs h l) i).toNat), .string ((dT h l i) ++ (hxT ((ggs h l) i).toNat))] : List Value).getD (k_ - 83) undef, by rw [dT_no h l i (by omega) (by omega)]; kernel_rfl, M⟩
          ·skip
           refine pl_val (want_on 5 true rfl 111 rfl (by kernel_rfl)) (some 116) rfl (.bool false) (fun w => Eq.trans (b := .ok (.value (.bool (decide ((i : Int) = ((aM (ggs h l) 8).1 + (aM (ggs h l) 8).2))))) w) (by kernel_rfl) (by rw [decide_eq_false (c6)])) ?_
           refine pl_val (want_on 2 true rfl 108 rfl (by kernel_rfl)) (some 117) rfl (.bool false) (fun _ => by kernel_rfl) ?_
           refine pl_val (want_on 2 true rfl 108 rfl (by kernel_rfl)) (some 118) rfl (.bool true) (fun _ => by kernel_rfl) ?_
           refine pV 119 (.bool true) ?_
           refine nT ?_
           refine wp_cond_true (by kernel_rfl) ?_
           refine rg_lit ?_
           refine pV 120 (.string (dT h l i)) ?_
           refine pH 121 (.string ((dT h l i) ++ (⟨#[58]⟩ : ByteArray))) (run_cat 9 9 _ _ rfl (dT h l i) ⟨#[58]⟩ (by kernel_rfl) (by kernel_rfl) (by have n1 : (⟨#[46]⟩ : ByteArray).size = 1 := rfl; have n2 : (⟨#[58]⟩ : ByteArray).size = 1 := rfl; have n3 : (⟨#[58, 58]⟩ : ByteArray).size = 2 := rfl; simp only [ByteArray.size_append, n1, n2, n3] at *; omega)) ?_
           refine pV 12 (.string ((dT h l i) ++ (⟨#[58]⟩ : ByteArray))) ?_
           refine nT ?_
           refine rg_lit ?_
           refine pV 122 (.string ((dT h l i) ++ (⟨#[58]⟩ : ByteArray))) ?_
           refine pV 123 (.int .i64 (i : Int)) ?_
           refine pH 124 (.pointer (some ⟨g2, i, none⟩)) (run_ix1 76 8 22 Tryz.underlying76 inz22 _ _ rfl g2 (by kernel_rfl) .i64 (i) (by kernel_rfl) (by omega)) ?_
           refine pEz M 125 g2 i (.int .u64 ((ggs h l) i)) (fun w M => M.cell 1 rfl (by omega) rfl) ?_
           refine pC M 126 53 #[.int .u64 ((ggs h l) i), .int .i64 16] (.string (hxT ((ggs h l) i).toNat)) (fun w M => c_fmt16I ((ggs h l) i) hg.1 hg.2 w M.laid) fun u4 M => ?_
           refine pH 127 (.string (((dT h l i) ++ (⟨#[58]⟩ : ByteArray)) ++ (hxT ((ggs h l) i).toNat))) (run_cat 9 9 _ _ rfl ((dT h l i) ++ (⟨#[58]⟩ : ByteArray)) (hxT ((ggs h l) i).toNat) (by kernel_rfl) (by kernel_rfl) (by have n1 : (⟨#[46]⟩ : ByteArray).size = 1 := rfl; have n2 : (⟨#[58]⟩ : ByteArray).size = 1 := rfl; have n3 : (⟨#[58, 58]⟩ : ByteArray).size = 2 := rfl; simp only [ByteArray.size_append, n1, n2, n3] at *; omega)) ?_
           refine pV 12 (.string (((dT h l i) ++ (⟨#[58]⟩ : ByteArray)) ++ (hxT ((ggs h l) i).toNat))) ?_
           refine pl_nil ?_
           refine au_block ?_
           refine au_then ?_
           refine rg_lit ?_
           refine pV 85 (.int .i64 (i : Int)) ?_
           refine pH 86 (.int .i64 ((i + 1 : Nat) : Int)) (iV ((i : Int) + 1) (by omega) (by omega) (by omega)) ?_
           refine pV 13 (.int .i64 ((i + 1 : Nat) : Int)) ?_
           refine nT ?_
           exact ⟨fun k_ => ([.int .i64 (i : Int), .bool true, .int .i64 (i : Int), .int .i64 ((i + 1 : Nat) : Int), .int .i64 (aM (ggs h l) 8).1, .bool true, .bool true, .int .i64 (i : Int), .int .i64 (aM (ggs h l) 8).1, .bool true, .bool true, .bool true, .int .i64 (i : Int), .int .i64 (aM (ggs h l) 8).1, .int .i64 (aM (ggs h l) 8).2, .int .i64 ((aM (ggs h l) 8).1 + (aM (ggs h l) 8).2), .bool false, .bool false, v3 101, v3 102, v3 103, v3 104, v3 105, .int .i64 (i : Int), .bool true, .bool true, .int .i64 (aM (ggs h l) 8).1, .bool true, .bool true, .int .i64 (i : Int), .int .i64 (aM (ggs h l) 8).1, .int .i64 (aM (ggs h l) 8).2, .int .i64 ((aM (ggs h l) 8).1 + (aM (ggs h l) 8).2), .bool false, .bool false, .bool true, .bool true, .string (dT h l i), .string ((dT h l i) ++ (⟨#[58]⟩ : ByteArray)), .string ((dT h l i) ++ (⟨#[58]⟩ : ByteArray)), .int .i64 (i : Int), .pointer (some ⟨g2, i, none⟩), .int .u64 ((ggs h l) i), .string (hxT ((ggs h l) i).toNat), .string (((dT h l i) ++ (⟨#[58]⟩ : ByteArray)) ++ (hxT ((ggs h l) i).toNat))] : List Value).getD (k_ - 83) undef, by rw [dT_co h l i (by omega) (by omega)]; kernel_rfl, M⟩
         ·skip
          refine pH 107 (.bool false) (dF (0 < (i : Int)) (c5)) ?_
          refine pV 108 (.bool false) ?_
          refine pl_skip (want_off 2 true rfl 108 rfl (by kernel_rfl)) (some 109) rfl ?_
          refine pl_skip (want_off 2 true rfl 108 rfl (by kernel_rfl)) (some 110) rfl ?_
          refine pl_skip (want_off 2 true rfl 108 rfl (by kernel_rfl)) (some 111) rfl ?_
          refine pl_skip (want_und 5 true rfl 111 rfl (by kernel_rfl)) (some 112) rfl ?_
          refine pl_skip (want_und 5 true rfl 111 rfl (by kernel_rfl)) (some 113) rfl ?_
          refine pl_skip (want_und 5 true rfl 111 rfl (by kernel_rfl)) (some 114) rfl ?_
          refine pl_skip (want_und 5 true rfl 111 rfl (by kernel_rfl)) (some 115) rfl ?_
          refine pl_skip (want_und 5 true rfl 111 rfl (by kernel_rfl)) (some 116) rfl ?_
          refine pl_skip (want_off 2 true rfl 108 rfl (by kernel_rfl)) (some 117) rfl ?_
          refine pl_skip (want_off 2 true rfl 108 rfl (by kernel_rfl)) (some 118) rfl ?_
          refine pV 119 (.bool false) ?_
          refine nT ?_
          refine wp_cond_false (by kernel_rfl) ?_
          refine wp_skip ?_
          refine au_then ?_
          refine rg_lit ?_
          refine pV 122 (.string (dT h l i)) ?_
          refine pV 123 (.int .i64 (i : Int)) ?_
          refine pH 124 (.pointer (some ⟨g2, i, none⟩)) (run_ix1 76 8 22 Tryz.underlying76 inz22 _ _ rfl g2 (by kernel_rfl) .i64 (i) (by kernel_rfl) (by omega)) ?_
          refine pEz M 125 g2 i (.int .u64 ((ggs h l) i)) (fun w M => M.cell 1 rfl (by omega) rfl) ?_
          refine pC M 126 53 #[.int .u64 ((ggs h l) i), .int .i64 16] (.string (hxT ((ggs h l) i).toNat)) (fun w M => c_fmt16I ((ggs h l) i) hg.1 hg.2 w M.laid) fun u4 M => ?_
          refine pH 127 (.string ((dT h l i) ++ (hxT ((ggs h l) i).toNat))) (run_cat 9 9 _ _ rfl (dT h l i) (hxT ((ggs h l) i).toNat) (by kernel_rfl) (by kernel_rfl) (by have n1 : (⟨#[46]⟩ : ByteArray).size = 1 := rfl; have n2 : (⟨#[58]⟩ : ByteArray).size = 1 := rfl; have n3 : (⟨#[58, 58]⟩ : ByteArray).size = 2 := rfl; simp only [ByteArray.size_append, n1, n2, n3] at *; omega)) ?_
          refine pV 12 (.string ((dT h l i) ++ (hxT ((ggs h l) i).toNat))) ?_
          refine pl_nil ?_
          refine au_block ?_
          refine au_then ?_
          refine rg_lit ?_
          refine pV 85 (.int .i64 (i : Int)) ?_
          refine pH 86 (.int .i64 ((i + 1 : Nat) : Int)) (iV ((i : Int) + 1) (by omega) (by omega) (by omega)) ?_
          refine pV 13 (.int .i64 ((i + 1 : Nat) : Int)) ?_
          refine nT ?_
          exact ⟨fun k_ => ([.int .i64 (i : Int), .bool true, .int .i64 (i : Int), .int .i64 ((i + 1 : Nat) : Int), .int .i64 (aM (ggs h l) 8).1, .bool true, .bool true, .int .i64 (i : Int), .int .i64 (aM (ggs h l) 8).1, .bool true, .bool true, .bool true, .int .i64 (i : Int), .int .i64 (aM (ggs h l) 8).1, .int .i64 (aM (ggs h l) 8).2, .int .i64 ((aM (ggs h l) 8).1 + (aM (ggs h l) 8).2), .bool false, .bool false, v3 101, v3 102, v3 103, v3 104, v3 105, .int .i64 (i : Int), .bool false, .bool false, undef, undef, undef, undef, undef, undef, undef, undef, undef, undef, .bool false, v3 120, v3 121, .string (dT h l i), .int .i64 (i : Int), .pointer (some ⟨g2, i, none⟩), .int .u64 ((ggs h l) i), .string (hxT ((ggs h l) i).toNat), .string ((dT h l i) ++ (hxT ((ggs h l) i).toNat))] : List Value).getD (k_ - 83) undef, by rw [dT_no h l i (by omega) (by omega)]; kernel_rfl, M⟩
     ·intro a u0 hI
      obtain ⟨v3, rfl, M⟩ := hI
      have ha := aM_bd (ggs h l) 8 (by omega)
      refine wp_seq ?_
      refine sR ?_
      refine pV 83 (.int .i64 (8 : Int)) ?_
      refine pH 84 (.bool false) (dF ((8 : Int) < 8) (by omega)) ?_
      refine nT ?_
      refine wp_cond_false (by kernel_rfl) ?_
      refine wp_exit ?_
      refine au_then_exit ?_
      refine au_then_exit ?_
      refine au_block_exit ?_
      refine au_then ?_
      refine sR ?_
      refine pV 128 (.string (dT h l 8)) ?_
      refine pV 2 (.string (dT h l 8)) ?_
      refine nT ?_
      refine wp_ret ?_
      have e0 : (txt v h l) = (dT h l 8) := by unfold txt; rw [if_pos c0, if_pos c1]; exact (sB_tx6 h l).symm
      exact bodyPost_ret (v := .string (dT h l 8)) (results_tmp1 Tryz.results23 _ _ _ (by kernel_rfl)) (by kernel_rfl) ⟨by rw [e0], below_grown M.old⟩
  ·skip
   refine pEz M 18 g1 0 (.bool false) (fun w M => M.cell 0 rfl (by decide) (congrArg Value.bool c1)) ?_
   refine pV 19 (.bool true) ?_
   refine nT ?_
   refine wp_cond_true (by kernel_rfl) ?_
   refine sR ?_
   refine pV 3 (.string ⟨#[]⟩) ?_
   refine nT ?_
   refine wp_seq ?_
   refine sR ?_
   refine pV 4 (.int .i64 3) ?_
   refine nT ?_
   refine wp_block ?_
   refine au_loop (fun j a w' => ∃ v1 : Nat → Value, a = ⟨#[.agg (av 3 (ls [.bool (v), .int .u64 h, .int .u64 l])), .pointer (some ⟨g1, 0, none⟩), .string ⟨#[]⟩, .string (t4s l j), .int .i64 (3 - (j : Int)), undef, undef, undef, undef, undef, undef, undef, undef, undef, .agg (av 3 (ls [.bool (v), .int .u64 h, .int .u64 l])), .bool true, .bool false, .pointer (some ⟨g1, 0, none⟩), .bool false, .bool true, v1 20, v1 21, v1 22, v1 23, v1 24, v1 25, v1 26, v1 27, v1 28, v1 29, v1 30, v1 31, v1 32, v1 33, v1 34, v1 35, v1 36, v1 37, v1 38, undef, undef, undef, undef, undef, undef, undef, undef, undef, undef, undef, undef, undef, undef, undef, undef, undef, undef, undef, undef, undef, undef, undef, undef, undef, undef, undef, undef, undef, undef, undef, undef, undef, undef, undef, undef, undef, undef, undef, undef, undef, undef, undef, undef, undef, undef, undef, undef, undef, undef, undef, undef, undef, undef, undef, undef, undef, undef, undef, undef, undef, undef, undef, undef, undef, undef, undef, undef, undef, undef, undef, undef, undef, undef, undef, undef, undef, undef, undef, undef, undef, undef, undef, undef, undef, undef, undef, undef, undef, undef], []⟩ ∧ Mem ⟨w, []⟩ [⟨g1, .cells (av 3 (ls [.bool (v), .int .u64 h, .int .u64 l])) 24⟩] w') 4 ⟨fun k_ => ([undef, undef, undef, undef, undef, undef, undef, undef, undef, undef, undef, undef, undef, undef, undef, undef, undef, undef, undef] : List Value).getD (k_ - 20) undef, by kernel_rfl, M⟩ ?_ ?_
   ·intro j a u0 hj hI
    obtain ⟨v1, rfl, M⟩ := hI
    have hz := t4s_le l j
    have hd := dcT_size (((qf l j).toNat : Nat) : Int)
    have hq := qf_nn l j
    refine wp_seq ?_
    refine sR ?_
    refine pV 20 (.int .i64 (3 - (j : Int))) ?_
    refine pH 21 (.bool true) (dTz (0 ≤ (3 - (j : Int))) (by omega)) ?_
    refine nT ?_
    refine wp_cond_true (by kernel_rfl) ?_
    refine wp_skip ?_
    refine au_then ?_
    refine wp_seq ?_
    refine wp_block ?_
    refine sR ?_
    refine pV 24 (.string (t4s l j)) ?_
    refine pV 25 (.pointer (some ⟨g1, 2, none⟩)) ?_
    refine pEz M 26 g1 2 (.int .u64 l) (fun w M => M.cell 0 rfl (by decide) rfl) ?_
    refine pV 27 (.int .i64 (3 - (j : Int))) ?_
    refine pH 28 (.int .i64 (8 * (3 - (j : Int)))) (fun w => Eq.trans (b := .ok (.value (.int .i64 (cv .i64 (8 * (3 - (j : Int)))))) w) (by kernel_rfl) (by rw [cv_i64 (by omega) (by omega)])) ?_
    refine pH 29 (.int .u64 (8 * (3 - (j : Int)))) (fun w => Eq.trans (b := .ok (.value (.int .u64 (cv .u64 (8 * (3 - (j : Int)))))) w) (by kernel_rfl) (by rw [cv_u64]; congr 3; omega)) ?_
    refine pH 30 (.int .u64 (sr l ((8 * (3 - (j : Int))).toNat))) (run_shrV 22 53 _ _ rfl l .u64 ((8 * (3 - (j : Int))).toNat) (by kernel_rfl) (nat_of (k := .u64) (by kernel_rfl) (by omega)) (by omega)) ?_
    refine pV 31 (.int .u64 (un (sr l ((8 * (3 - (j : Int))).toNat)) 255)) ?_
    refine pH 32 (.int .i64 (((qf l j).toNat : Nat) : Int)) (fun w => Eq.trans (b := .ok (.value (.int .i64 (cv .i64 (un (sr l ((8 * (3 - (j : Int))).toNat)) 255)))) w) (by kernel_rfl) (by rw [q4i l l0 l1 j hj])) ?_
    refine pC M 33 52 #[.int .i64 (((qf l j).toNat : Nat) : Int)] (.string (dcT (((qf l j).toNat : Nat) : Int))) (fun w M => c_ItoaI (((qf l j).toNat : Nat) : Int) (by omega) (by omega) w M.laid) fun u3 M => ?_
    refine pH 34 (.string ((t4s l j) ++ (dcT (((qf l j).toNat : Nat) : Int)))) (run_cat 9 9 _ _ rfl (t4s l j) (dcT (((qf l j).toNat : Nat) : Int)) (by kernel_rfl) (by kernel_rfl) (by have n1 : (⟨#[46]⟩ : ByteArray).size = 1 := rfl; have n2 : (⟨#[58]⟩ : ByteArray).size = 1 := rfl; have n3 : (⟨#[58, 58]⟩ : ByteArray).size = 2 := rfl; simp only [ByteArray.size_append, n1, n2, n3] at *; omega)) ?_
    refine pV 3 (.string ((t4s l j) ++ (dcT (((qf l j).toNat : Nat) : Int)))) ?_
    refine nT ?_
    refine sR ?_
    refine pV 35 (.int .i64 (3 - (j : Int))) ?_
    by_cases c2 : 0 < (3 - (j : Int))
    ·skip
     refine pH 36 (.bool true) (dTz (0 < (3 - (j : Int))) (c2)) ?_
     refine nT ?_
     refine wp_cond_true (by kernel_rfl) ?_
     refine rg_lit ?_
     refine pV 37 (.string ((t4s l j) ++ (dcT (((qf l j).toNat : Nat) : Int)))) ?_
     refine pH 38 (.string (((t4s l j) ++ (dcT (((qf l j).toNat : Nat) : Int))) ++ (⟨#[46]⟩ : ByteArray))) (run_cat 9 9 _ _ rfl ((t4s l j) ++ (dcT (((qf l j).toNat : Nat) : Int))) ⟨#[46]⟩ (by kernel_rfl) (by kernel_rfl) (by have n1 : (⟨#[46]⟩ : ByteArray).size = 1 := rfl; have n2 : (⟨#[58]⟩ : ByteArray).size = 1 := rfl; have n3 : (⟨#[58, 58]⟩ : ByteArray).size = 2 := rfl; simp only [ByteArray.size_append, n1, n2, n3] at *; omega)) ?_
     refine pV 3 (.string (((t4s l j) ++ (dcT (((qf l j).toNat : Nat) : Int))) ++ (⟨#[46]⟩ : ByteArray))) ?_
     refine pl_nil ?_
     refine au_block ?_
     refine au_then ?_
     refine rg_lit ?_
     refine pV 22 (.int .i64 (3 - (j : Int))) ?_
     refine pH 23 (.int .i64 (3 - ((j + 1 : Nat) : Int))) (fun w => Eq.trans (b := .ok (.value (.int .i64 (cv .i64 ((3 - (j : Int)) - 1)))) w) (by kernel_rfl) (by rw [cv_i64 (by omega) (by omega)]; congr 3; omega)) ?_
     refine pV 4 (.int .i64 (3 - ((j + 1 : Nat) : Int))) ?_
     refine nT ?_
     exact ⟨fun k_ => ([.int .i64 (3 - (j : Int)), .bool true, .int .i64 (3 - (j : Int)), .int .i64 (3 - ((j + 1 : Nat) : Int)), .string (t4s l j), .pointer (some ⟨g1, 2, none⟩), .int .u64 l, .int .i64 (3 - (j : Int)), .int .i64 (8 * (3 - (j : Int))), .int .u64 (8 * (3 - (j : Int))), .int .u64 (sr l ((8 * (3 - (j : Int))).toNat)), .int .u64 (un (sr l ((8 * (3 - (j : Int))).toNat)) 255), .int .i64 (((qf l j).toNat : Nat) : Int), .string (dcT (((qf l j).toNat : Nat) : Int)), .string ((t4s l j) ++ (dcT (((qf l j).toNat : Nat) : Int))), .int .i64 (3 - (j : Int)), .bool true, .string ((t4s l j) ++ (dcT (((qf l j).toNat : Nat) : Int))), .string (((t4s l j) ++ (dcT (((qf l j).toNat : Nat) : Int))) ++ (⟨#[46]⟩ : ByteArray))] : List Value).getD (k_ - 20) undef, by rw [t4s_a l j (by omega)]; kernel_rfl, M⟩
    ·skip
     refine pH 36 (.bool false) (dF (0 < (3 - (j : Int))) (c2)) ?_
     refine nT ?_
     refine wp_cond_false (by kernel_rfl) ?_
     refine wp_skip ?_
     refine au_block ?_
     refine au_then ?_
     refine rg_lit ?_
     refine pV 22 (.int .i64 (3 - (j : Int))) ?_
     refine pH 23 (.int .i64 (3 - ((j + 1 : Nat) : Int))) (fun w => Eq.trans (b := .ok (.value (.int .i64 (cv .i64 ((3 - (j : Int)) - 1)))) w) (by kernel_rfl) (by rw [cv_i64 (by omega) (by omega)]; congr 3; omega)) ?_
     refine pV 4 (.int .i64 (3 - ((j + 1 : Nat) : Int))) ?_
     refine nT ?_
     exact ⟨fun k_ => ([.int .i64 (3 - (j : Int)), .bool true, .int .i64 (3 - (j : Int)), .int .i64 (3 - ((j + 1 : Nat) : Int)), .string (t4s l j), .pointer (some ⟨g1, 2, none⟩), .int .u64 l, .int .i64 (3 - (j : Int)), .int .i64 (8 * (3 - (j : Int))), .int .u64 (8 * (3 - (j : Int))), .int .u64 (sr l ((8 * (3 - (j : Int))).toNat)), .int .u64 (un (sr l ((8 * (3 - (j : Int))).toNat)) 255), .int .i64 (((qf l j).toNat : Nat) : Int), .string (dcT (((qf l j).toNat : Nat) : Int)), .string ((t4s l j) ++ (dcT (((qf l j).toNat : Nat) : Int))), .int .i64 (3 - (j : Int)), .bool false, v1 37, v1 38] : List Value).getD (k_ - 20) undef, by rw [t4s_b l j (by omega)]; kernel_rfl, M⟩
   ·intro a u0 hI
    obtain ⟨v1, rfl, M⟩ := hI
    refine wp_seq ?_
    refine sR ?_
    refine pV 20 (.int .i64 (3 - ((4 : Nat) : Int))) ?_
    refine pH 21 (.bool false) (dF (0 ≤ (3 - ((4 : Nat) : Int))) (by omega)) ?_
    refine nT ?_
    refine wp_cond_false (by kernel_rfl) ?_
    refine wp_exit ?_
    refine au_then_exit ?_
    refine au_then_exit ?_
    refine au_block_exit ?_
    refine au_then ?_
    refine sR ?_
    refine pV 39 (.string (t4s l 4)) ?_
    refine pV 2 (.string (t4s l 4)) ?_
    refine nT ?_
    refine wp_ret ?_
    refine au_then_ret ?_
    have e0 : (txt v h l) = (t4s l 4) := by unfold txt; rw [if_pos c0, if_neg (by rw [c1]; decide)]; exact (t4s_tx4 l).symm
    exact bodyPost_ret (v := .string (t4s l 4)) (results_tmp1 Tryz.results23 _ _ _ (by kernel_rfl)) (by kernel_rfl) ⟨by rw [e0], below_grown M.old⟩
 ·skip
  refine pC M 15 38 #[.agg (av 3 (ls [.bool (v), .int .u64 h, .int .u64 l]))] (.bool false) (fun w M => call_val (d_MayAddr v h l w M.laid) (congrArg Value.bool c0)) fun u2 M => ?_
  refine pV 16 (.bool true) ?_
  refine nT ?_
  refine wp_cond_true (by kernel_rfl) ?_
  refine sR ?_
  refine pV 2 (.string ⟨#[]⟩) ?_
  refine nT ?_
  refine wp_ret ?_
  refine au_then_ret ?_
  have e0 : (txt v h l) = ⟨#[]⟩ := by unfold txt; rw [if_neg (by rw [c0]; decide)]
  exact bodyPost_ret (v := .string ⟨#[]⟩) (results_tmp1 Tryz.results23 _ _ _ (by kernel_rfl)) (by kernel_rfl) ⟨by rw [e0], below_grown M.old⟩
end Go.Proofs.YtndonmdgplojnaaGreatDoor

namespace Go.Proofs.YtndonmdgplojnaaGreatDoor
open Go.RowKit
theorem ba_ext (a b : ByteArray) (hs : a.size = b.size) (h : ∀ i, i < a.size → bt a i = bt b i) : a = b := by
 have e : sb a = sb b := by
  apply List.ext_getElem?
  intro i
  by_cases hi : i < a.size
  ·have := h i hi
   rw [bt_of_sb, bt_of_sb] at this
   have l1 : i < (sb a).length := by rw [sb_length]; exact hi
   have l2 : i < (sb b).length := by rw [sb_length]; omega
   simp only [List.getD, List.getElem?_eq_getElem l1, List.getElem?_eq_getElem l2, Option.getD_some] at this
   rw [List.getElem?_eq_getElem l1, List.getElem?_eq_getElem l2, this]
  ·rw [List.getElem?_eq_none (by rw [sb_length]; omega), List.getElem?_eq_none (by rw [sb_length]; omega)]
 rw [← bs_sb a, e, bs_sb]
theorem bt_app (a b : ByteArray) (i : Nat) : bt (a ++ b) i = if i < a.size then bt a i else bt b (i - a.size) := by
 unfold bt
 rw [ByteArray.data_append]
 split
 ·rename_i h
  rw [Array.getElem?_append_left h]
 ·rename_i h
  have h' : a.data.size ≤ i := Nat.le_of_not_lt h
  rw [Array.getElem?_append_right h']
  rfl
theorem u8w (x : Int) : 0 ≤ cv .u8 x ∧ cv .u8 x < 256 := by
 rw [cv_u8]
 omega
end Go.Proofs.YtndonmdgplojnaaGreatDoor

namespace Go.Proofs.YtndonmdgplojnaaGreatDoor
open Go.RowKit
set_option maxRecDepth 100000 in
set_option maxHeartbeats 4000000 in
set_option linter.unusedSimpArgs false in
theorem c_works  (w : World) (hL : Laid w)  :
  Calls Tryz.prog 9 #[] w fun r w' => r = .returned (.bool true) ∧ Below w.heap.size w w' := by
 go_enter Tryz.func9, Tryz.ntmps9
 have M := Mem.start hL
 refine sR ?_
 refine pV 0 (.bool false) ?_
 refine nT ?_
 refine sR ?_
 refine pV 10 (.agg (av 3 (ls [.bool false, .int .u64 0, .int .u64 167772161]))) ?_
 refine pV 11 (.agg (av 3 (ls [.bool false, .int .u64 0, .int .u64 167772162]))) ?_
 refine pV 12 (.agg (av 9 (ls [.bool false, .int .u64 0, .int .u64 167772161, .bool false, .int .u64 0, .int .u64 167772162, .int .u8 17, .int .u8 64, .string ⟨#[97, 98]⟩]))) ?_
 refine pN M 1 (.cells (av 9 (ls [.bool false, .int .u64 0, .int .u64 0, .bool false, .int .u64 0, .int .u64 0, .int .u8 0, .int .u8 0, .string ⟨#[]⟩])) 26) fun g1 u1 M => ?_
 refine pl_put M (want_no rfl) rfl 26 _ _ rfl 0 g1 0 (by kernel_rfl) 9 26 (ls [.bool false, .int .u64 0, .int .u64 0, .bool false, .int .u64 0, .int .u64 0, .int .u8 0, .int .u8 0, .string ⟨#[]⟩]) rfl 9 (ls [.bool false, .int .u64 0, .int .u64 167772161, .bool false, .int .u64 0, .int .u64 167772162, .int .u8 17, .int .u8 64, .string ⟨#[97, 98]⟩]) (ls [.bool false, .int .u64 0, .int .u64 167772161, .bool false, .int .u64 0, .int .u64 167772162, .int .u8 17, .int .u8 64, .string ⟨#[97, 98]⟩]) (by kernel_rfl) inz26 (by decide) (one_ls _ rfl) (fun j hj => by rw [if_pos (by omega), Nat.sub_zero]) fun u2 M => ?_
 refine nT ?_
 refine sR ?_
 refine pAz M 14 0 9 (ls [.bool false, .int .u64 0, .int .u64 167772161, .bool false, .int .u64 0, .int .u64 167772162, .int .u8 17, .int .u8 64, .string ⟨#[97, 98]⟩]) ?_
 refine pC M 15 10 #[.agg (av 9 (ls [.bool false, .int .u64 0, .int .u64 167772161, .bool false, .int .u64 0, .int .u64 167772162, .int .u8 17, .int .u8 64, .string ⟨#[97, 98]⟩]))] (.tuple #[.string ⟨#[69, 0, 0, 22, 0, 0, 0, 0, 64, 17, 102, 213, 10, 0, 0, 1, 10, 0, 0, 2, 97, 98]⟩, .int .i64 0]) (fun w M => call_val (c_Encode false 0 167772161 false 0 167772162 17 64 ⟨#[97, 98]⟩ (by decide) (by decide) (by decide) w M.laid) (by kernel_rfl)) fun u3 M => ?_
 refine pV 13 (.tuple #[.string ⟨#[69, 0, 0, 22, 0, 0, 0, 0, 64, 17, 102, 213, 10, 0, 0, 1, 10, 0, 0, 2, 97, 98]⟩, .int .i64 0]) ?_
 refine pV 16 (.string ⟨#[69, 0, 0, 22, 0, 0, 0, 0, 64, 17, 102, 213, 10, 0, 0, 1, 10, 0, 0, 2, 97, 98]⟩) ?_
 refine pV 17 (.int .i64 0) ?_
 refine pV 2 (.string ⟨#[69, 0, 0, 22, 0, 0, 0, 0, 64, 17, 102, 213, 10, 0, 0, 1, 10, 0, 0, 2, 97, 98]⟩) ?_
 refine pV 3 (.int .i64 0) ?_
 refine nT ?_
 refine sR ?_
 refine pV 19 (.string ⟨#[69, 0, 0, 22, 0, 0, 0, 0, 64, 17, 102, 213, 10, 0, 0, 1, 10, 0, 0, 2, 97, 98]⟩) ?_
 refine pC M 20 16 #[.string ⟨#[69, 0, 0, 22, 0, 0, 0, 0, 64, 17, 102, 213, 10, 0, 0, 1, 10, 0, 0, 2, 97, 98]⟩] (.tuple #[.agg (av 9 (ls [.bool false, .int .u64 0, .int .u64 167772161, .bool false, .int .u64 0, .int .u64 167772162, .int .u8 17, .int .u8 64, .string ⟨#[97, 98]⟩])), .int .i64 0]) (fun w M => call_val (c_Decode ⟨#[69, 0, 0, 22, 0, 0, 0, 0, 64, 17, 102, 213, 10, 0, 0, 1, 10, 0, 0, 2, 97, 98]⟩ (by decide) w M.laid) (by kernel_rfl)) fun u4 M => ?_
 refine pV 18 (.tuple #[.agg (av 9 (ls [.bool false, .int .u64 0, .int .u64 167772161, .bool false, .int .u64 0, .int .u64 167772162, .int .u8 17, .int .u8 64, .string ⟨#[97, 98]⟩])), .int .i64 0]) ?_
 refine pV 21 (.agg (av 9 (ls [.bool false, .int .u64 0, .int .u64 167772161, .bool false, .int .u64 0, .int .u64 167772162, .int .u8 17, .int .u8 64, .string ⟨#[97, 98]⟩]))) ?_
 refine pV 22 (.int .i64 0) ?_
 refine pN M 4 (.cells (av 9 (ls [.bool false, .int .u64 0, .int .u64 0, .bool false, .int .u64 0, .int .u64 0, .int .u8 0, .int .u8 0, .string ⟨#[]⟩])) 26) fun g2 u5 M => ?_
 refine pl_put M (want_no rfl) rfl 26 _ _ rfl 1 g2 0 (by kernel_rfl) 9 26 (ls [.bool false, .int .u64 0, .int .u64 0, .bool false, .int .u64 0, .int .u64 0, .int .u8 0, .int .u8 0, .string ⟨#[]⟩]) rfl 9 (ls [.bool false, .int .u64 0, .int .u64 167772161, .bool false, .int .u64 0, .int .u64 167772162, .int .u8 17, .int .u8 64, .string ⟨#[97, 98]⟩]) (ls [.bool false, .int .u64 0, .int .u64 167772161, .bool false, .int .u64 0, .int .u64 167772162, .int .u8 17, .int .u8 64, .string ⟨#[97, 98]⟩]) (by kernel_rfl) inz26 (by decide) (one_ls _ rfl) (fun j hj => by rw [if_pos (by omega), Nat.sub_zero]) fun u6 M => ?_
 refine pV 5 (.int .i64 0) ?_
 refine nT ?_
 refine sR ?_
 refine pC M 24 20 #[.string ⟨#[49, 48, 46, 48, 46, 48, 46, 48, 47, 56]⟩] (.tuple #[.agg (av 4 (ls [.bool false, .int .u64 0, .int .u64 167772160, .int .u8 8])), .int .i64 0]) (fun w M => call_val (c_ReadPrefix ⟨#[49, 48, 46, 48, 46, 48, 46, 48, 47, 56]⟩ (by decide) w M.laid) (by kernel_rfl)) fun u7 M => ?_
 refine pV 23 (.tuple #[.agg (av 4 (ls [.bool false, .int .u64 0, .int .u64 167772160, .int .u8 8])), .int .i64 0]) ?_
 refine pV 25 (.agg (av 4 (ls [.bool false, .int .u64 0, .int .u64 167772160, .int .u8 8]))) ?_
 refine pV 26 (.int .i64 0) ?_
 refine pN M 6 (.cells (av 4 (ls [.bool false, .int .u64 0, .int .u64 0, .int .u8 0])) 39) fun g3 u8 M => ?_
 refine pl_put M (want_no rfl) rfl 39 _ _ rfl 2 g3 0 (by kernel_rfl) 4 39 (ls [.bool false, .int .u64 0, .int .u64 0, .int .u8 0]) rfl 4 (ls [.bool false, .int .u64 0, .int .u64 167772160, .int .u8 8]) (ls [.bool false, .int .u64 0, .int .u64 167772160, .int .u8 8]) (by kernel_rfl) inz39 (by decide) (one_ls _ rfl) (fun j hj => by rw [if_pos (by omega), Nat.sub_zero]) fun u9 M => ?_
 refine pV 7 (.int .i64 0) ?_
 refine nT ?_
 refine sR ?_
 refine pC M 28 18 #[.string ⟨#[48, 49, 48, 46, 48, 46, 48, 46, 49]⟩] (.tuple #[.agg (av 3 (ls [.bool false, .int .u64 0, .int .u64 0])), .int .i64 8]) (fun w M => call_val (c_Read ⟨#[48, 49, 48, 46, 48, 46, 48, 46, 49]⟩ w M.laid) (by kernel_rfl)) fun u10 M => ?_
 refine pV 27 (.tuple #[.agg (av 3 (ls [.bool false, .int .u64 0, .int .u64 0])), .int .i64 8]) ?_
 refine pV 29 (.agg (av 3 (ls [.bool false, .int .u64 0, .int .u64 0]))) ?_
 refine pV 30 (.int .i64 8) ?_
 refine pN M 8 (.cells (av 3 (ls [.bool false, .int .u64 0, .int .u64 0])) 24) fun g4 u11 M => ?_
 refine pl_put M (want_no rfl) rfl 24 _ _ rfl 3 g4 0 (by kernel_rfl) 3 24 (ls [.bool false, .int .u64 0, .int .u64 0]) rfl 3 (ls [.bool false, .int .u64 0, .int .u64 0]) (ls [.bool false, .int .u64 0, .int .u64 0]) (by kernel_rfl) inz24 (by decide) (one_ls _ rfl) (fun j hj => by rw [if_pos (by omega), Nat.sub_zero]) fun u12 M => ?_
 refine pV 9 (.int .i64 8) ?_
 refine nT ?_
 refine sR ?_
 refine pV 31 (.int .i64 0) ?_
 refine pV 32 (.bool true) ?_
 refine pV 33 (.bool true) ?_
 refine pl_val (want_on 2 true rfl 33 rfl (by kernel_rfl)) (some 34) rfl (.string ⟨#[69, 0, 0, 22, 0, 0, 0, 0, 64, 17, 102, 213, 10, 0, 0, 1, 10, 0, 0, 2, 97, 98]⟩) (fun _ => by kernel_rfl) ?_
 refine pl_val (want_on 2 true rfl 33 rfl (by kernel_rfl)) (some 35) rfl (.int .i64 22) (fun _ => by kernel_rfl) ?_
 refine pl_val (want_on 2 true rfl 33 rfl (by kernel_rfl)) (some 36) rfl (.bool true) (fun _ => by kernel_rfl) ?_
 refine pV 37 (.bool true) ?_
 refine pV 38 (.bool true) ?_
 refine pl_val (want_on 7 true rfl 38 rfl (by kernel_rfl)) (some 39) rfl (.string ⟨#[69, 0, 0, 22, 0, 0, 0, 0, 64, 17, 102, 213, 10, 0, 0, 1, 10, 0, 0, 2, 97, 98]⟩) (fun _ => by kernel_rfl) ?_
 refine pl_val (want_on 7 true rfl 38 rfl (by kernel_rfl)) (some 40) rfl (.int .u8 102) (fun w => (run_ixS 9 Tryz.underlying9 _ _ rfl ⟨#[69, 0, 0, 22, 0, 0, 0, 0, 64, 17, 102, 213, 10, 0, 0, 1, 10, 0, 0, 2, 97, 98]⟩ (by kernel_rfl) .i64 10 (by kernel_rfl) (by decide) w).trans (by kernel_rfl)) ?_
 refine pl_val (want_on 7 true rfl 38 rfl (by kernel_rfl)) (some 41) rfl (.bool true) (fun _ => by kernel_rfl) ?_
 refine pV 42 (.bool true) ?_
 refine pV 43 (.bool true) ?_
 refine pl_val (want_on 12 true rfl 43 rfl (by kernel_rfl)) (some 44) rfl (.string ⟨#[69, 0, 0, 22, 0, 0, 0, 0, 64, 17, 102, 213, 10, 0, 0, 1, 10, 0, 0, 2, 97, 98]⟩) (fun _ => by kernel_rfl) ?_
 refine pl_val (want_on 12 true rfl 43 rfl (by kernel_rfl)) (some 45) rfl (.int .u8 213) (fun w => (run_ixS 9 Tryz.underlying9 _ _ rfl ⟨#[69, 0, 0, 22, 0, 0, 0, 0, 64, 17, 102, 213, 10, 0, 0, 1, 10, 0, 0, 2, 97, 98]⟩ (by kernel_rfl) .i64 11 (by kernel_rfl) (by decide) w).trans (by kernel_rfl)) ?_
 refine pl_val (want_on 12 true rfl 43 rfl (by kernel_rfl)) (some 46) rfl (.bool true) (fun _ => by kernel_rfl) ?_
 refine pV 47 (.bool true) ?_
 refine pV 48 (.bool true) ?_
 refine pl_val (want_on 17 true rfl 48 rfl (by kernel_rfl)) (some 49) rfl (.int .i64 0) (fun _ => by kernel_rfl) ?_
 refine pl_val (want_on 17 true rfl 48 rfl (by kernel_rfl)) (some 50) rfl (.bool true) (fun _ => by kernel_rfl) ?_
 refine pV 51 (.bool true) ?_
 refine pV 52 (.bool true) ?_
 refine pl_load M (want_on 21 true rfl 52 rfl (by kernel_rfl)) (some 53) rfl 26 _ rfl 1 g2 0 (by kernel_rfl) 9 26 (ls [.bool false, .int .u64 0, .int .u64 167772161, .bool false, .int .u64 0, .int .u64 167772162, .int .u8 17, .int .u8 64, .string ⟨#[97, 98]⟩]) rfl 9 (ls [.bool false, .int .u64 0, .int .u64 167772161, .bool false, .int .u64 0, .int .u64 167772162, .int .u8 17, .int .u8 64, .string ⟨#[97, 98]⟩]) (fun j _ => by rw [Nat.zero_add]) (by decide) _ Tryz.underlying26 rfl inz26 ?_
 refine pl_load M (want_on 21 true rfl 52 rfl (by kernel_rfl)) (some 54) rfl 26 _ rfl 0 g1 0 (by kernel_rfl) 9 26 (ls [.bool false, .int .u64 0, .int .u64 167772161, .bool false, .int .u64 0, .int .u64 167772162, .int .u8 17, .int .u8 64, .string ⟨#[97, 98]⟩]) rfl 9 (ls [.bool false, .int .u64 0, .int .u64 167772161, .bool false, .int .u64 0, .int .u64 167772162, .int .u8 17, .int .u8 64, .string ⟨#[97, 98]⟩]) (fun j _ => by rw [Nat.zero_add]) (by decide) _ Tryz.underlying26 rfl inz26 ?_
 refine pl_val (want_on 21 true rfl 52 rfl (by kernel_rfl)) (some 55) rfl (.bool true) (fun w => (eql26 false false (0 : Int) (0 : Int) (167772161 : Int) (167772161 : Int) false false (0 : Int) (0 : Int) (167772162 : Int) (167772162 : Int) (17 : Int) (17 : Int) (64 : Int) (64 : Int) (⟨#[97, 98]⟩ : ByteArray) (⟨#[97, 98]⟩ : ByteArray) _ _ rfl (by kernel_rfl) (by kernel_rfl) w).trans (by rw [decide_eq_true (⟨rfl, rfl, rfl, rfl, rfl, rfl, rfl, rfl, rfl⟩ : false = false ∧ (0 : Int) = (0 : Int) ∧ (167772161 : Int) = (167772161 : Int) ∧ false = false ∧ (0 : Int) = (0 : Int) ∧ (167772162 : Int) = (167772162 : Int) ∧ (17 : Int) = (17 : Int) ∧ (64 : Int) = (64 : Int) ∧ (⟨#[97, 98]⟩ : ByteArray) = (⟨#[97, 98]⟩ : ByteArray))])) ?_
 refine pV 56 (.bool true) ?_
 refine pV 57 (.bool true) ?_
 refine pl_val (want_on 26 true rfl 57 rfl (by kernel_rfl)) (some 58) rfl (.int .i64 0) (fun _ => by kernel_rfl) ?_
 refine pl_val (want_on 26 true rfl 57 rfl (by kernel_rfl)) (some 59) rfl (.bool true) (fun _ => by kernel_rfl) ?_
 refine pV 60 (.bool true) ?_
 refine pV 61 (.bool true) ?_
 refine pl_load M (want_on 30 true rfl 61 rfl (by kernel_rfl)) (some 62) rfl 39 _ rfl 2 g3 0 (by kernel_rfl) 4 39 (ls [.bool false, .int .u64 0, .int .u64 167772160, .int .u8 8]) rfl 4 (ls [.bool false, .int .u64 0, .int .u64 167772160, .int .u8 8]) (fun j _ => by rw [Nat.zero_add]) (by decide) _ Tryz.underlying39 rfl inz39 ?_
 refine pl_val (want_on 30 true rfl 61 rfl (by kernel_rfl)) (some 63) rfl (.pointer (some ⟨g1, 0, none⟩)) (fun _ => by kernel_rfl) ?_
 refine pl_load M (want_on 30 true rfl 61 rfl (by kernel_rfl)) (some 64) rfl 24 _ rfl 0 g1 0 (by kernel_rfl) 9 26 (ls [.bool false, .int .u64 0, .int .u64 167772161, .bool false, .int .u64 0, .int .u64 167772162, .int .u8 17, .int .u8 64, .string ⟨#[97, 98]⟩]) rfl 3 (ls [.bool false, .int .u64 0, .int .u64 167772161]) (part_ls _ 0 3 _ rfl) (by decide) _ Tryz.underlying24 rfl inz24 ?_
 refine pl_call M (want_on 30 true rfl 61 rfl (by kernel_rfl)) (some 65) rfl 28 #[.agg (av 4 (ls [.bool false, .int .u64 0, .int .u64 167772160, .int .u8 8])), .agg (av 3 (ls [.bool false, .int .u64 0, .int .u64 167772161]))] (.bool true) (fun _ => by kernel_rfl) (fun w M => call_val (c_Holds false 0 167772160 8 (by decide) (by decide) false 0 167772161 w M.laid) (by kernel_rfl)) fun u13 M => ?_
 refine pV 66 (.bool true) ?_
 refine pV 67 (.bool true) ?_
 refine pl_val (want_on 36 true rfl 67 rfl (by kernel_rfl)) (some 68) rfl (.int .i64 8) (fun _ => by kernel_rfl) ?_
 refine pl_val (want_on 36 true rfl 67 rfl (by kernel_rfl)) (some 69) rfl (.bool true) (fun _ => by kernel_rfl) ?_
 refine pV 70 (.bool true) ?_
 refine pV 71 (.bool true) ?_
 refine pl_val (want_on 40 true rfl 71 rfl (by kernel_rfl)) (some 72) rfl (.agg (av 3 (ls [.bool true, .int .u64 0, .int .u64 1]))) (fun _ => by kernel_rfl) ?_
 refine pl_call M (want_on 40 true rfl 71 rfl (by kernel_rfl)) (some 73) rfl 22 #[.agg (av 3 (ls [.bool true, .int .u64 0, .int .u64 1]))] (.string ⟨#[58, 58, 49]⟩) (fun _ => by kernel_rfl) (fun w M => call_val (c_Text true 0 1 w M.laid) (by kernel_rfl)) fun u14 M => ?_
 refine pl_val (want_on 40 true rfl 71 rfl (by kernel_rfl)) (some 74) rfl (.bool true) (fun _ => by kernel_rfl) ?_
 refine pV 75 (.bool true) ?_
 refine pV 0 (.bool true) ?_
 refine nT ?_
 refine wp_ret ?_
 exact bodyPost_ret (v := .bool true) (results_tmp1 Tryz.results9 _ _ _ (by kernel_rfl)) (by kernel_rfl) ⟨rfl, below_grown M.old⟩
end Go.Proofs.YtndonmdgplojnaaGreatDoor

namespace Go.Proofs.YtndonmdgplojnaaGreatDoor
open Go.RowKit
theorem bt_ext (s : ByteArray) (i j k : Nat) (h : i + k < j) (hj : j ≤ s.size) : bt (s.extract i j) k = bt s (i + k) := by
 unfold bt
 rw [ByteArray.data_extract, Array.getElem?_extract]
 have hs : s.data.size = s.size := rfl
 rw [if_pos (by omega)]
theorem ext_mid (t a b c : ByteArray) (i j : Nat) (ht : t = (a ++ b) ++ c) (hi : i = a.size) (hj : j = a.size + b.size) : t.extract i j = b := by
 have hz : t.size = a.size + b.size + c.size := by rw [ht, ByteArray.size_append, ByteArray.size_append]
 have he : (t.extract i j).size = b.size := by
  rw [ByteArray.size_extract]
  omega
 refine ba_ext _ _ he fun k hk => ?_
 rw [he] at hk
 rw [bt_ext t i j k (by omega) (by omega), ht, bt_app, if_pos (by rw [ByteArray.size_append]; omega), bt_app, if_neg (by omega)]
 congr 1
 omega
theorem nil_app (s : ByteArray) : (⟨#[]⟩ : ByteArray) ++ s = s := by
 apply ByteArray.ext
 rw [ByteArray.data_append]
 exact Array.empty_append
end Go.Proofs.YtndonmdgplojnaaGreatDoor

namespace Go.Proofs.YtndonmdgplojnaaGreatDoor
open Go.RowKit
theorem ext_all (s : ByteArray) : s.extract 0 s.size = s := by
 have z : (s.extract 0 s.size).size = s.size := by rw [ByteArray.size_extract]; omega
 refine ba_ext _ _ z fun n hn => ?_
 rw [bt_ext s 0 s.size n (by omega) (Nat.le_refl _), Nat.zero_add]
end Go.Proofs.YtndonmdgplojnaaGreatDoor

namespace Go.Proofs.YtndonmdgplojnaaGreatDoor
open Go.RowKit
theorem sq_none (bc : Int) (s : ByteArray) (h : ∀ i, i < s.size → bt s i ≠ bc) (j : Nat) (hj : j ≤ s.size) : sq bc s j = ([], 0) := by
 induction j with
 | zero => rfl
 | succ j ih =>
  rw [sq, if_neg (fun e => e.elim (fun e => by omega) (h j (by omega))), ih (by omega)]
theorem sqL_one (bc : Int) (s : ByteArray) (h : ∀ i, i < s.size → bt s i ≠ bc) : sqL bc s = [s] := by
 unfold sqL
 rw [sq, if_pos (.inl rfl), sq_none bc s h _ (Nat.le_refl _), ext_all]
 rfl
theorem sqL_cons (bc : Int) (x b y : ByteArray) (hx : ∀ i, i < x.size → bt x i ≠ bc) (hb : b.size = 1) (hbc : bt b 0 = bc) : sqL bc ((x ++ b) ++ y) = x :: sqL bc y := by
 have hz : ((x ++ b) ++ y).size = x.size + 1 + y.size := by rw [ByteArray.size_append, ByteArray.size_append, hb]
 have b1 : ∀ i, i < x.size → bt ((x ++ b) ++ y) i = bt x i := fun i hi => by
  rw [bt_app, if_pos (by rw [ByteArray.size_append]; omega), bt_app, if_pos hi]
 have b2 : bt ((x ++ b) ++ y) x.size = bc := by
  rw [bt_app, if_pos (by rw [ByteArray.size_append]; omega), bt_app, if_neg (by omega), Nat.sub_self, hbc]
 have b3 : ∀ k, bt ((x ++ b) ++ y) (x.size + 1 + k) = bt y k := fun k => by
  rw [bt_app, if_neg (by rw [ByteArray.size_append]; omega)]
  congr 1
  rw [ByteArray.size_append]
  omega
 have s0 : ∀ j, j ≤ x.size → sq bc ((x ++ b) ++ y) j = ([], 0) := by
  intro j
  induction j with
  | zero => intro _; rfl
  | succ j ih =>
   intro hj
   rw [sq, if_neg (fun e => e.elim (fun e => by omega) (fun e => hx j (by omega) (by rw [← b1 j (by omega)]; exact e))), ih (by omega)]
 have e0 : ((x ++ b) ++ y).extract 0 x.size = x := by
  have z0 : (⟨#[]⟩ : ByteArray).size = 0 := rfl
  exact ext_mid _ (⟨#[]⟩ : ByteArray) x (b ++ y) 0 x.size (by rw [nil_app, ByteArray.append_assoc]) (by rw [z0]) (by rw [z0]; omega)
 have ek : ∀ a k, a ≤ k → k ≤ y.size → ((x ++ b) ++ y).extract (x.size + 1 + a) (x.size + 1 + k) = y.extract a k := by
  intro a k hak hk
  have z1 : (((x ++ b) ++ y).extract (x.size + 1 + a) (x.size + 1 + k)).size = k - a := by rw [ByteArray.size_extract]; omega
  have z2 : (y.extract a k).size = k - a := by rw [ByteArray.size_extract]; omega
  refine ba_ext _ _ (by rw [z1, z2]) fun i hi => ?_
  rw [z1] at hi
  rw [bt_ext _ _ _ _ (by omega) (by omega), bt_ext _ _ _ _ (by omega) hk, show x.size + 1 + a + i = x.size + 1 + (a + i) by omega, b3]
 have s1 : ∀ k, k ≤ y.size + 1 → sq bc ((x ++ b) ++ y) (x.size + 1 + k) = (x :: (sq bc y k).1, x.size + 1 + (sq bc y k).2) := by
  intro k
  induction k with
  | zero =>
   intro _
   have st : sq bc ((x ++ b) ++ y) (x.size + 1) = ((sq bc ((x ++ b) ++ y) x.size).1 ++ [((x ++ b) ++ y).extract (sq bc ((x ++ b) ++ y) x.size).2 x.size], x.size + 1) := if_pos (.inr b2)
   show sq bc ((x ++ b) ++ y) (x.size + 1) = _
   rw [st, s0 _ (Nat.le_refl _), e0]
   rfl
  | succ k ih =>
   intro hk
   have hq := sq_le bc y k
   show sq bc ((x ++ b) ++ y) (x.size + 1 + k + 1) = _
   have c : (((x.size + 1 + k : Nat) : Int) = (((x ++ b) ++ y).size : Int) ∨ bt ((x ++ b) ++ y) (x.size + 1 + k) = bc) ↔ ((k : Int) = (y.size : Int) ∨ bt y k = bc) := by
    rw [b3, hz]
    constructor
    ·rintro (e | e)
     ·exact .inl (by omega)
     ·exact .inr e
    ·rintro (e | e)
     ·exact .inl (by omega)
     ·exact .inr e
   rw [sq, sq, ih (by omega)]
   by_cases cc : (k : Int) = (y.size : Int) ∨ bt y k = bc
   ·rw [if_pos (c.2 cc), if_pos cc, ek _ _ hq.1 (by omega)]
    rfl
   ·rw [if_neg (fun e => cc (c.1 e)), if_neg cc]
 unfold sqL
 rw [hz, show x.size + 1 + y.size + 1 = x.size + 1 + (y.size + 1) by omega, s1 _ (Nat.le_refl _)]
end Go.Proofs.YtndonmdgplojnaaGreatDoor

namespace Go.Proofs.YtndonmdgplojnaaGreatDoor
open Go.RowKit
theorem dgs_dec : ∀ n : Nat, n < 256 → dgs 10 (dcT (n : Int)) = (n : Int) := by decide +kernel
theorem dgt_dd : ∀ k, k < 16 → dd (dgt k) = (k : Int) := by decide +kernel
theorem hx_dd (ks : List Nat) (h : ∀ k ∈ ks, k < 16) (j : Nat) (k : Nat) (hj : ks[j]? = some k) : dd (bt (bs (ks.map dgt)) j) = (k : Int) := by
 have hb : ∀ x ∈ ks.map dgt, 0 ≤ x ∧ x < 256 := by
  intro x hx
  obtain ⟨k, hk, rfl⟩ := List.mem_map.1 hx
  have := dgt_ok k (h k hk)
  exact ⟨this.2.1, this.2.2.1⟩
 rw [bt_bs _ hb, List.getD_eq_getElem?_getD, List.getElem?_map, hj]
 exact dgt_dd k (h k (List.mem_of_getElem? hj))
theorem dgs_hx (n : Nat) (h : n < 65536) : dgs 16 (hxT n) = (n : Int) := by
 have hl := hxD_lt n h
 have hz := hxT_size n
 have hb := hx_dd (hxD n) hl
 have p0 : dz 16 (hxT n) 0 = some 0 := rfl
 have hs : (hxT n).size = (hxD n).length := by rw [hxT_eq, bs_size, List.length_map]
 have hne : 0 < (hxD n).length := by
  unfold hxD
  split
  ·simp
  split
  ·simp
  split <;> simp
 refine dgs_some (by omega) (by omega) ?_
 rw [hs]
 rw [← hxT_eq] at hb
 unfold hxD at hb ⊢
 split
 ·rename_i c1
  rw [if_pos c1] at hb
  have := dz_ok p0 (hb 0 _ rfl) (by omega) (by omega)
  rw [show (0 : Int) * 16 + n = n by omega] at this
  exact this
 ·rename_i c1
  rw [if_neg c1] at hb
  split
  ·rename_i c2
   rw [if_pos c2] at hb
   have p1 := dz_ok p0 (hb 0 _ rfl) (by omega) (by omega)
   have p2 := dz_ok p1 (hb 1 _ rfl) (by omega) (by omega)
   refine p2.trans (congrArg some ?_)
   omega
  ·rename_i c2
   rw [if_neg c2] at hb
   split
   ·rename_i c3
    rw [if_pos c3] at hb
    have p1 := dz_ok p0 (hb 0 _ rfl) (by omega) (by omega)
    have p2 := dz_ok p1 (hb 1 _ rfl) (by omega) (by omega)
    have p3 := dz_ok p2 (hb 2 _ rfl) (by omega) (by omega)
    refine p3.trans (congrArg some ?_)
    omega
   ·rename_i c3
    rw [if_neg c3] at hb
    have p1 := dz_ok p0 (hb 0 _ rfl) (by omega) (by omega)
    have p2 := dz_ok p1 (hb 1 _ rfl) (by omega) (by omega)
    have p3 := dz_ok p2 (hb 2 _ rfl) (by omega) (by omega)
    have p4 := dz_ok p3 (hb 3 _ rfl) (by omega) (by omega)
    refine p4.trans (congrArg some ?_)
    omega
theorem jn_one (c : UInt8) (x : ByteArray) : jn [x] ⟨#[c]⟩ = x := by
 apply ba_list
 exact Lib.join_one x.data.toList [c]
theorem jn_two (c : UInt8) (x y : ByteArray) (r : List ByteArray) : jn (x :: y :: r) ⟨#[c]⟩ = (x ++ (⟨#[c]⟩ : ByteArray)) ++ jn (y :: r) ⟨#[c]⟩ := by
 apply ba_list
 rw [ByteArray.data_append, ByteArray.data_append, Array.toList_append, Array.toList_append]
 have := join_two x.data.toList y.data.toList (r.map (·.data.toList)) c
 show Lib.join (x.data.toList :: y.data.toList :: r.map (·.data.toList)) [c] = (x.data.toList ++ [c]) ++ Lib.join (y.data.toList :: r.map (·.data.toList)) [c]
 rw [this]
 simp
theorem not_mem_bt (c : UInt8) (x : ByteArray) (h : c ∉ x.data.toList) (i : Nat) (hi : i < x.size) : bt x i ≠ (c.toNat : Int) := by
 intro e
 apply h
 have hi' : i < x.data.size := hi
 unfold bt at e
 rw [Array.getElem?_eq_getElem hi', Option.getD_some] at e
 have e2 : x.data[i] = c := UInt8.toNat_inj.1 (by omega)
 rw [← e2]
 exact Array.mem_toList_iff.2 (Array.getElem_mem hi')
theorem sqL_jn (c : UInt8) (r : List ByteArray) : ∀ x : ByteArray, (∀ y ∈ x :: r, c ∉ y.data.toList) → sqL (c.toNat : Int) (jn (x :: r) ⟨#[c]⟩) = x :: r := by
 induction r with
 | nil =>
  intro x h
  rw [jn_one]
  exact sqL_one _ x fun i hi => not_mem_bt c x (h x (by simp)) i hi
 | cons y r ih =>
  intro x h
  rw [jn_two, sqL_cons (c.toNat : Int) x ⟨#[c]⟩ _ (fun i hi => not_mem_bt c x (h x (by simp)) i hi) rfl rfl, ih y fun z hz => h z (List.mem_cons_of_mem _ hz)]
theorem jn_appd (c : UInt8) (a : List ByteArray) (y : ByteArray) (b : List ByteArray) : ∀ x : ByteArray, jn ((x :: a) ++ (y :: b)) ⟨#[c]⟩ = (jn (x :: a) ⟨#[c]⟩ ++ (⟨#[c]⟩ : ByteArray)) ++ jn (y :: b) ⟨#[c]⟩ := by
 induction a with
 | nil =>
  intro x
  rw [jn_one]
  exact jn_two c x y b
 | cons z a ih =>
  intro x
  show jn (x :: z :: (a ++ (y :: b))) ⟨#[c]⟩ = _
  rw [jn_two, jn_two, show z :: (a ++ (y :: b)) = (z :: a) ++ (y :: b) from rfl, ih z]
  simp only [ByteArray.append_assoc]
def orE (l : List ByteArray) : List ByteArray := if l = [] then [⟨#[]⟩] else l
theorem orE_jn (c : UInt8) (l : List ByteArray) : jn (orE l) ⟨#[c]⟩ = jn l ⟨#[c]⟩ := by
 unfold orE
 split
 ·rename_i e
  subst e
  exact jn_one c _
 ·rfl
theorem orE_cons (l : List ByteArray) : ∃ x r, orE l = x :: r := by
 unfold orE
 split
 ·exact ⟨_, _, rfl⟩
 ·cases l with
  | nil => contradiction
  | cons x r => exact ⟨x, r, rfl⟩
theorem sqL_gap (a b : List ByteArray) (ha : ∀ y ∈ a, (58 : UInt8) ∉ y.data.toList) (hb : ∀ y ∈ b, (58 : UInt8) ∉ y.data.toList) : sqL 58 ((jn a ⟨#[58]⟩ ++ (⟨#[58, 58]⟩ : ByteArray)) ++ jn b ⟨#[58]⟩) = orE a ++ (⟨#[]⟩ : ByteArray) :: orE b := by
 obtain ⟨x, r, ea⟩ := orE_cons a
 obtain ⟨y, q, eb⟩ := orE_cons b
 have z2 : (⟨#[58, 58]⟩ : ByteArray) = (⟨#[58]⟩ : ByteArray) ++ (⟨#[58]⟩ : ByteArray) := rfl
 have e : (jn a ⟨#[58]⟩ ++ (⟨#[58, 58]⟩ : ByteArray)) ++ jn b ⟨#[58]⟩ = jn ((x :: r) ++ ((⟨#[]⟩ : ByteArray) :: y :: q)) ⟨#[58]⟩ := by
  rw [jn_appd, jn_two, ← ea, ← eb, orE_jn, orE_jn, z2, nil_app]
  simp only [ByteArray.append_assoc]
 have hm : ∀ (l : List ByteArray), (∀ y ∈ l, (58 : UInt8) ∉ y.data.toList) → ∀ y ∈ orE l, (58 : UInt8) ∉ y.data.toList := by
  intro l hl y hy
  unfold orE at hy
  split at hy
  ·simp only [List.mem_cons, List.mem_nil_iff, or_false] at hy
   subst hy
   simp
  ·exact hl y hy
 rw [e, ea, eb]
 refine sqL_jn 58 (r ++ ((⟨#[]⟩ : ByteArray) :: y :: q)) x fun z hz => ?_
 have hz : z ∈ (x :: r) ++ ((⟨#[]⟩ : ByteArray) :: y :: q) := hz
 rcases List.mem_append.1 hz with hz | hz
 ·exact hm a ha z (by rw [ea]; exact hz)
 ·rcases List.mem_cons.1 hz with rfl | hz
  ·simp
  ·exact hm b hb z (by rw [eb]; exact hz)
end Go.Proofs.YtndonmdgplojnaaGreatDoor

namespace Go.Proofs.YtndonmdgplojnaaGreatDoor
open Go.RowKit
theorem uo_nn (x y : Int) : 0 ≤ uo x y ∧ uo x y < 18446744073709551616 := by
 unfold uo
 rw [IntKind.wrap_u64]
 omega
theorem ua_nn (x y : Int) : 0 ≤ ua x y ∧ ua x y < 18446744073709551616 := by
 rw [ua_eq]
 omega
theorem hl_nn (p : List Int) (i : Nat) : (0 ≤ (hl p i).1 ∧ (hl p i).1 < 18446744073709551616) ∧ (0 ≤ (hl p i).2 ∧ (hl p i).2 < 18446744073709551616) := by
 induction i with
 | zero => exact (show ((0 : Int) ≤ 0 ∧ (0 : Int) < 18446744073709551616) ∧ ((0 : Int) ≤ 0 ∧ (0 : Int) < 18446744073709551616) by decide)
 | succ i ih =>
  rw [hl]
  split
  ·exact ⟨uo_nn _ _, ih.2⟩
  ·exact ⟨ih.1, uo_nn _ _⟩
theorem gH_nn (l4 l6 : List ByteArray) : 0 ≤ gH l4 l6 ∧ gH l4 l6 < 18446744073709551616 := by
 unfold gH
 split
 ·decide
 ·exact (hl_nn _ _).1
theorem gL_nn (l4 l6 : List ByteArray) : 0 ≤ gL l4 l6 ∧ gL l4 l6 < 18446744073709551616 := by
 unfold gL
 split
 ·exact ua_nn _ _
 ·exact (hl_nn _ _).2
theorem sl_small (q : Int) (i : Nat) (p : Int) (hp : p = 2 ^ i) (h0 : 0 ≤ q * p) (h1 : q * p < 18446744073709551616) : sl q i = q * p := by
 unfold sl
 rw [IntKind.wrap_u64, ← hp]
 omega
theorem uo_add (x y : Int) (i : Nat) (p : Int) (hp : p = 2 ^ i) (q : Int) (hq : 0 ≤ q) (hx : x = q * p) (h0 : 0 ≤ q * p) (h1 : q * p + y < 18446744073709551616) (y0 : 0 ≤ y) (y1 : y < p) : uo x y = x + y := by
 have e : sl q i = q * p := sl_small q i p hp h0 (by omega)
 rw [hx, ← e, uo_sl q y i p hp hq h1 y0 y1, e]
theorem or_four (a b c d x : Int) (ha : a = x / 281474976710656 % 65536) (hb : b = x / 4294967296 % 65536) (hc : c = x / 65536 % 65536) (hd : d = x % 65536) (h0 : 0 ≤ x) (h1 : x < 18446744073709551616) :
  uo (uo (uo (uo 0 (sl a 48)) (sl b 32)) (sl c 16)) (sl d 0) = x := by
 rw [sl_small a 48 281474976710656 rfl (by omega) (by omega), sl_small b 32 4294967296 rfl (by omega) (by omega), sl_small c 16 65536 rfl (by omega) (by omega), sl_small d 0 1 rfl (by omega) (by omega)]
 rw [uo_add 0 (a * 281474976710656) 64 18446744073709551616 rfl 0 (by omega) (by omega) (by omega) (by omega) (by omega) (by omega)]
 rw [uo_add _ (b * 4294967296) 48 281474976710656 rfl a (by omega) (by omega) (by omega) (by omega) (by omega) (by omega)]
 rw [uo_add _ (c * 65536) 32 4294967296 rfl (a * 65536 + b) (by omega) (by omega) (by omega) (by omega) (by omega) (by omega)]
 rw [uo_add _ (d * 1) 16 65536 rfl (a * 4294967296 + b * 65536 + c) (by omega) (by omega) (by omega) (by omega) (by omega) (by omega)]
 omega
theorem ggs_val (h l : Int) (j : Nat) (hj : j < 8) : ggs h l j = (if 4 ≤ j then l else h) / 2 ^ (48 - 16 * ((j % 4 : Nat) : Int)).toNat % 65536 := by
 rw [gg_at h l j hj, sr_ed, cv_16]
theorem hl_eight (p : List Int) (h l : Int) (h0 : 0 ≤ h) (h1 : h < 18446744073709551616) (l0 : 0 ≤ l) (l1 : l < 18446744073709551616) (e : ∀ j, j < 8 → tgi p j = ggs h l j) : hl p 8 = (h, l) := by
 have a0 : hl p 0 = (0, 0) := rfl
 have a1 : hl p 1 = (uo (hl p 0).1 (sl (tgi p 0) 48), (hl p 0).2) := hl_a p 0 (by decide)
 have a2 : hl p 2 = (uo (hl p 1).1 (sl (tgi p 1) 32), (hl p 1).2) := hl_a p 1 (by decide)
 have a3 : hl p 3 = (uo (hl p 2).1 (sl (tgi p 2) 16), (hl p 2).2) := hl_a p 2 (by decide)
 have a4 : hl p 4 = (uo (hl p 3).1 (sl (tgi p 3) 0), (hl p 3).2) := hl_a p 3 (by decide)
 have a5 : hl p 5 = ((hl p 4).1, uo (hl p 4).2 (sl (tgi p 4) 48)) := hl_b p 4 (by decide)
 have a6 : hl p 6 = ((hl p 5).1, uo (hl p 5).2 (sl (tgi p 5) 32)) := hl_b p 5 (by decide)
 have a7 : hl p 7 = ((hl p 6).1, uo (hl p 6).2 (sl (tgi p 6) 16)) := hl_b p 6 (by decide)
 have a8 : hl p 8 = ((hl p 7).1, uo (hl p 7).2 (sl (tgi p 7) 0)) := hl_b p 7 (by decide)
 have k0 : (2 : Int) ^ (48 - 16 * (((0 % 4 : Nat)) : Int)).toNat = 281474976710656 := rfl
 have k1 : (2 : Int) ^ (48 - 16 * (((1 % 4 : Nat)) : Int)).toNat = 4294967296 := rfl
 have k2 : (2 : Int) ^ (48 - 16 * (((2 % 4 : Nat)) : Int)).toNat = 65536 := rfl
 have k3 : (2 : Int) ^ (48 - 16 * (((3 % 4 : Nat)) : Int)).toNat = 1 := rfl
 have e0 := (e 0 (by decide)).trans (ggs_val h l 0 (by decide))
 have e1 := (e 1 (by decide)).trans (ggs_val h l 1 (by decide))
 have e2 := (e 2 (by decide)).trans (ggs_val h l 2 (by decide))
 have e3 := (e 3 (by decide)).trans (ggs_val h l 3 (by decide))
 have e4 := (e 4 (by decide)).trans (ggs_val h l 4 (by decide))
 have e5 := (e 5 (by decide)).trans (ggs_val h l 5 (by decide))
 have e6 := (e 6 (by decide)).trans (ggs_val h l 6 (by decide))
 have e7 := (e 7 (by decide)).trans (ggs_val h l 7 (by decide))
 rw [k0, if_neg (by decide)] at e0
 rw [k1, if_neg (by decide)] at e1
 rw [k2, if_neg (by decide)] at e2
 rw [k3, if_neg (by decide), Int.ediv_one] at e3
 rw [show (2 : Int) ^ (48 - 16 * (((4 % 4 : Nat)) : Int)).toNat = 281474976710656 from rfl, if_pos (by decide)] at e4
 rw [show (2 : Int) ^ (48 - 16 * (((5 % 4 : Nat)) : Int)).toNat = 4294967296 from rfl, if_pos (by decide)] at e5
 rw [show (2 : Int) ^ (48 - 16 * (((6 % 4 : Nat)) : Int)).toNat = 65536 from rfl, if_pos (by decide)] at e6
 rw [show (2 : Int) ^ (48 - 16 * (((7 % 4 : Nat)) : Int)).toNat = 1 from rfl, if_pos (by decide), Int.ediv_one] at e7
 simp only [a8, a7, a6, a5, a4, a3, a2, a1, a0]
 rw [or_four _ _ _ _ h e0 e1 e2 e3 h0 h1, or_four _ _ _ _ l e4 e5 e6 e7 l0 l1]
def st (wn : Nat) (acc : List Int × Bool) (x : ByteArray) : List Int × Bool := if x = (⟨#[]⟩ : ByteArray) then (if acc.2 = true then acc else (acc.1 ++ List.replicate (8 - wn) 0, true)) else (acc.1 ++ [hdx x], acc.2)
theorem take_next (l : List ByteArray) (j : Nat) (h : j < l.length) : l.take (j + 1) = l.take j ++ [tg l j] := by
 rw [List.take_add_one, tg_at l j h]
 rfl
theorem pq_fold (l : List ByteArray) (wn : Nat) : ∀ j, j ≤ l.length → pq l wn j = (l.take j).foldl (st wn) ([], false)
 | 0, _ => rfl
 | j + 1, h => by
  rw [take_next l j (by omega), List.foldl_append, ← pq_fold l wn j (by omega)]
  rfl
def ne (x : ByteArray) : Bool := decide (x ≠ (⟨#[]⟩ : ByteArray))
theorem wd_fold (l : List ByteArray) : ∀ j, j ≤ l.length → wd l j = ((l.take j).filter ne).length
 | 0, _ => rfl
 | j + 1, h => by
  rw [take_next l j (by omega), List.filter_append, List.length_append, ← wd_fold l j (by omega), wd]
  by_cases e : tg l j = (⟨#[]⟩ : ByteArray)
  ·rw [if_pos e, List.filter_cons_of_neg (by unfold ne; simp [e])]
   rfl
  ·rw [if_neg e, List.filter_cons_of_pos (by unfold ne; simp [e])]
   rfl
theorem gP_fold (l : List ByteArray) : gP l = (l.foldl (st (l.filter ne).length) ([], false)).1 := by
 unfold gP
 rw [wd_fold l _ (Nat.le_refl _), pq_fold l _ _ (Nat.le_refl _), List.take_length]
theorem fold_words (wn : Nat) (ws : List ByteArray) : (∀ y ∈ ws, y ≠ (⟨#[]⟩ : ByteArray)) → ∀ acc : List Int × Bool, ws.foldl (st wn) acc = (acc.1 ++ ws.map hdx, acc.2) := by
 induction ws with
 | nil =>
  intro _ acc
  simp
 | cons x ws ih =>
  intro h acc
  have hx : st wn acc x = (acc.1 ++ [hdx x], acc.2) := if_neg (h x (List.mem_cons_self ..))
  rw [List.foldl_cons, hx, ih (fun y hy => h y (List.mem_cons_of_mem _ hy))]
  simp
theorem filt_words (ws : List ByteArray) (h : ∀ y ∈ ws, y ≠ (⟨#[]⟩ : ByteArray)) : ws.filter ne = ws := List.filter_eq_self.2 fun y hy => by
 unfold ne
 exact decide_eq_true (h y hy)
theorem filt_orE (ws : List ByteArray) (h : ∀ y ∈ ws, y ≠ (⟨#[]⟩ : ByteArray)) : (orE ws).filter ne = ws := by
 unfold orE
 split
 ·rename_i e
  rw [e]
  rfl
 ·exact filt_words ws h
theorem gP_words (ws : List ByteArray) (h : ∀ y ∈ ws, y ≠ (⟨#[]⟩ : ByteArray)) : gP ws = ws.map hdx := by
 rw [gP_fold, fold_words _ ws h]
 simp
theorem st_e (wn : Nat) (X : List Int) : st wn (X, true) ⟨#[]⟩ = (X, true) := rfl
theorem st_f (wn : Nat) (X : List Int) : st wn (X, false) ⟨#[]⟩ = (X ++ List.replicate (8 - wn) 0, true) := rfl
theorem gP_gap (a b : List ByteArray) (ha : ∀ y ∈ a, y ≠ (⟨#[]⟩ : ByteArray)) (hb : ∀ y ∈ b, y ≠ (⟨#[]⟩ : ByteArray)) : gP (orE a ++ (⟨#[]⟩ : ByteArray) :: orE b) = (a.map hdx ++ List.replicate (8 - (a.length + b.length)) 0) ++ b.map hdx := by
 have hw : ((orE a ++ (⟨#[]⟩ : ByteArray) :: orE b).filter ne).length = a.length + b.length := by
  rw [List.filter_append, filt_orE a ha, List.filter_cons_of_neg (by unfold ne; simp), filt_orE b hb, List.length_append]
 rw [gP_fold, hw, List.foldl_append, List.foldl_cons]
 generalize a.length + b.length = wn
 have h1 : st wn ((orE a).foldl (st wn) ([], false)) ⟨#[]⟩ = (a.map hdx ++ List.replicate (8 - wn) 0, true) := by
  unfold orE
  split
  ·rename_i e
   rw [e, List.foldl_cons, List.foldl_nil, st_f, st_e]
   rfl
  ·rw [fold_words wn a ha]
   simp only [List.nil_append]
   exact st_f wn _
 rw [h1]
 unfold orE
 split
 ·rename_i e
  rw [e, List.foldl_cons, List.foldl_nil, st_e]
  simp
 ·rw [fold_words wn b hb]
theorem hdx_hx (f : Nat → Int) (hf : ∀ i, 0 ≤ f i ∧ f i < 65536) (i : Nat) : hdx (hxT (f i).toNat) = f i := by
 have := hf i
 unfold hdx
 rw [dgs_hx _ (by omega), Int.max_eq_left (by omega), cv_u64]
 omega
theorem ws_ne (f : Nat → Int) (hf : ∀ i, 0 ≤ f i ∧ f i < 65536) (n : Nat) : ∀ y ∈ ws16 f n, y ≠ (⟨#[]⟩ : ByteArray) := by
 intro y hy
 unfold ws16 at hy
 obtain ⟨i, _, rfl⟩ := List.mem_map.1 hy
 exact (hxN f hf i).1
theorem ws_58 (f : Nat → Int) (hf : ∀ i, 0 ≤ f i ∧ f i < 65536) (n : Nat) : ∀ y ∈ ws16 f n, (58 : UInt8) ∉ y.data.toList := by
 intro y hy
 unfold ws16 at hy
 obtain ⟨i, _, rfl⟩ := List.mem_map.1 hy
 exact (hxN f hf i).2.2.2
theorem ws_map (f : Nat → Int) (hf : ∀ i, 0 ≤ f i ∧ f i < 65536) (n : Nat) : (ws16 f n).map hdx = (List.range n).map f := by
 unfold ws16
 rw [List.map_map]
 exact List.map_congr_left fun i _ => hdx_hx f hf i
theorem tgi_l (a b : List Int) (i : Nat) (h : i < a.length) : tgi (a ++ b) i = tgi a i := by
 unfold tgi
 rw [List.getD_eq_getElem?_getD, List.getD_eq_getElem?_getD, List.getElem?_append_left h]
theorem tgi_r (a b : List Int) (i : Nat) (h : a.length ≤ i) : tgi (a ++ b) i = tgi b (i - a.length) := by
 unfold tgi
 rw [List.getD_eq_getElem?_getD, List.getD_eq_getElem?_getD, List.getElem?_append_right h]
theorem tgi_rep (n i : Nat) : tgi (List.replicate n 0) i = 0 := by
 unfold tgi
 rw [List.getD_eq_getElem?_getD, List.getElem?_replicate]
 split <;> rfl
theorem tx6_dot (h l : Int) : (46 : UInt8) ∉ (tx6 h l).data.toList := by
 unfold tx6
 have hf := ggs_nn h l
 split
 ·unfold ws16
  exact jn_mem 58 46 _ _ (by decide) fun i _ => (hxN _ hf i).2.1
 ·have a : (46 : UInt8) ∉ (jn (ws16 (ggs h l) (uF (ggs h l))) ⟨#[58]⟩).data.toList := jn_mem 58 46 _ _ (by decide) fun i _ => (hxN _ hf i).2.1
  have b : (46 : UInt8) ∉ (jn (ws16 (fun i => ggs h l (uT (ggs h l) + i)) (8 - uT (ggs h l))) ⟨#[58]⟩).data.toList := jn_mem 58 46 _ _ (by decide) fun i _ => (hxN _ hf (uT (ggs h l) + i)).2.1
  intro hm
  simp only [ByteArray.data_append, Array.toList_append, List.mem_append] at hm
  rcases hm with (hm | hm) | hm
  ·exact a hm
  ·simp at hm
  ·exact b hm
theorem sqL_lone (c : UInt8) (s : ByteArray) (h : c ∉ s.data.toList) : sqL (c.toNat : Int) s = [s] := sqL_one _ s fun i hi => not_mem_bt c s h i hi
theorem guess6 (h l : Int) (h0 : 0 ≤ h) (h1 : h < 18446744073709551616) (l0 : 0 ≤ l) (l1 : l < 18446744073709551616) : gV (sqL 46 (tx6 h l)) = true ∧ gH (sqL 46 (tx6 h l)) (sqL 58 (tx6 h l)) = h ∧ gL (sqL 46 (tx6 h l)) (sqL 58 (tx6 h l)) = l := by
 have hf := ggs_nn h l
 have hu := uF_le (ggs h l)
 have e4 : sqL 46 (tx6 h l) = [tx6 h l] := sqL_lone 46 _ (tx6_dot h l)
 have hP : (gP (sqL 58 (tx6 h l))).length = 8 ∧ ∀ j, j < 8 → tgi (gP (sqL 58 (tx6 h l))) j = ggs h l j := by
  by_cases e : ((uF (ggs h l) : Nat) : Int) = ((uT (ggs h l) : Nat) : Int)
  ·have et : tx6 h l = jn (ws16 (ggs h l) 8) ⟨#[58]⟩ := if_pos e
   have e6 : sqL 58 (tx6 h l) = ws16 (ggs h l) 8 := by
    rw [et]
    exact sqL_jn 58 _ _ (ws_58 (ggs h l) hf 8)
   rw [e6, gP_words _ (ws_ne _ hf 8), ws_map _ hf 8]
   exact ⟨by simp, fun j hj => map_tgi _ _ _ hj⟩
  ·have et : tx6 h l = (jn (ws16 (ggs h l) (uF (ggs h l))) ⟨#[58]⟩ ++ (⟨#[58, 58]⟩ : ByteArray)) ++ jn (ws16 (fun i => ggs h l (uT (ggs h l) + i)) (8 - uT (ggs h l))) ⟨#[58]⟩ := if_neg e
   have hg : ∀ i, 0 ≤ (fun i => ggs h l (uT (ggs h l) + i)) i ∧ (fun i => ggs h l (uT (ggs h l) + i)) i < 65536 := fun i => hf _
   rw [et, sqL_gap _ _ (ws_58 _ hf _) (ws_58 _ hg _), gP_gap _ _ (ws_ne _ hf _) (ws_ne _ hg _), ws_map _ hf, ws_map _ hg, ws16_len, ws16_len]
   refine ⟨by simp only [List.length_append, List.length_map, List.length_range, List.length_replicate]; omega, fun j hj => ?_⟩
   have z1 : ((List.range (uF (ggs h l))).map (ggs h l) ++ List.replicate (8 - (uF (ggs h l) + (8 - uT (ggs h l)))) 0).length = uT (ggs h l) := by
    simp only [List.length_append, List.length_map, List.length_range, List.length_replicate]
    omega
   by_cases c1 : j < uT (ggs h l)
   ·rw [tgi_l _ _ _ (by rw [z1]; exact c1)]
    by_cases c2 : j < uF (ggs h l)
    ·rw [tgi_l _ _ _ (by simp only [List.length_map, List.length_range]; exact c2), map_tgi _ _ _ c2]
    ·rw [tgi_r _ _ _ (by simp only [List.length_map, List.length_range]; omega), tgi_rep]
     exact (u_zero _ j (by omega) c1).symm
   ·rw [tgi_r _ _ _ (by rw [z1]; omega), z1, map_tgi _ _ _ (by omega)]
    congr 1
    omega
 have h8 : hl (gP (sqL 58 (tx6 h l))) (min 8 (gP (sqL 58 (tx6 h l))).length) = (h, l) := by
  rw [hP.1]
  exact hl_eight _ h l h0 h1 l0 l1 hP.2
 rw [e4]
 unfold gV gH gL
 rw [h8]
 exact ⟨rfl, rfl, rfl⟩
theorem gd_dec (l : Int) (i : Nat) : gd (dcT (((qf l i).toNat : Nat) : Int)) = qf l i := by
 have := qf_nn l i
 unfold gd
 rw [dgs_dec _ (by omega), Int.max_eq_left (by omega), cv_u64, un_low _ 8 (by decide) 255 rfl (by omega) (by omega)]
 have e : (2 : Int) ^ 8 = 256 := rfl
 rw [e]
 omega
theorem guess4 (l : Int) (l0 : 0 ≤ l) (l1 : l < 4294967296) : gV (sqL 46 (tx4 l)) = false ∧ gH (sqL 46 (tx4 l)) (sqL 58 (tx4 l)) = 0 ∧ gL (sqL 46 (tx4 l)) (sqL 58 (tx4 l)) = l := by
 have h46 : ∀ y ∈ ws10 (qf l) 4, (46 : UInt8) ∉ y.data.toList := by
  intro y hy
  unfold ws10 at hy
  obtain ⟨i, _, rfl⟩ := List.mem_map.1 hy
  exact (dcW l i).2.2.1
 have e4 : sqL 46 (tx4 l) = ws10 (qf l) 4 := sqL_jn 46 _ _ h46
 rw [e4]
 refine ⟨rfl, rfl, ?_⟩
 have e : ∀ j, j < 4 → qf l j = l / 2 ^ (24 - 8 * (j : Int)).toNat % 256 := by
  intro j hj
  unfold qf cutf qp
  rw [if_pos hj, sr_ed, cv_16, cv_u8]
  generalize l / 2 ^ (24 - 8 * (j : Int)).toNat = z
  omega
 have e0 := e 0 (by omega)
 have e1 := e 1 (by omega)
 have e2 := e 2 (by omega)
 have e3 := e 3 (by omega)
 rw [show (2 : Int) ^ (24 - 8 * ((0 : Nat) : Int)).toNat = 16777216 from rfl] at e0
 rw [show (2 : Int) ^ (24 - 8 * ((1 : Nat) : Int)).toNat = 65536 from rfl] at e1
 rw [show (2 : Int) ^ (24 - 8 * ((2 : Nat) : Int)).toNat = 256 from rfl] at e2
 rw [show (2 : Int) ^ (24 - 8 * ((3 : Nat) : Int)).toNat = 1 from rfl, Int.ediv_one] at e3
 show ua (sl (ua (sl (ua (sl (ua (sl 0 8) (gd (dcT (((qf l 0).toNat : Nat) : Int)))) 8) (gd (dcT (((qf l 1).toNat : Nat) : Int)))) 8) (gd (dcT (((qf l 2).toNat : Nat) : Int)))) 8) (gd (dcT (((qf l 3).toNat : Nat) : Int))) = l
 rw [gd_dec, gd_dec, gd_dec, gd_dec, e0, e1, e2, e3]
 simp only [ua_eq, sl_8]
 omega
theorem guess_txt (v : Bool) (h l : Int) (h0 : 0 ≤ h) (h1 : h < 18446744073709551616) (l0 : 0 ≤ l) (l1 : l < 18446744073709551616) (hm : mA v h l = true) :
  gV (sqL 46 (txt v h l)) = v ∧ gH (sqL 46 (txt v h l)) (sqL 58 (txt v h l)) = h ∧ gL (sqL 46 (txt v h l)) (sqL 58 (txt v h l)) = l := by
 unfold txt
 rw [if_pos hm]
 cases v
 ·rw [if_neg (by decide)]
  unfold mA at hm
  simp only [Bool.false_or, Bool.and_eq_true, decide_eq_true_eq] at hm
  obtain ⟨a, b, c⟩ := guess4 l l0 hm.2
  exact ⟨a, b.trans hm.1.symm, c⟩
 ·rw [if_pos rfl]
  exact guess6 h l h0 h1 l0 l1
end Go.Proofs.YtndonmdgplojnaaGreatDoor

namespace Go.Proofs.YtndonmdgplojnaaGreatDoor
open Go.RowKit
theorem mask_nat (n e : Nat) (hn : n < 2 ^ 64) : n &&& ((2 ^ 64 - 1) * 2 ^ e % 2 ^ 64) = n / 2 ^ e * 2 ^ e := by
 apply Nat.eq_of_testBit_eq
 intro i
 rw [← Nat.shiftLeft_eq, ← Nat.shiftRight_eq_div_pow, ← Nat.shiftLeft_eq]
 simp only [Nat.testBit_and, Nat.testBit_mod_two_pow, Nat.testBit_shiftLeft, Nat.testBit_shiftRight, Nat.testBit_two_pow_sub_one]
 by_cases h1 : e ≤ i
 ·by_cases h2 : i < 64
  ·simp [h1, h2, show i - e < 64 by omega, show e + (i - e) = i by omega]
  ·have : n.testBit i = false := Nat.testBit_lt_two_pow (Nat.lt_of_lt_of_le hn (Nat.pow_le_pow_right (by omega) (by omega)))
   simp [this, show e + (i - e) = i by omega]
 ·simp [h1]
def tr (x : Int) (e : Nat) : Int := x / (2 ^ e : Int) * 2 ^ e
theorem tr_nat (n e : Nat) : tr (n : Int) e = ((n / 2 ^ e * 2 ^ e : Nat) : Int) := by
 unfold tr
 push_cast
 rfl
theorem un_mask (x : Int) (e : Nat) (h0 : 0 ≤ x) (h1 : x < 18446744073709551616) : un x (sl 18446744073709551615 e) = tr x e := by
 obtain ⟨n, rfl⟩ := Int.eq_ofNat_of_zero_le h0
 have hs : sl 18446744073709551615 e = (((2 ^ 64 - 1) * 2 ^ e % 2 ^ 64 : Nat) : Int) := by
  unfold sl
  rw [IntKind.wrap_u64, Int.natCast_emod, Int.natCast_mul, Int.natCast_pow]
  rfl
 have hb : (BitVec.ofInt 64 (n : Int) &&& BitVec.ofInt 64 (((2 ^ 64 - 1) * 2 ^ e % 2 ^ 64 : Nat) : Int)).toNat = n / 2 ^ e * 2 ^ e := by
  rw [BitVec.ofInt_natCast, BitVec.ofInt_natCast, BitVec.toNat_and, BitVec.toNat_ofNat, BitVec.toNat_ofNat, Nat.mod_mod, Nat.mod_eq_of_lt (by omega)]
  exact mask_nat n e (by omega)
 have hle : n / 2 ^ e * 2 ^ e ≤ n := Nat.div_mul_le_self n _
 unfold un
 rw [hs, hb, tr_nat, IntKind.wrap_u64]
 generalize n / 2 ^ e * 2 ^ e = k at hle
 omega
def oH (v : Bool) (c : Int) : Nat := (max (64 - (128 - wdt v + c)) 0).toNat
def oL (v : Bool) (c : Int) : Nat := (max (64 - (128 - wdt v + c - 64)) 0).toNat
theorem ctH_tr (v : Bool) (h c : Int) (h0 : 0 ≤ h) (h1 : h < 18446744073709551616) : ctH v h c = tr h (oH v c) := un_mask h _ h0 h1
theorem ctL_tr (v : Bool) (l c : Int) (h0 : 0 ≤ l) (h1 : l < 18446744073709551616) : ctL v l c = tr l (oL v c) := un_mask l _ h0 h1
end Go.Proofs.YtndonmdgplojnaaGreatDoor

namespace Go.Proofs.YtndonmdgplojnaaGreatDoor
open Go.RowKit
theorem bit_un (x : Int) (k : Nat) (h0 : 0 ≤ x) (h1 : x < 18446744073709551616) : decide (un (sr x k) 1 = 1) = x.toNat.testBit k := by
 obtain ⟨n, rfl⟩ := Int.eq_ofNat_of_zero_le h0
 have hs : sr (n : Int) k = ((n / 2 ^ k : Nat) : Int) := by
  unfold sr
  rw [Int.fdiv_eq_ediv_of_nonneg _ (Int.le_of_lt (Int.pow_pos (by decide))), Int.natCast_ediv, Int.natCast_pow]
  rfl
 have hle : n / 2 ^ k ≤ n := Nat.div_le_self _ _
 have e1 : BitVec.ofInt 64 ((n / 2 ^ k : Nat) : Int) = BitVec.ofNat 64 (n / 2 ^ k) := rfl
 have e2 : BitVec.ofInt 64 1 = BitVec.ofNat 64 1 := by decide
 have hu : un ((n / 2 ^ k : Nat) : Int) 1 = ((n / 2 ^ k % 2 : Nat) : Int) := by
  unfold un
  rw [e1, e2, BitVec.toNat_and, BitVec.toNat_ofNat, BitVec.toNat_ofNat, Nat.mod_eq_of_lt (by omega), Nat.mod_eq_of_lt (by decide), Nat.and_one_is_mod, IntKind.wrap_u64]
  omega
 rw [hs, hu, Int.toNat_natCast, Nat.testBit_eq_decide_div_mod_eq]
 congr 1
 apply propext
 omega
theorem low_zero (n e : Nat) : n / 2 ^ e * 2 ^ e = n ↔ ∀ k, k < e → n.testBit k = false := by
 constructor
 ·intro h k hk
  rw [← h, ← Nat.shiftRight_eq_div_pow, ← Nat.shiftLeft_eq, Nat.testBit_shiftLeft]
  simp
  omega
 ·intro h
  apply Nat.eq_of_testBit_eq
  intro i
  rw [← Nat.shiftRight_eq_div_pow, ← Nat.shiftLeft_eq, Nat.testBit_shiftLeft, Nat.testBit_shiftRight]
  by_cases c : e ≤ i
  ·simp [c, show e + (i - e) = i by omega]
  ·simp [c, h i (by omega)]
theorem high_same (n m e : Nat) : n / 2 ^ e * 2 ^ e = m / 2 ^ e * 2 ^ e ↔ ∀ k, e ≤ k → n.testBit k = m.testBit k := by
 constructor
 ·intro h k hk
  have := congrArg (fun z => Nat.testBit z k) h
  simp only [← Nat.shiftRight_eq_div_pow, ← Nat.shiftLeft_eq, Nat.testBit_shiftLeft, Nat.testBit_shiftRight] at this
  simpa [hk, show e + (k - e) = k by omega] using this
 ·intro h
  apply Nat.eq_of_testBit_eq
  intro i
  rw [← Nat.shiftRight_eq_div_pow, ← Nat.shiftRight_eq_div_pow, ← Nat.shiftLeft_eq, ← Nat.shiftLeft_eq, Nat.testBit_shiftLeft, Nat.testBit_shiftLeft, Nat.testBit_shiftRight, Nat.testBit_shiftRight]
  by_cases c : e ≤ i
  ·rw [h _ (by omega)]
  ·simp [c]
theorem tr_fix (x : Int) (e : Nat) (h0 : 0 ≤ x) : tr x e = x ↔ ∀ k, k < e → x.toNat.testBit k = false := by
 obtain ⟨n, rfl⟩ := Int.eq_ofNat_of_zero_le h0
 rw [tr_nat, Int.toNat_natCast, ← low_zero]
 omega
theorem tr_same (x y : Int) (e : Nat) (h0 : 0 ≤ x) (y0 : 0 ≤ y) : tr x e = tr y e ↔ ∀ k, e ≤ k → x.toNat.testBit k = y.toNat.testBit k := by
 obtain ⟨n, rfl⟩ := Int.eq_ofNat_of_zero_le h0
 obtain ⟨m, rfl⟩ := Int.eq_ofNat_of_zero_le y0
 rw [tr_nat, tr_nat, Int.toNat_natCast, Int.toNat_natCast, ← high_same]
 omega
theorem top_false (x : Int) (k b : Nat) (h0 : 0 ≤ x) (h1 : x < 2 ^ b) (hk : b ≤ k) : x.toNat.testBit k = false := by
 obtain ⟨n, rfl⟩ := Int.eq_ofNat_of_zero_le h0
 rw [Int.toNat_natCast]
 refine Nat.testBit_lt_two_pow (Nat.lt_of_lt_of_le ?_ (Nat.pow_le_pow_right (by omega) hk))
 have : ((n : Nat) : Int) < ((2 ^ b : Nat) : Int) := by
  rw [Int.natCast_pow]
  exact h1
 exact Int.ofNat_lt.1 this
theorem bI_bit (v : Bool) (h l : Int) (i : Nat) (h0 : 0 ≤ h) (h1 : h < 18446744073709551616) (l0 : 0 ≤ l) (l1 : l < 18446744073709551616) (hi : (i : Int) < wdt v) :
  bI v h l (i : Int) = if v = true then (if i < 64 then h.toNat.testBit (63 - i) else l.toNat.testBit (127 - i)) else l.toNat.testBit (31 - i) := by
 unfold bI
 cases v
 ·have hw : wdt false = 32 := rfl
  rw [if_neg (by decide), if_neg (by decide), bit_un _ _ l0 l1, show (31 - (i : Int)).toNat = 31 - i by omega]
 ·rw [if_pos rfl, if_pos rfl]
  by_cases c : i < 64
  ·rw [if_pos (by omega), if_pos c, bit_un _ _ h0 h1, show (63 - (i : Int)).toNat = 63 - i by omega]
  ·rw [if_neg (by omega), if_neg c, bit_un _ _ l0 l1, show (127 - (i : Int)).toNat = 127 - i by omega]
theorem rP_mP (v : Bool) (h l b : Int) (h0 : 0 ≤ h) (h1 : h < 18446744073709551616) (l0 : 0 ≤ l) (l1 : l < 18446744073709551616) (b0 : 0 ≤ b) : rP v h l b = mP v h l b := by
 unfold rP mP
 by_cases hw : wdt v < b
 ·simp [hw]
 ·congr 1
  rw [ctH_tr v h b h0 h1, ctL_tr v l b l0 l1]
  obtain ⟨n, rfl⟩ := Int.eq_ofNat_of_zero_le b0
  have key : (∀ j, j < (wdt v - (n : Int)).toNat → bI v h l ((n : Int) + (j : Int)) = false) ↔ (v = v ∧ tr h (oH v n) = h ∧ tr l (oL v n) = l) := by
   rw [tr_fix h _ h0, tr_fix l _ l0]
   have bi : ∀ j : Nat, j < (wdt v - (n : Int)).toNat → bI v h l ((n : Int) + (j : Int)) = bI v h l ((n + j : Nat) : Int) := fun j _ => by congr 1
   cases v
   ·have hd : wdt false = 32 := rfl
    constructor
    ·intro a
     refine ⟨rfl, fun k hk => ?_, fun k hk => ?_⟩
     ·unfold oH at hk
      omega
     ·unfold oL at hk
      have := a (31 - k - n) (by omega)
      rw [bi _ (by omega), bI_bit _ h l _ h0 h1 l0 l1 (by omega), if_neg (by decide), show 31 - (n + (31 - k - n)) = k by omega] at this
      exact this
    ·intro ⟨_, _, c⟩ j hj
     rw [bi _ hj, bI_bit _ h l _ h0 h1 l0 l1 (by omega), if_neg (by decide)]
     exact c _ (by unfold oL; omega)
   ·have hd : wdt true = 128 := rfl
    constructor
    ·intro a
     refine ⟨rfl, fun k hk => ?_, fun k hk => ?_⟩
     ·unfold oH at hk
      have := a (63 - k - n) (by omega)
      rw [bi _ (by omega), bI_bit _ h l _ h0 h1 l0 l1 (by omega), if_pos rfl, if_pos (by omega), show 63 - (n + (63 - k - n)) = k by omega] at this
      exact this
     ·by_cases c : 64 ≤ k
      ·exact top_false l k 64 l0 l1 c
      ·unfold oL at hk
       have := a (127 - k - n) (by omega)
       rw [bi _ (by omega), bI_bit _ h l _ h0 h1 l0 l1 (by omega), if_pos rfl, if_neg (by omega), show 127 - (n + (127 - k - n)) = k by omega] at this
       exact this
    ·intro ⟨_, a, c⟩ j hj
     rw [bi _ hj, bI_bit _ h l _ h0 h1 l0 l1 (by omega), if_pos rfl]
     split
     ·exact a _ (by unfold oH; omega)
     ·exact c _ (by unfold oL; omega)
  exact decide_eq_decide.2 key
theorem rH_hO (v : Bool) (h l b : Int) (v' : Bool) (h' l' : Int) (h0 : 0 ≤ h) (h1 : h < 18446744073709551616) (l0 : 0 ≤ l) (l1 : l < 18446744073709551616) (p0 : 0 ≤ h') (p1 : h' < 18446744073709551616) (k0 : 0 ≤ l') (k1 : l' < 18446744073709551616) (b0 : 0 ≤ b) : rH v h l b v' h' l' = hO v h l b v' h' l' := by
 unfold rH hO
 rw [rP_mP v h l b h0 h1 l0 l1 b0]
 by_cases hm' : mP v h l b = false
 ·rw [hm']; rfl
 have hm : mP v h l b = true := by simpa using hm'
 by_cases ha' : mA v' h' l' = false
 ·rw [hm, ha']; rfl
 have ha : mA v' h' l' = true := by simpa using ha'
 rw [hm, ha]
 simp only [Bool.true_and]
 by_cases hv' : ¬ v = v'
 ·rw [decide_eq_false hv', decide_eq_false (p := v' = v ∧ ctH v' h' b = h ∧ ctL v' l' b = l) fun e => hv' e.1.symm]
  rfl
 have hv : v = v' := by simpa using hv'
 clear hv' hm' ha'
 subst hv
 rw [decide_eq_true rfl, Bool.true_and]
 have hp := hm
 unfold mP at hp
 simp only [Bool.and_eq_true, decide_eq_true_eq] at hp
 obtain ⟨⟨hA, hw⟩, _, f1, f2⟩ := hp
 rw [ctH_tr v h b h0 h1] at f1
 rw [ctL_tr v l b l0 l1] at f2
 rw [ctH_tr v h' b p0 p1, ctL_tr v l' b k0 k1]
 obtain ⟨n, rfl⟩ := Int.eq_ofNat_of_zero_le b0
 rw [Int.toNat_natCast]
 have s1 : tr h' (oH v n) = h ↔ ∀ k, oH v n ≤ k → h'.toNat.testBit k = h.toNat.testBit k := by
  rw [← tr_same h' h _ p0 h0, f1]
 have s2 : tr l' (oL v n) = l ↔ ∀ k, oL v n ≤ k → l'.toNat.testBit k = l.toNat.testBit k := by
  rw [← tr_same l' l _ k0 l0, f2]
 apply decide_eq_decide.2
 rw [s1, s2]
 cases v
 ·have hd : wdt false = 32 := rfl
  unfold mA at hA ha
  simp only [Bool.false_or, Bool.and_eq_true, decide_eq_true_eq] at hA ha
  constructor
  ·intro a
   refine ⟨rfl, fun k _ => by rw [ha.1, hA.1], fun k hk => ?_⟩
   by_cases c : 32 ≤ k
   ·rw [top_false l' k 32 k0 ha.2 c, top_false l k 32 l0 hA.2 c]
   ·unfold oL at hk
    have := a (31 - k) (by omega)
    rw [bI_bit _ h l _ h0 h1 l0 l1 (by omega), bI_bit _ h' l' _ p0 p1 k0 k1 (by omega), if_neg (by decide), if_neg (by decide), show 31 - (31 - k) = k by omega] at this
    exact this.symm
  ·intro ⟨_, _, c⟩ j hj
   rw [bI_bit _ h l _ h0 h1 l0 l1 (by omega), bI_bit _ h' l' _ p0 p1 k0 k1 (by omega), if_neg (by decide), if_neg (by decide)]
   exact (c _ (by unfold oL; omega)).symm
 ·have hd : wdt true = 128 := rfl
  constructor
  ·intro a
   refine ⟨rfl, fun k hk => ?_, fun k hk => ?_⟩
   ·by_cases c : 64 ≤ k
    ·rw [top_false h' k 64 p0 p1 c, top_false h k 64 h0 h1 c]
    ·unfold oH at hk
     have := a (63 - k) (by omega)
     rw [bI_bit _ h l _ h0 h1 l0 l1 (by omega), bI_bit _ h' l' _ p0 p1 k0 k1 (by omega), if_pos rfl, if_pos rfl, if_pos (by omega), if_pos (by omega), show 63 - (63 - k) = k by omega] at this
     exact this.symm
   ·by_cases c : 64 ≤ k
    ·rw [top_false l' k 64 k0 k1 c, top_false l k 64 l0 l1 c]
    ·unfold oL at hk
     have := a (127 - k) (by omega)
     rw [bI_bit _ h l _ h0 h1 l0 l1 (by omega), bI_bit _ h' l' _ p0 p1 k0 k1 (by omega), if_pos rfl, if_pos rfl, if_neg (by omega), if_neg (by omega), show 127 - (127 - k) = k by omega] at this
     exact this.symm
  ·intro ⟨_, a, c⟩ j hj
   rw [bI_bit _ h l _ h0 h1 l0 l1 (by omega), bI_bit _ h' l' _ p0 p1 k0 k1 (by omega), if_pos rfl, if_pos rfl]
   split
   ·exact (a _ (by unfold oH; omega)).symm
   ·exact (c _ (by unfold oL; omega)).symm
end Go.Proofs.YtndonmdgplojnaaGreatDoor

namespace Go.Proofs.YtndonmdgplojnaaGreatDoor
open Go.RowKit
set_option maxRecDepth 100000 in
set_option maxHeartbeats 4000000 in
set_option linter.unusedSimpArgs false in
theorem d_PrefixText (v : Bool) (h l : Int) (b : Int) (hb0 : 0 ≤ b) (hb1 : b ≤ 255) (h0 : 0 ≤ h) (h1 : h < 18446744073709551616) (l0 : 0 ≤ l) (l1 : l < 18446744073709551616) (w : World) (hL : Laid w)  :
  Calls Tryz.prog 25 #[.agg (av 4 (ls [.bool (v), .int .u64 h, .int .u64 l, .int .u8 b]))] w fun r w' => r = .returned (.string (ptx v h l b)) ∧ Below w.heap.size w w' := by
 go_enter Tryz.func25, Tryz.ntmps25
 have M := Mem.start hL
 refine sR ?_
 refine pN M 1 (.cells (av 4 (ls [.bool (v), .int .u64 h, .int .u64 l, .int .u8 b])) 39) fun g1 u1 M => ?_
 refine pV 2 (.string ⟨#[]⟩) ?_
 refine nT ?_
 refine wp_seq ?_
 refine sR ?_
 refine pAz M 3 0 4 (ls [.bool (v), .int .u64 h, .int .u64 l, .int .u8 b]) ?_
 rcases Bool.eq_false_or_eq_true (mP v h l b) with c0 | c0
 ·skip
  refine pC M 4 27 #[.agg (av 4 (ls [.bool (v), .int .u64 h, .int .u64 l, .int .u8 b]))] (.bool true) (fun w M => call_val (call_val (d_MayPrefix v h l b hb0 hb1 w M.laid) (congrArg Value.bool (rP_mP v h l b h0 h1 l0 l1 hb0))) (congrArg Value.bool c0)) fun u2 M => ?_
  refine pV 5 (.bool false) ?_
  refine nT ?_
  refine wp_cond_false (by kernel_rfl) ?_
  refine wp_skip ?_
  refine au_then ?_
  refine wp_seq ?_
  refine rg_tail M 9 (by kernel_rfl) (by kernel_rfl) ?_
  simp only [List.take_succ_cons, List.take_zero]
  refine kV 6 (.pointer (some ⟨g1, 0, none⟩)) ?_
  refine kL M 7 0 rfl 0 3 (ls [.bool (v), .int .u64 h, .int .u64 l]) (part_ls _ 0 3 _ rfl) ?_
  refine kC M 8 23 #[.agg (av 3 (ls [.bool (v), .int .u64 h, .int .u64 l]))] (.string (txt v h l)) (fun w M => d_Text v h l h0 h1 l0 l1 w M.laid) ?_
  refine kH 9 (.string ((txt v h l) ++ (⟨#[47]⟩ : ByteArray))) (run_cat 9 9 _ _ rfl (txt v h l) ⟨#[47]⟩ (by kernel_rfl) (by kernel_rfl) (by have q0 := txt_le v h l; have q2 : (⟨#[47]⟩ : ByteArray).size = 1 := rfl; omega)) ?_
  refine kV 10 (.pointer (some ⟨g1, 3, none⟩)) ?_
  refine kE M 11 g1 3 (.int .u8 b) (fun w M => M.cell 0 rfl (by decide) rfl) ?_
  refine kH 12 (.int .i64 b) (fun w => Eq.trans (b := .ok (.value (.int .i64 (IntKind.wrap .i64 b))) w) (by kernel_rfl) (by rw [wrap64 (by omega) (by omega)])) ?_
  refine kC M 13 52 #[.int .i64 b] (.string (dcT b)) (fun w M => call_val (c_ItoaI b hb0 hb1 w M.laid) rfl) ?_
  refine kH 14 (.string (((txt v h l) ++ (⟨#[47]⟩ : ByteArray)) ++ (dcT b))) (run_cat 9 9 _ _ rfl ((txt v h l) ++ (⟨#[47]⟩ : ByteArray)) (dcT b) (by kernel_rfl) (by kernel_rfl) (by have q0 := txt_le v h l; have q1 := dcT_size b; simp only [ByteArray.size_append]; have q2 : (⟨#[47]⟩ : ByteArray).size = 1 := rfl; omega)) ?_
  refine kl_nil fun u3 M => ?_
  refine pV 2 (.string (((txt v h l) ++ (⟨#[47]⟩ : ByteArray)) ++ (dcT b))) ?_
  refine nT ?_
  refine wp_ret ?_
  have e0 : (ptx v h l b) = (((txt v h l) ++ (⟨#[47]⟩ : ByteArray)) ++ (dcT b)) := by unfold ptx; rw [if_pos c0]
  exact bodyPost_ret (v := .string (((txt v h l) ++ (⟨#[47]⟩ : ByteArray)) ++ (dcT b))) (results_tmp1 Tryz.results25 _ _ _ (by kernel_rfl)) (by kernel_rfl) ⟨by rw [e0], below_grown M.old⟩
 ·skip
  refine pC M 4 27 #[.agg (av 4 (ls [.bool (v), .int .u64 h, .int .u64 l, .int .u8 b]))] (.bool false) (fun w M => call_val (call_val (d_MayPrefix v h l b hb0 hb1 w M.laid) (congrArg Value.bool (rP_mP v h l b h0 h1 l0 l1 hb0))) (congrArg Value.bool c0)) fun u2 M => ?_
  refine pV 5 (.bool true) ?_
  refine nT ?_
  refine wp_cond_true (by kernel_rfl) ?_
  refine sR ?_
  refine pV 2 (.string ⟨#[]⟩) ?_
  refine nT ?_
  refine wp_ret ?_
  refine au_then_ret ?_
  have e0 : (ptx v h l b) = ⟨#[]⟩ := by unfold ptx; rw [if_neg (by rw [c0]; decide)]
  exact bodyPost_ret (v := .string ⟨#[]⟩) (results_tmp1 Tryz.results25 _ _ _ (by kernel_rfl)) (by kernel_rfl) ⟨by rw [e0], below_grown M.old⟩
end Go.Proofs.YtndonmdgplojnaaGreatDoor

namespace Go.Proofs.YtndonmdgplojnaaGreatDoor
open Go.RowKit
def dV (s : ByteArray) : Bool := gV (sqL 46 s)
def dH (s : ByteArray) : Int := gH (sqL 46 s) (sqL 58 s)
def dL (s : ByteArray) : Int := gL (sqL 46 s) (sqL 58 s)
theorem d_guess (s : ByteArray) (hs : s.size ≤ 60) (w : World) (hL : Laid w) : Calls Tryz.prog 45 #[.string s] w fun r w' => r = .returned (.agg (av 3 (ls [.bool (dV s), .int .u64 (dH s), .int .u64 (dL s)]))) ∧ Below w.heap.size w w' :=
 d_guessG s hs _ _ rfl rfl _ rfl w hL
def dRE (s : ByteArray) : Int := if (60 : Int) < (s.size : Int) then 8 else if txt (dV s) (dH s) (dL s) = s then (if s = (⟨#[]⟩ : ByteArray) then 8 else 0) else 8
set_option maxRecDepth 100000 in
set_option maxHeartbeats 4000000 in
set_option linter.unusedSimpArgs false in
theorem d_ReadD (s : ByteArray) (w : World) (hL : Laid w)  :
  Calls Tryz.prog 19 #[.string s] w fun r w' => r = .returned (.tuple #[.agg (av 3 (ls [.bool (zB (dRE s) (dV s)), .int .u64 (zI (dRE s) (dH s)), .int .u64 (zI (dRE s) (dL s))])), .int .i64 (dRE s)]) ∧ Below w.heap.size w w' := by
 go_enter Tryz.func19, Tryz.ntmps19
 have M := Mem.start hL
 refine sR ?_
 refine pN M 2 (.cells (av 3 (ls [.bool false, .int .u64 0, .int .u64 0])) 24) fun g1 u1 M => ?_
 refine pV 3 (.int .i64 0) ?_
 refine nT ?_
 refine wp_seq ?_
 refine sR ?_
 refine pV 5 (.string s) ?_
 refine pV 6 (.int .i64 (s.size : Int)) ?_
 by_cases c0 : 60 < (s.size : Int)
 ·skip
  refine pH 7 (.bool true) (dTz (60 < (s.size : Int)) (c0)) ?_
  refine nT ?_
  refine wp_cond_true (by kernel_rfl) ?_
  refine sR ?_
  refine pV 8 (.agg (av 3 (ls [.bool false, .int .u64 0, .int .u64 0]))) ?_
  refine pl_put M (want_no rfl) rfl 24 _ _ rfl 0 g1 0 (by kernel_rfl) 3 24 (ls [.bool false, .int .u64 0, .int .u64 0]) rfl 3 (ls [.bool false, .int .u64 0, .int .u64 0]) (ls [.bool false, .int .u64 0, .int .u64 0]) (by kernel_rfl) inz24 (by decide) (one_ls _ rfl) (fun j hj => by rw [if_pos (by omega), Nat.sub_zero]) fun u2 M => ?_
  refine pV 3 (.int .i64 8) ?_
  refine nT ?_
  refine wp_ret ?_
  refine au_then_ret ?_
  have e0 : zB (dRE s) (dV s) = false := by rw [(show dRE s = 8 by unfold dRE; rw [if_pos c0])]; rfl
  have e1 : (zI (dRE s) (dH s)) = 0 := by rw [(show dRE s = 8 by unfold dRE; rw [if_pos c0])]; rfl
  have e2 : (zI (dRE s) (dL s)) = 0 := by rw [(show dRE s = 8 by unfold dRE; rw [if_pos c0])]; rfl
  have e3 : (dRE s) = 8 := (show dRE s = 8 by unfold dRE; rw [if_pos c0])
  exact bodyPost_ret (v := .tuple #[.agg (av 3 (ls [.bool false, .int .u64 0, .int .u64 0])), .int .i64 8]) (results_cell_tmp Tryz.results19 _ _ g1 24 (av 3 (ls [.bool false, .int .u64 0, .int .u64 0])) (0, 0) _ _ (by kernel_rfl) (by kernel_rfl) (M.get 0 rfl) Tryz.underlying24 rfl (by rw [av_size]; exact inz24)) (by kernel_rfl) ⟨by rw [e0, e1, e2, e3], below_grown M.old⟩
 ·skip
  refine pH 7 (.bool false) (dF (60 < (s.size : Int)) (c0)) ?_
  refine nT ?_
  refine wp_cond_false (by kernel_rfl) ?_
  refine wp_skip ?_
  refine au_then ?_
  refine sR ?_
  refine pV 9 (.string s) ?_
  refine pC M 10 45 #[.string s] (.agg (av 3 (ls [.bool (dV s), .int .u64 (dH s), .int .u64 (dL s)]))) (fun w M => d_guess s (by omega) w M.laid) fun u2 M => ?_
  refine pN M 4 (.cells (av 3 (ls [.bool false, .int .u64 0, .int .u64 0])) 24) fun g2 u3 M => ?_
  refine pl_put M (want_no rfl) rfl 24 _ _ rfl 1 g2 0 (by kernel_rfl) 3 24 (ls [.bool false, .int .u64 0, .int .u64 0]) rfl 3 (ls [.bool (dV s), .int .u64 (dH s), .int .u64 (dL s)]) (ls [.bool (dV s), .int .u64 (dH s), .int .u64 (dL s)]) (by kernel_rfl) inz24 (by decide) (one_ls _ rfl) (fun j hj => by rw [if_pos (by omega), Nat.sub_zero]) fun u4 M => ?_
  refine nT ?_
  refine wp_seq ?_
  refine sR ?_
  refine pAz M 11 1 3 (ls [.bool (dV s), .int .u64 (dH s), .int .u64 (dL s)]) ?_
  refine pC M 12 23 #[.agg (av 3 (ls [.bool (dV s), .int .u64 (dH s), .int .u64 (dL s)]))] (.string (txt (dV s) (dH s) (dL s))) (fun w M => d_Text (dV s) (dH s) (dL s) (gH_nn _ _).1 (gH_nn _ _).2 (gL_nn _ _).1 (gL_nn _ _).2 w M.laid) fun u5 M => ?_
  refine pV 13 (.string s) ?_
  by_cases c1 : (txt (dV s) (dH s) (dL s)) = s
  ·skip
   refine pH 14 (.bool false) (fun w => Eq.trans (b := .ok (.value (.bool (!((txt (dV s) (dH s) (dL s)).toList == s.toList)))) w) (by kernel_rfl) (by rw [seq_pos c1]; rfl)) ?_
   refine pV 15 (.bool false) ?_
   refine pl_val (want_on 4 false rfl 15 rfl (by kernel_rfl)) (some 16) rfl (.string s) (fun _ => by kernel_rfl) ?_
   by_cases c2 : s = (⟨#[]⟩ : ByteArray)
   ·skip
    refine pl_val (want_on 4 false rfl 15 rfl (by kernel_rfl)) (some 17) rfl (.bool true) (fun w => Eq.trans (b := .ok (.value (.bool (s.toList == (⟨#[]⟩ : ByteArray).toList))) w) (by kernel_rfl) (by rw [seq_pos c2])) ?_
    refine pV 18 (.bool true) ?_
    refine nT ?_
    refine wp_cond_true (by kernel_rfl) ?_
    refine sR ?_
    refine pV 19 (.agg (av 3 (ls [.bool false, .int .u64 0, .int .u64 0]))) ?_
    refine pl_put M (want_no rfl) rfl 24 _ _ rfl 0 g1 0 (by kernel_rfl) 3 24 (ls [.bool false, .int .u64 0, .int .u64 0]) rfl 3 (ls [.bool false, .int .u64 0, .int .u64 0]) (ls [.bool false, .int .u64 0, .int .u64 0]) (by kernel_rfl) inz24 (by decide) (one_ls _ rfl) (fun j hj => by rw [if_pos (by omega), Nat.sub_zero]) fun u6 M => ?_
    refine pV 3 (.int .i64 8) ?_
    refine nT ?_
    refine wp_ret ?_
    refine au_then_ret ?_
    have e0 : zB (dRE s) (dV s) = false := by rw [(show dRE s = 8 by unfold dRE; rw [if_neg c0, if_pos c1, if_pos c2])]; rfl
    have e1 : (zI (dRE s) (dH s)) = 0 := by rw [(show dRE s = 8 by unfold dRE; rw [if_neg c0, if_pos c1, if_pos c2])]; rfl
    have e2 : (zI (dRE s) (dL s)) = 0 := by rw [(show dRE s = 8 by unfold dRE; rw [if_neg c0, if_pos c1, if_pos c2])]; rfl
    have e3 : (dRE s) = 8 := (show dRE s = 8 by unfold dRE; rw [if_neg c0, if_pos c1, if_pos c2])
    exact bodyPost_ret (v := .tuple #[.agg (av 3 (ls [.bool false, .int .u64 0, .int .u64 0])), .int .i64 8]) (results_cell_tmp Tryz.results19 _ _ g1 24 (av 3 (ls [.bool false, .int .u64 0, .int .u64 0])) (0, 0) _ _ (by kernel_rfl) (by kernel_rfl) (M.get 0 rfl) Tryz.underlying24 rfl (by rw [av_size]; exact inz24)) (by kernel_rfl) ⟨by rw [e0, e1, e2, e3], below_grown M.old⟩
   ·skip
    refine pl_val (want_on 4 false rfl 15 rfl (by kernel_rfl)) (some 17) rfl (.bool false) (fun w => Eq.trans (b := .ok (.value (.bool (s.toList == (⟨#[]⟩ : ByteArray).toList))) w) (by kernel_rfl) (by rw [seq_neg c2])) ?_
    refine pV 18 (.bool false) ?_
    refine nT ?_
    refine wp_cond_false (by kernel_rfl) ?_
    refine wp_skip ?_
    refine au_then ?_
    refine sR ?_
    refine pAz M 20 1 3 (ls [.bool (dV s), .int .u64 (dH s), .int .u64 (dL s)]) ?_
    refine pl_put M (want_no rfl) rfl 24 _ _ rfl 0 g1 0 (by kernel_rfl) 3 24 (ls [.bool false, .int .u64 0, .int .u64 0]) rfl 3 (ls [.bool (dV s), .int .u64 (dH s), .int .u64 (dL s)]) (ls [.bool (dV s), .int .u64 (dH s), .int .u64 (dL s)]) (by kernel_rfl) inz24 (by decide) (one_ls _ rfl) (fun j hj => by rw [if_pos (by omega), Nat.sub_zero]) fun u6 M => ?_
    refine pV 3 (.int .i64 0) ?_
    refine nT ?_
    refine wp_ret ?_
    have e0 : zB (dRE s) (dV s) = dV s := by rw [(show dRE s = 0 by unfold dRE; rw [if_neg c0, if_pos c1, if_neg c2])]; rfl
    have e1 : (zI (dRE s) (dH s)) = (dH s) := by rw [(show dRE s = 0 by unfold dRE; rw [if_neg c0, if_pos c1, if_neg c2])]; rfl
    have e2 : (zI (dRE s) (dL s)) = (dL s) := by rw [(show dRE s = 0 by unfold dRE; rw [if_neg c0, if_pos c1, if_neg c2])]; rfl
    have e3 : (dRE s) = 0 := (show dRE s = 0 by unfold dRE; rw [if_neg c0, if_pos c1, if_neg c2])
    exact bodyPost_ret (v := .tuple #[.agg (av 3 (ls [.bool (dV s), .int .u64 (dH s), .int .u64 (dL s)])), .int .i64 0]) (results_cell_tmp Tryz.results19 _ _ g1 24 (av 3 (ls [.bool (dV s), .int .u64 (dH s), .int .u64 (dL s)])) (0, 0) _ _ (by kernel_rfl) (by kernel_rfl) (M.get 0 rfl) Tryz.underlying24 rfl (by rw [av_size]; exact inz24)) (by kernel_rfl) ⟨by rw [e0, e1, e2, e3], below_grown M.old⟩
  ·skip
   refine pH 14 (.bool true) (fun w => Eq.trans (b := .ok (.value (.bool (!((txt (dV s) (dH s) (dL s)).toList == s.toList)))) w) (by kernel_rfl) (by rw [seq_neg c1]; rfl)) ?_
   refine pV 15 (.bool true) ?_
   refine pl_skip (want_off 4 false rfl 15 rfl (by kernel_rfl)) (some 16) rfl ?_
   refine pl_skip (want_off 4 false rfl 15 rfl (by kernel_rfl)) (some 17) rfl ?_
   refine pV 18 (.bool true) ?_
   refine nT ?_
   refine wp_cond_true (by kernel_rfl) ?_
   refine sR ?_
   refine pV 19 (.agg (av 3 (ls [.bool false, .int .u64 0, .int .u64 0]))) ?_
   refine pl_put M (want_no rfl) rfl 24 _ _ rfl 0 g1 0 (by kernel_rfl) 3 24 (ls [.bool false, .int .u64 0, .int .u64 0]) rfl 3 (ls [.bool false, .int .u64 0, .int .u64 0]) (ls [.bool false, .int .u64 0, .int .u64 0]) (by kernel_rfl) inz24 (by decide) (one_ls _ rfl) (fun j hj => by rw [if_pos (by omega), Nat.sub_zero]) fun u6 M => ?_
   refine pV 3 (.int .i64 8) ?_
   refine nT ?_
   refine wp_ret ?_
   refine au_then_ret ?_
   have e0 : zB (dRE s) (dV s) = false := by rw [(show dRE s = 8 by unfold dRE; rw [if_neg c0, if_neg c1])]; rfl
   have e1 : (zI (dRE s) (dH s)) = 0 := by rw [(show dRE s = 8 by unfold dRE; rw [if_neg c0, if_neg c1])]; rfl
   have e2 : (zI (dRE s) (dL s)) = 0 := by rw [(show dRE s = 8 by unfold dRE; rw [if_neg c0, if_neg c1])]; rfl
   have e3 : (dRE s) = 8 := (show dRE s = 8 by unfold dRE; rw [if_neg c0, if_neg c1])
   exact bodyPost_ret (v := .tuple #[.agg (av 3 (ls [.bool false, .int .u64 0, .int .u64 0])), .int .i64 8]) (results_cell_tmp Tryz.results19 _ _ g1 24 (av 3 (ls [.bool false, .int .u64 0, .int .u64 0])) (0, 0) _ _ (by kernel_rfl) (by kernel_rfl) (M.get 0 rfl) Tryz.underlying24 rfl (by rw [av_size]; exact inz24)) (by kernel_rfl) ⟨by rw [e0, e1, e2, e3], below_grown M.old⟩
theorem q4_nn (l : List Int) (j : Nat) : 0 ≤ q4 l j ∧ q4 l j < 18446744073709551616 := by
 cases j with
 | zero => exact (show (0 : Int) ≤ 0 ∧ (0 : Int) < 18446744073709551616 by decide)
 | succ j => exact uo_nn _ _
theorem lk6_nn (s : ByteArray) : (0 ≤ ((lk6 s).getD (0, 0)).1 ∧ ((lk6 s).getD (0, 0)).1 < 18446744073709551616) ∧ (0 ≤ ((lk6 s).getD (0, 0)).2 ∧ ((lk6 s).getD (0, 0)).2 < 18446744073709551616) := by
 have z : ((0 : Int) ≤ 0 ∧ (0 : Int) < 18446744073709551616) ∧ ((0 : Int) ≤ 0 ∧ (0 : Int) < 18446744073709551616) := by decide
 unfold lk6
 split
 ·split
  ·exact z
  ·exact ⟨uo_nn _ _, uo_nn _ _⟩
 ·exact z
theorem lk4_nn (s : ByteArray) : 0 ≤ (lk4 s).getD 0 ∧ (lk4 s).getD 0 < 18446744073709551616 := by
 have z : (0 : Int) ≤ 0 ∧ (0 : Int) < 18446744073709551616 := by decide
 unfold lk4
 split
 ·split
  ·exact q4_nn _ _
  ·exact z
 ·exact z
theorem lH_nn (s : ByteArray) : 0 ≤ lH s ∧ lH s < 18446744073709551616 := by
 unfold lH
 split
 ·decide
 ·split
  ·exact (lk6_nn s).1
  ·decide
theorem lL_nn (s : ByteArray) : 0 ≤ lL s ∧ lL s < 18446744073709551616 := by
 unfold lL
 split
 ·decide
 ·split
  ·exact (lk6_nn s).2
  ·exact lk4_nn s
theorem txt_ne {v : Bool} {h l : Int} {s : ByteArray} (e : txt v h l = s) (hn : s ≠ ⟨#[]⟩) : mA v h l = true := by
 unfold txt at e
 split at e
 ·assumption
 ·exact absurd e.symm hn
theorem rdE_nil : rdE (⟨#[]⟩ : ByteArray) = 8 := by decide +kernel
theorem rdE_08 (s : ByteArray) : rdE s = 0 ∨ rdE s = 8 := by
 unfold rdE
 split
 ·split
  ·exact .inl rfl
  ·exact .inr rfl
 ·exact .inr rfl
theorem rdE_ok {s : ByteArray} (h : rdE s = 0) : s.size ≤ 39 ∧ txt (lV s) (lH s) (lL s) = s ∧ s ≠ ⟨#[]⟩ := by
 have hn : s ≠ (⟨#[]⟩ : ByteArray) := fun e => by
  rw [e, rdE_nil] at h
  cases h
 unfold rdE at h
 split at h
 ·rename_i hi
  split at h
  ·rename_i ht
   refine ⟨?_, ht, hn⟩
   unfold lI at hi
   split at hi
   ·cases hi
   ·omega
  ·cases h
 ·cases h
theorem read_same (s : ByteArray) : dRE s = rdE s ∧ (rdE s = 0 → dV s = lV s ∧ dH s = lH s ∧ dL s = lL s) := by
 by_cases h : rdE s = 0
 ·obtain ⟨z, et, hn⟩ := rdE_ok h
  have hm := txt_ne et hn
  obtain ⟨a, b, c⟩ := guess_txt (lV s) (lH s) (lL s) (lH_nn s).1 (lH_nn s).2 (lL_nn s).1 (lL_nn s).2 hm
  rw [et] at a b c
  have k : dV s = lV s ∧ dH s = lH s ∧ dL s = lL s := ⟨a, b, c⟩
  refine ⟨?_, fun _ => k⟩
  unfold dRE
  rw [if_neg (by omega), k.1, k.2.1, k.2.2, if_pos et, if_neg hn, h]
 ·refine ⟨?_, fun e => absurd e h⟩
  have h8 : rdE s = 8 := (rdE_08 s).resolve_left h
  rw [h8]
  unfold dRE
  split
  ·rfl
  ·split
   ·rename_i et
    split
    ·rfl
    ·rename_i hn
     have hm := txt_ne et hn
     have r := (read_txt (dV s) (dH s) (dL s) (gH_nn _ _).1 (gH_nn _ _).2 (gL_nn _ _).1 (gL_nn _ _).2 hm).2.2.2.2
     rw [et] at r
     exact absurd r h
   ·rfl
theorem z_same {e : Int} {a b : Int} (h : e = 0 → a = b) : zI e a = zI e b := by
 unfold zI
 split
 ·exact h (by assumption)
 ·rfl
theorem zb_same {e : Int} {a b : Bool} (h : e = 0 → a = b) : zB e a = zB e b := by
 unfold zB
 split
 ·exact h (by assumption)
 ·rfl
theorem d_Read (s : ByteArray) (w : World) (hL : Laid w) : Calls Tryz.prog 19 #[.string s] w fun r w' => r = .returned (.tuple #[.agg (av 3 (ls [.bool (zB (rdE s) (lV s)), .int .u64 (zI (rdE s) (lH s)), .int .u64 (zI (rdE s) (lL s))])), .int .i64 (rdE s)]) ∧ Below w.heap.size w w' := by
 obtain ⟨e, k⟩ := read_same s
 refine call_val (d_ReadD s w hL) ?_
 rw [e, zb_same fun h => (k h).1, z_same fun h => (k h).2.1, z_same fun h => (k h).2.2]
theorem zI_nn {e x : Int} (h : 0 ≤ x ∧ x < 18446744073709551616) : 0 ≤ zI e x ∧ zI e x < 18446744073709551616 := by
 unfold zI
 split
 ·exact h
 ·decide
def pE (s : ByteArray) (l7 : List ByteArray) : Int := if ((l7.length : Nat) : Int) = 2 then (if rdE (tg l7 0) = 0 then (if (dgs 10 (tg l7 1)) < 0 then 8 else if 128 < (dgs 10 (tg l7 1)) then 8 else if ptx (zB (rdE (tg l7 0)) (lV (tg l7 0))) (zI (rdE (tg l7 0)) (lH (tg l7 0))) (zI (rdE (tg l7 0)) (lL (tg l7 0))) (dgs 10 (tg l7 1)) = s then 0 else 8) else 8) else 8
set_option maxRecDepth 100000 in
set_option maxHeartbeats 4000000 in
set_option linter.unusedSimpArgs false in
theorem d_ReadPrefixG (s : ByteArray) (hs : s.size ≤ 10000) (l7 : List ByteArray) (h7 : sqL 47 s = l7) (w : World) (hL : Laid w)  :
  Calls Tryz.prog 21 #[.string s] w fun r w' => r = .returned (.tuple #[.agg (av 4 (ls [.bool (zB (pE s l7) (zB (rdE (tg l7 0)) (lV (tg l7 0)))), .int .u64 (zI (pE s l7) (zI (rdE (tg l7 0)) (lH (tg l7 0)))), .int .u64 (zI (pE s l7) (zI (rdE (tg l7 0)) (lL (tg l7 0)))), .int .u8 (zI (pE s l7) (dgs 10 (tg l7 1)))])), .int .i64 (pE s l7)]) ∧ Below w.heap.size w w' := by
 go_enter Tryz.func21, Tryz.ntmps21
 have M := Mem.start hL
 refine sR ?_
 refine pN M 2 (.cells (av 4 (ls [.bool false, .int .u64 0, .int .u64 0, .int .u8 0])) 39) fun g1 u1 M => ?_
 refine pV 3 (.int .i64 0) ?_
 refine nT ?_
 refine sR ?_
 refine pV 9 (.string s) ?_
 refine pl_callL M (want_no rfl) (some 10) rfl 48 #[.string s, .int .u8 47] (fun g cap => .slice (some ⟨g, 0, none⟩) l7.length cap) (fun cap Z => SB Z cap (vS l7)) (fun _ => by kernel_rfl) (fun w M => h7 ▸ d_split s 47 (by omega) w M.laid) ?_
 intro gsc csc Zsc u2 hSc M
 refine pV 4 (.slice (some ⟨gsc, 0, none⟩) l7.length csc) ?_
 refine nT ?_
 refine wp_seq ?_
 refine sR ?_
 refine pV 11 (.slice (some ⟨gsc, 0, none⟩) l7.length csc) ?_
 refine pV 12 (.int .i64 ((l7.length : Nat) : Int)) ?_
 by_cases c0 : ((l7.length : Nat) : Int) = 2
 ·skip
  refine pH 13 (.bool false) (nF (((l7.length : Nat) : Int) = 2) (c0)) ?_
  refine nT ?_
  refine wp_cond_false (by kernel_rfl) ?_
  refine wp_skip ?_
  refine au_then ?_
  refine sR ?_
  refine pV 16 (.slice (some ⟨gsc, 0, none⟩) l7.length csc) ?_
  refine pH 17 (.pointer (some ⟨gsc, 0, none⟩)) (run_ix0 72 9 Tryz.underlying72 inz9 _ _ rfl gsc l7.length csc (by kernel_rfl) .i64 0 (by kernel_rfl) (by omega)) ?_
  refine pEz M 18 gsc 0 (.string (tg l7 0)) (fun w M => hSc.cell (M.get 1 rfl) (vS_at _ _ (by omega))) ?_
  refine pC M 19 19 #[.string (tg l7 0)] (.tuple #[.agg (av 3 (ls [.bool (zB (rdE (tg l7 0)) (lV (tg l7 0))), .int .u64 (zI (rdE (tg l7 0)) (lH (tg l7 0))), .int .u64 (zI (rdE (tg l7 0)) (lL (tg l7 0)))])), .int .i64 (rdE (tg l7 0))]) (fun w M => d_Read (tg l7 0) w M.laid) fun u3 M => ?_
  refine pV 15 (.tuple #[.agg (av 3 (ls [.bool (zB (rdE (tg l7 0)) (lV (tg l7 0))), .int .u64 (zI (rdE (tg l7 0)) (lH (tg l7 0))), .int .u64 (zI (rdE (tg l7 0)) (lL (tg l7 0)))])), .int .i64 (rdE (tg l7 0))]) ?_
  refine pV 20 (.agg (av 3 (ls [.bool (zB (rdE (tg l7 0)) (lV (tg l7 0))), .int .u64 (zI (rdE (tg l7 0)) (lH (tg l7 0))), .int .u64 (zI (rdE (tg l7 0)) (lL (tg l7 0)))]))) ?_
  refine pV 21 (.int .i64 (rdE (tg l7 0))) ?_
  refine pN M 5 (.cells (av 3 (ls [.bool false, .int .u64 0, .int .u64 0])) 24) fun g2 u4 M => ?_
  refine pl_put M (want_no rfl) rfl 24 _ _ rfl 2 g2 0 (by kernel_rfl) 3 24 (ls [.bool false, .int .u64 0, .int .u64 0]) rfl 3 (ls [.bool (zB (rdE (tg l7 0)) (lV (tg l7 0))), .int .u64 (zI (rdE (tg l7 0)) (lH (tg l7 0))), .int .u64 (zI (rdE (tg l7 0)) (lL (tg l7 0)))]) (ls [.bool (zB (rdE (tg l7 0)) (lV (tg l7 0))), .int .u64 (zI (rdE (tg l7 0)) (lH (tg l7 0))), .int .u64 (zI (rdE (tg l7 0)) (lL (tg l7 0)))]) (by kernel_rfl) inz24 (by decide) (one_ls _ rfl) (fun j hj => by rw [if_pos (by omega), Nat.sub_zero]) fun u5 M => ?_
  refine pV 6 (.int .i64 (rdE (tg l7 0))) ?_
  refine nT ?_
  refine sR ?_
  refine pV 22 (.slice (some ⟨gsc, 0, none⟩) l7.length csc) ?_
  refine pH 23 (.pointer (some ⟨gsc, 1, none⟩)) (run_ix0 72 9 Tryz.underlying72 inz9 _ _ rfl gsc l7.length csc (by kernel_rfl) .i64 1 (by kernel_rfl) (by omega)) ?_
  refine pEz M 24 gsc 1 (.string (tg l7 1)) (fun w M => hSc.cell (M.get 1 rfl) (vS_at _ _ (by omega))) ?_
  refine pC M 25 49 #[.string (tg l7 1), .int .i64 10] (.int .i64 (dgs 10 (tg l7 1))) (fun w M => d_digits10 (tg l7 1) w M.laid) fun u6 M => ?_
  refine pV 7 (.int .i64 (dgs 10 (tg l7 1))) ?_
  refine nT ?_
  refine wp_seq ?_
  refine sR ?_
  refine pV 26 (.int .i64 (rdE (tg l7 0))) ?_
  by_cases c1 : (rdE (tg l7 0)) = 0
  ·skip
   refine pH 27 (.bool false) (nF ((rdE (tg l7 0)) = 0) (c1)) ?_
   refine pV 28 (.bool false) ?_
   refine pl_val (want_on 2 false rfl 28 rfl (by kernel_rfl)) (some 29) rfl (.int .i64 (dgs 10 (tg l7 1))) (fun _ => by kernel_rfl) ?_
   by_cases c2 : (dgs 10 (tg l7 1)) < 0
   ·skip
    refine pl_val (want_on 2 false rfl 28 rfl (by kernel_rfl)) (some 30) rfl (.bool true) (fun w => Eq.trans (b := .ok (.value (.bool (decide ((dgs 10 (tg l7 1)) < 0)))) w) (by kernel_rfl) (by rw [decide_eq_true (c2)])) ?_
    refine pV 31 (.bool true) ?_
    refine pV 32 (.bool true) ?_
    refine pl_skip (want_off 6 false rfl 32 rfl (by kernel_rfl)) (some 33) rfl ?_
    refine pl_skip (want_off 6 false rfl 32 rfl (by kernel_rfl)) (some 34) rfl ?_
    refine pV 35 (.bool true) ?_
    refine nT ?_
    refine wp_cond_true (by kernel_rfl) ?_
    refine sR ?_
    refine pV 36 (.agg (av 4 (ls [.bool false, .int .u64 0, .int .u64 0, .int .u8 0]))) ?_
    refine pl_put M (want_no rfl) rfl 39 _ _ rfl 0 g1 0 (by kernel_rfl) 4 39 (ls [.bool false, .int .u64 0, .int .u64 0, .int .u8 0]) rfl 4 (ls [.bool false, .int .u64 0, .int .u64 0, .int .u8 0]) (ls [.bool false, .int .u64 0, .int .u64 0, .int .u8 0]) (by kernel_rfl) inz39 (by decide) (one_ls _ rfl) (fun j hj => by rw [if_pos (by omega), Nat.sub_zero]) fun u7 M => ?_
    refine pV 3 (.int .i64 8) ?_
    refine nT ?_
    refine wp_ret ?_
    refine au_then_ret ?_
    have e0 : zB (pE s l7) (zB (rdE (tg l7 0)) (lV (tg l7 0))) = false := by rw [(show pE s l7 = 8 by unfold pE; rw [if_pos c0, if_pos c1, if_pos c2])]; rfl
    have e1 : (zI (pE s l7) (zI (rdE (tg l7 0)) (lH (tg l7 0)))) = 0 := by rw [(show pE s l7 = 8 by unfold pE; rw [if_pos c0, if_pos c1, if_pos c2])]; rfl
    have e2 : (zI (pE s l7) (zI (rdE (tg l7 0)) (lL (tg l7 0)))) = 0 := by rw [(show pE s l7 = 8 by unfold pE; rw [if_pos c0, if_pos c1, if_pos c2])]; rfl
    have e3 : (zI (pE s l7) (dgs 10 (tg l7 1))) = 0 := by rw [(show pE s l7 = 8 by unfold pE; rw [if_pos c0, if_pos c1, if_pos c2])]; rfl
    have e4 : (pE s l7) = 8 := (show pE s l7 = 8 by unfold pE; rw [if_pos c0, if_pos c1, if_pos c2])
    exact bodyPost_ret (v := .tuple #[.agg (av 4 (ls [.bool false, .int .u64 0, .int .u64 0, .int .u8 0])), .int .i64 8]) (results_cell_tmp Tryz.results21 _ _ g1 39 (av 4 (ls [.bool false, .int .u64 0, .int .u64 0, .int .u8 0])) (0, 0) _ _ (by kernel_rfl) (by kernel_rfl) (M.get 0 rfl) Tryz.underlying39 rfl (by rw [av_size]; exact inz39)) (by kernel_rfl) ⟨by rw [e0, e1, e2, e3, e4], below_grown M.old⟩
   ·skip
    refine pl_val (want_on 2 false rfl 28 rfl (by kernel_rfl)) (some 30) rfl (.bool false) (fun w => Eq.trans (b := .ok (.value (.bool (decide ((dgs 10 (tg l7 1)) < 0)))) w) (by kernel_rfl) (by rw [decide_eq_false (c2)])) ?_
    refine pV 31 (.bool false) ?_
    refine pV 32 (.bool false) ?_
    refine pl_val (want_on 6 false rfl 32 rfl (by kernel_rfl)) (some 33) rfl (.int .i64 (dgs 10 (tg l7 1))) (fun _ => by kernel_rfl) ?_
    by_cases c3 : 128 < (dgs 10 (tg l7 1))
    ·skip
     refine pl_val (want_on 6 false rfl 32 rfl (by kernel_rfl)) (some 34) rfl (.bool true) (fun w => Eq.trans (b := .ok (.value (.bool (decide (128 < (dgs 10 (tg l7 1)))))) w) (by kernel_rfl) (by rw [decide_eq_true (c3)])) ?_
     refine pV 35 (.bool true) ?_
     refine nT ?_
     refine wp_cond_true (by kernel_rfl) ?_
     refine sR ?_
     refine pV 36 (.agg (av 4 (ls [.bool false, .int .u64 0, .int .u64 0, .int .u8 0]))) ?_
     refine pl_put M (want_no rfl) rfl 39 _ _ rfl 0 g1 0 (by kernel_rfl) 4 39 (ls [.bool false, .int .u64 0, .int .u64 0, .int .u8 0]) rfl 4 (ls [.bool false, .int .u64 0, .int .u64 0, .int .u8 0]) (ls [.bool false, .int .u64 0, .int .u64 0, .int .u8 0]) (by kernel_rfl) inz39 (by decide) (one_ls _ rfl) (fun j hj => by rw [if_pos (by omega), Nat.sub_zero]) fun u7 M => ?_
     refine pV 3 (.int .i64 8) ?_
     refine nT ?_
     refine wp_ret ?_
     refine au_then_ret ?_
     have e0 : zB (pE s l7) (zB (rdE (tg l7 0)) (lV (tg l7 0))) = false := by rw [(show pE s l7 = 8 by unfold pE; rw [if_pos c0, if_pos c1, if_neg c2, if_pos c3])]; rfl
     have e1 : (zI (pE s l7) (zI (rdE (tg l7 0)) (lH (tg l7 0)))) = 0 := by rw [(show pE s l7 = 8 by unfold pE; rw [if_pos c0, if_pos c1, if_neg c2, if_pos c3])]; rfl
     have e2 : (zI (pE s l7) (zI (rdE (tg l7 0)) (lL (tg l7 0)))) = 0 := by rw [(show pE s l7 = 8 by unfold pE; rw [if_pos c0, if_pos c1, if_neg c2, if_pos c3])]; rfl
     have e3 : (zI (pE s l7) (dgs 10 (tg l7 1))) = 0 := by rw [(show pE s l7 = 8 by unfold pE; rw [if_pos c0, if_pos c1, if_neg c2, if_pos c3])]; rfl
     have e4 : (pE s l7) = 8 := (show pE s l7 = 8 by unfold pE; rw [if_pos c0, if_pos c1, if_neg c2, if_pos c3])
     exact bodyPost_ret (v := .tuple #[.agg (av 4 (ls [.bool false, .int .u64 0, .int .u64 0, .int .u8 0])), .int .i64 8]) (results_cell_tmp Tryz.results21 _ _ g1 39 (av 4 (ls [.bool false, .int .u64 0, .int .u64 0, .int .u8 0])) (0, 0) _ _ (by kernel_rfl) (by kernel_rfl) (M.get 0 rfl) Tryz.underlying39 rfl (by rw [av_size]; exact inz39)) (by kernel_rfl) ⟨by rw [e0, e1, e2, e3, e4], below_grown M.old⟩
    ·skip
     refine pl_val (want_on 6 false rfl 32 rfl (by kernel_rfl)) (some 34) rfl (.bool false) (fun w => Eq.trans (b := .ok (.value (.bool (decide (128 < (dgs 10 (tg l7 1)))))) w) (by kernel_rfl) (by rw [decide_eq_false (c3)])) ?_
     refine pV 35 (.bool false) ?_
     refine nT ?_
     refine wp_cond_false (by kernel_rfl) ?_
     refine wp_skip ?_
     refine au_then ?_
     refine sR ?_
     refine pAz M 37 2 3 (ls [.bool (zB (rdE (tg l7 0)) (lV (tg l7 0))), .int .u64 (zI (rdE (tg l7 0)) (lH (tg l7 0))), .int .u64 (zI (rdE (tg l7 0)) (lL (tg l7 0)))]) ?_
     refine pV 38 (.int .i64 (dgs 10 (tg l7 1))) ?_
     refine pH 39 (.int .u8 (dgs 10 (tg l7 1))) (fun w => Eq.trans (b := .ok (.value (.int .u8 (cv .u8 (dgs 10 (tg l7 1))))) w) (by kernel_rfl) (by rw [cv_u8]; congr 3; omega)) ?_
     refine pV 40 (.agg (av 4 (ls [.bool (zB (rdE (tg l7 0)) (lV (tg l7 0))), .int .u64 (zI (rdE (tg l7 0)) (lH (tg l7 0))), .int .u64 (zI (rdE (tg l7 0)) (lL (tg l7 0))), .int .u8 (dgs 10 (tg l7 1))]))) ?_
     refine pN M 8 (.cells (av 4 (ls [.bool false, .int .u64 0, .int .u64 0, .int .u8 0])) 39) fun g3 u7 M => ?_
     refine pl_put M (want_no rfl) rfl 39 _ _ rfl 3 g3 0 (by kernel_rfl) 4 39 (ls [.bool false, .int .u64 0, .int .u64 0, .int .u8 0]) rfl 4 (ls [.bool (zB (rdE (tg l7 0)) (lV (tg l7 0))), .int .u64 (zI (rdE (tg l7 0)) (lH (tg l7 0))), .int .u64 (zI (rdE (tg l7 0)) (lL (tg l7 0))), .int .u8 (dgs 10 (tg l7 1))]) (ls [.bool (zB (rdE (tg l7 0)) (lV (tg l7 0))), .int .u64 (zI (rdE (tg l7 0)) (lH (tg l7 0))), .int .u64 (zI (rdE (tg l7 0)) (lL (tg l7 0))), .int .u8 (dgs 10 (tg l7 1))]) (by kernel_rfl) inz39 (by decide) (one_ls _ rfl) (fun j hj => by rw [if_pos (by omega), Nat.sub_zero]) fun u8 M => ?_
     refine nT ?_
     refine wp_seq ?_
     refine sR ?_
     refine pAz M 41 3 4 (ls [.bool (zB (rdE (tg l7 0)) (lV (tg l7 0))), .int .u64 (zI (rdE (tg l7 0)) (lH (tg l7 0))), .int .u64 (zI (rdE (tg l7 0)) (lL (tg l7 0))), .int .u8 (dgs 10 (tg l7 1))]) ?_
     refine pC M 42 25 #[.agg (av 4 (ls [.bool (zB (rdE (tg l7 0)) (lV (tg l7 0))), .int .u64 (zI (rdE (tg l7 0)) (lH (tg l7 0))), .int .u64 (zI (rdE (tg l7 0)) (lL (tg l7 0))), .int .u8 (dgs 10 (tg l7 1))]))] (.string (ptx (zB (rdE (tg l7 0)) (lV (tg l7 0))) (zI (rdE (tg l7 0)) (lH (tg l7 0))) (zI (rdE (tg l7 0)) (lL (tg l7 0))) (dgs 10 (tg l7 1)))) (fun w M => d_PrefixText (zB (rdE (tg l7 0)) (lV (tg l7 0))) (zI (rdE (tg l7 0)) (lH (tg l7 0))) (zI (rdE (tg l7 0)) (lL (tg l7 0))) (dgs 10 (tg l7 1)) (by omega) (by omega) (zI_nn (lH_nn _)).1 (zI_nn (lH_nn _)).2 (zI_nn (lL_nn _)).1 (zI_nn (lL_nn _)).2 w M.laid) fun u9 M => ?_
     refine pV 43 (.string s) ?_
     by_cases c4 : (ptx (zB (rdE (tg l7 0)) (lV (tg l7 0))) (zI (rdE (tg l7 0)) (lH (tg l7 0))) (zI (rdE (tg l7 0)) (lL (tg l7 0))) (dgs 10 (tg l7 1))) = s
     ·skip
      refine pH 44 (.bool false) (fun w => Eq.trans (b := .ok (.value (.bool (!((ptx (zB (rdE (tg l7 0)) (lV (tg l7 0))) (zI (rdE (tg l7 0)) (lH (tg l7 0))) (zI (rdE (tg l7 0)) (lL (tg l7 0))) (dgs 10 (tg l7 1))).toList == s.toList)))) w) (by kernel_rfl) (by rw [seq_pos c4]; rfl)) ?_
      refine nT ?_
      refine wp_cond_false (by kernel_rfl) ?_
      refine wp_skip ?_
      refine au_then ?_
      refine sR ?_
      refine pAz M 46 3 4 (ls [.bool (zB (rdE (tg l7 0)) (lV (tg l7 0))), .int .u64 (zI (rdE (tg l7 0)) (lH (tg l7 0))), .int .u64 (zI (rdE (tg l7 0)) (lL (tg l7 0))), .int .u8 (dgs 10 (tg l7 1))]) ?_
      refine pl_put M (want_no rfl) rfl 39 _ _ rfl 0 g1 0 (by kernel_rfl) 4 39 (ls [.bool false, .int .u64 0, .int .u64 0, .int .u8 0]) rfl 4 (ls [.bool (zB (rdE (tg l7 0)) (lV (tg l7 0))), .int .u64 (zI (rdE (tg l7 0)) (lH (tg l7 0))), .int .u64 (zI (rdE (tg l7 0)) (lL (tg l7 0))), .int .u8 (dgs 10 (tg l7 1))]) (ls [.bool (zB (rdE (tg l7 0)) (lV (tg l7 0))), .int .u64 (zI (rdE (tg l7 0)) (lH (tg l7 0))), .int .u64 (zI (rdE (tg l7 0)) (lL (tg l7 0))), .int .u8 (dgs 10 (tg l7 1))]) (by kernel_rfl) inz39 (by decide) (one_ls _ rfl) (fun j hj => by rw [if_pos (by omega), Nat.sub_zero]) fun u10 M => ?_
      refine pV 3 (.int .i64 0) ?_
      refine nT ?_
      refine wp_ret ?_
      have e0 : zB (pE s l7) (zB (rdE (tg l7 0)) (lV (tg l7 0))) = zB (rdE (tg l7 0)) (lV (tg l7 0)) := by rw [(show pE s l7 = 0 by unfold pE; rw [if_pos c0, if_pos c1, if_neg c2, if_neg c3, if_pos c4])]; rfl
      have e1 : (zI (pE s l7) (zI (rdE (tg l7 0)) (lH (tg l7 0)))) = (zI (rdE (tg l7 0)) (lH (tg l7 0))) := by rw [(show pE s l7 = 0 by unfold pE; rw [if_pos c0, if_pos c1, if_neg c2, if_neg c3, if_pos c4])]; rfl
      have e2 : (zI (pE s l7) (zI (rdE (tg l7 0)) (lL (tg l7 0)))) = (zI (rdE (tg l7 0)) (lL (tg l7 0))) := by rw [(show pE s l7 = 0 by unfold pE; rw [if_pos c0, if_pos c1, if_neg c2, if_neg c3, if_pos c4])]; rfl
      have e3 : (zI (pE s l7) (dgs 10 (tg l7 1))) = (dgs 10 (tg l7 1)) := by rw [(show pE s l7 = 0 by unfold pE; rw [if_pos c0, if_pos c1, if_neg c2, if_neg c3, if_pos c4])]; rfl
      have e4 : (pE s l7) = 0 := (show pE s l7 = 0 by unfold pE; rw [if_pos c0, if_pos c1, if_neg c2, if_neg c3, if_pos c4])
      exact bodyPost_ret (v := .tuple #[.agg (av 4 (ls [.bool (zB (rdE (tg l7 0)) (lV (tg l7 0))), .int .u64 (zI (rdE (tg l7 0)) (lH (tg l7 0))), .int .u64 (zI (rdE (tg l7 0)) (lL (tg l7 0))), .int .u8 (dgs 10 (tg l7 1))])), .int .i64 0]) (results_cell_tmp Tryz.results21 _ _ g1 39 (av 4 (ls [.bool (zB (rdE (tg l7 0)) (lV (tg l7 0))), .int .u64 (zI (rdE (tg l7 0)) (lH (tg l7 0))), .int .u64 (zI (rdE (tg l7 0)) (lL (tg l7 0))), .int .u8 (dgs 10 (tg l7 1))])) (0, 0) _ _ (by kernel_rfl) (by kernel_rfl) (M.get 0 rfl) Tryz.underlying39 rfl (by rw [av_size]; exact inz39)) (by kernel_rfl) ⟨by rw [e0, e1, e2, e3, e4], below_grown M.old⟩
     ·skip
      refine pH 44 (.bool true) (fun w => Eq.trans (b := .ok (.value (.bool (!((ptx (zB (rdE (tg l7 0)) (lV (tg l7 0))) (zI (rdE (tg l7 0)) (lH (tg l7 0))) (zI (rdE (tg l7 0)) (lL (tg l7 0))) (dgs 10 (tg l7 1))).toList == s.toList)))) w) (by kernel_rfl) (by rw [seq_neg c4]; rfl)) ?_
      refine nT ?_
      refine wp_cond_true (by kernel_rfl) ?_
      refine sR ?_
      refine pV 45 (.agg (av 4 (ls [.bool false, .int .u64 0, .int .u64 0, .int .u8 0]))) ?_
      refine pl_put M (want_no rfl) rfl 39 _ _ rfl 0 g1 0 (by kernel_rfl) 4 39 (ls [.bool false, .int .u64 0, .int .u64 0, .int .u8 0]) rfl 4 (ls [.bool false, .int .u64 0, .int .u64 0, .int .u8 0]) (ls [.bool false, .int .u64 0, .int .u64 0, .int .u8 0]) (by kernel_rfl) inz39 (by decide) (one_ls _ rfl) (fun j hj => by rw [if_pos (by omega), Nat.sub_zero]) fun u10 M => ?_
      refine pV 3 (.int .i64 8) ?_
      refine nT ?_
      refine wp_ret ?_
      refine au_then_ret ?_
      have e0 : zB (pE s l7) (zB (rdE (tg l7 0)) (lV (tg l7 0))) = false := by rw [(show pE s l7 = 8 by unfold pE; rw [if_pos c0, if_pos c1, if_neg c2, if_neg c3, if_neg c4])]; rfl
      have e1 : (zI (pE s l7) (zI (rdE (tg l7 0)) (lH (tg l7 0)))) = 0 := by rw [(show pE s l7 = 8 by unfold pE; rw [if_pos c0, if_pos c1, if_neg c2, if_neg c3, if_neg c4])]; rfl
      have e2 : (zI (pE s l7) (zI (rdE (tg l7 0)) (lL (tg l7 0)))) = 0 := by rw [(show pE s l7 = 8 by unfold pE; rw [if_pos c0, if_pos c1, if_neg c2, if_neg c3, if_neg c4])]; rfl
      have e3 : (zI (pE s l7) (dgs 10 (tg l7 1))) = 0 := by rw [(show pE s l7 = 8 by unfold pE; rw [if_pos c0, if_pos c1, if_neg c2, if_neg c3, if_neg c4])]; rfl
      have e4 : (pE s l7) = 8 := (show pE s l7 = 8 by unfold pE; rw [if_pos c0, if_pos c1, if_neg c2, if_neg c3, if_neg c4])
      exact bodyPost_ret (v := .tuple #[.agg (av 4 (ls [.bool false, .int .u64 0, .int .u64 0, .int .u8 0])), .int .i64 8]) (results_cell_tmp Tryz.results21 _ _ g1 39 (av 4 (ls [.bool false, .int .u64 0, .int .u64 0, .int .u8 0])) (0, 0) _ _ (by kernel_rfl) (by kernel_rfl) (M.get 0 rfl) Tryz.underlying39 rfl (by rw [av_size]; exact inz39)) (by kernel_rfl) ⟨by rw [e0, e1, e2, e3, e4], below_grown M.old⟩
  ·skip
   refine pH 27 (.bool true) (nU ((rdE (tg l7 0)) = 0) (c1)) ?_
   refine pV 28 (.bool true) ?_
   refine pl_skip (want_off 2 false rfl 28 rfl (by kernel_rfl)) (some 29) rfl ?_
   refine pl_skip (want_off 2 false rfl 28 rfl (by kernel_rfl)) (some 30) rfl ?_
   refine pV 31 (.bool true) ?_
   refine pV 32 (.bool true) ?_
   refine pl_skip (want_off 6 false rfl 32 rfl (by kernel_rfl)) (some 33) rfl ?_
   refine pl_skip (want_off 6 false rfl 32 rfl (by kernel_rfl)) (some 34) rfl ?_
   refine pV 35 (.bool true) ?_
   refine nT ?_
   refine wp_cond_true (by kernel_rfl) ?_
   refine sR ?_
   refine pV 36 (.agg (av 4 (ls [.bool false, .int .u64 0, .int .u64 0, .int .u8 0]))) ?_
   refine pl_put M (want_no rfl) rfl 39 _ _ rfl 0 g1 0 (by kernel_rfl) 4 39 (ls [.bool false, .int .u64 0, .int .u64 0, .int .u8 0]) rfl 4 (ls [.bool false, .int .u64 0, .int .u64 0, .int .u8 0]) (ls [.bool false, .int .u64 0, .int .u64 0, .int .u8 0]) (by kernel_rfl) inz39 (by decide) (one_ls _ rfl) (fun j hj => by rw [if_pos (by omega), Nat.sub_zero]) fun u7 M => ?_
   refine pV 3 (.int .i64 8) ?_
   refine nT ?_
   refine wp_ret ?_
   refine au_then_ret ?_
   have e0 : zB (pE s l7) (zB (rdE (tg l7 0)) (lV (tg l7 0))) = false := by rw [(show pE s l7 = 8 by unfold pE; rw [if_pos c0, if_neg c1])]; rfl
   have e1 : (zI (pE s l7) (zI (rdE (tg l7 0)) (lH (tg l7 0)))) = 0 := by rw [(show pE s l7 = 8 by unfold pE; rw [if_pos c0, if_neg c1])]; rfl
   have e2 : (zI (pE s l7) (zI (rdE (tg l7 0)) (lL (tg l7 0)))) = 0 := by rw [(show pE s l7 = 8 by unfold pE; rw [if_pos c0, if_neg c1])]; rfl
   have e3 : (zI (pE s l7) (dgs 10 (tg l7 1))) = 0 := by rw [(show pE s l7 = 8 by unfold pE; rw [if_pos c0, if_neg c1])]; rfl
   have e4 : (pE s l7) = 8 := (show pE s l7 = 8 by unfold pE; rw [if_pos c0, if_neg c1])
   exact bodyPost_ret (v := .tuple #[.agg (av 4 (ls [.bool false, .int .u64 0, .int .u64 0, .int .u8 0])), .int .i64 8]) (results_cell_tmp Tryz.results21 _ _ g1 39 (av 4 (ls [.bool false, .int .u64 0, .int .u64 0, .int .u8 0])) (0, 0) _ _ (by kernel_rfl) (by kernel_rfl) (M.get 0 rfl) Tryz.underlying39 rfl (by rw [av_size]; exact inz39)) (by kernel_rfl) ⟨by rw [e0, e1, e2, e3, e4], below_grown M.old⟩
 ·skip
  refine pH 13 (.bool true) (nU (((l7.length : Nat) : Int) = 2) (c0)) ?_
  refine nT ?_
  refine wp_cond_true (by kernel_rfl) ?_
  refine sR ?_
  refine pV 14 (.agg (av 4 (ls [.bool false, .int .u64 0, .int .u64 0, .int .u8 0]))) ?_
  refine pl_put M (want_no rfl) rfl 39 _ _ rfl 0 g1 0 (by kernel_rfl) 4 39 (ls [.bool false, .int .u64 0, .int .u64 0, .int .u8 0]) rfl 4 (ls [.bool false, .int .u64 0, .int .u64 0, .int .u8 0]) (ls [.bool false, .int .u64 0, .int .u64 0, .int .u8 0]) (by kernel_rfl) inz39 (by decide) (one_ls _ rfl) (fun j hj => by rw [if_pos (by omega), Nat.sub_zero]) fun u3 M => ?_
  refine pV 3 (.int .i64 8) ?_
  refine nT ?_
  refine wp_ret ?_
  refine au_then_ret ?_
  have e0 : zB (pE s l7) (zB (rdE (tg l7 0)) (lV (tg l7 0))) = false := by rw [(show pE s l7 = 8 by unfold pE; rw [if_neg c0])]; rfl
  have e1 : (zI (pE s l7) (zI (rdE (tg l7 0)) (lH (tg l7 0)))) = 0 := by rw [(show pE s l7 = 8 by unfold pE; rw [if_neg c0])]; rfl
  have e2 : (zI (pE s l7) (zI (rdE (tg l7 0)) (lL (tg l7 0)))) = 0 := by rw [(show pE s l7 = 8 by unfold pE; rw [if_neg c0])]; rfl
  have e3 : (zI (pE s l7) (dgs 10 (tg l7 1))) = 0 := by rw [(show pE s l7 = 8 by unfold pE; rw [if_neg c0])]; rfl
  have e4 : (pE s l7) = 8 := (show pE s l7 = 8 by unfold pE; rw [if_neg c0])
  exact bodyPost_ret (v := .tuple #[.agg (av 4 (ls [.bool false, .int .u64 0, .int .u64 0, .int .u8 0])), .int .i64 8]) (results_cell_tmp Tryz.results21 _ _ g1 39 (av 4 (ls [.bool false, .int .u64 0, .int .u64 0, .int .u8 0])) (0, 0) _ _ (by kernel_rfl) (by kernel_rfl) (M.get 0 rfl) Tryz.underlying39 rfl (by rw [av_size]; exact inz39)) (by kernel_rfl) ⟨by rw [e0, e1, e2, e3, e4], below_grown M.old⟩
theorem ptx_ne {v : Bool} {h l b : Int} {s : ByteArray} (e : ptx v h l b = s) (hn : s ≠ ⟨#[]⟩) : mP v h l b = true := by
 unfold ptx at e
 split at e
 ·assumption
 ·exact absurd e.symm hn
theorem rpE_08 (s : ByteArray) : rpE s = 0 ∨ rpE s = 8 := by
 unfold rpE
 split
 ·split
  ·split
   ·exact .inl rfl
   ·exact .inr rfl
  ·exact .inr rfl
 ·exact .inr rfl
theorem cuA_nil : cuA (⟨#[]⟩ : ByteArray) ⟨#[47]⟩ = ⟨#[]⟩ := by decide +kernel
theorem rpE_nil : rpE (⟨#[]⟩ : ByteArray) = 8 := by
 unfold rpE
 rw [cuA_nil, rdE_nil]
 rfl
theorem sq47_nil : sqL 47 (⟨#[]⟩ : ByteArray) = [⟨#[]⟩] := by decide +kernel
theorem mP_bits {v : Bool} {h l b : Int} (e : mP v h l b = true) : b ≤ 128 := by
 unfold mP at e
 simp only [Bool.and_eq_true, decide_eq_true_eq] at e
 have := wdt_nn v
 omega
theorem prefix_same (s : ByteArray) (l7 : List ByteArray) (h7 : sqL 47 s = l7) : pE s l7 = rpE s ∧ (rpE s = 0 → (zB (rdE (tg l7 0)) (lV (tg l7 0))) = rpV s ∧ (zI (rdE (tg l7 0)) (lH (tg l7 0))) = rpH s ∧ (zI (rdE (tg l7 0)) (lL (tg l7 0))) = rpL s ∧ (dgs 10 (tg l7 1)) = rpB s) := by
 by_cases h : rpE s = 0
 ·have hn : s ≠ (⟨#[]⟩ : ByteArray) := fun e => by
   rw [e, rpE_nil] at h
   cases h
  have hp : ptx (rpV s) (rpH s) (rpL s) (rpB s) = s := by
   have h' := h
   unfold rpE at h'
   split at h'
   ·split at h'
    ·split at h'
     ·assumption
     ·cases h'
    ·cases h'
   ·cases h'
  have rh : 0 ≤ rpH s ∧ rpH s < 18446744073709551616 := zI_nn (lH_nn _)
  have rl : 0 ≤ rpL s ∧ rpL s < 18446744073709551616 := zI_nn (lL_nn _)
  have rb : 0 ≤ rpB s ∧ rpB s ≤ 255 := nmb_le _
  have hm := ptx_ne hp hn
  have hb := mP_bits hm
  generalize rpV s = v at *
  generalize rpH s = hh at *
  generalize rpL s = ll at *
  generalize rpB s = b at *
  obtain ⟨n, rfl⟩ := Int.eq_ofNat_of_zero_le rb.1
  have es : s = (txt v hh ll ++ (⟨#[47]⟩ : ByteArray)) ++ dcT (n : Int) := by
   rw [← hp]
   exact if_pos hm
  have e7 : l7 = [txt v hh ll, dcT (n : Int)] := by
   rw [← h7, es, sqL_cons 47 (txt v hh ll) ⟨#[47]⟩ (dcT (n : Int)) (fun i hi => not_mem_bt 47 _ (tx_slash v hh ll) i hi) rfl rfl]
   rw [show sqL 47 (dcT (n : Int)) = [dcT (n : Int)] from sqL_lone 47 _ (dec_ok n (by omega)).2.2.2.1]
  have t0 : tg l7 0 = txt v hh ll := by rw [e7]; rfl
  have t1 : tg l7 1 = dcT (n : Int) := by rw [e7]; rfl
  obtain ⟨_, a2, a3, a4, a5⟩ := read_txt v hh ll rh.1 rh.2 rl.1 rl.2 (mP_parts v hh ll n hm)
  have k : (zB (rdE (tg l7 0)) (lV (tg l7 0))) = v ∧ (zI (rdE (tg l7 0)) (lH (tg l7 0))) = hh ∧ (zI (rdE (tg l7 0)) (lL (tg l7 0))) = ll ∧ (dgs 10 (tg l7 1)) = (n : Int) := by
   rw [t0, t1, a5, a2, a3, a4]
   exact ⟨rfl, rfl, rfl, dgs_dec n (by omega)⟩
  refine ⟨?_, fun _ => k⟩
  rw [h]
  unfold pE
  rw [k.1, k.2.1, k.2.2.1, k.2.2.2, if_pos (by rw [e7]; rfl), t0, if_pos a5, if_neg (by omega), if_neg (by omega), if_pos hp]
 ·refine ⟨?_, fun e => absurd e h⟩
  have h8 : rpE s = 8 := (rpE_08 s).resolve_left h
  rw [h8]
  unfold pE
  split
  ·rename_i hl
   split
   ·split
    ·rfl
    ·rename_i d0
     split
     ·rfl
     ·rename_i d1
      split
      ·rename_i hp
       have hn : s ≠ (⟨#[]⟩ : ByteArray) := fun e => by
        rw [← h7, e, sq47_nil] at hl
        cases hl
       have hm := ptx_ne hp hn
       have r := (read_ptx _ _ _ _ (zI_nn (lH_nn _)).1 (zI_nn (lH_nn _)).2 (zI_nn (lL_nn _)).1 (zI_nn (lL_nn _)).2 (by omega) (by omega) hm).2.2.2.2
       rw [hp] at r
       exact absurd r h
      ·rfl
   ·rfl
  ·rfl
theorem d_ReadPrefix (s : ByteArray) (hs : s.size ≤ 10000) (w : World) (hL : Laid w) : Calls Tryz.prog 21 #[.string s] w fun r w' => r = .returned (.tuple #[.agg (av 4 (ls [.bool (zB (rpE s) (rpV s)), .int .u64 (zI (rpE s) (rpH s)), .int .u64 (zI (rpE s) (rpL s)), .int .u8 (zI (rpE s) (rpB s))])), .int .i64 (rpE s)]) ∧ Below w.heap.size w w' := by
 obtain ⟨e, k⟩ := prefix_same s _ rfl
 refine call_val (d_ReadPrefixG s hs _ rfl w hL) ?_
 rw [e, zb_same fun h => (k h).1, z_same fun h => (k h).2.1, z_same fun h => (k h).2.2.1, z_same fun h => (k h).2.2.2]
end Go.Proofs.YtndonmdgplojnaaGreatDoor

namespace Go.Proofs.YtndonmdgplojnaaGreatDoor
open Go.RowKit
set_option maxRecDepth 100000 in
set_option maxHeartbeats 4000000 in
set_option linter.unusedSimpArgs false in
theorem c_tells (s : ByteArray) (v : Bool) (h l : Int) (v' : Bool) (h' l' : Int) (vp : Bool) (hp_ lp bp : Int) (ra0 : 0 ≤ h) (ra1 : h < 18446744073709551616) (rb0 : 0 ≤ l) (rb1 : l < 18446744073709551616) (rc0 : 0 ≤ hp_) (rc1 : hp_ < 18446744073709551616) (rd0 : 0 ≤ lp) (rd1 : lp < 18446744073709551616) (rn0 : 0 ≤ bp) (rn1 : bp ≤ 255) (w : World) (hL : Laid w)  :
  Calls Tryz.prog 5 #[.string s, .agg (av 3 (ls [.bool (v), .int .u64 h, .int .u64 l])), .agg (av 3 (ls [.bool (v'), .int .u64 h', .int .u64 l'])), .agg (av 4 (ls [.bool (vp), .int .u64 hp_, .int .u64 lp, .int .u8 bp]))] w fun r w' => r = .returned (.bool true) ∧ Below w.heap.size w w' := by
 go_enter Tryz.func5, Tryz.ntmps5
 have M := Mem.start hL
 refine sR ?_
 refine pN M 5 (.cells (av 3 (ls [.bool (v), .int .u64 h, .int .u64 l])) 24) fun g1 u1 M => ?_
 refine pN M 6 (.cells (av 3 (ls [.bool (v'), .int .u64 h', .int .u64 l'])) 24) fun g2 u2 M => ?_
 refine pN M 7 (.cells (av 4 (ls [.bool (vp), .int .u64 hp_, .int .u64 lp, .int .u8 bp])) 39) fun g3 u3 M => ?_
 refine pV 8 (.bool false) ?_
 refine nT ?_
 refine wp_seq ?_
 refine sR ?_
 refine pV 18 (.string s) ?_
 refine pV 19 (.int .i64 (s.size : Int)) ?_
 by_cases c0 : 4096 < (s.size : Int)
 ·skip
  refine pH 20 (.bool true) (dTz (4096 < (s.size : Int)) (c0)) ?_
  refine nT ?_
  refine wp_cond_true (by kernel_rfl) ?_
  refine sR ?_
  refine pC M 21 9 #[] (.bool true) (fun w M => c_works w M.laid) fun u4 M => ?_
  refine pV 8 (.bool true) ?_
  refine nT ?_
  refine wp_ret ?_
  refine au_then_ret ?_
  exact bodyPost_ret (v := .bool true) (results_tmp1 Tryz.results5 _ _ _ (by kernel_rfl)) (by kernel_rfl) ⟨rfl, below_grown M.old⟩
 ·skip
  refine pH 20 (.bool false) (dF (4096 < (s.size : Int)) (c0)) ?_
  refine nT ?_
  refine wp_cond_false (by kernel_rfl) ?_
  refine wp_skip ?_
  refine au_then ?_
  refine sR ?_
  refine pV 23 (.string s) ?_
  refine pC M 24 18 #[.string s] (.tuple #[.agg (av 3 (ls [.bool (zB (rdE s) (lV s)), .int .u64 (zI (rdE s) (lH s)), .int .u64 (zI (rdE s) (lL s))])), .int .i64 (rdE s)]) (fun w M => c_Read s w M.laid) fun u4 M => ?_
  refine pV 22 (.tuple #[.agg (av 3 (ls [.bool (zB (rdE s) (lV s)), .int .u64 (zI (rdE s) (lH s)), .int .u64 (zI (rdE s) (lL s))])), .int .i64 (rdE s)]) ?_
  refine pV 25 (.agg (av 3 (ls [.bool (zB (rdE s) (lV s)), .int .u64 (zI (rdE s) (lH s)), .int .u64 (zI (rdE s) (lL s))]))) ?_
  refine pV 26 (.int .i64 (rdE s)) ?_
  refine pN M 9 (.cells (av 3 (ls [.bool false, .int .u64 0, .int .u64 0])) 24) fun g4 u5 M => ?_
  refine pl_put M (want_no rfl) rfl 24 _ _ rfl 3 g4 0 (by kernel_rfl) 3 24 (ls [.bool false, .int .u64 0, .int .u64 0]) rfl 3 (ls [.bool (zB (rdE s) (lV s)), .int .u64 (zI (rdE s) (lH s)), .int .u64 (zI (rdE s) (lL s))]) (ls [.bool (zB (rdE s) (lV s)), .int .u64 (zI (rdE s) (lH s)), .int .u64 (zI (rdE s) (lL s))]) (by kernel_rfl) inz24 (by decide) (one_ls _ rfl) (fun j hj => by rw [if_pos (by omega), Nat.sub_zero]) fun u6 M => ?_
  refine pV 10 (.int .i64 (rdE s)) ?_
  refine nT ?_
  refine sR ?_
  refine pV 28 (.string s) ?_
  refine pC M 29 19 #[.string s] (.tuple #[.agg (av 3 (ls [.bool (zB (rdE s) (lV s)), .int .u64 (zI (rdE s) (lH s)), .int .u64 (zI (rdE s) (lL s))])), .int .i64 (rdE s)]) (fun w M => d_Read s w M.laid) fun u7 M => ?_
  refine pV 27 (.tuple #[.agg (av 3 (ls [.bool (zB (rdE s) (lV s)), .int .u64 (zI (rdE s) (lH s)), .int .u64 (zI (rdE s) (lL s))])), .int .i64 (rdE s)]) ?_
  refine pV 30 (.agg (av 3 (ls [.bool (zB (rdE s) (lV s)), .int .u64 (zI (rdE s) (lH s)), .int .u64 (zI (rdE s) (lL s))]))) ?_
  refine pV 31 (.int .i64 (rdE s)) ?_
  refine pN M 11 (.cells (av 3 (ls [.bool false, .int .u64 0, .int .u64 0])) 24) fun g5 u8 M => ?_
  refine pl_put M (want_no rfl) rfl 24 _ _ rfl 4 g5 0 (by kernel_rfl) 3 24 (ls [.bool false, .int .u64 0, .int .u64 0]) rfl 3 (ls [.bool (zB (rdE s) (lV s)), .int .u64 (zI (rdE s) (lH s)), .int .u64 (zI (rdE s) (lL s))]) (ls [.bool (zB (rdE s) (lV s)), .int .u64 (zI (rdE s) (lH s)), .int .u64 (zI (rdE s) (lL s))]) (by kernel_rfl) inz24 (by decide) (one_ls _ rfl) (fun j hj => by rw [if_pos (by omega), Nat.sub_zero]) fun u9 M => ?_
  refine pV 12 (.int .i64 (rdE s)) ?_
  refine nT ?_
  refine sR ?_
  refine pV 33 (.string s) ?_
  refine pC M 34 20 #[.string s] (.tuple #[.agg (av 4 (ls [.bool (zB (rpE s) (rpV s)), .int .u64 (zI (rpE s) (rpH s)), .int .u64 (zI (rpE s) (rpL s)), .int .u8 (zI (rpE s) (rpB s))])), .int .i64 (rpE s)]) (fun w M => c_ReadPrefix s (by omega) w M.laid) fun u10 M => ?_
  refine pV 32 (.tuple #[.agg (av 4 (ls [.bool (zB (rpE s) (rpV s)), .int .u64 (zI (rpE s) (rpH s)), .int .u64 (zI (rpE s) (rpL s)), .int .u8 (zI (rpE s) (rpB s))])), .int .i64 (rpE s)]) ?_
  refine pV 35 (.agg (av 4 (ls [.bool (zB (rpE s) (rpV s)), .int .u64 (zI (rpE s) (rpH s)), .int .u64 (zI (rpE s) (rpL s)), .int .u8 (zI (rpE s) (rpB s))]))) ?_
  refine pV 36 (.int .i64 (rpE s)) ?_
  refine pN M 13 (.cells (av 4 (ls [.bool false, .int .u64 0, .int .u64 0, .int .u8 0])) 39) fun g6 u11 M => ?_
  refine pl_put M (want_no rfl) rfl 39 _ _ rfl 5 g6 0 (by kernel_rfl) 4 39 (ls [.bool false, .int .u64 0, .int .u64 0, .int .u8 0]) rfl 4 (ls [.bool (zB (rpE s) (rpV s)), .int .u64 (zI (rpE s) (rpH s)), .int .u64 (zI (rpE s) (rpL s)), .int .u8 (zI (rpE s) (rpB s))]) (ls [.bool (zB (rpE s) (rpV s)), .int .u64 (zI (rpE s) (rpH s)), .int .u64 (zI (rpE s) (rpL s)), .int .u8 (zI (rpE s) (rpB s))]) (by kernel_rfl) inz39 (by decide) (one_ls _ rfl) (fun j hj => by rw [if_pos (by omega), Nat.sub_zero]) fun u12 M => ?_
  refine pV 14 (.int .i64 (rpE s)) ?_
  refine nT ?_
  refine sR ?_
  refine pV 38 (.string s) ?_
  refine pC M 39 21 #[.string s] (.tuple #[.agg (av 4 (ls [.bool (zB (rpE s) (rpV s)), .int .u64 (zI (rpE s) (rpH s)), .int .u64 (zI (rpE s) (rpL s)), .int .u8 (zI (rpE s) (rpB s))])), .int .i64 (rpE s)]) (fun w M => d_ReadPrefix s (by omega) w M.laid) fun u13 M => ?_
  refine pV 37 (.tuple #[.agg (av 4 (ls [.bool (zB (rpE s) (rpV s)), .int .u64 (zI (rpE s) (rpH s)), .int .u64 (zI (rpE s) (rpL s)), .int .u8 (zI (rpE s) (rpB s))])), .int .i64 (rpE s)]) ?_
  refine pV 40 (.agg (av 4 (ls [.bool (zB (rpE s) (rpV s)), .int .u64 (zI (rpE s) (rpH s)), .int .u64 (zI (rpE s) (rpL s)), .int .u8 (zI (rpE s) (rpB s))]))) ?_
  refine pV 41 (.int .i64 (rpE s)) ?_
  refine pN M 15 (.cells (av 4 (ls [.bool false, .int .u64 0, .int .u64 0, .int .u8 0])) 39) fun g7 u14 M => ?_
  refine pl_put M (want_no rfl) rfl 39 _ _ rfl 6 g7 0 (by kernel_rfl) 4 39 (ls [.bool false, .int .u64 0, .int .u64 0, .int .u8 0]) rfl 4 (ls [.bool (zB (rpE s) (rpV s)), .int .u64 (zI (rpE s) (rpH s)), .int .u64 (zI (rpE s) (rpL s)), .int .u8 (zI (rpE s) (rpB s))]) (ls [.bool (zB (rpE s) (rpV s)), .int .u64 (zI (rpE s) (rpH s)), .int .u64 (zI (rpE s) (rpL s)), .int .u8 (zI (rpE s) (rpB s))]) (by kernel_rfl) inz39 (by decide) (one_ls _ rfl) (fun j hj => by rw [if_pos (by omega), Nat.sub_zero]) fun u15 M => ?_
  refine pV 16 (.int .i64 (rpE s)) ?_
  refine nT ?_
  refine wp_seq ?_
  refine rg_tail M 32 (by kernel_rfl) (by kernel_rfl) ?_
  simp only [List.take_succ_cons, List.take_zero]
  refine kA M 42 3 3 (ls [.bool (zB (rdE s) (lV s)), .int .u64 (zI (rdE s) (lH s)), .int .u64 (zI (rdE s) (lL s))]) ?_
  refine kA M 43 4 3 (ls [.bool (zB (rdE s) (lV s)), .int .u64 (zI (rdE s) (lH s)), .int .u64 (zI (rdE s) (lL s))]) ?_
  refine kH 44 (.bool true) (fun w => (eql24 (zB (rdE s) (lV s)) (zB (rdE s) (lV s)) (zI (rdE s) (lH s)) (zI (rdE s) (lH s)) (zI (rdE s) (lL s)) (zI (rdE s) (lL s)) _ _ rfl (by kernel_rfl) (by kernel_rfl) w).trans (by rw [decide_eq_true (⟨rfl, rfl, rfl⟩ : zB (rdE s) (lV s) = zB (rdE s) (lV s) ∧ (zI (rdE s) (lH s)) = (zI (rdE s) (lH s)) ∧ (zI (rdE s) (lL s)) = (zI (rdE s) (lL s)))])) ?_
  refine kV 45 (.bool true) ?_
  refine k_val (want_on 3 true rfl 45 rfl (by kernel_rfl)) (some 46) rfl (.int .i64 (rdE s)) (fun _ => by kernel_rfl) ?_
  refine k_val (want_on 3 true rfl 45 rfl (by kernel_rfl)) (some 47) rfl (.int .i64 (rdE s)) (fun _ => by kernel_rfl) ?_
  refine k_val (want_on 3 true rfl 45 rfl (by kernel_rfl)) (some 48) rfl (.bool true) (fun w => Eq.trans (b := .ok (.value (.bool (decide ((rdE s) = (rdE s))))) w) (by kernel_rfl) (by rw [decide_eq_true (by omega)])) ?_
  refine kV 49 (.bool true) ?_
  refine kV 50 (.bool true) ?_
  refine k_load M (want_on 8 true rfl 50 rfl (by kernel_rfl)) (some 51) rfl 39 _ rfl 5 g6 0 (by kernel_rfl) 4 39 (ls [.bool (zB (rpE s) (rpV s)), .int .u64 (zI (rpE s) (rpH s)), .int .u64 (zI (rpE s) (rpL s)), .int .u8 (zI (rpE s) (rpB s))]) rfl 4 (ls [.bool (zB (rpE s) (rpV s)), .int .u64 (zI (rpE s) (rpH s)), .int .u64 (zI (rpE s) (rpL s)), .int .u8 (zI (rpE s) (rpB s))]) (fun j _ => by rw [Nat.zero_add]) (by decide) _ Tryz.underlying39 rfl inz39 ?_
  refine k_load M (want_on 8 true rfl 50 rfl (by kernel_rfl)) (some 52) rfl 39 _ rfl 6 g7 0 (by kernel_rfl) 4 39 (ls [.bool (zB (rpE s) (rpV s)), .int .u64 (zI (rpE s) (rpH s)), .int .u64 (zI (rpE s) (rpL s)), .int .u8 (zI (rpE s) (rpB s))]) rfl 4 (ls [.bool (zB (rpE s) (rpV s)), .int .u64 (zI (rpE s) (rpH s)), .int .u64 (zI (rpE s) (rpL s)), .int .u8 (zI (rpE s) (rpB s))]) (fun j _ => by rw [Nat.zero_add]) (by decide) _ Tryz.underlying39 rfl inz39 ?_
  refine k_val (want_on 8 true rfl 50 rfl (by kernel_rfl)) (some 53) rfl (.bool true) (fun w => (eql39 (zB (rpE s) (rpV s)) (zB (rpE s) (rpV s)) (zI (rpE s) (rpH s)) (zI (rpE s) (rpH s)) (zI (rpE s) (rpL s)) (zI (rpE s) (rpL s)) (zI (rpE s) (rpB s)) (zI (rpE s) (rpB s)) _ _ rfl (by kernel_rfl) (by kernel_rfl) w).trans (by rw [decide_eq_true (⟨rfl, rfl, rfl, rfl⟩ : zB (rpE s) (rpV s) = zB (rpE s) (rpV s) ∧ (zI (rpE s) (rpH s)) = (zI (rpE s) (rpH s)) ∧ (zI (rpE s) (rpL s)) = (zI (rpE s) (rpL s)) ∧ (zI (rpE s) (rpB s)) = (zI (rpE s) (rpB s)))])) ?_
  refine kV 54 (.bool true) ?_
  refine kV 55 (.bool true) ?_
  refine k_val (want_on 13 true rfl 55 rfl (by kernel_rfl)) (some 56) rfl (.int .i64 (rpE s)) (fun _ => by kernel_rfl) ?_
  refine k_val (want_on 13 true rfl 55 rfl (by kernel_rfl)) (some 57) rfl (.int .i64 (rpE s)) (fun _ => by kernel_rfl) ?_
  refine k_val (want_on 13 true rfl 55 rfl (by kernel_rfl)) (some 58) rfl (.bool true) (fun w => Eq.trans (b := .ok (.value (.bool (decide ((rpE s) = (rpE s))))) w) (by kernel_rfl) (by rw [decide_eq_true (by omega)])) ?_
  refine kV 59 (.bool true) ?_
  refine kV 60 (.bool true) ?_
  refine k_load M (want_on 18 true rfl 60 rfl (by kernel_rfl)) (some 61) rfl 24 _ rfl 0 g1 0 (by kernel_rfl) 3 24 (ls [.bool (v), .int .u64 h, .int .u64 l]) rfl 3 (ls [.bool (v), .int .u64 h, .int .u64 l]) (fun j _ => by rw [Nat.zero_add]) (by decide) _ Tryz.underlying24 rfl inz24 ?_
  refine k_call M (want_on 18 true rfl 60 rfl (by kernel_rfl)) (some 62) rfl 22 #[.agg (av 3 (ls [.bool (v), .int .u64 h, .int .u64 l]))] (.string (txt v h l)) (fun _ => by kernel_rfl) (fun w M => c_Text v h l w M.laid) ?_
  refine k_load M (want_on 18 true rfl 60 rfl (by kernel_rfl)) (some 63) rfl 24 _ rfl 0 g1 0 (by kernel_rfl) 3 24 (ls [.bool (v), .int .u64 h, .int .u64 l]) rfl 3 (ls [.bool (v), .int .u64 h, .int .u64 l]) (fun j _ => by rw [Nat.zero_add]) (by decide) _ Tryz.underlying24 rfl inz24 ?_
  refine k_call M (want_on 18 true rfl 60 rfl (by kernel_rfl)) (some 64) rfl 23 #[.agg (av 3 (ls [.bool (v), .int .u64 h, .int .u64 l]))] (.string (txt v h l)) (fun _ => by kernel_rfl) (fun w M => d_Text v h l ra0 ra1 rb0 rb1 w M.laid) ?_
  refine k_val (want_on 18 true rfl 60 rfl (by kernel_rfl)) (some 65) rfl (.bool true) (fun w => Eq.trans (b := .ok (.value (.bool ((txt v h l).toList == (txt v h l).toList))) w) (by kernel_rfl) (by rw [beq_self_eq_true])) ?_
  refine kV 66 (.bool true) ?_
  refine kV 67 (.bool true) ?_
  refine k_load M (want_on 25 true rfl 67 rfl (by kernel_rfl)) (some 68) rfl 39 _ rfl 2 g3 0 (by kernel_rfl) 4 39 (ls [.bool (vp), .int .u64 hp_, .int .u64 lp, .int .u8 bp]) rfl 4 (ls [.bool (vp), .int .u64 hp_, .int .u64 lp, .int .u8 bp]) (fun j _ => by rw [Nat.zero_add]) (by decide) _ Tryz.underlying39 rfl inz39 ?_
  refine k_call M (want_on 25 true rfl 67 rfl (by kernel_rfl)) (some 69) rfl 24 #[.agg (av 4 (ls [.bool (vp), .int .u64 hp_, .int .u64 lp, .int .u8 bp]))] (.string (ptx vp hp_ lp bp)) (fun _ => by kernel_rfl) (fun w M => c_PrefixText vp hp_ lp bp rn0 rn1 w M.laid) ?_
  refine k_load M (want_on 25 true rfl 67 rfl (by kernel_rfl)) (some 70) rfl 39 _ rfl 2 g3 0 (by kernel_rfl) 4 39 (ls [.bool (vp), .int .u64 hp_, .int .u64 lp, .int .u8 bp]) rfl 4 (ls [.bool (vp), .int .u64 hp_, .int .u64 lp, .int .u8 bp]) (fun j _ => by rw [Nat.zero_add]) (by decide) _ Tryz.underlying39 rfl inz39 ?_
  refine k_call M (want_on 25 true rfl 67 rfl (by kernel_rfl)) (some 71) rfl 25 #[.agg (av 4 (ls [.bool (vp), .int .u64 hp_, .int .u64 lp, .int .u8 bp]))] (.string (ptx vp hp_ lp bp)) (fun _ => by kernel_rfl) (fun w M => d_PrefixText vp hp_ lp bp rn0 rn1 rc0 rc1 rd0 rd1 w M.laid) ?_
  refine k_val (want_on 25 true rfl 67 rfl (by kernel_rfl)) (some 72) rfl (.bool true) (fun w => Eq.trans (b := .ok (.value (.bool ((ptx vp hp_ lp bp).toList == (ptx vp hp_ lp bp).toList))) w) (by kernel_rfl) (by rw [beq_self_eq_true])) ?_
  refine kV 73 (.bool true) ?_
  refine kl_nil fun u16 M => ?_
  refine pV 17 (.bool true) ?_
  refine nT ?_
  refine wp_seq ?_
  refine rg_tail M 29 (by kernel_rfl) (by kernel_rfl) ?_
  simp only [List.take_succ_cons, List.take_zero]
  refine kV 74 (.bool true) ?_
  refine kV 75 (.bool true) ?_
  refine k_load M (want_on 1 true rfl 75 rfl (by kernel_rfl)) (some 76) rfl 39 _ rfl 2 g3 0 (by kernel_rfl) 4 39 (ls [.bool (vp), .int .u64 hp_, .int .u64 lp, .int .u8 bp]) rfl 4 (ls [.bool (vp), .int .u64 hp_, .int .u64 lp, .int .u8 bp]) (fun j _ => by rw [Nat.zero_add]) (by decide) _ Tryz.underlying39 rfl inz39 ?_
  rcases Bool.eq_false_or_eq_true (mP vp hp_ lp bp) with c1 | c1
  ·skip
   refine k_call M (want_on 1 true rfl 75 rfl (by kernel_rfl)) (some 77) rfl 26 #[.agg (av 4 (ls [.bool (vp), .int .u64 hp_, .int .u64 lp, .int .u8 bp]))] (.bool true) (fun _ => by kernel_rfl) (fun w M => call_val (c_MayPrefix vp hp_ lp bp rn0 rn1 w M.laid) (congrArg Value.bool c1)) ?_
   refine k_load M (want_on 1 true rfl 75 rfl (by kernel_rfl)) (some 78) rfl 39 _ rfl 2 g3 0 (by kernel_rfl) 4 39 (ls [.bool (vp), .int .u64 hp_, .int .u64 lp, .int .u8 bp]) rfl 4 (ls [.bool (vp), .int .u64 hp_, .int .u64 lp, .int .u8 bp]) (fun j _ => by rw [Nat.zero_add]) (by decide) _ Tryz.underlying39 rfl inz39 ?_
   refine k_call M (want_on 1 true rfl 75 rfl (by kernel_rfl)) (some 79) rfl 27 #[.agg (av 4 (ls [.bool (vp), .int .u64 hp_, .int .u64 lp, .int .u8 bp]))] (.bool true) (fun _ => by kernel_rfl) (fun w M => call_val (call_val (d_MayPrefix vp hp_ lp bp rn0 rn1 w M.laid) (congrArg Value.bool (rP_mP vp hp_ lp bp rc0 rc1 rd0 rd1 rn0))) (congrArg Value.bool c1)) ?_
   refine k_val (want_on 1 true rfl 75 rfl (by kernel_rfl)) (some 80) rfl (.bool true) (fun _ => by kernel_rfl) ?_
   refine kV 81 (.bool true) ?_
   refine kV 82 (.bool true) ?_
   refine k_load M (want_on 8 true rfl 82 rfl (by kernel_rfl)) (some 83) rfl 39 _ rfl 2 g3 0 (by kernel_rfl) 4 39 (ls [.bool (vp), .int .u64 hp_, .int .u64 lp, .int .u8 bp]) rfl 4 (ls [.bool (vp), .int .u64 hp_, .int .u64 lp, .int .u8 bp]) (fun j _ => by rw [Nat.zero_add]) (by decide) _ Tryz.underlying39 rfl inz39 ?_
   refine k_load M (want_on 8 true rfl 82 rfl (by kernel_rfl)) (some 84) rfl 24 _ rfl 0 g1 0 (by kernel_rfl) 3 24 (ls [.bool (v), .int .u64 h, .int .u64 l]) rfl 3 (ls [.bool (v), .int .u64 h, .int .u64 l]) (fun j _ => by rw [Nat.zero_add]) (by decide) _ Tryz.underlying24 rfl inz24 ?_
   rcases Bool.eq_false_or_eq_true (hO vp hp_ lp bp v h l) with c2 | c2
   ·skip
    refine k_call M (want_on 8 true rfl 82 rfl (by kernel_rfl)) (some 85) rfl 28 #[.agg (av 4 (ls [.bool (vp), .int .u64 hp_, .int .u64 lp, .int .u8 bp])), .agg (av 3 (ls [.bool (v), .int .u64 h, .int .u64 l]))] (.bool true) (fun _ => by kernel_rfl) (fun w M => call_val (c_Holds vp hp_ lp bp rn0 rn1 v h l w M.laid) (congrArg Value.bool c2)) ?_
    refine k_load M (want_on 8 true rfl 82 rfl (by kernel_rfl)) (some 86) rfl 39 _ rfl 2 g3 0 (by kernel_rfl) 4 39 (ls [.bool (vp), .int .u64 hp_, .int .u64 lp, .int .u8 bp]) rfl 4 (ls [.bool (vp), .int .u64 hp_, .int .u64 lp, .int .u8 bp]) (fun j _ => by rw [Nat.zero_add]) (by decide) _ Tryz.underlying39 rfl inz39 ?_
    refine k_load M (want_on 8 true rfl 82 rfl (by kernel_rfl)) (some 87) rfl 24 _ rfl 0 g1 0 (by kernel_rfl) 3 24 (ls [.bool (v), .int .u64 h, .int .u64 l]) rfl 3 (ls [.bool (v), .int .u64 h, .int .u64 l]) (fun j _ => by rw [Nat.zero_add]) (by decide) _ Tryz.underlying24 rfl inz24 ?_
    refine k_call M (want_on 8 true rfl 82 rfl (by kernel_rfl)) (some 88) rfl 29 #[.agg (av 4 (ls [.bool (vp), .int .u64 hp_, .int .u64 lp, .int .u8 bp])), .agg (av 3 (ls [.bool (v), .int .u64 h, .int .u64 l]))] (.bool true) (fun _ => by kernel_rfl) (fun w M => call_val (call_val (d_Holds vp hp_ lp bp rn0 rn1 v h l w M.laid) (congrArg Value.bool (rH_hO vp hp_ lp bp v h l rc0 rc1 rd0 rd1 ra0 ra1 rb0 rb1 rn0))) (congrArg Value.bool c2)) ?_
    refine k_val (want_on 8 true rfl 82 rfl (by kernel_rfl)) (some 89) rfl (.bool true) (fun _ => by kernel_rfl) ?_
    refine kV 90 (.bool true) ?_
    refine kV 91 (.bool true) ?_
    refine k_load M (want_on 17 true rfl 91 rfl (by kernel_rfl)) (some 92) rfl 24 _ rfl 0 g1 0 (by kernel_rfl) 3 24 (ls [.bool (v), .int .u64 h, .int .u64 l]) rfl 3 (ls [.bool (v), .int .u64 h, .int .u64 l]) (fun j _ => by rw [Nat.zero_add]) (by decide) _ Tryz.underlying24 rfl inz24 ?_
    refine k_load M (want_on 17 true rfl 91 rfl (by kernel_rfl)) (some 93) rfl 24 _ rfl 1 g2 0 (by kernel_rfl) 3 24 (ls [.bool (v'), .int .u64 h', .int .u64 l']) rfl 3 (ls [.bool (v'), .int .u64 h', .int .u64 l']) (fun j _ => by rw [Nat.zero_add]) (by decide) _ Tryz.underlying24 rfl inz24 ?_
    rcases Bool.eq_false_or_eq_true (lS v h l v' h' l') with c3 | c3
    ·skip
     refine k_call M (want_on 17 true rfl 91 rfl (by kernel_rfl)) (some 94) rfl 30 #[.agg (av 3 (ls [.bool (v), .int .u64 h, .int .u64 l])), .agg (av 3 (ls [.bool (v'), .int .u64 h', .int .u64 l']))] (.bool true) (fun _ => by kernel_rfl) (fun w M => call_val (c_Less v h l v' h' l' w M.laid) (congrArg Value.bool c3)) ?_
     refine k_load M (want_on 17 true rfl 91 rfl (by kernel_rfl)) (some 95) rfl 24 _ rfl 0 g1 0 (by kernel_rfl) 3 24 (ls [.bool (v), .int .u64 h, .int .u64 l]) rfl 3 (ls [.bool (v), .int .u64 h, .int .u64 l]) (fun j _ => by rw [Nat.zero_add]) (by decide) _ Tryz.underlying24 rfl inz24 ?_
     refine k_load M (want_on 17 true rfl 91 rfl (by kernel_rfl)) (some 96) rfl 24 _ rfl 1 g2 0 (by kernel_rfl) 3 24 (ls [.bool (v'), .int .u64 h', .int .u64 l']) rfl 3 (ls [.bool (v'), .int .u64 h', .int .u64 l']) (fun j _ => by rw [Nat.zero_add]) (by decide) _ Tryz.underlying24 rfl inz24 ?_
     refine k_call M (want_on 17 true rfl 91 rfl (by kernel_rfl)) (some 97) rfl 31 #[.agg (av 3 (ls [.bool (v), .int .u64 h, .int .u64 l])), .agg (av 3 (ls [.bool (v'), .int .u64 h', .int .u64 l']))] (.bool true) (fun _ => by kernel_rfl) (fun w M => call_val (d_Less v h l v' h' l' w M.laid) (congrArg Value.bool c3)) ?_
     refine k_val (want_on 17 true rfl 91 rfl (by kernel_rfl)) (some 98) rfl (.bool true) (fun _ => by kernel_rfl) ?_
     refine kV 99 (.bool true) ?_
     refine kV 100 (.bool true) ?_
     refine k_call M (want_on 26 true rfl 100 rfl (by kernel_rfl)) (some 101) rfl 9 #[] (.bool true) (fun _ => by kernel_rfl) (fun w M => c_works w M.laid) ?_
     refine kV 102 (.bool true) ?_
     refine kl_nil fun u17 M => ?_
     refine pV 8 (.bool true) ?_
     refine nT ?_
     refine wp_ret ?_
     exact bodyPost_ret (v := .bool true) (results_tmp1 Tryz.results5 _ _ _ (by kernel_rfl)) (by kernel_rfl) ⟨rfl, below_grown M.old⟩
    ·skip
     refine k_call M (want_on 17 true rfl 91 rfl (by kernel_rfl)) (some 94) rfl 30 #[.agg (av 3 (ls [.bool (v), .int .u64 h, .int .u64 l])), .agg (av 3 (ls [.bool (v'), .int .u64 h', .int .u64 l']))] (.bool false) (fun _ => by kernel_rfl) (fun w M => call_val (c_Less v h l v' h' l' w M.laid) (congrArg Value.bool c3)) ?_
     refine k_load M (want_on 17 true rfl 91 rfl (by kernel_rfl)) (some 95) rfl 24 _ rfl 0 g1 0 (by kernel_rfl) 3 24 (ls [.bool (v), .int .u64 h, .int .u64 l]) rfl 3 (ls [.bool (v), .int .u64 h, .int .u64 l]) (fun j _ => by rw [Nat.zero_add]) (by decide) _ Tryz.underlying24 rfl inz24 ?_
     refine k_load M (want_on 17 true rfl 91 rfl (by kernel_rfl)) (some 96) rfl 24 _ rfl 1 g2 0 (by kernel_rfl) 3 24 (ls [.bool (v'), .int .u64 h', .int .u64 l']) rfl 3 (ls [.bool (v'), .int .u64 h', .int .u64 l']) (fun j _ => by rw [Nat.zero_add]) (by decide) _ Tryz.underlying24 rfl inz24 ?_
     refine k_call M (want_on 17 true rfl 91 rfl (by kernel_rfl)) (some 97) rfl 31 #[.agg (av 3 (ls [.bool (v), .int .u64 h, .int .u64 l])), .agg (av 3 (ls [.bool (v'), .int .u64 h', .int .u64 l']))] (.bool false) (fun _ => by kernel_rfl) (fun w M => call_val (d_Less v h l v' h' l' w M.laid) (congrArg Value.bool c3)) ?_
     refine k_val (want_on 17 true rfl 91 rfl (by kernel_rfl)) (some 98) rfl (.bool true) (fun _ => by kernel_rfl) ?_
     refine kV 99 (.bool true) ?_
     refine kV 100 (.bool true) ?_
     refine k_call M (want_on 26 true rfl 100 rfl (by kernel_rfl)) (some 101) rfl 9 #[] (.bool true) (fun _ => by kernel_rfl) (fun w M => c_works w M.laid) ?_
     refine kV 102 (.bool true) ?_
     refine kl_nil fun u17 M => ?_
     refine pV 8 (.bool true) ?_
     refine nT ?_
     refine wp_ret ?_
     exact bodyPost_ret (v := .bool true) (results_tmp1 Tryz.results5 _ _ _ (by kernel_rfl)) (by kernel_rfl) ⟨rfl, below_grown M.old⟩
   ·skip
    refine k_call M (want_on 8 true rfl 82 rfl (by kernel_rfl)) (some 85) rfl 28 #[.agg (av 4 (ls [.bool (vp), .int .u64 hp_, .int .u64 lp, .int .u8 bp])), .agg (av 3 (ls [.bool (v), .int .u64 h, .int .u64 l]))] (.bool false) (fun _ => by kernel_rfl) (fun w M => call_val (c_Holds vp hp_ lp bp rn0 rn1 v h l w M.laid) (congrArg Value.bool c2)) ?_
    refine k_load M (want_on 8 true rfl 82 rfl (by kernel_rfl)) (some 86) rfl 39 _ rfl 2 g3 0 (by kernel_rfl) 4 39 (ls [.bool (vp), .int .u64 hp_, .int .u64 lp, .int .u8 bp]) rfl 4 (ls [.bool (vp), .int .u64 hp_, .int .u64 lp, .int .u8 bp]) (fun j _ => by rw [Nat.zero_add]) (by decide) _ Tryz.underlying39 rfl inz39 ?_
    refine k_load M (want_on 8 true rfl 82 rfl (by kernel_rfl)) (some 87) rfl 24 _ rfl 0 g1 0 (by kernel_rfl) 3 24 (ls [.bool (v), .int .u64 h, .int .u64 l]) rfl 3 (ls [.bool (v), .int .u64 h, .int .u64 l]) (fun j _ => by rw [Nat.zero_add]) (by decide) _ Tryz.underlying24 rfl inz24 ?_
    refine k_call M (want_on 8 true rfl 82 rfl (by kernel_rfl)) (some 88) rfl 29 #[.agg (av 4 (ls [.bool (vp), .int .u64 hp_, .int .u64 lp, .int .u8 bp])), .agg (av 3 (ls [.bool (v), .int .u64 h, .int .u64 l]))] (.bool false) (fun _ => by kernel_rfl) (fun w M => call_val (call_val (d_Holds vp hp_ lp bp rn0 rn1 v h l w M.laid) (congrArg Value.bool (rH_hO vp hp_ lp bp v h l rc0 rc1 rd0 rd1 ra0 ra1 rb0 rb1 rn0))) (congrArg Value.bool c2)) ?_
    refine k_val (want_on 8 true rfl 82 rfl (by kernel_rfl)) (some 89) rfl (.bool true) (fun _ => by kernel_rfl) ?_
    refine kV 90 (.bool true) ?_
    refine kV 91 (.bool true) ?_
    refine k_load M (want_on 17 true rfl 91 rfl (by kernel_rfl)) (some 92) rfl 24 _ rfl 0 g1 0 (by kernel_rfl) 3 24 (ls [.bool (v), .int .u64 h, .int .u64 l]) rfl 3 (ls [.bool (v), .int .u64 h, .int .u64 l]) (fun j _ => by rw [Nat.zero_add]) (by decide) _ Tryz.underlying24 rfl inz24 ?_
    refine k_load M (want_on 17 true rfl 91 rfl (by kernel_rfl)) (some 93) rfl 24 _ rfl 1 g2 0 (by kernel_rfl) 3 24 (ls [.bool (v'), .int .u64 h', .int .u64 l']) rfl 3 (ls [.bool (v'), .int .u64 h', .int .u64 l']) (fun j _ => by rw [Nat.zero_add]) (by decide) _ Tryz.underlying24 rfl inz24 ?_
    rcases Bool.eq_false_or_eq_true (lS v h l v' h' l') with c3 | c3
    ·skip
     refine k_call M (want_on 17 true rfl 91 rfl (by kernel_rfl)) (some 94) rfl 30 #[.agg (av 3 (ls [.bool (v), .int .u64 h, .int .u64 l])), .agg (av 3 (ls [.bool (v'), .int .u64 h', .int .u64 l']))] (.bool true) (fun _ => by kernel_rfl) (fun w M => call_val (c_Less v h l v' h' l' w M.laid) (congrArg Value.bool c3)) ?_
     refine k_load M (want_on 17 true rfl 91 rfl (by kernel_rfl)) (some 95) rfl 24 _ rfl 0 g1 0 (by kernel_rfl) 3 24 (ls [.bool (v), .int .u64 h, .int .u64 l]) rfl 3 (ls [.bool (v), .int .u64 h, .int .u64 l]) (fun j _ => by rw [Nat.zero_add]) (by decide) _ Tryz.underlying24 rfl inz24 ?_
     refine k_load M (want_on 17 true rfl 91 rfl (by kernel_rfl)) (some 96) rfl 24 _ rfl 1 g2 0 (by kernel_rfl) 3 24 (ls [.bool (v'), .int .u64 h', .int .u64 l']) rfl 3 (ls [.bool (v'), .int .u64 h', .int .u64 l']) (fun j _ => by rw [Nat.zero_add]) (by decide) _ Tryz.underlying24 rfl inz24 ?_
     refine k_call M (want_on 17 true rfl 91 rfl (by kernel_rfl)) (some 97) rfl 31 #[.agg (av 3 (ls [.bool (v), .int .u64 h, .int .u64 l])), .agg (av 3 (ls [.bool (v'), .int .u64 h', .int .u64 l']))] (.bool true) (fun _ => by kernel_rfl) (fun w M => call_val (d_Less v h l v' h' l' w M.laid) (congrArg Value.bool c3)) ?_
     refine k_val (want_on 17 true rfl 91 rfl (by kernel_rfl)) (some 98) rfl (.bool true) (fun _ => by kernel_rfl) ?_
     refine kV 99 (.bool true) ?_
     refine kV 100 (.bool true) ?_
     refine k_call M (want_on 26 true rfl 100 rfl (by kernel_rfl)) (some 101) rfl 9 #[] (.bool true) (fun _ => by kernel_rfl) (fun w M => c_works w M.laid) ?_
     refine kV 102 (.bool true) ?_
     refine kl_nil fun u17 M => ?_
     refine pV 8 (.bool true) ?_
     refine nT ?_
     refine wp_ret ?_
     exact bodyPost_ret (v := .bool true) (results_tmp1 Tryz.results5 _ _ _ (by kernel_rfl)) (by kernel_rfl) ⟨rfl, below_grown M.old⟩
    ·skip
     refine k_call M (want_on 17 true rfl 91 rfl (by kernel_rfl)) (some 94) rfl 30 #[.agg (av 3 (ls [.bool (v), .int .u64 h, .int .u64 l])), .agg (av 3 (ls [.bool (v'), .int .u64 h', .int .u64 l']))] (.bool false) (fun _ => by kernel_rfl) (fun w M => call_val (c_Less v h l v' h' l' w M.laid) (congrArg Value.bool c3)) ?_
     refine k_load M (want_on 17 true rfl 91 rfl (by kernel_rfl)) (some 95) rfl 24 _ rfl 0 g1 0 (by kernel_rfl) 3 24 (ls [.bool (v), .int .u64 h, .int .u64 l]) rfl 3 (ls [.bool (v), .int .u64 h, .int .u64 l]) (fun j _ => by rw [Nat.zero_add]) (by decide) _ Tryz.underlying24 rfl inz24 ?_
     refine k_load M (want_on 17 true rfl 91 rfl (by kernel_rfl)) (some 96) rfl 24 _ rfl 1 g2 0 (by kernel_rfl) 3 24 (ls [.bool (v'), .int .u64 h', .int .u64 l']) rfl 3 (ls [.bool (v'), .int .u64 h', .int .u64 l']) (fun j _ => by rw [Nat.zero_add]) (by decide) _ Tryz.underlying24 rfl inz24 ?_
     refine k_call M (want_on 17 true rfl 91 rfl (by kernel_rfl)) (some 97) rfl 31 #[.agg (av 3 (ls [.bool (v), .int .u64 h, .int .u64 l])), .agg (av 3 (ls [.bool (v'), .int .u64 h', .int .u64 l']))] (.bool false) (fun _ => by kernel_rfl) (fun w M => call_val (d_Less v h l v' h' l' w M.laid) (congrArg Value.bool c3)) ?_
     refine k_val (want_on 17 true rfl 91 rfl (by kernel_rfl)) (some 98) rfl (.bool true) (fun _ => by kernel_rfl) ?_
     refine kV 99 (.bool true) ?_
     refine kV 100 (.bool true) ?_
     refine k_call M (want_on 26 true rfl 100 rfl (by kernel_rfl)) (some 101) rfl 9 #[] (.bool true) (fun _ => by kernel_rfl) (fun w M => c_works w M.laid) ?_
     refine kV 102 (.bool true) ?_
     refine kl_nil fun u17 M => ?_
     refine pV 8 (.bool true) ?_
     refine nT ?_
     refine wp_ret ?_
     exact bodyPost_ret (v := .bool true) (results_tmp1 Tryz.results5 _ _ _ (by kernel_rfl)) (by kernel_rfl) ⟨rfl, below_grown M.old⟩
  ·skip
   refine k_call M (want_on 1 true rfl 75 rfl (by kernel_rfl)) (some 77) rfl 26 #[.agg (av 4 (ls [.bool (vp), .int .u64 hp_, .int .u64 lp, .int .u8 bp]))] (.bool false) (fun _ => by kernel_rfl) (fun w M => call_val (c_MayPrefix vp hp_ lp bp rn0 rn1 w M.laid) (congrArg Value.bool c1)) ?_
   refine k_load M (want_on 1 true rfl 75 rfl (by kernel_rfl)) (some 78) rfl 39 _ rfl 2 g3 0 (by kernel_rfl) 4 39 (ls [.bool (vp), .int .u64 hp_, .int .u64 lp, .int .u8 bp]) rfl 4 (ls [.bool (vp), .int .u64 hp_, .int .u64 lp, .int .u8 bp]) (fun j _ => by rw [Nat.zero_add]) (by decide) _ Tryz.underlying39 rfl inz39 ?_
   refine k_call M (want_on 1 true rfl 75 rfl (by kernel_rfl)) (some 79) rfl 27 #[.agg (av 4 (ls [.bool (vp), .int .u64 hp_, .int .u64 lp, .int .u8 bp]))] (.bool false) (fun _ => by kernel_rfl) (fun w M => call_val (call_val (d_MayPrefix vp hp_ lp bp rn0 rn1 w M.laid) (congrArg Value.bool (rP_mP vp hp_ lp bp rc0 rc1 rd0 rd1 rn0))) (congrArg Value.bool c1)) ?_
   refine k_val (want_on 1 true rfl 75 rfl (by kernel_rfl)) (some 80) rfl (.bool true) (fun _ => by kernel_rfl) ?_
   refine kV 81 (.bool true) ?_
   refine kV 82 (.bool true) ?_
   refine k_load M (want_on 8 true rfl 82 rfl (by kernel_rfl)) (some 83) rfl 39 _ rfl 2 g3 0 (by kernel_rfl) 4 39 (ls [.bool (vp), .int .u64 hp_, .int .u64 lp, .int .u8 bp]) rfl 4 (ls [.bool (vp), .int .u64 hp_, .int .u64 lp, .int .u8 bp]) (fun j _ => by rw [Nat.zero_add]) (by decide) _ Tryz.underlying39 rfl inz39 ?_
   refine k_load M (want_on 8 true rfl 82 rfl (by kernel_rfl)) (some 84) rfl 24 _ rfl 0 g1 0 (by kernel_rfl) 3 24 (ls [.bool (v), .int .u64 h, .int .u64 l]) rfl 3 (ls [.bool (v), .int .u64 h, .int .u64 l]) (fun j _ => by rw [Nat.zero_add]) (by decide) _ Tryz.underlying24 rfl inz24 ?_
   rcases Bool.eq_false_or_eq_true (hO vp hp_ lp bp v h l) with c2 | c2
   ·skip
    refine k_call M (want_on 8 true rfl 82 rfl (by kernel_rfl)) (some 85) rfl 28 #[.agg (av 4 (ls [.bool (vp), .int .u64 hp_, .int .u64 lp, .int .u8 bp])), .agg (av 3 (ls [.bool (v), .int .u64 h, .int .u64 l]))] (.bool true) (fun _ => by kernel_rfl) (fun w M => call_val (c_Holds vp hp_ lp bp rn0 rn1 v h l w M.laid) (congrArg Value.bool c2)) ?_
    refine k_load M (want_on 8 true rfl 82 rfl (by kernel_rfl)) (some 86) rfl 39 _ rfl 2 g3 0 (by kernel_rfl) 4 39 (ls [.bool (vp), .int .u64 hp_, .int .u64 lp, .int .u8 bp]) rfl 4 (ls [.bool (vp), .int .u64 hp_, .int .u64 lp, .int .u8 bp]) (fun j _ => by rw [Nat.zero_add]) (by decide) _ Tryz.underlying39 rfl inz39 ?_
    refine k_load M (want_on 8 true rfl 82 rfl (by kernel_rfl)) (some 87) rfl 24 _ rfl 0 g1 0 (by kernel_rfl) 3 24 (ls [.bool (v), .int .u64 h, .int .u64 l]) rfl 3 (ls [.bool (v), .int .u64 h, .int .u64 l]) (fun j _ => by rw [Nat.zero_add]) (by decide) _ Tryz.underlying24 rfl inz24 ?_
    refine k_call M (want_on 8 true rfl 82 rfl (by kernel_rfl)) (some 88) rfl 29 #[.agg (av 4 (ls [.bool (vp), .int .u64 hp_, .int .u64 lp, .int .u8 bp])), .agg (av 3 (ls [.bool (v), .int .u64 h, .int .u64 l]))] (.bool true) (fun _ => by kernel_rfl) (fun w M => call_val (call_val (d_Holds vp hp_ lp bp rn0 rn1 v h l w M.laid) (congrArg Value.bool (rH_hO vp hp_ lp bp v h l rc0 rc1 rd0 rd1 ra0 ra1 rb0 rb1 rn0))) (congrArg Value.bool c2)) ?_
    refine k_val (want_on 8 true rfl 82 rfl (by kernel_rfl)) (some 89) rfl (.bool true) (fun _ => by kernel_rfl) ?_
    refine kV 90 (.bool true) ?_
    refine kV 91 (.bool true) ?_
    refine k_load M (want_on 17 true rfl 91 rfl (by kernel_rfl)) (some 92) rfl 24 _ rfl 0 g1 0 (by kernel_rfl) 3 24 (ls [.bool (v), .int .u64 h, .int .u64 l]) rfl 3 (ls [.bool (v), .int .u64 h, .int .u64 l]) (fun j _ => by rw [Nat.zero_add]) (by decide) _ Tryz.underlying24 rfl inz24 ?_
    refine k_load M (want_on 17 true rfl 91 rfl (by kernel_rfl)) (some 93) rfl 24 _ rfl 1 g2 0 (by kernel_rfl) 3 24 (ls [.bool (v'), .int .u64 h', .int .u64 l']) rfl 3 (ls [.bool (v'), .int .u64 h', .int .u64 l']) (fun j _ => by rw [Nat.zero_add]) (by decide) _ Tryz.underlying24 rfl inz24 ?_
    rcases Bool.eq_false_or_eq_true (lS v h l v' h' l') with c3 | c3
    ·skip
     refine k_call M (want_on 17 true rfl 91 rfl (by kernel_rfl)) (some 94) rfl 30 #[.agg (av 3 (ls [.bool (v), .int .u64 h, .int .u64 l])), .agg (av 3 (ls [.bool (v'), .int .u64 h', .int .u64 l']))] (.bool true) (fun _ => by kernel_rfl) (fun w M => call_val (c_Less v h l v' h' l' w M.laid) (congrArg Value.bool c3)) ?_
     refine k_load M (want_on 17 true rfl 91 rfl (by kernel_rfl)) (some 95) rfl 24 _ rfl 0 g1 0 (by kernel_rfl) 3 24 (ls [.bool (v), .int .u64 h, .int .u64 l]) rfl 3 (ls [.bool (v), .int .u64 h, .int .u64 l]) (fun j _ => by rw [Nat.zero_add]) (by decide) _ Tryz.underlying24 rfl inz24 ?_
     refine k_load M (want_on 17 true rfl 91 rfl (by kernel_rfl)) (some 96) rfl 24 _ rfl 1 g2 0 (by kernel_rfl) 3 24 (ls [.bool (v'), .int .u64 h', .int .u64 l']) rfl 3 (ls [.bool (v'), .int .u64 h', .int .u64 l']) (fun j _ => by rw [Nat.zero_add]) (by decide) _ Tryz.underlying24 rfl inz24 ?_
     refine k_call M (want_on 17 true rfl 91 rfl (by kernel_rfl)) (some 97) rfl 31 #[.agg (av 3 (ls [.bool (v), .int .u64 h, .int .u64 l])), .agg (av 3 (ls [.bool (v'), .int .u64 h', .int .u64 l']))] (.bool true) (fun _ => by kernel_rfl) (fun w M => call_val (d_Less v h l v' h' l' w M.laid) (congrArg Value.bool c3)) ?_
     refine k_val (want_on 17 true rfl 91 rfl (by kernel_rfl)) (some 98) rfl (.bool true) (fun _ => by kernel_rfl) ?_
     refine kV 99 (.bool true) ?_
     refine kV 100 (.bool true) ?_
     refine k_call M (want_on 26 true rfl 100 rfl (by kernel_rfl)) (some 101) rfl 9 #[] (.bool true) (fun _ => by kernel_rfl) (fun w M => c_works w M.laid) ?_
     refine kV 102 (.bool true) ?_
     refine kl_nil fun u17 M => ?_
     refine pV 8 (.bool true) ?_
     refine nT ?_
     refine wp_ret ?_
     exact bodyPost_ret (v := .bool true) (results_tmp1 Tryz.results5 _ _ _ (by kernel_rfl)) (by kernel_rfl) ⟨rfl, below_grown M.old⟩
    ·skip
     refine k_call M (want_on 17 true rfl 91 rfl (by kernel_rfl)) (some 94) rfl 30 #[.agg (av 3 (ls [.bool (v), .int .u64 h, .int .u64 l])), .agg (av 3 (ls [.bool (v'), .int .u64 h', .int .u64 l']))] (.bool false) (fun _ => by kernel_rfl) (fun w M => call_val (c_Less v h l v' h' l' w M.laid) (congrArg Value.bool c3)) ?_
     refine k_load M (want_on 17 true rfl 91 rfl (by kernel_rfl)) (some 95) rfl 24 _ rfl 0 g1 0 (by kernel_rfl) 3 24 (ls [.bool (v), .int .u64 h, .int .u64 l]) rfl 3 (ls [.bool (v), .int .u64 h, .int .u64 l]) (fun j _ => by rw [Nat.zero_add]) (by decide) _ Tryz.underlying24 rfl inz24 ?_
     refine k_load M (want_on 17 true rfl 91 rfl (by kernel_rfl)) (some 96) rfl 24 _ rfl 1 g2 0 (by kernel_rfl) 3 24 (ls [.bool (v'), .int .u64 h', .int .u64 l']) rfl 3 (ls [.bool (v'), .int .u64 h', .int .u64 l']) (fun j _ => by rw [Nat.zero_add]) (by decide) _ Tryz.underlying24 rfl inz24 ?_
     refine k_call M (want_on 17 true rfl 91 rfl (by kernel_rfl)) (some 97) rfl 31 #[.agg (av 3 (ls [.bool (v), .int .u64 h, .int .u64 l])), .agg (av 3 (ls [.bool (v'), .int .u64 h', .int .u64 l']))] (.bool false) (fun _ => by kernel_rfl) (fun w M => call_val (d_Less v h l v' h' l' w M.laid) (congrArg Value.bool c3)) ?_
     refine k_val (want_on 17 true rfl 91 rfl (by kernel_rfl)) (some 98) rfl (.bool true) (fun _ => by kernel_rfl) ?_
     refine kV 99 (.bool true) ?_
     refine kV 100 (.bool true) ?_
     refine k_call M (want_on 26 true rfl 100 rfl (by kernel_rfl)) (some 101) rfl 9 #[] (.bool true) (fun _ => by kernel_rfl) (fun w M => c_works w M.laid) ?_
     refine kV 102 (.bool true) ?_
     refine kl_nil fun u17 M => ?_
     refine pV 8 (.bool true) ?_
     refine nT ?_
     refine wp_ret ?_
     exact bodyPost_ret (v := .bool true) (results_tmp1 Tryz.results5 _ _ _ (by kernel_rfl)) (by kernel_rfl) ⟨rfl, below_grown M.old⟩
   ·skip
    refine k_call M (want_on 8 true rfl 82 rfl (by kernel_rfl)) (some 85) rfl 28 #[.agg (av 4 (ls [.bool (vp), .int .u64 hp_, .int .u64 lp, .int .u8 bp])), .agg (av 3 (ls [.bool (v), .int .u64 h, .int .u64 l]))] (.bool false) (fun _ => by kernel_rfl) (fun w M => call_val (c_Holds vp hp_ lp bp rn0 rn1 v h l w M.laid) (congrArg Value.bool c2)) ?_
    refine k_load M (want_on 8 true rfl 82 rfl (by kernel_rfl)) (some 86) rfl 39 _ rfl 2 g3 0 (by kernel_rfl) 4 39 (ls [.bool (vp), .int .u64 hp_, .int .u64 lp, .int .u8 bp]) rfl 4 (ls [.bool (vp), .int .u64 hp_, .int .u64 lp, .int .u8 bp]) (fun j _ => by rw [Nat.zero_add]) (by decide) _ Tryz.underlying39 rfl inz39 ?_
    refine k_load M (want_on 8 true rfl 82 rfl (by kernel_rfl)) (some 87) rfl 24 _ rfl 0 g1 0 (by kernel_rfl) 3 24 (ls [.bool (v), .int .u64 h, .int .u64 l]) rfl 3 (ls [.bool (v), .int .u64 h, .int .u64 l]) (fun j _ => by rw [Nat.zero_add]) (by decide) _ Tryz.underlying24 rfl inz24 ?_
    refine k_call M (want_on 8 true rfl 82 rfl (by kernel_rfl)) (some 88) rfl 29 #[.agg (av 4 (ls [.bool (vp), .int .u64 hp_, .int .u64 lp, .int .u8 bp])), .agg (av 3 (ls [.bool (v), .int .u64 h, .int .u64 l]))] (.bool false) (fun _ => by kernel_rfl) (fun w M => call_val (call_val (d_Holds vp hp_ lp bp rn0 rn1 v h l w M.laid) (congrArg Value.bool (rH_hO vp hp_ lp bp v h l rc0 rc1 rd0 rd1 ra0 ra1 rb0 rb1 rn0))) (congrArg Value.bool c2)) ?_
    refine k_val (want_on 8 true rfl 82 rfl (by kernel_rfl)) (some 89) rfl (.bool true) (fun _ => by kernel_rfl) ?_
    refine kV 90 (.bool true) ?_
    refine kV 91 (.bool true) ?_
    refine k_load M (want_on 17 true rfl 91 rfl (by kernel_rfl)) (some 92) rfl 24 _ rfl 0 g1 0 (by kernel_rfl) 3 24 (ls [.bool (v), .int .u64 h, .int .u64 l]) rfl 3 (ls [.bool (v), .int .u64 h, .int .u64 l]) (fun j _ => by rw [Nat.zero_add]) (by decide) _ Tryz.underlying24 rfl inz24 ?_
    refine k_load M (want_on 17 true rfl 91 rfl (by kernel_rfl)) (some 93) rfl 24 _ rfl 1 g2 0 (by kernel_rfl) 3 24 (ls [.bool (v'), .int .u64 h', .int .u64 l']) rfl 3 (ls [.bool (v'), .int .u64 h', .int .u64 l']) (fun j _ => by rw [Nat.zero_add]) (by decide) _ Tryz.underlying24 rfl inz24 ?_
    rcases Bool.eq_false_or_eq_true (lS v h l v' h' l') with c3 | c3
    ·skip
     refine k_call M (want_on 17 true rfl 91 rfl (by kernel_rfl)) (some 94) rfl 30 #[.agg (av 3 (ls [.bool (v), .int .u64 h, .int .u64 l])), .agg (av 3 (ls [.bool (v'), .int .u64 h', .int .u64 l']))] (.bool true) (fun _ => by kernel_rfl) (fun w M => call_val (c_Less v h l v' h' l' w M.laid) (congrArg Value.bool c3)) ?_
     refine k_load M (want_on 17 true rfl 91 rfl (by kernel_rfl)) (some 95) rfl 24 _ rfl 0 g1 0 (by kernel_rfl) 3 24 (ls [.bool (v), .int .u64 h, .int .u64 l]) rfl 3 (ls [.bool (v), .int .u64 h, .int .u64 l]) (fun j _ => by rw [Nat.zero_add]) (by decide) _ Tryz.underlying24 rfl inz24 ?_
     refine k_load M (want_on 17 true rfl 91 rfl (by kernel_rfl)) (some 96) rfl 24 _ rfl 1 g2 0 (by kernel_rfl) 3 24 (ls [.bool (v'), .int .u64 h', .int .u64 l']) rfl 3 (ls [.bool (v'), .int .u64 h', .int .u64 l']) (fun j _ => by rw [Nat.zero_add]) (by decide) _ Tryz.underlying24 rfl inz24 ?_
     refine k_call M (want_on 17 true rfl 91 rfl (by kernel_rfl)) (some 97) rfl 31 #[.agg (av 3 (ls [.bool (v), .int .u64 h, .int .u64 l])), .agg (av 3 (ls [.bool (v'), .int .u64 h', .int .u64 l']))] (.bool true) (fun _ => by kernel_rfl) (fun w M => call_val (d_Less v h l v' h' l' w M.laid) (congrArg Value.bool c3)) ?_
     refine k_val (want_on 17 true rfl 91 rfl (by kernel_rfl)) (some 98) rfl (.bool true) (fun _ => by kernel_rfl) ?_
     refine kV 99 (.bool true) ?_
     refine kV 100 (.bool true) ?_
     refine k_call M (want_on 26 true rfl 100 rfl (by kernel_rfl)) (some 101) rfl 9 #[] (.bool true) (fun _ => by kernel_rfl) (fun w M => c_works w M.laid) ?_
     refine kV 102 (.bool true) ?_
     refine kl_nil fun u17 M => ?_
     refine pV 8 (.bool true) ?_
     refine nT ?_
     refine wp_ret ?_
     exact bodyPost_ret (v := .bool true) (results_tmp1 Tryz.results5 _ _ _ (by kernel_rfl)) (by kernel_rfl) ⟨rfl, below_grown M.old⟩
    ·skip
     refine k_call M (want_on 17 true rfl 91 rfl (by kernel_rfl)) (some 94) rfl 30 #[.agg (av 3 (ls [.bool (v), .int .u64 h, .int .u64 l])), .agg (av 3 (ls [.bool (v'), .int .u64 h', .int .u64 l']))] (.bool false) (fun _ => by kernel_rfl) (fun w M => call_val (c_Less v h l v' h' l' w M.laid) (congrArg Value.bool c3)) ?_
     refine k_load M (want_on 17 true rfl 91 rfl (by kernel_rfl)) (some 95) rfl 24 _ rfl 0 g1 0 (by kernel_rfl) 3 24 (ls [.bool (v), .int .u64 h, .int .u64 l]) rfl 3 (ls [.bool (v), .int .u64 h, .int .u64 l]) (fun j _ => by rw [Nat.zero_add]) (by decide) _ Tryz.underlying24 rfl inz24 ?_
     refine k_load M (want_on 17 true rfl 91 rfl (by kernel_rfl)) (some 96) rfl 24 _ rfl 1 g2 0 (by kernel_rfl) 3 24 (ls [.bool (v'), .int .u64 h', .int .u64 l']) rfl 3 (ls [.bool (v'), .int .u64 h', .int .u64 l']) (fun j _ => by rw [Nat.zero_add]) (by decide) _ Tryz.underlying24 rfl inz24 ?_
     refine k_call M (want_on 17 true rfl 91 rfl (by kernel_rfl)) (some 97) rfl 31 #[.agg (av 3 (ls [.bool (v), .int .u64 h, .int .u64 l])), .agg (av 3 (ls [.bool (v'), .int .u64 h', .int .u64 l']))] (.bool false) (fun _ => by kernel_rfl) (fun w M => call_val (d_Less v h l v' h' l' w M.laid) (congrArg Value.bool c3)) ?_
     refine k_val (want_on 17 true rfl 91 rfl (by kernel_rfl)) (some 98) rfl (.bool true) (fun _ => by kernel_rfl) ?_
     refine kV 99 (.bool true) ?_
     refine kV 100 (.bool true) ?_
     refine k_call M (want_on 26 true rfl 100 rfl (by kernel_rfl)) (some 101) rfl 9 #[] (.bool true) (fun _ => by kernel_rfl) (fun w M => c_works w M.laid) ?_
     refine kV 102 (.bool true) ?_
     refine kl_nil fun u17 M => ?_
     refine pV 8 (.bool true) ?_
     refine nT ?_
     refine wp_ret ?_
     exact bodyPost_ret (v := .bool true) (results_tmp1 Tryz.results5 _ _ _ (by kernel_rfl)) (by kernel_rfl) ⟨rfl, below_grown M.old⟩
end Go.Proofs.YtndonmdgplojnaaGreatDoor

namespace Go.Proofs.YtndonmdgplojnaaGreatDoor
open Go.RowKit
set_option maxRecDepth 100000
def lay7 : List (String × DataW Unit) := [("math/bits.deBruijn32tab", Rows.laid_math_bits_deBruijn32tab), ("math/bits.deBruijn64tab", Rows.laid_math_bits_deBruijn64tab), ("internal/strconv.uint64pow10", Rows.laid_internal_strconv_uint64pow10), ("unicode/utf8.acceptRanges", Rows.laid_unicode_utf8_acceptRanges), ("strconv.ErrRange", Rows.laid_strconv_ErrRange), ("strconv.ErrSyntax", Rows.laid_strconv_ErrSyntax), ("unicode/utf8.first", Rows.laid_unicode_utf8_first)]
def db64 : List Int := [0, 1, 56, 2, 57, 49, 28, 3, 61, 58, 42, 50, 38, 29, 17, 4, 62, 47, 59, 36, 45, 43, 51, 22, 53, 39, 33, 30, 24, 18, 12, 5, 63, 55, 48, 27, 60, 41, 37, 16, 46, 35, 44, 21, 52, 32, 23, 11, 54, 26, 40, 15, 34, 20, 31, 10, 25, 14, 19, 9, 13, 8, 7, 6]
theorem tab_of {W : World} {name : String} {k : IntKind} {zs : List Int} {g : Nat} {t e : TypeId} {n : Nat} {d : DataW Unit} (hd : d = Lib.tabData k zs) (hg : Tryz.prog.globalNamed name = some g) (hty : (Tryz.prog.globals[g]?).map (·.type) = some t) (ht : Tryz.prog.underlying t = some (.array n e)) (he : Tryz.prog.underlying e = some (.int k)) (hce : Tryz.prog.cellsOf e = 1) (hct : Tryz.prog.cellsOf t = n)
  {g' : Nat} {t' : TypeId} {cs : Array Value} {fuel : Nat} {p : List MemPlace} (hg' : Tryz.prog.globalNamed name = some g') (ht' : (Tryz.prog.globals[g']?).map (·.type) = some t') (hv : W.var? Tryz.prog name = some cs) (h : DataW.trod (fun _ => ()) Tryz.prog W 0 (fun _ => true) false fuel t' cs.toList = some (d, p)) : Lib.TabIs Tryz.prog W name k zs := by
 subst hd
 obtain rfl := Option.some.inj (hg.symm.trans hg')
 obtain rfl := Option.some.inj (hty.symm.trans ht')
 unfold Lib.TabIs
 rw [hv, ← Lib.cells_of_tab ht he hce hct h]
theorem err_of {W : World} {name : String} {g : Nat} {nm : String} {d : DataW Unit} (hg : Tryz.prog.globalNamed name = some g) (hty : (Tryz.prog.globals[g]?).map (·.type) = some 90)
  {g' : Nat} {t' : TypeId} {cs : Array Value} {fuel : Nat} {p : List MemPlace} (hg' : Tryz.prog.globalNamed name = some g') (ht' : (Tryz.prog.globals[g']?).map (·.type) = some t') (hv : W.var? Tryz.prog name = some cs) (h : DataW.trod (fun _ => ()) Tryz.prog W 0 (fun _ => true) false fuel t' cs.toList = some (.iface nm d, p)) : ∃ t p, W.cell? ⟨g, 0, none⟩ = some (.iface t p) := by
 obtain rfl := Option.some.inj (hg.symm.trans hg')
 obtain rfl := Option.some.inj (hty.symm.trans ht')
 obtain ⟨_, u, v, hc, _⟩ := iface_of_trod Tryz.underlying90 h
 refine ⟨u, v, ?_⟩
 rw [World.var?_cell hg hv 0, ← Array.getElem?_toList, hc]
 rfl
theorem var_lt {W : World} {name : String} {g : Nat} {cs : Array Value} (hg : Tryz.prog.globalNamed name = some g) (hv : W.var? Tryz.prog name = some cs) : g < W.heap.size := by
 unfold World.var? at hv
 rw [hg, Option.bind_some] at hv
 by_cases h : g < W.heap.size
 ·exact h
 ·rw [Array.getElem?_eq_none (by omega)] at hv
  cases hv
theorem laid_of {W : World} (h0 : laidMetH Tryz.prog lay7 W) (hs : W.ShapedOpen Tryz.prog) : Laid W := by
 have h : laidMet Tryz.prog lay7 W := h0
 obtain ⟨ps, ⟨_, _, _, _, _, _, _, _, _, _, ⟨g2, t2, c2, f2, p2, _, hg2, ht2, hv2, hd2, ⟨g3, t3, c3, f3, p3, _, hg3, ht3, hv3, hd3, ⟨_, _, _, _, _, _, _, _, hv4, _, ⟨g5, t5, c5, f5, p5, _, hg5, ht5, hv5, hd5, ⟨g6, t6, c6, f6, p6, _, hg6, ht6, hv6, hd6, _, _⟩, _⟩, _⟩, _⟩, _⟩, _⟩, _⟩ := h
 refine ⟨cell_of_shapedOpen_int hs (g := 0) (t := 3) (zero := #[.int .i64 0]) (by decide) (by kernel_rfl) rfl (by kernel_rfl) (by kernel_rfl) Tryz.underlying3, ?_, ?_, ?_, ?_, ?_⟩
 ·exact tab_of (g := 1) (by kernel_rfl) (by kernel_rfl) (by kernel_rfl) Tryz.underlying144 Tryz.underlying22 (by kernel_rfl) (by kernel_rfl) hg3 ht3 hv3 hd3
 ·exact err_of (by kernel_rfl) (by kernel_rfl) hg6 ht6 hv6 hd6
 ·exact err_of (by kernel_rfl) (by kernel_rfl) hg5 ht5 hv5 hd5
 ·have := tab_of (g := 5) (zs := db64) (by kernel_rfl) (by kernel_rfl) (by kernel_rfl) Tryz.underlying166 Tryz.underlying5 (by kernel_rfl) (by kernel_rfl) hg2 ht2 hv2 hd2
  exact this.cell (by kernel_rfl) 15 (by decide)
 ·have hg : Tryz.prog.globalNamed "unicode/utf8.acceptRanges" = some 7 := by kernel_rfl
  have := var_lt hg hv4
  omega
theorem lay_witness (os : Os) (args : Array Value) : laidMetH Tryz.prog lay7 ((World.laidAll Tryz.prog os lay7).forCall (fun _ _ => 0) ⟨#[], args, []⟩).memory := laidMet_laidAll (laid := lay7) args (by kernel_rfl) (by kernel_rfl)
theorem handed_laid {H : Type} {enc : TypeId × Value → H} {os : Os} {f : FuncId} {fn : Func} {s : ChangeSpec} {conds : List PathCond} (own : ownKnob Tryz.prog.godebug = none) (started : os.Started) (noInit : Tryz.prog.inits.idxOf? f = none) (hfn : Tryz.prog.funcs[f]? = some fn)
  (wit : ∃ (w : World) (tape : Tape) (i : Input), w.os = os ∧ (w.forCall tape i).Shaped Tryz.checked.prog ∧ i.vars = [] ∧ Input.okWide Tryz.checked.prog (w.forCall tape i) .any w.heap.size f i ∧ ((s.pre enc Tryz.checked.prog fn conds false (w.forCall tape i).memory i.args ∧ laidMetH Tryz.checked.prog lay7 (w.forCall tape i).memory) ∧ sizedMet enc Tryz.checked.prog fn (OpenSpec.ofChange s) false (w.forCall tape i).memory i.args) ∧ ({} : Assume).holds Tryz.checked.prog (lone (Frame.enter Tryz.checked.prog f i.args .normal) [] (w.forCall tape i)))
  (contract : ∀ (W : World) (base : Nat) (args : Array Value) (ds gs : List (DataW H)) (before : List MemPlace), (∀ (j : Nat) t v, fn.params[j]? = some t → args[j]? = some v → Value.okWide Tryz.prog W .any base t v) → DataW.Whole enc Tryz.prog fn.params.toList s.vars false W args.toList ds gs before → Laid W →
   Calls Tryz.prog f args W fun e W' => ∃ v, e = .returned v ∧ s.post enc Tryz.prog fn false true false false W args v W') :
  ReturnsInHanded {} Tryz.checked os f .any (fun w args => (s.pre enc Tryz.checked.prog fn conds false w args ∧ laidMetH Tryz.checked.prog lay7 w) ∧ sizedMet enc Tryz.checked.prog fn (OpenSpec.ofChange s) false w args) (s.post enc Tryz.checked.prog fn false true false false) := by
 refine returnsInHanded_of_calls own started noInit wit fun w tape i _ hsh _ hok hpre _ => ?_
 obtain ⟨_, _, _, fn2, hfn2, _, _, _, _, hval⟩ := hok
 obtain rfl : fn2 = fn := Option.some.inj (hfn2.symm.trans hfn)
 obtain ⟨⟨⟨ds, gs, before, hw, _⟩, hx⟩, _⟩ := hpre
 have hx2 : laidMetH Tryz.prog lay7 (w.forCall tape i) := laidMetH.of_heap (by rfl) hx
 have hl : Laid (w.forCall tape i) := laid_of hx2 hsh
 have hw' := DataW.Whole.of_heap (w' := w.forCall tape i) (by rfl) hw
 refine (contract (w.forCall tape i) w.heap.size i.args ds gs before hval hw' hl).mono fun e W' ⟨v, he, hp⟩ => ?_
 subst he
 exact ChangeSpec.post_blind hp
theorem laidOut : laidOutB Tryz.prog = true := by kernel_rfl
theorem ownNone : ownKnob Tryz.prog.godebug = none := by kernel_rfl
section
variable {W : World} {b0 : Nat} {v : Value}
theorem cell_bool (h : Cell.okWide Tryz.prog W .any b0 4 v) : ∃ b, v = .bool b := by
 simp only [Cell.okWide, Tryz.underlying4] at h
 cases v <;> simp_all [Cell.ok, Tryz.underlying4]
theorem cell_u64 (h : Cell.okWide Tryz.prog W .any b0 22 v) : ∃ n, v = .int .u64 n ∧ 0 ≤ n ∧ n < 18446744073709551616 := by
 simp only [Cell.okWide, Tryz.underlying22] at h
 cases v <;> simp_all [Cell.ok, Tryz.underlying22]
 rename_i k n
 obtain ⟨rfl, h1, h2⟩ := h
 simp [IntKind.min, IntKind.max, IntKind.bits, IntKind.signed] at h1 h2
 exact ⟨h1, by omega⟩
theorem cell_u8 (h : Cell.okWide Tryz.prog W .any b0 5 v) : ∃ n, v = .int .u8 n ∧ 0 ≤ n ∧ n < 256 := by
 simp only [Cell.okWide, Tryz.underlying5] at h
 cases v <;> simp_all [Cell.ok, Tryz.underlying5]
 rename_i k n
 obtain ⟨rfl, h1, h2⟩ := h
 simp [IntKind.min, IntKind.max, IntKind.bits, IntKind.signed] at h1 h2
 exact ⟨h1, by omega⟩
theorem cell_str (h : Cell.okWide Tryz.prog W .any b0 9 v) : ∃ s, v = .string s := by
 simp only [Cell.okWide, Tryz.underlying9] at h
 cases v <;> simp_all [Cell.ok, Tryz.underlying9]
theorem op9 (h : Value.okWide Tryz.prog W .any b0 9 v) : ∃ s, v = .string s := by
 simp only [Value.okWide, Tryz.underlying9] at h
 exact cell_str h
theorem row_av (cs : Array Value) (l : List Value) (hs : cs.size = l.length) (h : ∀ i, i < l.length → cs[i]? = l[i]?) : cs = av l.length (ls l) := by
 apply Array.ext_getElem?
 intro i
 by_cases hi : i < l.length
 ·rw [h i hi, av_get _ _ _ hi]
  unfold ls
  rw [getD_app, List.getElem?_eq_getElem hi]
  rfl
 ·rw [Array.getElem?_eq_none (by omega), Array.getElem?_eq_none (by rw [av_size]; omega)]
end
theorem row_cells {W : World} {b0 : Nat} {t : TypeId} {v : Value} {fs : Array Field} {ts : List TypeId} (ht : Tryz.prog.underlying t = some (.struct fs)) (hc : Tryz.prog.cellTypes Tryz.prog.depth t = some ts) (hn : Tryz.prog.cellsOf t = ts.length) (h : Value.okWide Tryz.prog W .any b0 t v) : ∃ cs, v = .agg cs ∧ cs.size = ts.length ∧ ∀ (i : Nat) (u : TypeId), ts[i]? = some u → ∃ x, cs[i]? = some x ∧ Cell.okWide Tryz.prog W .any b0 u x := by
 simp only [Value.okWide, ht] at h
 obtain ⟨cs, rfl, h2, ts2, h3, _, h4⟩ := h
 rw [hc] at h3
 cases h3
 refine ⟨cs, rfl, by omega, fun i u hu => ?_⟩
 have hi := (List.getElem?_eq_some_iff.1 hu).1
 obtain ⟨u2, hu2, hx⟩ := h4 i cs[i] (Array.getElem?_eq_getElem (by omega))
 rw [Nat.mod_eq_of_lt hi, hu] at hu2
 cases hu2
 exact ⟨cs[i], Array.getElem?_eq_getElem (by omega), hx⟩
theorem op24 {W : World} {b0 : Nat} {v : Value} (h : Value.okWide Tryz.prog W .any b0 24 v) : ∃ (b : Bool) (h1 : Int) (l1 : Int), v = .agg (av 3 (ls [.bool b, .int .u64 h1, .int .u64 l1])) ∧ (0 ≤ h1 ∧ h1 < 18446744073709551616) ∧ (0 ≤ l1 ∧ l1 < 18446744073709551616) := by
 obtain ⟨cs, rfl, hs, hc⟩ := row_cells (ts := [4, 22, 22]) Tryz.underlying24 (by kernel_rfl) (by kernel_rfl) h
 obtain ⟨x0, e0, o0⟩ := hc 0 4 rfl
 obtain ⟨b, rfl⟩ := cell_bool o0
 obtain ⟨x1, e1, o1⟩ := hc 1 22 rfl
 obtain ⟨h1, rfl, r1⟩ := cell_u64 o1
 obtain ⟨x2, e2, o2⟩ := hc 2 22 rfl
 obtain ⟨l1, rfl, r2⟩ := cell_u64 o2
 refine ⟨b, h1, l1, congrArg Value.agg (row_av cs [.bool b, .int .u64 h1, .int .u64 l1] hs fun i hi => ?_), r1, r2⟩
 rcases i with _ | _ | _ | i
 ·exact e0
 ·exact e1
 ·exact e2
 ·exact absurd hi (by simp)
theorem op39 {W : World} {b0 : Nat} {v : Value} (h : Value.okWide Tryz.prog W .any b0 39 v) : ∃ (b : Bool) (h1 : Int) (l1 : Int) (n1 : Int), v = .agg (av 4 (ls [.bool b, .int .u64 h1, .int .u64 l1, .int .u8 n1])) ∧ (0 ≤ h1 ∧ h1 < 18446744073709551616) ∧ (0 ≤ l1 ∧ l1 < 18446744073709551616) ∧ (0 ≤ n1 ∧ n1 < 256) := by
 obtain ⟨cs, rfl, hs, hc⟩ := row_cells (ts := [4, 22, 22, 5]) Tryz.underlying39 (by kernel_rfl) (by kernel_rfl) h
 obtain ⟨x0, e0, o0⟩ := hc 0 4 rfl
 obtain ⟨b, rfl⟩ := cell_bool o0
 obtain ⟨x1, e1, o1⟩ := hc 1 22 rfl
 obtain ⟨h1, rfl, r1⟩ := cell_u64 o1
 obtain ⟨x2, e2, o2⟩ := hc 2 22 rfl
 obtain ⟨l1, rfl, r2⟩ := cell_u64 o2
 obtain ⟨x3, e3, o3⟩ := hc 3 5 rfl
 obtain ⟨n1, rfl, r3⟩ := cell_u8 o3
 refine ⟨b, h1, l1, n1, congrArg Value.agg (row_av cs [.bool b, .int .u64 h1, .int .u64 l1, .int .u8 n1] hs fun i hi => ?_), r1, r2, r3⟩
 rcases i with _ | _ | _ | _ | i
 ·exact e0
 ·exact e1
 ·exact e2
 ·exact e3
 ·exact absurd hi (by simp)
end Go.Proofs.YtndonmdgplojnaaGreatDoor
