/- Part 7 of the walks and facts behind ipBack_holds. -/
import Derived.Test.YtndonmdgplojnaaGreatDoorBa6
import Derived.HandedShaped
import Derived.Lay
import Derived.OpenShut
import Derived.ProofKit
import Derived.Shelf.Vars
import Derived.Test.YtndonmdgplojnaaGreatDoorRows
import Derived.Test.YtndonmdgplojnaaGreatDoorTie
/- What was written is read, and what is read is written as it was: the walk of IpBack. -/
namespace Go.Proofs.YtndonmdgplojnaaGreatDoor
open Go.RowKit

theorem cut_at {P : Program} {x : Code} {K I : Act → World → Prop} {Q : Exit → Act → World → Prop} {a : Act} {w : World} (h1 : x.wp P (Exit.then I Q) a w) (h2 : ∀ a w, I a w → K a w) : x.wp P (Exit.then K Q) a w :=
  wp_mono h1 fun e a w h => by
    cases e <;> first | exact h2 _ _ h | exact h
theorem enS_six (v0 : Bool) (h0 : Int) (l0 : Int) (v1 : Bool) (h1 : Int) (l1 : Int) (p : Int) (t : Int) (d : ByteArray) (hp : 0 ≤ p ∧ p < 256) (ht : 0 ≤ t ∧ t < 256) (hm : my v0 h0 l0 v1 h1 l1 (d.size : Int) = 0) (hv : v0 = true) : enS v0 h0 l0 v1 h1 l1 p t d = dE6 h0 l0 h1 l1 p t d true true ∧ 40 + d.size ≤ 1500 := by
  obtain ⟨e, hs, _, _⟩ := my_ok hm
  subst hv e
  have hh : hdr true = 40 := rfl
  refine ⟨?_, by omega⟩
  rw [enS_eq h0 l0 h1 l1 p t d hp ht true true]
  unfold dE
  rw [if_pos hm, if_pos rfl]
theorem enS_four (v0 : Bool) (h0 : Int) (l0 : Int) (v1 : Bool) (h1 : Int) (l1 : Int) (p : Int) (t : Int) (d : ByteArray) (hp : 0 ≤ p ∧ p < 256) (ht : 0 ≤ t ∧ t < 256) (hm : my v0 h0 l0 v1 h1 l1 (d.size : Int) = 0) (hv : v0 = false) : enS v0 h0 l0 v1 h1 l1 p t d = dE4 h0 l0 h1 l1 p t d false false ∧ 20 + d.size ≤ 1500 := by
  obtain ⟨e, hs, _, _⟩ := my_ok hm
  subst hv e
  have hh : hdr false = 20 := rfl
  refine ⟨?_, by omega⟩
  rw [enS_eq h0 l0 h1 l1 p t d hp ht false false]
  unfold dE
  rw [if_pos hm, if_neg (by decide)]
theorem c_DecX (v0 : Bool) (h0 : Int) (l0 : Int) (v1 : Bool) (h1 : Int) (l1 : Int) (p : Int) (t : Int) (d : ByteArray) (hp : 0 ≤ p ∧ p < 256) (ht : 0 ≤ t ∧ t < 256) (hm : my v0 h0 l0 v1 h1 l1 (d.size : Int) = 0) (hv : v0 = true) (hx : exB p = true) (w : World) (hL : Laid w) : Calls Tryz.prog 16 #[.string (enS v0 h0 l0 v1 h1 l1 p t d)] w fun r w' => r = .returned (.tuple #[.agg (av 9 (ls [.bool false, .int .u64 0, .int .u64 0, .bool false, .int .u64 0, .int .u64 0, .int .u8 0, .int .u8 0, .string ⟨#[]⟩])), .int .i64 133]) ∧ Below w.heap.size w w' := by
  obtain ⟨e, hs⟩ := enS_six v0 h0 l0 v1 h1 l1 p t d hp ht hm hv
  have z := dE6_size h0 l0 h1 l1 p t d
  rw [e]
  refine call_val (call_val (c_Decode _ (by omega) w hL) (dec_eq _)) ?_
  rw [six_err h0 l0 h1 l1 p t d hp ht hs, if_pos hx]
  rfl
theorem c_DecO (v0 : Bool) (h0 : Int) (l0 : Int) (v1 : Bool) (h1 : Int) (l1 : Int) (p : Int) (t : Int) (d : ByteArray) (h00 : 0 ≤ h0) (h01 : h0 < 18446744073709551616) (l00 : 0 ≤ l0) (l01 : l0 < 18446744073709551616) (h10 : 0 ≤ h1) (h11 : h1 < 18446744073709551616) (l10 : 0 ≤ l1) (l11 : l1 < 18446744073709551616) (hp : 0 ≤ p ∧ p < 256) (ht : 0 ≤ t ∧ t < 256) (hm : my v0 h0 l0 v1 h1 l1 (d.size : Int) = 0) (hx : ¬ (v0 = true ∧ exB p = true)) (w : World) (hL : Laid w) : Calls Tryz.prog 16 #[.string (enS v0 h0 l0 v1 h1 l1 p t d)] w fun r w' => r = .returned (.tuple #[.agg (av 9 (ls [.bool v0, .int .u64 h0, .int .u64 l0, .bool v1, .int .u64 h1, .int .u64 l1, .int .u8 p, .int .u8 t, .string d])), .int .i64 0]) ∧ Below w.heap.size w w' := by
  obtain ⟨ev, _, m0, m1⟩ := my_ok hm
  have z0 : ∀ x, zI 0 x = x := fun x => if_pos rfl
  have zb : ∀ x, zB 0 x = x := fun x => if_pos rfl
  have zs : ∀ x, zS 0 x = x := fun x => if_pos rfl
  cases v0
  · obtain ⟨e, hs⟩ := enS_four false h0 l0 v1 h1 l1 p t d hp ht hm rfl
    subst ev
    have z := dE4_size h0 l0 h1 l1 p t d
    obtain ⟨_, _, e12, e16, e20, _⟩ := four_parts h0 l0 h1 l1 p t d
    obtain ⟨b0, b8, b9⟩ := four_bt h0 l0 h1 l1 p t d hp ht
    have n6 : ¬ sr (69 : Int) 4 = 6 := by decide
    unfold mA at m0 m1
    simp only [Bool.false_or, Bool.and_eq_true, decide_eq_true_eq] at m0 m1
    rw [e]
    refine call_val (call_val (c_Decode _ (by omega) w hL) (dec_eq _)) ?_
    rw [four_err h0 l0 h1 l1 p t d hp ht hs]
    simp only [z0, zb, zs]
    rw [b0, if_neg n6, if_neg n6, if_neg n6, if_neg n6, if_neg n6, if_neg n6, if_neg n6, decide_eq_false n6, e12, e16, e20, b8, b9, bdv_be4 l0 l00 m0.2, bdv_be4 l1 l10 m1.2, m0.1, m1.1]
  · obtain ⟨e, hs⟩ := enS_six true h0 l0 v1 h1 l1 p t d hp ht hm rfl
    subst ev
    have z := dE6_size h0 l0 h1 l1 p t d
    obtain ⟨_, e8, e16, e24, e32, e40⟩ := six_parts h0 l0 h1 l1 p t d
    obtain ⟨b0, b6, b7⟩ := six_bt h0 l0 h1 l1 p t d hp ht
    have n6 : sr (96 : Int) 4 = 6 := rfl
    rw [e]
    refine call_val (call_val (c_Decode _ (by omega) w hL) (dec_eq _)) ?_
    rw [six_err h0 l0 h1 l1 p t d hp ht hs, if_neg fun h => hx ⟨rfl, h⟩]
    simp only [z0, zb, zs]
    rw [b0, if_pos n6, if_pos n6, if_pos n6, if_pos n6, if_pos n6, if_pos n6, if_pos n6, decide_eq_true n6, e8, e16, e24, e32, e40, b6, b7, bdv_be8 h0 h00 h01, bdv_be8 l0 l00 l01, bdv_be8 h1 h10 h11, bdv_be8 l1 l10 l11]
theorem my_six (h0 l0 h1 l1 : Int) (n : Int) (h : 40 + n ≤ 1500) : my true h0 l0 true h1 l1 n = 0 := by
  have hh : hdr true = 40 := rfl
  have e : (mA true h0 l0 && mA true h1 l1 && decide (true = true)) = true := rfl
  unfold my
  rw [if_pos e, if_neg (by omega)]
theorem my_four (l0 l1 : Int) (n : Int) (h : 20 + n ≤ 1500) (a : l0 < 4294967296) (b : l1 < 4294967296) : my false 0 l0 false 0 l1 n = 0 := by
  have hh : hdr false = 20 := rfl
  have e : (mA false 0 l0 && mA false 0 l1 && decide (false = false)) = true := by
    unfold mA
    rw [decide_eq_true a, decide_eq_true b]
    rfl
  unfold my
  rw [if_pos e, if_neg (by omega)]
theorem c_EncR (s : ByteArray) (he : rcE s = 0) (w : World) (hL : Laid w) : Calls Tryz.prog 10 #[.agg (av 9 (ls [.bool (zB (rcE s) (decide ((sr (bt s 0) 4) = 6))), .int .u64 (zI (rcE s) (if (sr (bt s 0) 4) = 6 then (bdv (s.extract 8 16)) else 0)), .int .u64 (zI (rcE s) (if (sr (bt s 0) 4) = 6 then (bdv (s.extract 16 24)) else (bdv (s.extract 12 16)))), .bool (zB (rcE s) (decide ((sr (bt s 0) 4) = 6))), .int .u64 (zI (rcE s) (if (sr (bt s 0) 4) = 6 then (bdv (s.extract 24 32)) else 0)), .int .u64 (zI (rcE s) (if (sr (bt s 0) 4) = 6 then (bdv (s.extract 32 40)) else (bdv (s.extract 16 20)))), .int .u8 (zI (rcE s) (if (sr (bt s 0) 4) = 6 then (bt s 6) else (bt s 9))), .int .u8 (zI (rcE s) (if (sr (bt s 0) 4) = 6 then (bt s 7) else (bt s 8))), .string (zS (rcE s) (if (sr (bt s 0) 4) = 6 then (s.extract 40 s.size) else (s.extract 20 s.size)))]))] w fun r w' => r = .returned (.tuple #[.string (reU s), .int .i64 0]) ∧ Below w.heap.size w w' := by
  have z0 : ∀ x, zI 0 x = x := fun x => if_pos rfl
  have zb : ∀ x, zB 0 x = x := fun x => if_pos rfl
  have zs : ∀ x, zS 0 x = x := fun x => if_pos rfl
  simp only [he, z0, zb, zs]
  unfold reU
  by_cases h6 : sr (bt s 0) 4 = 6
  · obtain ⟨a, b, _⟩ := rc6 s he h6
    have zd : (s.extract 40 s.size).size = s.size - 40 := by rw [ByteArray.size_extract]; omega
    simp only [if_pos h6, decide_eq_true h6]
    refine call_val (c_Encode true (bdv (s.extract 8 16)) (bdv (s.extract 16 24)) true (bdv (s.extract 24 32)) (bdv (s.extract 32 40)) (bt s 6) (bt s 7) (s.extract 40 s.size) (by omega) (bt_nn s 6) (bt_nn s 7) w hL) ?_
    have hm := my_six (bdv (s.extract 8 16)) (bdv (s.extract 16 24)) (bdv (s.extract 24 32)) (bdv (s.extract 32 40)) ((s.extract 40 s.size).size : Int) (by omega)
    rw [hm, (enS_six true _ _ true _ _ _ _ _ (bt_nn s 6) (bt_nn s 7) hm rfl).1]
    rfl
  · obtain ⟨a, b, _⟩ := rc4 s he h6
    have zd : (s.extract 20 s.size).size = s.size - 20 := by rw [ByteArray.size_extract]; omega
    have y1 := bdv_lt (s.extract 12 16) 4 (by decide) (by rw [ByteArray.size_extract]; omega)
    have y2 := bdv_lt (s.extract 16 20) 4 (by decide) (by rw [ByteArray.size_extract]; omega)
    simp only [if_neg h6, decide_eq_false h6]
    refine call_val (c_Encode false 0 (bdv (s.extract 12 16)) false 0 (bdv (s.extract 16 20)) (bt s 9) (bt s 8) (s.extract 20 s.size) (by omega) (bt_nn s 9) (bt_nn s 8) w hL) ?_
    have hm := my_four (bdv (s.extract 12 16)) (bdv (s.extract 16 20)) ((s.extract 20 s.size).size : Int) (by omega) y1.2 y2.2
    rw [hm, (enS_four false _ _ false _ _ _ _ _ (bt_nn s 9) (bt_nn s 8) hm rfl).1]
    rfl
theorem ob8_zero (x y : Int) (h0 : 0 ≤ x ∧ x < 256) (h1 : 0 ≤ y ∧ y < 256) (h : ob8 x y = 0) : x = 0 ∧ y = 0 := by
  obtain ⟨n, rfl⟩ := Int.eq_ofNat_of_zero_le h0.1
  obtain ⟨m, rfl⟩ := Int.eq_ofNat_of_zero_le h1.1
  have e1 : BitVec.ofInt 8 (n : Int) = BitVec.ofNat 8 n := rfl
  have e2 : BitVec.ofInt 8 (m : Int) = BitVec.ofNat 8 m := rfl
  have hlt : n ||| m < 2 ^ 8 := Nat.or_lt_two_pow (by omega) (by omega)
  unfold ob8 at h
  rw [e1, e2, BitVec.toNat_or, BitVec.toNat_ofNat, BitVec.toNat_ofNat, Nat.mod_eq_of_lt (by omega), Nat.mod_eq_of_lt (by omega)] at h
  simp only [IntKind.wrap, IntKind.signed, IntKind.bits] at h
  simp at h
  have hz : n ||| m = 0 := by omega
  have := Nat.or_eq_zero_iff.1 hz
  omega
theorem or3 (s : ByteArray) (h : ob8 (ob8 (bt s 1) (bt s 2)) (bt s 3) = 0) : bt s 1 = 0 ∧ bt s 2 = 0 ∧ bt s 3 = 0 := by
  obtain ⟨a, b⟩ := ob8_zero _ _ (ob8_nn _ _) (bt_nn s 3) h
  obtain ⟨c, e⟩ := ob8_zero _ _ (bt_nn s 1) (bt_nn s 2) a
  exact ⟨c, e, b⟩
theorem zD (s : ByteArray) (he : rcE s = 0) : (zS (rcE s) (if (sr (bt s 0) 4) = 6 then (s.extract 40 s.size) else (s.extract 20 s.size))) = reD s := by
  unfold reD zS
  rw [if_pos he]
theorem ptx_size (v : Bool) (h l b : Int) : (ptx v h l b).size ≤ 200000 := by
  have z1 : (⟨#[47]⟩ : ByteArray).size = 1 := rfl
  have z0 : (⟨#[]⟩ : ByteArray).size = 0 := rfl
  have zt : (txt v h l).size ≤ 39 := by
    unfold txt
    split
    · split
      · exact tx6_size h l
      · exact tx4_size l
    · omega
  have zd := dcT_size b
  unfold ptx
  split
  · rw [ByteArray.size_append, ByteArray.size_append, z1]
    omega
  · omega
set_option maxRecDepth 100000 in
set_option maxHeartbeats 4000000 in
set_option linter.unusedSimpArgs false in
theorem c_back (v0 : Bool) (h0 l0 : Int) (v1 : Bool) (h1 l1 p t : Int) (d : ByteArray) (h00 : 0 ≤ h0) (h01 : h0 < 18446744073709551616) (l00 : 0 ≤ l0) (l01 : l0 < 18446744073709551616) (h10 : 0 ≤ h1) (h11 : h1 < 18446744073709551616) (l10 : 0 ≤ l1) (l11 : l1 < 18446744073709551616) (hp : 0 ≤ p ∧ p < 256) (ht : 0 ≤ t ∧ t < 256) (s : ByteArray) (va : Bool) (ha la : Int) (ha0 : 0 ≤ ha) (ha1 : ha < 18446744073709551616) (la0 : 0 ≤ la) (la1 : la < 18446744073709551616) (vx : Bool) (hx_ lx bx : Int) (hx0 : 0 ≤ hx_) (hx1 : hx_ < 18446744073709551616) (lx0 : 0 ≤ lx) (lx1 : lx < 18446744073709551616) (bx0 : 0 ≤ bx) (bx1 : bx < 256) (w : World) (hL : Laid w)  :
    Calls Tryz.prog 6 #[.agg (av 9 (ls [.bool (v0), .int .u64 h0, .int .u64 l0, .bool (v1), .int .u64 h1, .int .u64 l1, .int .u8 p, .int .u8 t, .string d])), .string s, .agg (av 3 (ls [.bool (va), .int .u64 ha, .int .u64 la])), .agg (av 4 (ls [.bool (vx), .int .u64 hx_, .int .u64 lx, .int .u8 bx]))] w fun r w' => r = .returned (.bool true) ∧ Below w.heap.size w w' := by
  go_enter Tryz.func6, Tryz.ntmps6
  have M := Mem.start hL
  refine wp_seq ?_
  refine rg_lit ?_
  refine pl_new M (want_no rfl) (some 4) rfl (.cells (av 9 (ls [.bool (v0), .int .u64 h0, .int .u64 l0, .bool (v1), .int .u64 h1, .int .u64 l1, .int .u8 p, .int .u8 t, .string d])) 26) (fun _ => by kernel_rfl) ?_
  intro g1 u1 M
  replace M : Mem ⟨w, []⟩ [⟨g1, .cells (av 9 (ls [.bool (v0), .int .u64 h0, .int .u64 l0, .bool (v1), .int .u64 h1, .int .u64 l1, .int .u8 p, .int .u8 t, .string d])) 26⟩] u1 := M
  refine pl_new M (want_no rfl) (some 6) rfl (.cells (av 3 (ls [.bool (va), .int .u64 ha, .int .u64 la])) 24) (fun _ => by kernel_rfl) ?_
  intro g2 u2 M
  replace M : Mem ⟨w, []⟩ [⟨g1, .cells (av 9 (ls [.bool (v0), .int .u64 h0, .int .u64 l0, .bool (v1), .int .u64 h1, .int .u64 l1, .int .u8 p, .int .u8 t, .string d])) 26⟩, ⟨g2, .cells (av 3 (ls [.bool (va), .int .u64 ha, .int .u64 la])) 24⟩] u2 := M
  refine pl_new M (want_no rfl) (some 7) rfl (.cells (av 4 (ls [.bool (vx), .int .u64 hx_, .int .u64 lx, .int .u8 bx])) 39) (fun _ => by kernel_rfl) ?_
  intro g3 u3 M
  replace M : Mem ⟨w, []⟩ [⟨g1, .cells (av 9 (ls [.bool (v0), .int .u64 h0, .int .u64 l0, .bool (v1), .int .u64 h1, .int .u64 l1, .int .u8 p, .int .u8 t, .string d])) 26⟩, ⟨g2, .cells (av 3 (ls [.bool (va), .int .u64 ha, .int .u64 la])) 24⟩, ⟨g3, .cells (av 4 (ls [.bool (vx), .int .u64 hx_, .int .u64 lx, .int .u8 bx])) 39⟩] u3 := M
  refine pl_val (want_no rfl) (some 8) rfl (.bool false) (fun _ => by kernel_rfl) ?_
  refine pl_nil ?_
  refine au_then ?_
  refine wp_seq ?_
  refine wp_seq ?_
  refine rg_lit ?_
  refine pl_val (want_no rfl) (some 24) rfl (.pointer (some ⟨g1, 8, none⟩)) (fun _ => by kernel_rfl) ?_
  refine pl_cell M (want_no rfl) (some 25) rfl 9 _ rfl g1 8 (by kernel_rfl) (.string d) (fun _ => by kernel_rfl) (fun w M => M.cell 0 rfl (by decide) rfl) ?_
  refine pl_val (want_no rfl) (some 26) rfl (.int .i64 (d.size : Int)) (fun _ => by kernel_rfl) ?_
  by_cases c0 : 8192 < (d.size : Int)
  · skip
    refine pl_val (want_no rfl) (some 27) rfl (.bool true) (fun w => Eq.trans (b := .ok (.value (.bool (decide (8192 < (d.size : Int))))) w) (by kernel_rfl) (by rw [decide_eq_true (c0)])) ?_
    refine pl_val (want_no rfl) (some 28) rfl (.bool true) (fun _ => by kernel_rfl) ?_
    refine pl_skip (want_off 4 false rfl 28 rfl (by kernel_rfl)) (some 29) rfl ?_
    refine pl_skip (want_off 4 false rfl 28 rfl (by kernel_rfl)) (some 30) rfl ?_
    refine pl_skip (want_off 4 false rfl 28 rfl (by kernel_rfl)) (some 31) rfl ?_
    refine pl_val (want_no rfl) (some 32) rfl (.bool true) (fun _ => by kernel_rfl) ?_
    refine pl_nil ?_
    refine au_then ?_
    refine wp_cond_true (by kernel_rfl) ?_
    refine wp_seq ?_
    refine rg_lit ?_
    refine pl_call M (want_no rfl) (some 33) rfl 9 #[] (.bool true) (fun _ => by kernel_rfl) (fun w M => c_works w M.laid) ?_
    intro u4 M
    refine pl_val (want_no rfl) (some 8) rfl (.bool true) (fun _ => by kernel_rfl) ?_
    refine pl_nil ?_
    refine au_then ?_
    refine wp_ret ?_
    refine au_then_ret ?_
    exact bodyPost_ret (v := .bool true) (results_tmp1 Tryz.results6 _ _ _ (by kernel_rfl)) (by kernel_rfl) ⟨rfl, below_grown M.old⟩
  · skip
    refine pl_val (want_no rfl) (some 27) rfl (.bool false) (fun w => Eq.trans (b := .ok (.value (.bool (decide (8192 < (d.size : Int))))) w) (by kernel_rfl) (by rw [decide_eq_false (c0)])) ?_
    refine pl_val (want_no rfl) (some 28) rfl (.bool false) (fun _ => by kernel_rfl) ?_
    refine pl_val (want_on 4 false rfl 28 rfl (by kernel_rfl)) (some 29) rfl (.string s) (fun _ => by kernel_rfl) ?_
    refine pl_val (want_on 4 false rfl 28 rfl (by kernel_rfl)) (some 30) rfl (.int .i64 (s.size : Int)) (fun _ => by kernel_rfl) ?_
    by_cases c1 : 8192 < (s.size : Int)
    · skip
      refine pl_val (want_on 4 false rfl 28 rfl (by kernel_rfl)) (some 31) rfl (.bool true) (fun w => Eq.trans (b := .ok (.value (.bool (decide (8192 < (s.size : Int))))) w) (by kernel_rfl) (by rw [decide_eq_true (c1)])) ?_
      refine pl_val (want_no rfl) (some 32) rfl (.bool true) (fun _ => by kernel_rfl) ?_
      refine pl_nil ?_
      refine au_then ?_
      refine wp_cond_true (by kernel_rfl) ?_
      refine wp_seq ?_
      refine rg_lit ?_
      refine pl_call M (want_no rfl) (some 33) rfl 9 #[] (.bool true) (fun _ => by kernel_rfl) (fun w M => c_works w M.laid) ?_
      intro u4 M
      refine pl_val (want_no rfl) (some 8) rfl (.bool true) (fun _ => by kernel_rfl) ?_
      refine pl_nil ?_
      refine au_then ?_
      refine wp_ret ?_
      refine au_then_ret ?_
      exact bodyPost_ret (v := .bool true) (results_tmp1 Tryz.results6 _ _ _ (by kernel_rfl)) (by kernel_rfl) ⟨rfl, below_grown M.old⟩
    · skip
      refine pl_val (want_on 4 false rfl 28 rfl (by kernel_rfl)) (some 31) rfl (.bool false) (fun w => Eq.trans (b := .ok (.value (.bool (decide (8192 < (s.size : Int))))) w) (by kernel_rfl) (by rw [decide_eq_false (c1)])) ?_
      refine pl_val (want_no rfl) (some 32) rfl (.bool false) (fun _ => by kernel_rfl) ?_
      refine pl_nil ?_
      refine au_then ?_
      refine wp_cond_false (by kernel_rfl) ?_
      refine wp_skip ?_
      refine au_then ?_
      refine wp_seq ?_
      refine rg_lit ?_
      refine pl_load M (want_no rfl) (some 35) rfl 26 _ rfl 0 g1 0 (by kernel_rfl) 9 26 (ls [.bool (v0), .int .u64 h0, .int .u64 l0, .bool (v1), .int .u64 h1, .int .u64 l1, .int .u8 p, .int .u8 t, .string d]) rfl 9 (ls [.bool (v0), .int .u64 h0, .int .u64 l0, .bool (v1), .int .u64 h1, .int .u64 l1, .int .u8 p, .int .u8 t, .string d]) (fun j _ => by rw [Nat.zero_add]) (by decide) _ Tryz.underlying26 rfl inz26 ?_
      refine pl_call M (want_no rfl) (some 36) rfl 10 #[.agg (av 9 (ls [.bool (v0), .int .u64 h0, .int .u64 l0, .bool (v1), .int .u64 h1, .int .u64 l1, .int .u8 p, .int .u8 t, .string d]))] (.tuple #[.string (enS v0 h0 l0 v1 h1 l1 p t d), .int .i64 (my v0 h0 l0 v1 h1 l1 (d.size : Int))]) (fun _ => by kernel_rfl) (fun w M => c_Encode v0 h0 l0 v1 h1 l1 p t d (by omega) hp ht w M.laid) ?_
      intro u4 M
      refine pl_val (want_no rfl) (some 34) rfl (.tuple #[.string (enS v0 h0 l0 v1 h1 l1 p t d), .int .i64 (my v0 h0 l0 v1 h1 l1 (d.size : Int))]) (fun _ => by kernel_rfl) ?_
      refine pl_val (want_no rfl) (some 37) rfl (.string (enS v0 h0 l0 v1 h1 l1 p t d)) (fun _ => by kernel_rfl) ?_
      refine pl_val (want_no rfl) (some 38) rfl (.int .i64 (my v0 h0 l0 v1 h1 l1 (d.size : Int))) (fun _ => by kernel_rfl) ?_
      refine pl_val (want_no rfl) (some 9) rfl (.string (enS v0 h0 l0 v1 h1 l1 p t d)) (fun _ => by kernel_rfl) ?_
      refine pl_val (want_no rfl) (some 10) rfl (.int .i64 (my v0 h0 l0 v1 h1 l1 (d.size : Int))) (fun _ => by kernel_rfl) ?_
      refine pl_nil ?_
      refine au_then ?_
      refine wp_seq ?_
      refine cut_at (I := fun a w' => ∃ yv1 : Nat → Value, a = ⟨#[.agg (av 9 (ls [.bool (v0), .int .u64 h0, .int .u64 l0, .bool (v1), .int .u64 h1, .int .u64 l1, .int .u8 p, .int .u8 t, .string d])), .string s, .agg (av 3 (ls [.bool (va), .int .u64 ha, .int .u64 la])), .agg (av 4 (ls [.bool (vx), .int .u64 hx_, .int .u64 lx, .int .u8 bx])), .pointer (some ⟨g1, 0, none⟩), undef, .pointer (some ⟨g2, 0, none⟩), .pointer (some ⟨g3, 0, none⟩), yv1 8, .string (enS v0 h0 l0 v1 h1 l1 p t d), .int .i64 (my v0 h0 l0 v1 h1 l1 (d.size : Int)), yv1 11, yv1 12, yv1 13, undef, undef, undef, undef, undef, undef, undef, undef, undef, undef, .pointer (some ⟨g1, 8, none⟩), .string d, .int .i64 (d.size : Int), .bool false, .bool false, .string s, .int .i64 (s.size : Int), .bool false, .bool false, undef, .tuple #[.string (enS v0 h0 l0 v1 h1 l1 p t d), .int .i64 (my v0 h0 l0 v1 h1 l1 (d.size : Int))], .agg (av 9 (ls [.bool (v0), .int .u64 h0, .int .u64 l0, .bool (v1), .int .u64 h1, .int .u64 l1, .int .u8 p, .int .u8 t, .string d])), .tuple #[.string (enS v0 h0 l0 v1 h1 l1 p t d), .int .i64 (my v0 h0 l0 v1 h1 l1 (d.size : Int))], .string (enS v0 h0 l0 v1 h1 l1 p t d), .int .i64 (my v0 h0 l0 v1 h1 l1 (d.size : Int)), yv1 39, yv1 40, yv1 41, yv1 42, yv1 43, yv1 44, yv1 45, yv1 46, yv1 47, yv1 48, yv1 49, yv1 50, yv1 51, yv1 52, yv1 53, yv1 54, yv1 55, yv1 56, yv1 57, yv1 58, yv1 59, yv1 60, yv1 61, yv1 62, yv1 63, undef, undef, undef, undef, undef, undef, undef, undef, undef, undef, undef, undef, undef, undef, undef, undef, undef, undef, undef, undef, undef, undef, undef, undef, undef, undef, undef, undef, undef, undef, undef, undef, undef, undef, undef, undef, undef, undef, undef, undef, undef, undef, undef, undef, undef, undef, undef, undef, undef, undef, undef, undef, undef, undef, undef, undef, undef, undef, undef, undef, undef, undef, undef, undef, undef, undef, undef, undef, undef, undef, undef, undef, undef, undef, undef, undef, undef, undef, undef, undef, undef, undef, undef, undef, undef, undef, undef, undef, undef, undef, undef, undef, undef, undef, undef, undef, undef, undef, undef, undef, undef, undef, undef, undef, undef, undef, undef, undef, undef, undef, undef, undef, undef, undef, undef, undef], []⟩ ∧ Mem ⟨w, []⟩ [⟨g1, .cells (av 9 (ls [.bool (v0), .int .u64 h0, .int .u64 l0, .bool (v1), .int .u64 h1, .int .u64 l1, .int .u8 p, .int .u8 t, .string d])) 26⟩, ⟨g2, .cells (av 3 (ls [.bool (va), .int .u64 ha, .int .u64 la])) 24⟩, ⟨g3, .cells (av 4 (ls [.bool (vx), .int .u64 hx_, .int .u64 lx, .int .u8 bx])) 39⟩] w') ?_ ?_
      · skip
        refine wp_seq ?_
        refine rg_lit ?_
        refine pl_val (want_no rfl) (some 39) rfl (.int .i64 (my v0 h0 l0 v1 h1 l1 (d.size : Int))) (fun _ => by kernel_rfl) ?_
        by_cases c2 : (my v0 h0 l0 v1 h1 l1 (d.size : Int)) = 0
        · skip
          refine pl_val (want_no rfl) (some 40) rfl (.bool true) (fun w => Eq.trans (b := .ok (.value (.bool (decide ((my v0 h0 l0 v1 h1 l1 (d.size : Int)) = 0)))) w) (by kernel_rfl) (by rw [decide_eq_true (c2)])) ?_
          refine pl_nil ?_
          refine au_then ?_
          refine wp_cond_true (by kernel_rfl) ?_
          refine wp_seq ?_
          refine rg_lit ?_
          refine pl_val (want_no rfl) (some 42) rfl (.string (enS v0 h0 l0 v1 h1 l1 p t d)) (fun _ => by kernel_rfl) ?_
          rcases Bool.eq_false_or_eq_true (v0) with c3 | c3
          · skip
            rcases Bool.eq_false_or_eq_true (exB p) with c4 | c4
            · skip
              refine pl_call M (want_no rfl) (some 43) rfl 16 #[.string (enS v0 h0 l0 v1 h1 l1 p t d)] (.tuple #[.agg (av 9 (ls [.bool false, .int .u64 0, .int .u64 0, .bool false, .int .u64 0, .int .u64 0, .int .u8 0, .int .u8 0, .string ⟨#[]⟩])), .int .i64 133]) (fun _ => by kernel_rfl) (fun w M => c_DecX v0 h0 l0 v1 h1 l1 p t d hp ht c2 c3 c4 w M.laid) ?_
              intro u5 M
              refine pl_val (want_no rfl) (some 41) rfl (.tuple #[.agg (av 9 (ls [.bool false, .int .u64 0, .int .u64 0, .bool false, .int .u64 0, .int .u64 0, .int .u8 0, .int .u8 0, .string ⟨#[]⟩])), .int .i64 133]) (fun _ => by kernel_rfl) ?_
              refine pl_val (want_no rfl) (some 44) rfl (.agg (av 9 (ls [.bool false, .int .u64 0, .int .u64 0, .bool false, .int .u64 0, .int .u64 0, .int .u8 0, .int .u8 0, .string ⟨#[]⟩]))) (fun _ => by kernel_rfl) ?_
              refine pl_val (want_no rfl) (some 45) rfl (.int .i64 133) (fun _ => by kernel_rfl) ?_
              refine pl_new M (want_no rfl) (some 11) rfl (.cells (av 9 (ls [.bool false, .int .u64 0, .int .u64 0, .bool false, .int .u64 0, .int .u64 0, .int .u8 0, .int .u8 0, .string ⟨#[]⟩])) 26) (fun _ => by kernel_rfl) ?_
              intro g4 u6 M
              replace M : Mem ⟨w, []⟩ [⟨g1, .cells (av 9 (ls [.bool (v0), .int .u64 h0, .int .u64 l0, .bool (v1), .int .u64 h1, .int .u64 l1, .int .u8 p, .int .u8 t, .string d])) 26⟩, ⟨g2, .cells (av 3 (ls [.bool (va), .int .u64 ha, .int .u64 la])) 24⟩, ⟨g3, .cells (av 4 (ls [.bool (vx), .int .u64 hx_, .int .u64 lx, .int .u8 bx])) 39⟩, ⟨g4, .cells (av 9 (ls [.bool false, .int .u64 0, .int .u64 0, .bool false, .int .u64 0, .int .u64 0, .int .u8 0, .int .u8 0, .string ⟨#[]⟩])) 26⟩] u6 := M
              refine pl_put M (want_no rfl) rfl 26 _ _ rfl 3 g4 0 (by kernel_rfl) 9 26 (ls [.bool false, .int .u64 0, .int .u64 0, .bool false, .int .u64 0, .int .u64 0, .int .u8 0, .int .u8 0, .string ⟨#[]⟩]) rfl 9 (ls [.bool false, .int .u64 0, .int .u64 0, .bool false, .int .u64 0, .int .u64 0, .int .u8 0, .int .u8 0, .string ⟨#[]⟩]) (ls [.bool false, .int .u64 0, .int .u64 0, .bool false, .int .u64 0, .int .u64 0, .int .u8 0, .int .u8 0, .string ⟨#[]⟩]) (by kernel_rfl) inz26 (by decide) (one_ls _ rfl) (fun j hj => by rw [if_pos (by omega), Nat.sub_zero]) ?_
              intro u7 M
              replace M : Mem ⟨w, []⟩ [⟨g1, .cells (av 9 (ls [.bool (v0), .int .u64 h0, .int .u64 l0, .bool (v1), .int .u64 h1, .int .u64 l1, .int .u8 p, .int .u8 t, .string d])) 26⟩, ⟨g2, .cells (av 3 (ls [.bool (va), .int .u64 ha, .int .u64 la])) 24⟩, ⟨g3, .cells (av 4 (ls [.bool (vx), .int .u64 hx_, .int .u64 lx, .int .u8 bx])) 39⟩, ⟨g4, .cells (av 9 (ls [.bool false, .int .u64 0, .int .u64 0, .bool false, .int .u64 0, .int .u64 0, .int .u8 0, .int .u8 0, .string ⟨#[]⟩])) 26⟩] u7 := M
              refine pl_val (want_no rfl) (some 12) rfl (.int .i64 133) (fun _ => by kernel_rfl) ?_
              refine pl_nil ?_
              refine au_then ?_
              refine wp_seq ?_
              refine rg_lit ?_
              refine pl_val (want_no rfl) (some 46) rfl (.pointer (some ⟨g1, 0, none⟩)) (fun _ => by kernel_rfl) ?_
              refine pl_val (want_no rfl) (some 47) rfl (.pointer (some ⟨g1, 0, none⟩)) (fun _ => by kernel_rfl) ?_
              refine pl_cell M (want_no rfl) (some 48) rfl 4 _ rfl g1 0 (by kernel_rfl) (.bool true) (fun _ => by kernel_rfl) (fun w M => M.cell 0 rfl (by decide) (congrArg Value.bool c3)) ?_
              refine pl_val (want_no rfl) (some 49) rfl (.bool true) (fun _ => by kernel_rfl) ?_
              refine pl_val (want_on 3 true rfl 49 rfl (by kernel_rfl)) (some 50) rfl (.int .i64 133) (fun _ => by kernel_rfl) ?_
              refine pl_val (want_on 3 true rfl 49 rfl (by kernel_rfl)) (some 51) rfl (.bool true) (fun _ => by kernel_rfl) ?_
              refine pl_val (want_no rfl) (some 52) rfl (.bool true) (fun _ => by kernel_rfl) ?_
              refine pl_val (want_no rfl) (some 13) rfl (.bool true) (fun _ => by kernel_rfl) ?_
              refine pl_nil ?_
              refine au_then ?_
              refine wp_seq ?_
              refine rg_lit ?_
              refine pl_val (want_no rfl) (some 53) rfl (.bool true) (fun _ => by kernel_rfl) ?_
              refine pl_val (want_no rfl) (some 54) rfl (.bool false) (fun _ => by kernel_rfl) ?_
              refine pl_val (want_no rfl) (some 55) rfl (.bool false) (fun _ => by kernel_rfl) ?_
              refine pl_skip (want_off 2 true rfl 55 rfl (by kernel_rfl)) (some 56) rfl ?_
              refine pl_skip (want_off 2 true rfl 55 rfl (by kernel_rfl)) (some 57) rfl ?_
              refine pl_skip (want_off 2 true rfl 55 rfl (by kernel_rfl)) (some 58) rfl ?_
              refine pl_skip (want_und 5 false rfl 58 rfl (by kernel_rfl)) (some 59) rfl ?_
              refine pl_skip (want_und 5 false rfl 58 rfl (by kernel_rfl)) (some 60) rfl ?_
              refine pl_skip (want_und 5 false rfl 58 rfl (by kernel_rfl)) (some 61) rfl ?_
              refine pl_skip (want_off 2 true rfl 55 rfl (by kernel_rfl)) (some 62) rfl ?_
              refine pl_val (want_no rfl) (some 63) rfl (.bool false) (fun _ => by kernel_rfl) ?_
              refine pl_nil ?_
              refine au_then ?_
              refine wp_cond_false (by kernel_rfl) ?_
              refine wp_skip ?_
              refine au_then ?_
              exact ⟨fun k_ => ([.bool false, undef, undef, .pointer (some ⟨g4, 0, none⟩), .int .i64 133, .bool true, undef, undef, undef, undef, undef, undef, undef, undef, undef, undef, undef, undef, undef, undef, undef, undef, undef, undef, undef, undef, undef, undef, undef, undef, undef, .int .i64 (my v0 h0 l0 v1 h1 l1 (d.size : Int)), .bool true, .tuple #[.agg (av 9 (ls [.bool false, .int .u64 0, .int .u64 0, .bool false, .int .u64 0, .int .u64 0, .int .u8 0, .int .u8 0, .string ⟨#[]⟩])), .int .i64 133], .string (enS v0 h0 l0 v1 h1 l1 p t d), .tuple #[.agg (av 9 (ls [.bool false, .int .u64 0, .int .u64 0, .bool false, .int .u64 0, .int .u64 0, .int .u8 0, .int .u8 0, .string ⟨#[]⟩])), .int .i64 133], .agg (av 9 (ls [.bool false, .int .u64 0, .int .u64 0, .bool false, .int .u64 0, .int .u64 0, .int .u8 0, .int .u8 0, .string ⟨#[]⟩])), .int .i64 133, .pointer (some ⟨g1, 0, none⟩), .pointer (some ⟨g1, 0, none⟩), .bool true, .bool true, .int .i64 133, .bool true, .bool true, .bool true, .bool false, .bool false, undef, undef, undef, undef, undef, undef, undef, .bool false] : List Value).getD (k_ - 8) undef, by kernel_rfl, M.drop (.cons_cons _ (.cons_cons _ (.cons_cons _ (.cons _ (.slnil)))))⟩
            · skip
              refine pl_call M (want_no rfl) (some 43) rfl 16 #[.string (enS v0 h0 l0 v1 h1 l1 p t d)] (.tuple #[.agg (av 9 (ls [.bool (v0), .int .u64 h0, .int .u64 l0, .bool (v1), .int .u64 h1, .int .u64 l1, .int .u8 p, .int .u8 t, .string d])), .int .i64 0]) (fun _ => by kernel_rfl) (fun w M => c_DecO v0 h0 l0 v1 h1 l1 p t d h00 h01 l00 l01 h10 h11 l10 l11 hp ht c2 (fun h => by rw [c4] at h; cases h.2) w M.laid) ?_
              intro u5 M
              refine pl_val (want_no rfl) (some 41) rfl (.tuple #[.agg (av 9 (ls [.bool (v0), .int .u64 h0, .int .u64 l0, .bool (v1), .int .u64 h1, .int .u64 l1, .int .u8 p, .int .u8 t, .string d])), .int .i64 0]) (fun _ => by kernel_rfl) ?_
              refine pl_val (want_no rfl) (some 44) rfl (.agg (av 9 (ls [.bool (v0), .int .u64 h0, .int .u64 l0, .bool (v1), .int .u64 h1, .int .u64 l1, .int .u8 p, .int .u8 t, .string d]))) (fun _ => by kernel_rfl) ?_
              refine pl_val (want_no rfl) (some 45) rfl (.int .i64 0) (fun _ => by kernel_rfl) ?_
              refine pl_new M (want_no rfl) (some 11) rfl (.cells (av 9 (ls [.bool false, .int .u64 0, .int .u64 0, .bool false, .int .u64 0, .int .u64 0, .int .u8 0, .int .u8 0, .string ⟨#[]⟩])) 26) (fun _ => by kernel_rfl) ?_
              intro g4 u6 M
              replace M : Mem ⟨w, []⟩ [⟨g1, .cells (av 9 (ls [.bool (v0), .int .u64 h0, .int .u64 l0, .bool (v1), .int .u64 h1, .int .u64 l1, .int .u8 p, .int .u8 t, .string d])) 26⟩, ⟨g2, .cells (av 3 (ls [.bool (va), .int .u64 ha, .int .u64 la])) 24⟩, ⟨g3, .cells (av 4 (ls [.bool (vx), .int .u64 hx_, .int .u64 lx, .int .u8 bx])) 39⟩, ⟨g4, .cells (av 9 (ls [.bool false, .int .u64 0, .int .u64 0, .bool false, .int .u64 0, .int .u64 0, .int .u8 0, .int .u8 0, .string ⟨#[]⟩])) 26⟩] u6 := M
              refine pl_put M (want_no rfl) rfl 26 _ _ rfl 3 g4 0 (by kernel_rfl) 9 26 (ls [.bool false, .int .u64 0, .int .u64 0, .bool false, .int .u64 0, .int .u64 0, .int .u8 0, .int .u8 0, .string ⟨#[]⟩]) rfl 9 (ls [.bool (v0), .int .u64 h0, .int .u64 l0, .bool (v1), .int .u64 h1, .int .u64 l1, .int .u8 p, .int .u8 t, .string d]) (ls [.bool (v0), .int .u64 h0, .int .u64 l0, .bool (v1), .int .u64 h1, .int .u64 l1, .int .u8 p, .int .u8 t, .string d]) (by kernel_rfl) inz26 (by decide) (one_ls _ rfl) (fun j hj => by rw [if_pos (by omega), Nat.sub_zero]) ?_
              intro u7 M
              replace M : Mem ⟨w, []⟩ [⟨g1, .cells (av 9 (ls [.bool (v0), .int .u64 h0, .int .u64 l0, .bool (v1), .int .u64 h1, .int .u64 l1, .int .u8 p, .int .u8 t, .string d])) 26⟩, ⟨g2, .cells (av 3 (ls [.bool (va), .int .u64 ha, .int .u64 la])) 24⟩, ⟨g3, .cells (av 4 (ls [.bool (vx), .int .u64 hx_, .int .u64 lx, .int .u8 bx])) 39⟩, ⟨g4, .cells (av 9 (ls [.bool (v0), .int .u64 h0, .int .u64 l0, .bool (v1), .int .u64 h1, .int .u64 l1, .int .u8 p, .int .u8 t, .string d])) 26⟩] u7 := M
              refine pl_val (want_no rfl) (some 12) rfl (.int .i64 0) (fun _ => by kernel_rfl) ?_
              refine pl_nil ?_
              refine au_then ?_
              refine wp_seq ?_
              refine rg_lit ?_
              refine pl_val (want_no rfl) (some 46) rfl (.pointer (some ⟨g1, 0, none⟩)) (fun _ => by kernel_rfl) ?_
              refine pl_val (want_no rfl) (some 47) rfl (.pointer (some ⟨g1, 0, none⟩)) (fun _ => by kernel_rfl) ?_
              refine pl_cell M (want_no rfl) (some 48) rfl 4 _ rfl g1 0 (by kernel_rfl) (.bool true) (fun _ => by kernel_rfl) (fun w M => M.cell 0 rfl (by decide) (congrArg Value.bool c3)) ?_
              refine pl_val (want_no rfl) (some 49) rfl (.bool true) (fun _ => by kernel_rfl) ?_
              refine pl_val (want_on 3 true rfl 49 rfl (by kernel_rfl)) (some 50) rfl (.int .i64 0) (fun _ => by kernel_rfl) ?_
              refine pl_val (want_on 3 true rfl 49 rfl (by kernel_rfl)) (some 51) rfl (.bool false) (fun _ => by kernel_rfl) ?_
              refine pl_val (want_no rfl) (some 52) rfl (.bool false) (fun _ => by kernel_rfl) ?_
              refine pl_val (want_no rfl) (some 13) rfl (.bool false) (fun _ => by kernel_rfl) ?_
              refine pl_nil ?_
              refine au_then ?_
              refine wp_seq ?_
              refine rg_lit ?_
              refine pl_val (want_no rfl) (some 53) rfl (.bool false) (fun _ => by kernel_rfl) ?_
              refine pl_val (want_no rfl) (some 54) rfl (.bool true) (fun _ => by kernel_rfl) ?_
              refine pl_val (want_no rfl) (some 55) rfl (.bool true) (fun _ => by kernel_rfl) ?_
              refine pl_val (want_on 2 true rfl 55 rfl (by kernel_rfl)) (some 56) rfl (.int .i64 0) (fun _ => by kernel_rfl) ?_
              refine pl_val (want_on 2 true rfl 55 rfl (by kernel_rfl)) (some 57) rfl (.bool false) (fun _ => by kernel_rfl) ?_
              refine pl_val (want_on 2 true rfl 55 rfl (by kernel_rfl)) (some 58) rfl (.bool false) (fun _ => by kernel_rfl) ?_
              refine pl_load M (want_on 5 false rfl 58 rfl (by kernel_rfl)) (some 59) rfl 26 _ rfl 3 g4 0 (by kernel_rfl) 9 26 (ls [.bool (v0), .int .u64 h0, .int .u64 l0, .bool (v1), .int .u64 h1, .int .u64 l1, .int .u8 p, .int .u8 t, .string d]) rfl 9 (ls [.bool (v0), .int .u64 h0, .int .u64 l0, .bool (v1), .int .u64 h1, .int .u64 l1, .int .u8 p, .int .u8 t, .string d]) (fun j _ => by rw [Nat.zero_add]) (by decide) _ Tryz.underlying26 rfl inz26 ?_
              refine pl_load M (want_on 5 false rfl 58 rfl (by kernel_rfl)) (some 60) rfl 26 _ rfl 0 g1 0 (by kernel_rfl) 9 26 (ls [.bool (v0), .int .u64 h0, .int .u64 l0, .bool (v1), .int .u64 h1, .int .u64 l1, .int .u8 p, .int .u8 t, .string d]) rfl 9 (ls [.bool (v0), .int .u64 h0, .int .u64 l0, .bool (v1), .int .u64 h1, .int .u64 l1, .int .u8 p, .int .u8 t, .string d]) (fun j _ => by rw [Nat.zero_add]) (by decide) _ Tryz.underlying26 rfl inz26 ?_
              refine pl_val (want_on 5 false rfl 58 rfl (by kernel_rfl)) (some 61) rfl (.bool false) (fun w => (neq26 v0 v0 h0 h0 l0 l0 v1 v1 h1 h1 l1 l1 p p t t d d _ _ rfl (by kernel_rfl) (by kernel_rfl) w).trans (by rw [decide_eq_true (⟨rfl, rfl, rfl, rfl, rfl, rfl, rfl, rfl, rfl⟩ : v0 = v0 ∧ h0 = h0 ∧ l0 = l0 ∧ v1 = v1 ∧ h1 = h1 ∧ l1 = l1 ∧ p = p ∧ t = t ∧ d = d)]; rfl)) ?_
              refine pl_val (want_on 2 true rfl 55 rfl (by kernel_rfl)) (some 62) rfl (.bool false) (fun _ => by kernel_rfl) ?_
              refine pl_val (want_no rfl) (some 63) rfl (.bool false) (fun _ => by kernel_rfl) ?_
              refine pl_nil ?_
              refine au_then ?_
              refine wp_cond_false (by kernel_rfl) ?_
              refine wp_skip ?_
              refine au_then ?_
              exact ⟨fun k_ => ([.bool false, undef, undef, .pointer (some ⟨g4, 0, none⟩), .int .i64 0, .bool false, undef, undef, undef, undef, undef, undef, undef, undef, undef, undef, undef, undef, undef, undef, undef, undef, undef, undef, undef, undef, undef, undef, undef, undef, undef, .int .i64 (my v0 h0 l0 v1 h1 l1 (d.size : Int)), .bool true, .tuple #[.agg (av 9 (ls [.bool (v0), .int .u64 h0, .int .u64 l0, .bool (v1), .int .u64 h1, .int .u64 l1, .int .u8 p, .int .u8 t, .string d])), .int .i64 0], .string (enS v0 h0 l0 v1 h1 l1 p t d), .tuple #[.agg (av 9 (ls [.bool (v0), .int .u64 h0, .int .u64 l0, .bool (v1), .int .u64 h1, .int .u64 l1, .int .u8 p, .int .u8 t, .string d])), .int .i64 0], .agg (av 9 (ls [.bool (v0), .int .u64 h0, .int .u64 l0, .bool (v1), .int .u64 h1, .int .u64 l1, .int .u8 p, .int .u8 t, .string d])), .int .i64 0, .pointer (some ⟨g1, 0, none⟩), .pointer (some ⟨g1, 0, none⟩), .bool true, .bool true, .int .i64 0, .bool false, .bool false, .bool false, .bool true, .bool true, .int .i64 0, .bool false, .bool false, .agg (av 9 (ls [.bool (v0), .int .u64 h0, .int .u64 l0, .bool (v1), .int .u64 h1, .int .u64 l1, .int .u8 p, .int .u8 t, .string d])), .agg (av 9 (ls [.bool (v0), .int .u64 h0, .int .u64 l0, .bool (v1), .int .u64 h1, .int .u64 l1, .int .u8 p, .int .u8 t, .string d])), .bool false, .bool false, .bool false] : List Value).getD (k_ - 8) undef, by kernel_rfl, M.drop (.cons_cons _ (.cons_cons _ (.cons_cons _ (.cons _ (.slnil)))))⟩
          · skip
            refine pl_call M (want_no rfl) (some 43) rfl 16 #[.string (enS v0 h0 l0 v1 h1 l1 p t d)] (.tuple #[.agg (av 9 (ls [.bool (v0), .int .u64 h0, .int .u64 l0, .bool (v1), .int .u64 h1, .int .u64 l1, .int .u8 p, .int .u8 t, .string d])), .int .i64 0]) (fun _ => by kernel_rfl) (fun w M => c_DecO v0 h0 l0 v1 h1 l1 p t d h00 h01 l00 l01 h10 h11 l10 l11 hp ht c2 (fun h => by rw [c3] at h; cases h.1) w M.laid) ?_
            intro u5 M
            refine pl_val (want_no rfl) (some 41) rfl (.tuple #[.agg (av 9 (ls [.bool (v0), .int .u64 h0, .int .u64 l0, .bool (v1), .int .u64 h1, .int .u64 l1, .int .u8 p, .int .u8 t, .string d])), .int .i64 0]) (fun _ => by kernel_rfl) ?_
            refine pl_val (want_no rfl) (some 44) rfl (.agg (av 9 (ls [.bool (v0), .int .u64 h0, .int .u64 l0, .bool (v1), .int .u64 h1, .int .u64 l1, .int .u8 p, .int .u8 t, .string d]))) (fun _ => by kernel_rfl) ?_
            refine pl_val (want_no rfl) (some 45) rfl (.int .i64 0) (fun _ => by kernel_rfl) ?_
            refine pl_new M (want_no rfl) (some 11) rfl (.cells (av 9 (ls [.bool false, .int .u64 0, .int .u64 0, .bool false, .int .u64 0, .int .u64 0, .int .u8 0, .int .u8 0, .string ⟨#[]⟩])) 26) (fun _ => by kernel_rfl) ?_
            intro g4 u6 M
            replace M : Mem ⟨w, []⟩ [⟨g1, .cells (av 9 (ls [.bool (v0), .int .u64 h0, .int .u64 l0, .bool (v1), .int .u64 h1, .int .u64 l1, .int .u8 p, .int .u8 t, .string d])) 26⟩, ⟨g2, .cells (av 3 (ls [.bool (va), .int .u64 ha, .int .u64 la])) 24⟩, ⟨g3, .cells (av 4 (ls [.bool (vx), .int .u64 hx_, .int .u64 lx, .int .u8 bx])) 39⟩, ⟨g4, .cells (av 9 (ls [.bool false, .int .u64 0, .int .u64 0, .bool false, .int .u64 0, .int .u64 0, .int .u8 0, .int .u8 0, .string ⟨#[]⟩])) 26⟩] u6 := M
            refine pl_put M (want_no rfl) rfl 26 _ _ rfl 3 g4 0 (by kernel_rfl) 9 26 (ls [.bool false, .int .u64 0, .int .u64 0, .bool false, .int .u64 0, .int .u64 0, .int .u8 0, .int .u8 0, .string ⟨#[]⟩]) rfl 9 (ls [.bool (v0), .int .u64 h0, .int .u64 l0, .bool (v1), .int .u64 h1, .int .u64 l1, .int .u8 p, .int .u8 t, .string d]) (ls [.bool (v0), .int .u64 h0, .int .u64 l0, .bool (v1), .int .u64 h1, .int .u64 l1, .int .u8 p, .int .u8 t, .string d]) (by kernel_rfl) inz26 (by decide) (one_ls _ rfl) (fun j hj => by rw [if_pos (by omega), Nat.sub_zero]) ?_
            intro u7 M
            replace M : Mem ⟨w, []⟩ [⟨g1, .cells (av 9 (ls [.bool (v0), .int .u64 h0, .int .u64 l0, .bool (v1), .int .u64 h1, .int .u64 l1, .int .u8 p, .int .u8 t, .string d])) 26⟩, ⟨g2, .cells (av 3 (ls [.bool (va), .int .u64 ha, .int .u64 la])) 24⟩, ⟨g3, .cells (av 4 (ls [.bool (vx), .int .u64 hx_, .int .u64 lx, .int .u8 bx])) 39⟩, ⟨g4, .cells (av 9 (ls [.bool (v0), .int .u64 h0, .int .u64 l0, .bool (v1), .int .u64 h1, .int .u64 l1, .int .u8 p, .int .u8 t, .string d])) 26⟩] u7 := M
            refine pl_val (want_no rfl) (some 12) rfl (.int .i64 0) (fun _ => by kernel_rfl) ?_
            refine pl_nil ?_
            refine au_then ?_
            refine wp_seq ?_
            refine rg_lit ?_
            refine pl_val (want_no rfl) (some 46) rfl (.pointer (some ⟨g1, 0, none⟩)) (fun _ => by kernel_rfl) ?_
            refine pl_val (want_no rfl) (some 47) rfl (.pointer (some ⟨g1, 0, none⟩)) (fun _ => by kernel_rfl) ?_
            refine pl_cell M (want_no rfl) (some 48) rfl 4 _ rfl g1 0 (by kernel_rfl) (.bool false) (fun _ => by kernel_rfl) (fun w M => M.cell 0 rfl (by decide) (congrArg Value.bool c3)) ?_
            refine pl_val (want_no rfl) (some 49) rfl (.bool false) (fun _ => by kernel_rfl) ?_
            refine pl_skip (want_off 3 true rfl 49 rfl (by kernel_rfl)) (some 50) rfl ?_
            refine pl_skip (want_off 3 true rfl 49 rfl (by kernel_rfl)) (some 51) rfl ?_
            refine pl_val (want_no rfl) (some 52) rfl (.bool false) (fun _ => by kernel_rfl) ?_
            refine pl_val (want_no rfl) (some 13) rfl (.bool false) (fun _ => by kernel_rfl) ?_
            refine pl_nil ?_
            refine au_then ?_
            refine wp_seq ?_
            refine rg_lit ?_
            refine pl_val (want_no rfl) (some 53) rfl (.bool false) (fun _ => by kernel_rfl) ?_
            refine pl_val (want_no rfl) (some 54) rfl (.bool true) (fun _ => by kernel_rfl) ?_
            refine pl_val (want_no rfl) (some 55) rfl (.bool true) (fun _ => by kernel_rfl) ?_
            refine pl_val (want_on 2 true rfl 55 rfl (by kernel_rfl)) (some 56) rfl (.int .i64 0) (fun _ => by kernel_rfl) ?_
            refine pl_val (want_on 2 true rfl 55 rfl (by kernel_rfl)) (some 57) rfl (.bool false) (fun _ => by kernel_rfl) ?_
            refine pl_val (want_on 2 true rfl 55 rfl (by kernel_rfl)) (some 58) rfl (.bool false) (fun _ => by kernel_rfl) ?_
            refine pl_load M (want_on 5 false rfl 58 rfl (by kernel_rfl)) (some 59) rfl 26 _ rfl 3 g4 0 (by kernel_rfl) 9 26 (ls [.bool (v0), .int .u64 h0, .int .u64 l0, .bool (v1), .int .u64 h1, .int .u64 l1, .int .u8 p, .int .u8 t, .string d]) rfl 9 (ls [.bool (v0), .int .u64 h0, .int .u64 l0, .bool (v1), .int .u64 h1, .int .u64 l1, .int .u8 p, .int .u8 t, .string d]) (fun j _ => by rw [Nat.zero_add]) (by decide) _ Tryz.underlying26 rfl inz26 ?_
            refine pl_load M (want_on 5 false rfl 58 rfl (by kernel_rfl)) (some 60) rfl 26 _ rfl 0 g1 0 (by kernel_rfl) 9 26 (ls [.bool (v0), .int .u64 h0, .int .u64 l0, .bool (v1), .int .u64 h1, .int .u64 l1, .int .u8 p, .int .u8 t, .string d]) rfl 9 (ls [.bool (v0), .int .u64 h0, .int .u64 l0, .bool (v1), .int .u64 h1, .int .u64 l1, .int .u8 p, .int .u8 t, .string d]) (fun j _ => by rw [Nat.zero_add]) (by decide) _ Tryz.underlying26 rfl inz26 ?_
            refine pl_val (want_on 5 false rfl 58 rfl (by kernel_rfl)) (some 61) rfl (.bool false) (fun w => (neq26 v0 v0 h0 h0 l0 l0 v1 v1 h1 h1 l1 l1 p p t t d d _ _ rfl (by kernel_rfl) (by kernel_rfl) w).trans (by rw [decide_eq_true (⟨rfl, rfl, rfl, rfl, rfl, rfl, rfl, rfl, rfl⟩ : v0 = v0 ∧ h0 = h0 ∧ l0 = l0 ∧ v1 = v1 ∧ h1 = h1 ∧ l1 = l1 ∧ p = p ∧ t = t ∧ d = d)]; rfl)) ?_
            refine pl_val (want_on 2 true rfl 55 rfl (by kernel_rfl)) (some 62) rfl (.bool false) (fun _ => by kernel_rfl) ?_
            refine pl_val (want_no rfl) (some 63) rfl (.bool false) (fun _ => by kernel_rfl) ?_
            refine pl_nil ?_
            refine au_then ?_
            refine wp_cond_false (by kernel_rfl) ?_
            refine wp_skip ?_
            refine au_then ?_
            exact ⟨fun k_ => ([.bool false, undef, undef, .pointer (some ⟨g4, 0, none⟩), .int .i64 0, .bool false, undef, undef, undef, undef, undef, undef, undef, undef, undef, undef, undef, undef, undef, undef, undef, undef, undef, undef, undef, undef, undef, undef, undef, undef, undef, .int .i64 (my v0 h0 l0 v1 h1 l1 (d.size : Int)), .bool true, .tuple #[.agg (av 9 (ls [.bool (v0), .int .u64 h0, .int .u64 l0, .bool (v1), .int .u64 h1, .int .u64 l1, .int .u8 p, .int .u8 t, .string d])), .int .i64 0], .string (enS v0 h0 l0 v1 h1 l1 p t d), .tuple #[.agg (av 9 (ls [.bool (v0), .int .u64 h0, .int .u64 l0, .bool (v1), .int .u64 h1, .int .u64 l1, .int .u8 p, .int .u8 t, .string d])), .int .i64 0], .agg (av 9 (ls [.bool (v0), .int .u64 h0, .int .u64 l0, .bool (v1), .int .u64 h1, .int .u64 l1, .int .u8 p, .int .u8 t, .string d])), .int .i64 0, .pointer (some ⟨g1, 0, none⟩), .pointer (some ⟨g1, 0, none⟩), .bool false, .bool false, undef, undef, .bool false, .bool false, .bool true, .bool true, .int .i64 0, .bool false, .bool false, .agg (av 9 (ls [.bool (v0), .int .u64 h0, .int .u64 l0, .bool (v1), .int .u64 h1, .int .u64 l1, .int .u8 p, .int .u8 t, .string d])), .agg (av 9 (ls [.bool (v0), .int .u64 h0, .int .u64 l0, .bool (v1), .int .u64 h1, .int .u64 l1, .int .u8 p, .int .u8 t, .string d])), .bool false, .bool false, .bool false] : List Value).getD (k_ - 8) undef, by kernel_rfl, M.drop (.cons_cons _ (.cons_cons _ (.cons_cons _ (.cons _ (.slnil)))))⟩
        · skip
          refine pl_val (want_no rfl) (some 40) rfl (.bool false) (fun w => Eq.trans (b := .ok (.value (.bool (decide ((my v0 h0 l0 v1 h1 l1 (d.size : Int)) = 0)))) w) (by kernel_rfl) (by rw [decide_eq_false (c2)])) ?_
          refine pl_nil ?_
          refine au_then ?_
          refine wp_cond_false (by kernel_rfl) ?_
          refine wp_skip ?_
          refine au_then ?_
          exact ⟨fun k_ => ([.bool false, undef, undef, undef, undef, undef, undef, undef, undef, undef, undef, undef, undef, undef, undef, undef, undef, undef, undef, undef, undef, undef, undef, undef, undef, undef, undef, undef, undef, undef, undef, .int .i64 (my v0 h0 l0 v1 h1 l1 (d.size : Int)), .bool false, undef, undef, undef, undef, undef, undef, undef, undef, undef, undef, undef, undef, undef, undef, undef, undef, undef, undef, undef, undef, undef, undef, undef] : List Value).getD (k_ - 8) undef, by kernel_rfl, M⟩
      · intro a u0 hI
        obtain ⟨yv1, rfl, M⟩ := hI
        refine wp_seq ?_
        refine rg_lit ?_
        refine pl_val (want_no rfl) (some 65) rfl (.string s) (fun _ => by kernel_rfl) ?_
        refine pl_call M (want_no rfl) (some 66) rfl 16 #[.string s] (.tuple #[.agg (av 9 (ls [.bool (zB (rcE s) (decide ((sr (bt s 0) 4) = 6))), .int .u64 (zI (rcE s) (if (sr (bt s 0) 4) = 6 then (bdv (s.extract 8 16)) else 0)), .int .u64 (zI (rcE s) (if (sr (bt s 0) 4) = 6 then (bdv (s.extract 16 24)) else (bdv (s.extract 12 16)))), .bool (zB (rcE s) (decide ((sr (bt s 0) 4) = 6))), .int .u64 (zI (rcE s) (if (sr (bt s 0) 4) = 6 then (bdv (s.extract 24 32)) else 0)), .int .u64 (zI (rcE s) (if (sr (bt s 0) 4) = 6 then (bdv (s.extract 32 40)) else (bdv (s.extract 16 20)))), .int .u8 (zI (rcE s) (if (sr (bt s 0) 4) = 6 then (bt s 6) else (bt s 9))), .int .u8 (zI (rcE s) (if (sr (bt s 0) 4) = 6 then (bt s 7) else (bt s 8))), .string (zS (rcE s) (if (sr (bt s 0) 4) = 6 then (s.extract 40 s.size) else (s.extract 20 s.size)))])), .int .i64 (rcE s)]) (fun _ => by kernel_rfl) (fun w M => call_val (c_Decode s (by omega) w M.laid) (dec_eq s)) ?_
        intro u5 M
        refine pl_val (want_no rfl) (some 64) rfl (.tuple #[.agg (av 9 (ls [.bool (zB (rcE s) (decide ((sr (bt s 0) 4) = 6))), .int .u64 (zI (rcE s) (if (sr (bt s 0) 4) = 6 then (bdv (s.extract 8 16)) else 0)), .int .u64 (zI (rcE s) (if (sr (bt s 0) 4) = 6 then (bdv (s.extract 16 24)) else (bdv (s.extract 12 16)))), .bool (zB (rcE s) (decide ((sr (bt s 0) 4) = 6))), .int .u64 (zI (rcE s) (if (sr (bt s 0) 4) = 6 then (bdv (s.extract 24 32)) else 0)), .int .u64 (zI (rcE s) (if (sr (bt s 0) 4) = 6 then (bdv (s.extract 32 40)) else (bdv (s.extract 16 20)))), .int .u8 (zI (rcE s) (if (sr (bt s 0) 4) = 6 then (bt s 6) else (bt s 9))), .int .u8 (zI (rcE s) (if (sr (bt s 0) 4) = 6 then (bt s 7) else (bt s 8))), .string (zS (rcE s) (if (sr (bt s 0) 4) = 6 then (s.extract 40 s.size) else (s.extract 20 s.size)))])), .int .i64 (rcE s)]) (fun _ => by kernel_rfl) ?_
        refine pl_val (want_no rfl) (some 67) rfl (.agg (av 9 (ls [.bool (zB (rcE s) (decide ((sr (bt s 0) 4) = 6))), .int .u64 (zI (rcE s) (if (sr (bt s 0) 4) = 6 then (bdv (s.extract 8 16)) else 0)), .int .u64 (zI (rcE s) (if (sr (bt s 0) 4) = 6 then (bdv (s.extract 16 24)) else (bdv (s.extract 12 16)))), .bool (zB (rcE s) (decide ((sr (bt s 0) 4) = 6))), .int .u64 (zI (rcE s) (if (sr (bt s 0) 4) = 6 then (bdv (s.extract 24 32)) else 0)), .int .u64 (zI (rcE s) (if (sr (bt s 0) 4) = 6 then (bdv (s.extract 32 40)) else (bdv (s.extract 16 20)))), .int .u8 (zI (rcE s) (if (sr (bt s 0) 4) = 6 then (bt s 6) else (bt s 9))), .int .u8 (zI (rcE s) (if (sr (bt s 0) 4) = 6 then (bt s 7) else (bt s 8))), .string (zS (rcE s) (if (sr (bt s 0) 4) = 6 then (s.extract 40 s.size) else (s.extract 20 s.size)))]))) (fun _ => by kernel_rfl) ?_
        refine pl_val (want_no rfl) (some 68) rfl (.int .i64 (rcE s)) (fun _ => by kernel_rfl) ?_
        refine pl_new M (want_no rfl) (some 14) rfl (.cells (av 9 (ls [.bool false, .int .u64 0, .int .u64 0, .bool false, .int .u64 0, .int .u64 0, .int .u8 0, .int .u8 0, .string ⟨#[]⟩])) 26) (fun _ => by kernel_rfl) ?_
        intro g4 u6 M
        replace M : Mem ⟨w, []⟩ [⟨g1, .cells (av 9 (ls [.bool (v0), .int .u64 h0, .int .u64 l0, .bool (v1), .int .u64 h1, .int .u64 l1, .int .u8 p, .int .u8 t, .string d])) 26⟩, ⟨g2, .cells (av 3 (ls [.bool (va), .int .u64 ha, .int .u64 la])) 24⟩, ⟨g3, .cells (av 4 (ls [.bool (vx), .int .u64 hx_, .int .u64 lx, .int .u8 bx])) 39⟩, ⟨g4, .cells (av 9 (ls [.bool false, .int .u64 0, .int .u64 0, .bool false, .int .u64 0, .int .u64 0, .int .u8 0, .int .u8 0, .string ⟨#[]⟩])) 26⟩] u6 := M
        refine pl_put M (want_no rfl) rfl 26 _ _ rfl 3 g4 0 (by kernel_rfl) 9 26 (ls [.bool false, .int .u64 0, .int .u64 0, .bool false, .int .u64 0, .int .u64 0, .int .u8 0, .int .u8 0, .string ⟨#[]⟩]) rfl 9 (ls [.bool (zB (rcE s) (decide ((sr (bt s 0) 4) = 6))), .int .u64 (zI (rcE s) (if (sr (bt s 0) 4) = 6 then (bdv (s.extract 8 16)) else 0)), .int .u64 (zI (rcE s) (if (sr (bt s 0) 4) = 6 then (bdv (s.extract 16 24)) else (bdv (s.extract 12 16)))), .bool (zB (rcE s) (decide ((sr (bt s 0) 4) = 6))), .int .u64 (zI (rcE s) (if (sr (bt s 0) 4) = 6 then (bdv (s.extract 24 32)) else 0)), .int .u64 (zI (rcE s) (if (sr (bt s 0) 4) = 6 then (bdv (s.extract 32 40)) else (bdv (s.extract 16 20)))), .int .u8 (zI (rcE s) (if (sr (bt s 0) 4) = 6 then (bt s 6) else (bt s 9))), .int .u8 (zI (rcE s) (if (sr (bt s 0) 4) = 6 then (bt s 7) else (bt s 8))), .string (zS (rcE s) (if (sr (bt s 0) 4) = 6 then (s.extract 40 s.size) else (s.extract 20 s.size)))]) (ls [.bool (zB (rcE s) (decide ((sr (bt s 0) 4) = 6))), .int .u64 (zI (rcE s) (if (sr (bt s 0) 4) = 6 then (bdv (s.extract 8 16)) else 0)), .int .u64 (zI (rcE s) (if (sr (bt s 0) 4) = 6 then (bdv (s.extract 16 24)) else (bdv (s.extract 12 16)))), .bool (zB (rcE s) (decide ((sr (bt s 0) 4) = 6))), .int .u64 (zI (rcE s) (if (sr (bt s 0) 4) = 6 then (bdv (s.extract 24 32)) else 0)), .int .u64 (zI (rcE s) (if (sr (bt s 0) 4) = 6 then (bdv (s.extract 32 40)) else (bdv (s.extract 16 20)))), .int .u8 (zI (rcE s) (if (sr (bt s 0) 4) = 6 then (bt s 6) else (bt s 9))), .int .u8 (zI (rcE s) (if (sr (bt s 0) 4) = 6 then (bt s 7) else (bt s 8))), .string (zS (rcE s) (if (sr (bt s 0) 4) = 6 then (s.extract 40 s.size) else (s.extract 20 s.size)))]) (by kernel_rfl) inz26 (by decide) (one_ls _ rfl) (fun j hj => by rw [if_pos (by omega), Nat.sub_zero]) ?_
        intro u7 M
        replace M : Mem ⟨w, []⟩ [⟨g1, .cells (av 9 (ls [.bool (v0), .int .u64 h0, .int .u64 l0, .bool (v1), .int .u64 h1, .int .u64 l1, .int .u8 p, .int .u8 t, .string d])) 26⟩, ⟨g2, .cells (av 3 (ls [.bool (va), .int .u64 ha, .int .u64 la])) 24⟩, ⟨g3, .cells (av 4 (ls [.bool (vx), .int .u64 hx_, .int .u64 lx, .int .u8 bx])) 39⟩, ⟨g4, .cells (av 9 (ls [.bool (zB (rcE s) (decide ((sr (bt s 0) 4) = 6))), .int .u64 (zI (rcE s) (if (sr (bt s 0) 4) = 6 then (bdv (s.extract 8 16)) else 0)), .int .u64 (zI (rcE s) (if (sr (bt s 0) 4) = 6 then (bdv (s.extract 16 24)) else (bdv (s.extract 12 16)))), .bool (zB (rcE s) (decide ((sr (bt s 0) 4) = 6))), .int .u64 (zI (rcE s) (if (sr (bt s 0) 4) = 6 then (bdv (s.extract 24 32)) else 0)), .int .u64 (zI (rcE s) (if (sr (bt s 0) 4) = 6 then (bdv (s.extract 32 40)) else (bdv (s.extract 16 20)))), .int .u8 (zI (rcE s) (if (sr (bt s 0) 4) = 6 then (bt s 6) else (bt s 9))), .int .u8 (zI (rcE s) (if (sr (bt s 0) 4) = 6 then (bt s 7) else (bt s 8))), .string (zS (rcE s) (if (sr (bt s 0) 4) = 6 then (s.extract 40 s.size) else (s.extract 20 s.size)))])) 26⟩] u7 := M
        refine pl_val (want_no rfl) (some 15) rfl (.int .i64 (rcE s)) (fun _ => by kernel_rfl) ?_
        refine pl_nil ?_
        refine au_then ?_
        refine wp_seq ?_
        refine cut_at (I := fun a w' => ∃ yv2 : Nat → Value, a = ⟨#[.agg (av 9 (ls [.bool (v0), .int .u64 h0, .int .u64 l0, .bool (v1), .int .u64 h1, .int .u64 l1, .int .u8 p, .int .u8 t, .string d])), .string s, .agg (av 3 (ls [.bool (va), .int .u64 ha, .int .u64 la])), .agg (av 4 (ls [.bool (vx), .int .u64 hx_, .int .u64 lx, .int .u8 bx])), .pointer (some ⟨g1, 0, none⟩), undef, .pointer (some ⟨g2, 0, none⟩), .pointer (some ⟨g3, 0, none⟩), yv2 8, .string (enS v0 h0 l0 v1 h1 l1 p t d), .int .i64 (my v0 h0 l0 v1 h1 l1 (d.size : Int)), yv1 11, yv1 12, yv1 13, .pointer (some ⟨g4, 0, none⟩), .int .i64 (rcE s), yv2 16, yv2 17, yv2 18, yv2 19, undef, undef, undef, undef, .pointer (some ⟨g1, 8, none⟩), .string d, .int .i64 (d.size : Int), .bool false, .bool false, .string s, .int .i64 (s.size : Int), .bool false, .bool false, undef, .tuple #[.string (enS v0 h0 l0 v1 h1 l1 p t d), .int .i64 (my v0 h0 l0 v1 h1 l1 (d.size : Int))], .agg (av 9 (ls [.bool (v0), .int .u64 h0, .int .u64 l0, .bool (v1), .int .u64 h1, .int .u64 l1, .int .u8 p, .int .u8 t, .string d])), .tuple #[.string (enS v0 h0 l0 v1 h1 l1 p t d), .int .i64 (my v0 h0 l0 v1 h1 l1 (d.size : Int))], .string (enS v0 h0 l0 v1 h1 l1 p t d), .int .i64 (my v0 h0 l0 v1 h1 l1 (d.size : Int)), yv1 39, yv1 40, yv1 41, yv1 42, yv1 43, yv1 44, yv1 45, yv1 46, yv1 47, yv1 48, yv1 49, yv1 50, yv1 51, yv1 52, yv1 53, yv1 54, yv1 55, yv1 56, yv1 57, yv1 58, yv1 59, yv1 60, yv1 61, yv1 62, yv1 63, .tuple #[.agg (av 9 (ls [.bool (zB (rcE s) (decide ((sr (bt s 0) 4) = 6))), .int .u64 (zI (rcE s) (if (sr (bt s 0) 4) = 6 then (bdv (s.extract 8 16)) else 0)), .int .u64 (zI (rcE s) (if (sr (bt s 0) 4) = 6 then (bdv (s.extract 16 24)) else (bdv (s.extract 12 16)))), .bool (zB (rcE s) (decide ((sr (bt s 0) 4) = 6))), .int .u64 (zI (rcE s) (if (sr (bt s 0) 4) = 6 then (bdv (s.extract 24 32)) else 0)), .int .u64 (zI (rcE s) (if (sr (bt s 0) 4) = 6 then (bdv (s.extract 32 40)) else (bdv (s.extract 16 20)))), .int .u8 (zI (rcE s) (if (sr (bt s 0) 4) = 6 then (bt s 6) else (bt s 9))), .int .u8 (zI (rcE s) (if (sr (bt s 0) 4) = 6 then (bt s 7) else (bt s 8))), .string (zS (rcE s) (if (sr (bt s 0) 4) = 6 then (s.extract 40 s.size) else (s.extract 20 s.size)))])), .int .i64 (rcE s)], .string s, .tuple #[.agg (av 9 (ls [.bool (zB (rcE s) (decide ((sr (bt s 0) 4) = 6))), .int .u64 (zI (rcE s) (if (sr (bt s 0) 4) = 6 then (bdv (s.extract 8 16)) else 0)), .int .u64 (zI (rcE s) (if (sr (bt s 0) 4) = 6 then (bdv (s.extract 16 24)) else (bdv (s.extract 12 16)))), .bool (zB (rcE s) (decide ((sr (bt s 0) 4) = 6))), .int .u64 (zI (rcE s) (if (sr (bt s 0) 4) = 6 then (bdv (s.extract 24 32)) else 0)), .int .u64 (zI (rcE s) (if (sr (bt s 0) 4) = 6 then (bdv (s.extract 32 40)) else (bdv (s.extract 16 20)))), .int .u8 (zI (rcE s) (if (sr (bt s 0) 4) = 6 then (bt s 6) else (bt s 9))), .int .u8 (zI (rcE s) (if (sr (bt s 0) 4) = 6 then (bt s 7) else (bt s 8))), .string (zS (rcE s) (if (sr (bt s 0) 4) = 6 then (s.extract 40 s.size) else (s.extract 20 s.size)))])), .int .i64 (rcE s)], .agg (av 9 (ls [.bool (zB (rcE s) (decide ((sr (bt s 0) 4) = 6))), .int .u64 (zI (rcE s) (if (sr (bt s 0) 4) = 6 then (bdv (s.extract 8 16)) else 0)), .int .u64 (zI (rcE s) (if (sr (bt s 0) 4) = 6 then (bdv (s.extract 16 24)) else (bdv (s.extract 12 16)))), .bool (zB (rcE s) (decide ((sr (bt s 0) 4) = 6))), .int .u64 (zI (rcE s) (if (sr (bt s 0) 4) = 6 then (bdv (s.extract 24 32)) else 0)), .int .u64 (zI (rcE s) (if (sr (bt s 0) 4) = 6 then (bdv (s.extract 32 40)) else (bdv (s.extract 16 20)))), .int .u8 (zI (rcE s) (if (sr (bt s 0) 4) = 6 then (bt s 6) else (bt s 9))), .int .u8 (zI (rcE s) (if (sr (bt s 0) 4) = 6 then (bt s 7) else (bt s 8))), .string (zS (rcE s) (if (sr (bt s 0) 4) = 6 then (s.extract 40 s.size) else (s.extract 20 s.size)))])), .int .i64 (rcE s), yv2 69, yv2 70, yv2 71, yv2 72, yv2 73, yv2 74, yv2 75, yv2 76, yv2 77, yv2 78, yv2 79, yv2 80, yv2 81, yv2 82, yv2 83, yv2 84, yv2 85, yv2 86, yv2 87, yv2 88, yv2 89, yv2 90, yv2 91, yv2 92, yv2 93, yv2 94, yv2 95, yv2 96, yv2 97, yv2 98, yv2 99, yv2 100, yv2 101, yv2 102, yv2 103, yv2 104, yv2 105, yv2 106, yv2 107, yv2 108, yv2 109, yv2 110, yv2 111, yv2 112, yv2 113, yv2 114, yv2 115, yv2 116, yv2 117, yv2 118, yv2 119, yv2 120, yv2 121, yv2 122, yv2 123, yv2 124, yv2 125, yv2 126, yv2 127, yv2 128, yv2 129, yv2 130, yv2 131, yv2 132, yv2 133, yv2 134, yv2 135, yv2 136, yv2 137, yv2 138, undef, undef, undef, undef, undef, undef, undef, undef, undef, undef, undef, undef, undef, undef, undef, undef, undef, undef, undef, undef, undef, undef, undef, undef, undef, undef, undef, undef, undef, undef, undef, undef, undef, undef, undef, undef, undef, undef, undef, undef, undef], []⟩ ∧ Mem ⟨w, []⟩ [⟨g1, .cells (av 9 (ls [.bool (v0), .int .u64 h0, .int .u64 l0, .bool (v1), .int .u64 h1, .int .u64 l1, .int .u8 p, .int .u8 t, .string d])) 26⟩, ⟨g2, .cells (av 3 (ls [.bool (va), .int .u64 ha, .int .u64 la])) 24⟩, ⟨g3, .cells (av 4 (ls [.bool (vx), .int .u64 hx_, .int .u64 lx, .int .u8 bx])) 39⟩, ⟨g4, .cells (av 9 (ls [.bool (zB (rcE s) (decide ((sr (bt s 0) 4) = 6))), .int .u64 (zI (rcE s) (if (sr (bt s 0) 4) = 6 then (bdv (s.extract 8 16)) else 0)), .int .u64 (zI (rcE s) (if (sr (bt s 0) 4) = 6 then (bdv (s.extract 16 24)) else (bdv (s.extract 12 16)))), .bool (zB (rcE s) (decide ((sr (bt s 0) 4) = 6))), .int .u64 (zI (rcE s) (if (sr (bt s 0) 4) = 6 then (bdv (s.extract 24 32)) else 0)), .int .u64 (zI (rcE s) (if (sr (bt s 0) 4) = 6 then (bdv (s.extract 32 40)) else (bdv (s.extract 16 20)))), .int .u8 (zI (rcE s) (if (sr (bt s 0) 4) = 6 then (bt s 6) else (bt s 9))), .int .u8 (zI (rcE s) (if (sr (bt s 0) 4) = 6 then (bt s 7) else (bt s 8))), .string (zS (rcE s) (if (sr (bt s 0) 4) = 6 then (s.extract 40 s.size) else (s.extract 20 s.size)))])) 26⟩] w') ?_ ?_
        · skip
          refine wp_seq ?_
          refine rg_lit ?_
          refine pl_val (want_no rfl) (some 69) rfl (.int .i64 (rcE s)) (fun _ => by kernel_rfl) ?_
          by_cases c2 : (rcE s) = 0
          · skip
            refine pl_val (want_no rfl) (some 70) rfl (.bool true) (fun w => Eq.trans (b := .ok (.value (.bool (decide ((rcE s) = 0)))) w) (by kernel_rfl) (by rw [decide_eq_true (c2)])) ?_
            refine pl_nil ?_
            refine au_then ?_
            refine wp_cond_true (by kernel_rfl) ?_
            refine wp_seq ?_
            refine rg_lit ?_
            refine pl_load M (want_no rfl) (some 72) rfl 26 _ rfl 3 g4 0 (by kernel_rfl) 9 26 (ls [.bool (zB (rcE s) (decide ((sr (bt s 0) 4) = 6))), .int .u64 (zI (rcE s) (if (sr (bt s 0) 4) = 6 then (bdv (s.extract 8 16)) else 0)), .int .u64 (zI (rcE s) (if (sr (bt s 0) 4) = 6 then (bdv (s.extract 16 24)) else (bdv (s.extract 12 16)))), .bool (zB (rcE s) (decide ((sr (bt s 0) 4) = 6))), .int .u64 (zI (rcE s) (if (sr (bt s 0) 4) = 6 then (bdv (s.extract 24 32)) else 0)), .int .u64 (zI (rcE s) (if (sr (bt s 0) 4) = 6 then (bdv (s.extract 32 40)) else (bdv (s.extract 16 20)))), .int .u8 (zI (rcE s) (if (sr (bt s 0) 4) = 6 then (bt s 6) else (bt s 9))), .int .u8 (zI (rcE s) (if (sr (bt s 0) 4) = 6 then (bt s 7) else (bt s 8))), .string (zS (rcE s) (if (sr (bt s 0) 4) = 6 then (s.extract 40 s.size) else (s.extract 20 s.size)))]) rfl 9 (ls [.bool (zB (rcE s) (decide ((sr (bt s 0) 4) = 6))), .int .u64 (zI (rcE s) (if (sr (bt s 0) 4) = 6 then (bdv (s.extract 8 16)) else 0)), .int .u64 (zI (rcE s) (if (sr (bt s 0) 4) = 6 then (bdv (s.extract 16 24)) else (bdv (s.extract 12 16)))), .bool (zB (rcE s) (decide ((sr (bt s 0) 4) = 6))), .int .u64 (zI (rcE s) (if (sr (bt s 0) 4) = 6 then (bdv (s.extract 24 32)) else 0)), .int .u64 (zI (rcE s) (if (sr (bt s 0) 4) = 6 then (bdv (s.extract 32 40)) else (bdv (s.extract 16 20)))), .int .u8 (zI (rcE s) (if (sr (bt s 0) 4) = 6 then (bt s 6) else (bt s 9))), .int .u8 (zI (rcE s) (if (sr (bt s 0) 4) = 6 then (bt s 7) else (bt s 8))), .string (zS (rcE s) (if (sr (bt s 0) 4) = 6 then (s.extract 40 s.size) else (s.extract 20 s.size)))]) (fun j _ => by rw [Nat.zero_add]) (by decide) _ Tryz.underlying26 rfl inz26 ?_
            refine pl_call M (want_no rfl) (some 73) rfl 10 #[.agg (av 9 (ls [.bool (zB (rcE s) (decide ((sr (bt s 0) 4) = 6))), .int .u64 (zI (rcE s) (if (sr (bt s 0) 4) = 6 then (bdv (s.extract 8 16)) else 0)), .int .u64 (zI (rcE s) (if (sr (bt s 0) 4) = 6 then (bdv (s.extract 16 24)) else (bdv (s.extract 12 16)))), .bool (zB (rcE s) (decide ((sr (bt s 0) 4) = 6))), .int .u64 (zI (rcE s) (if (sr (bt s 0) 4) = 6 then (bdv (s.extract 24 32)) else 0)), .int .u64 (zI (rcE s) (if (sr (bt s 0) 4) = 6 then (bdv (s.extract 32 40)) else (bdv (s.extract 16 20)))), .int .u8 (zI (rcE s) (if (sr (bt s 0) 4) = 6 then (bt s 6) else (bt s 9))), .int .u8 (zI (rcE s) (if (sr (bt s 0) 4) = 6 then (bt s 7) else (bt s 8))), .string (zS (rcE s) (if (sr (bt s 0) 4) = 6 then (s.extract 40 s.size) else (s.extract 20 s.size)))]))] (.tuple #[.string (reU s), .int .i64 0]) (fun _ => by kernel_rfl) (fun w M => c_EncR s c2 w M.laid) ?_
            intro u8 M
            refine pl_val (want_no rfl) (some 71) rfl (.tuple #[.string (reU s), .int .i64 0]) (fun _ => by kernel_rfl) ?_
            refine pl_val (want_no rfl) (some 74) rfl (.string (reU s)) (fun _ => by kernel_rfl) ?_
            refine pl_val (want_no rfl) (some 75) rfl (.int .i64 0) (fun _ => by kernel_rfl) ?_
            refine pl_val (want_no rfl) (some 16) rfl (.string (reU s)) (fun _ => by kernel_rfl) ?_
            refine pl_val (want_no rfl) (some 17) rfl (.int .i64 0) (fun _ => by kernel_rfl) ?_
            refine pl_nil ?_
            obtain ⟨k1, k2, k3⟩ := reU_parts s c2
            have k4 := zD s c2
            have k5 := (rcE_size s c2).1
            refine au_then ?_
            refine wp_seq ?_
            refine wp_seq ?_
            refine rg_tail M 21 (by kernel_rfl) (by kernel_rfl) ?_
            simp only [List.take_succ_cons, List.take_zero]
            refine k_val (want_no rfl) (some 76) rfl (.int .i64 0) (fun _ => by kernel_rfl) ?_
            refine k_val (want_no rfl) (some 77) rfl (.bool false) (fun _ => by kernel_rfl) ?_
            refine k_val (want_no rfl) (some 78) rfl (.bool false) (fun _ => by kernel_rfl) ?_
            refine k_val (want_on 2 false rfl 78 rfl (by kernel_rfl)) (some 79) rfl (.string (reU s)) (fun _ => by kernel_rfl) ?_
            refine k_val (want_on 2 false rfl 78 rfl (by kernel_rfl)) (some 80) rfl (.int .i64 ((reU s).size : Int)) (fun _ => by kernel_rfl) ?_
            refine k_val (want_on 2 false rfl 78 rfl (by kernel_rfl)) (some 81) rfl (.string s) (fun _ => by kernel_rfl) ?_
            refine k_val (want_on 2 false rfl 78 rfl (by kernel_rfl)) (some 82) rfl (.int .i64 (s.size : Int)) (fun _ => by kernel_rfl) ?_
            refine k_val (want_on 2 false rfl 78 rfl (by kernel_rfl)) (some 83) rfl (.bool false) (fun w => Eq.trans (b := .ok (.value (.bool (!(decide (((reU s).size : Int) = (s.size : Int)))))) w) (by kernel_rfl) (by rw [k1, decide_eq_true rfl]; rfl)) ?_
            refine k_val (want_no rfl) (some 84) rfl (.bool false) (fun _ => by kernel_rfl) ?_
            refine k_val (want_no rfl) (some 85) rfl (.bool false) (fun _ => by kernel_rfl) ?_
            refine k_val (want_on 9 false rfl 85 rfl (by kernel_rfl)) (some 86) rfl (.string (reU s)) (fun _ => by kernel_rfl) ?_
            refine k_val (want_on 9 false rfl 85 rfl (by kernel_rfl)) (some 87) rfl (.string (reU s)) (fun _ => by kernel_rfl) ?_
            refine k_val (want_on 9 false rfl 85 rfl (by kernel_rfl)) (some 88) rfl (.int .i64 ((reU s).size : Int)) (fun _ => by kernel_rfl) ?_
            refine k_val (want_on 9 false rfl 85 rfl (by kernel_rfl)) (some 89) rfl (.pointer (some ⟨g4, 8, none⟩)) (fun _ => by kernel_rfl) ?_
            refine k_cell M (want_on 9 false rfl 85 rfl (by kernel_rfl)) (some 90) rfl 9 _ rfl g4 8 (by kernel_rfl) (.string (zS (rcE s) (if (sr (bt s 0) 4) = 6 then (s.extract 40 s.size) else (s.extract 20 s.size)))) (fun _ => by kernel_rfl) (fun w M => M.cell 3 rfl (by decide) rfl) ?_
            refine k_val (want_on 9 false rfl 85 rfl (by kernel_rfl)) (some 91) rfl (.int .i64 ((zS (rcE s) (if (sr (bt s 0) 4) = 6 then (s.extract 40 s.size) else (s.extract 20 s.size))).size : Int)) (fun _ => by kernel_rfl) ?_
            refine k_val (want_on 9 false rfl 85 rfl (by kernel_rfl)) (some 92) rfl (.int .i64 (((s.size - (reD s).size) : Nat) : Int)) (fun w => Eq.trans (b := .ok (.value (.int .i64 (cv .i64 (((reU s).size : Int) - ((zS (rcE s) (if (sr (bt s 0) 4) = 6 then (s.extract 40 s.size) else (s.extract 20 s.size))).size : Int))))) w) (by kernel_rfl) (by rw [k4, k1, cv_i64 (by omega) (by omega)]; congr 3; omega)) ?_
            refine k_val (want_on 9 false rfl 85 rfl (by kernel_rfl)) (some 93) rfl (.string ((reU s).extract (s.size - (reD s).size) (reU s).size)) (run_strl 9 Tryz.underlying9 _ _ rfl (reU s) (by kernel_rfl) .i64 (s.size - (reD s).size) (by kernel_rfl) (by omega) _ rfl) ?_
            refine k_val (want_on 9 false rfl 85 rfl (by kernel_rfl)) (some 94) rfl (.pointer (some ⟨g4, 8, none⟩)) (fun _ => by kernel_rfl) ?_
            refine k_cell M (want_on 9 false rfl 85 rfl (by kernel_rfl)) (some 95) rfl 9 _ rfl g4 8 (by kernel_rfl) (.string (zS (rcE s) (if (sr (bt s 0) 4) = 6 then (s.extract 40 s.size) else (s.extract 20 s.size)))) (fun _ => by kernel_rfl) (fun w M => M.cell 3 rfl (by decide) rfl) ?_
            refine k_val (want_on 9 false rfl 85 rfl (by kernel_rfl)) (some 96) rfl (.bool false) (fun w => Eq.trans (b := .ok (.value (.bool (!(((reU s).extract (s.size - (reD s).size) (reU s).size).toList == ((zS (rcE s) (if (sr (bt s 0) 4) = 6 then (s.extract 40 s.size) else (s.extract 20 s.size)))).toList)))) w) (by kernel_rfl) (by rw [seq_pos (show (reU s).extract (s.size - (reD s).size) (reU s).size = (zS (rcE s) (if (sr (bt s 0) 4) = 6 then (s.extract 40 s.size) else (s.extract 20 s.size))) by rw [k1, k4]; exact k3)]; rfl)) ?_
            refine kl_nil ?_
            intro u9 M
            replace M : Mem ⟨w, []⟩ [⟨g1, .cells (av 9 (ls [.bool (v0), .int .u64 h0, .int .u64 l0, .bool (v1), .int .u64 h1, .int .u64 l1, .int .u8 p, .int .u8 t, .string d])) 26⟩, ⟨g2, .cells (av 3 (ls [.bool (va), .int .u64 ha, .int .u64 la])) 24⟩, ⟨g3, .cells (av 4 (ls [.bool (vx), .int .u64 hx_, .int .u64 lx, .int .u8 bx])) 39⟩, ⟨g4, .cells (av 9 (ls [.bool (zB (rcE s) (decide ((sr (bt s 0) 4) = 6))), .int .u64 (zI (rcE s) (if (sr (bt s 0) 4) = 6 then (bdv (s.extract 8 16)) else 0)), .int .u64 (zI (rcE s) (if (sr (bt s 0) 4) = 6 then (bdv (s.extract 16 24)) else (bdv (s.extract 12 16)))), .bool (zB (rcE s) (decide ((sr (bt s 0) 4) = 6))), .int .u64 (zI (rcE s) (if (sr (bt s 0) 4) = 6 then (bdv (s.extract 24 32)) else 0)), .int .u64 (zI (rcE s) (if (sr (bt s 0) 4) = 6 then (bdv (s.extract 32 40)) else (bdv (s.extract 16 20)))), .int .u8 (zI (rcE s) (if (sr (bt s 0) 4) = 6 then (bt s 6) else (bt s 9))), .int .u8 (zI (rcE s) (if (sr (bt s 0) 4) = 6 then (bt s 7) else (bt s 8))), .string (zS (rcE s) (if (sr (bt s 0) 4) = 6 then (s.extract 40 s.size) else (s.extract 20 s.size)))])) 26⟩] u9 := M
            refine pl_val (want_no rfl) (some 97) rfl (.bool false) (fun _ => by kernel_rfl) ?_
            refine pl_nil ?_
            refine au_then ?_
            refine wp_cond_false (by kernel_rfl) ?_
            refine wp_skip ?_
            refine au_then ?_
            refine wp_seq ?_
            refine rg_tail M 14 (by kernel_rfl) (by kernel_rfl) ?_
            simp only [List.take_succ_cons, List.take_zero]
            refine k_val (want_no rfl) (some 98) rfl (.string s) (fun _ => by kernel_rfl) ?_
            refine k_val (want_no rfl) (some 99) rfl (.int .u8 (bt s 0)) (run_ixS 9 Tryz.underlying9 _ _ rfl s (by kernel_rfl) .i64 0 (by kernel_rfl) (by omega)) ?_
            by_cases c3 : (bt s 0) = 96
            · skip
              refine k_val (want_no rfl) (some 100) rfl (.bool true) (fun w => Eq.trans (b := .ok (.value (.bool (decide ((bt s 0) = 96)))) w) (by kernel_rfl) (by rw [decide_eq_true (c3)])) ?_
              refine k_val (want_no rfl) (some 101) rfl (.bool true) (fun _ => by kernel_rfl) ?_
              refine k_val (want_on 3 true rfl 101 rfl (by kernel_rfl)) (some 102) rfl (.string s) (fun _ => by kernel_rfl) ?_
              refine k_val (want_on 3 true rfl 101 rfl (by kernel_rfl)) (some 103) rfl (.int .u8 (bt s 1)) (run_ixS 9 Tryz.underlying9 _ _ rfl s (by kernel_rfl) .i64 1 (by kernel_rfl) (by omega)) ?_
              refine k_val (want_on 3 true rfl 101 rfl (by kernel_rfl)) (some 104) rfl (.string s) (fun _ => by kernel_rfl) ?_
              refine k_val (want_on 3 true rfl 101 rfl (by kernel_rfl)) (some 105) rfl (.int .u8 (bt s 2)) (run_ixS 9 Tryz.underlying9 _ _ rfl s (by kernel_rfl) .i64 2 (by kernel_rfl) (by omega)) ?_
              refine k_val (want_on 3 true rfl 101 rfl (by kernel_rfl)) (some 106) rfl (.int .u8 (ob8 (bt s 1) (bt s 2))) (fun _ => by kernel_rfl) ?_
              refine k_val (want_on 3 true rfl 101 rfl (by kernel_rfl)) (some 107) rfl (.string s) (fun _ => by kernel_rfl) ?_
              refine k_val (want_on 3 true rfl 101 rfl (by kernel_rfl)) (some 108) rfl (.int .u8 (bt s 3)) (run_ixS 9 Tryz.underlying9 _ _ rfl s (by kernel_rfl) .i64 3 (by kernel_rfl) (by omega)) ?_
              refine k_val (want_on 3 true rfl 101 rfl (by kernel_rfl)) (some 109) rfl (.int .u8 (ob8 (ob8 (bt s 1) (bt s 2)) (bt s 3))) (fun _ => by kernel_rfl) ?_
              by_cases c4 : (ob8 (ob8 (bt s 1) (bt s 2)) (bt s 3)) = 0
              · skip
                refine k_val (want_on 3 true rfl 101 rfl (by kernel_rfl)) (some 110) rfl (.bool true) (fun w => Eq.trans (b := .ok (.value (.bool (decide ((ob8 (ob8 (bt s 1) (bt s 2)) (bt s 3)) = 0)))) w) (by kernel_rfl) (by rw [decide_eq_true (c4)])) ?_
                refine k_val (want_no rfl) (some 111) rfl (.bool true) (fun _ => by kernel_rfl) ?_
                refine kl_nil ?_
                intro u10 M
                replace M : Mem ⟨w, []⟩ [⟨g1, .cells (av 9 (ls [.bool (v0), .int .u64 h0, .int .u64 l0, .bool (v1), .int .u64 h1, .int .u64 l1, .int .u8 p, .int .u8 t, .string d])) 26⟩, ⟨g2, .cells (av 3 (ls [.bool (va), .int .u64 ha, .int .u64 la])) 24⟩, ⟨g3, .cells (av 4 (ls [.bool (vx), .int .u64 hx_, .int .u64 lx, .int .u8 bx])) 39⟩, ⟨g4, .cells (av 9 (ls [.bool (zB (rcE s) (decide ((sr (bt s 0) 4) = 6))), .int .u64 (zI (rcE s) (if (sr (bt s 0) 4) = 6 then (bdv (s.extract 8 16)) else 0)), .int .u64 (zI (rcE s) (if (sr (bt s 0) 4) = 6 then (bdv (s.extract 16 24)) else (bdv (s.extract 12 16)))), .bool (zB (rcE s) (decide ((sr (bt s 0) 4) = 6))), .int .u64 (zI (rcE s) (if (sr (bt s 0) 4) = 6 then (bdv (s.extract 24 32)) else 0)), .int .u64 (zI (rcE s) (if (sr (bt s 0) 4) = 6 then (bdv (s.extract 32 40)) else (bdv (s.extract 16 20)))), .int .u8 (zI (rcE s) (if (sr (bt s 0) 4) = 6 then (bt s 6) else (bt s 9))), .int .u8 (zI (rcE s) (if (sr (bt s 0) 4) = 6 then (bt s 7) else (bt s 8))), .string (zS (rcE s) (if (sr (bt s 0) 4) = 6 then (s.extract 40 s.size) else (s.extract 20 s.size)))])) 26⟩] u10 := M
                refine pl_val (want_no rfl) (some 18) rfl (.bool true) (fun _ => by kernel_rfl) ?_
                refine pl_nil ?_
                refine au_then ?_
                refine wp_seq ?_
                refine rg_lit ?_
                refine pl_val (want_no rfl) (some 112) rfl (.string s) (fun _ => by kernel_rfl) ?_
                refine pl_val (want_no rfl) (some 113) rfl (.int .u8 (bt s 0)) (run_ixS 9 Tryz.underlying9 _ _ rfl s (by kernel_rfl) .i64 0 (by kernel_rfl) (by omega)) ?_
                by_cases c5 : (bt s 0) = 69
                · skip
                  refine pl_val (want_no rfl) (some 114) rfl (.bool true) (fun w => Eq.trans (b := .ok (.value (.bool (decide ((bt s 0) = 69)))) w) (by kernel_rfl) (by rw [decide_eq_true (c5)])) ?_
                  refine pl_val (want_no rfl) (some 115) rfl (.bool true) (fun _ => by kernel_rfl) ?_
                  refine pl_val (want_on 3 true rfl 115 rfl (by kernel_rfl)) (some 116) rfl (.string s) (fun _ => by kernel_rfl) ?_
                  refine pl_val (want_on 3 true rfl 115 rfl (by kernel_rfl)) (some 117) rfl (.int .u8 (bt s 1)) (run_ixS 9 Tryz.underlying9 _ _ rfl s (by kernel_rfl) .i64 1 (by kernel_rfl) (by omega)) ?_
                  by_cases c6 : (bt s 1) = 0
                  · skip
                    refine pl_val (want_on 3 true rfl 115 rfl (by kernel_rfl)) (some 118) rfl (.bool true) (fun w => Eq.trans (b := .ok (.value (.bool (decide ((bt s 1) = 0)))) w) (by kernel_rfl) (by rw [decide_eq_true (c6)])) ?_
                    refine pl_val (want_no rfl) (some 119) rfl (.bool true) (fun _ => by kernel_rfl) ?_
                    refine pl_val (want_no rfl) (some 120) rfl (.bool true) (fun _ => by kernel_rfl) ?_
                    refine pl_val (want_on 8 true rfl 120 rfl (by kernel_rfl)) (some 121) rfl (.string s) (fun _ => by kernel_rfl) ?_
                    refine pl_val (want_on 8 true rfl 120 rfl (by kernel_rfl)) (some 122) rfl (.string (s.extract 4 8)) (run_strlh 9 Tryz.underlying9 _ _ _ rfl s (by kernel_rfl) .i64 .i64 4 8 (by kernel_rfl) (by kernel_rfl) (by omega) (by omega)) ?_
                    by_cases c7 : (s.extract 4 8) = (⟨#[0, 0, 0, 0]⟩ : ByteArray)
                    · skip
                      refine pl_val (want_on 8 true rfl 120 rfl (by kernel_rfl)) (some 123) rfl (.bool true) (fun w => Eq.trans (b := .ok (.value (.bool ((s.extract 4 8).toList == (⟨#[0, 0, 0, 0]⟩ : ByteArray).toList))) w) (by kernel_rfl) (by rw [seq_pos c7])) ?_
                      refine pl_val (want_no rfl) (some 124) rfl (.bool true) (fun _ => by kernel_rfl) ?_
                      refine pl_val (want_no rfl) (some 125) rfl (.bool true) (fun _ => by kernel_rfl) ?_
                      refine pl_val (want_on 13 true rfl 125 rfl (by kernel_rfl)) (some 126) rfl (.string s) (fun _ => by kernel_rfl) ?_
                      refine pl_val (want_on 13 true rfl 125 rfl (by kernel_rfl)) (some 127) rfl (.string (s.extract 10 12)) (run_strlh 9 Tryz.underlying9 _ _ _ rfl s (by kernel_rfl) .i64 .i64 10 12 (by kernel_rfl) (by kernel_rfl) (by omega) (by omega)) ?_
                      by_cases c8 : (s.extract 10 12) = (⟨#[255, 255]⟩ : ByteArray)
                      · skip
                        refine pl_val (want_on 13 true rfl 125 rfl (by kernel_rfl)) (some 128) rfl (.bool false) (fun w => Eq.trans (b := .ok (.value (.bool (!((s.extract 10 12).toList == (⟨#[255, 255]⟩ : ByteArray).toList)))) w) (by kernel_rfl) (by rw [seq_pos c8]; rfl)) ?_
                        refine pl_val (want_no rfl) (some 129) rfl (.bool false) (fun _ => by kernel_rfl) ?_
                        refine pl_val (want_no rfl) (some 19) rfl (.bool false) (fun _ => by kernel_rfl) ?_
                        refine pl_nil ?_
                        refine au_then ?_
                        refine wp_seq ?_
                        refine rg_lit ?_
                        refine pl_val (want_no rfl) (some 130) rfl (.bool true) (fun _ => by kernel_rfl) ?_
                        refine pl_val (want_no rfl) (some 131) rfl (.bool true) (fun _ => by kernel_rfl) ?_
                        refine pl_skip (want_off 1 false rfl 131 rfl (by kernel_rfl)) (some 132) rfl ?_
                        refine pl_val (want_no rfl) (some 133) rfl (.bool true) (fun _ => by kernel_rfl) ?_
                        refine pl_val (want_no rfl) (some 134) rfl (.bool true) (fun _ => by kernel_rfl) ?_
                        refine pl_val (want_on 4 true rfl 134 rfl (by kernel_rfl)) (some 135) rfl (.string (reU s)) (fun _ => by kernel_rfl) ?_
                        refine pl_val (want_on 4 true rfl 134 rfl (by kernel_rfl)) (some 136) rfl (.string s) (fun _ => by kernel_rfl) ?_
                        refine pl_val (want_on 4 true rfl 134 rfl (by kernel_rfl)) (some 137) rfl (.bool false) (fun w => Eq.trans (b := .ok (.value (.bool (!((reU s).toList == s.toList)))) w) (by kernel_rfl) (by rw [seq_pos (reU_six s c2 c3 (or3 s c4).1 (or3 s c4).2.1 (or3 s c4).2.2)]; rfl)) ?_
                        refine pl_val (want_no rfl) (some 138) rfl (.bool false) (fun _ => by kernel_rfl) ?_
                        refine pl_nil ?_
                        refine au_then ?_
                        refine wp_cond_false (by kernel_rfl) ?_
                        refine wp_skip ?_
                        refine au_then ?_
                        exact ⟨fun k_ => ([yv1 8, undef, undef, undef, undef, undef, undef, undef, .string (reU s), .int .i64 0, .bool true, .bool false, undef, undef, undef, undef, undef, undef, undef, undef, undef, undef, undef, undef, undef, undef, undef, undef, undef, undef, undef, undef, undef, undef, undef, undef, undef, undef, undef, undef, undef, undef, undef, undef, undef, undef, undef, undef, undef, undef, undef, undef, undef, undef, undef, undef, undef, undef, undef, undef, undef, .int .i64 (rcE s), .bool true, .tuple #[.string (reU s), .int .i64 0], .agg (av 9 (ls [.bool (zB (rcE s) (decide ((sr (bt s 0) 4) = 6))), .int .u64 (zI (rcE s) (if (sr (bt s 0) 4) = 6 then (bdv (s.extract 8 16)) else 0)), .int .u64 (zI (rcE s) (if (sr (bt s 0) 4) = 6 then (bdv (s.extract 16 24)) else (bdv (s.extract 12 16)))), .bool (zB (rcE s) (decide ((sr (bt s 0) 4) = 6))), .int .u64 (zI (rcE s) (if (sr (bt s 0) 4) = 6 then (bdv (s.extract 24 32)) else 0)), .int .u64 (zI (rcE s) (if (sr (bt s 0) 4) = 6 then (bdv (s.extract 32 40)) else (bdv (s.extract 16 20)))), .int .u8 (zI (rcE s) (if (sr (bt s 0) 4) = 6 then (bt s 6) else (bt s 9))), .int .u8 (zI (rcE s) (if (sr (bt s 0) 4) = 6 then (bt s 7) else (bt s 8))), .string (zS (rcE s) (if (sr (bt s 0) 4) = 6 then (s.extract 40 s.size) else (s.extract 20 s.size)))])), .tuple #[.string (reU s), .int .i64 0], .string (reU s), .int .i64 0, .int .i64 0, .bool false, .bool false, .string (reU s), .int .i64 ((reU s).size : Int), .string s, .int .i64 (s.size : Int), .bool false, .bool false, .bool false, .string (reU s), .string (reU s), .int .i64 ((reU s).size : Int), .pointer (some ⟨g4, 8, none⟩), .string (zS (rcE s) (if (sr (bt s 0) 4) = 6 then (s.extract 40 s.size) else (s.extract 20 s.size))), .int .i64 ((zS (rcE s) (if (sr (bt s 0) 4) = 6 then (s.extract 40 s.size) else (s.extract 20 s.size))).size : Int), .int .i64 (((s.size - (reD s).size) : Nat) : Int), .string ((reU s).extract (s.size - (reD s).size) (reU s).size), .pointer (some ⟨g4, 8, none⟩), .string (zS (rcE s) (if (sr (bt s 0) 4) = 6 then (s.extract 40 s.size) else (s.extract 20 s.size))), .bool false, .bool false, .string s, .int .u8 (bt s 0), .bool true, .bool true, .string s, .int .u8 (bt s 1), .string s, .int .u8 (bt s 2), .int .u8 (ob8 (bt s 1) (bt s 2)), .string s, .int .u8 (bt s 3), .int .u8 (ob8 (ob8 (bt s 1) (bt s 2)) (bt s 3)), .bool true, .bool true, .string s, .int .u8 (bt s 0), .bool true, .bool true, .string s, .int .u8 (bt s 1), .bool true, .bool true, .bool true, .string s, .string (s.extract 4 8), .bool true, .bool true, .bool true, .string s, .string (s.extract 10 12), .bool false, .bool false, .bool true, .bool true, undef, .bool true, .bool true, .string (reU s), .string s, .bool false, .bool false] : List Value).getD (k_ - 8) undef, by kernel_rfl, M⟩
                      · skip
                        refine pl_val (want_on 13 true rfl 125 rfl (by kernel_rfl)) (some 128) rfl (.bool true) (fun w => Eq.trans (b := .ok (.value (.bool (!((s.extract 10 12).toList == (⟨#[255, 255]⟩ : ByteArray).toList)))) w) (by kernel_rfl) (by rw [seq_neg c8]; rfl)) ?_
                        refine pl_val (want_no rfl) (some 129) rfl (.bool true) (fun _ => by kernel_rfl) ?_
                        refine pl_val (want_no rfl) (some 19) rfl (.bool true) (fun _ => by kernel_rfl) ?_
                        refine pl_nil ?_
                        refine au_then ?_
                        refine wp_seq ?_
                        refine rg_lit ?_
                        refine pl_val (want_no rfl) (some 130) rfl (.bool true) (fun _ => by kernel_rfl) ?_
                        refine pl_val (want_no rfl) (some 131) rfl (.bool true) (fun _ => by kernel_rfl) ?_
                        refine pl_skip (want_off 1 false rfl 131 rfl (by kernel_rfl)) (some 132) rfl ?_
                        refine pl_val (want_no rfl) (some 133) rfl (.bool true) (fun _ => by kernel_rfl) ?_
                        refine pl_val (want_no rfl) (some 134) rfl (.bool true) (fun _ => by kernel_rfl) ?_
                        refine pl_val (want_on 4 true rfl 134 rfl (by kernel_rfl)) (some 135) rfl (.string (reU s)) (fun _ => by kernel_rfl) ?_
                        refine pl_val (want_on 4 true rfl 134 rfl (by kernel_rfl)) (some 136) rfl (.string s) (fun _ => by kernel_rfl) ?_
                        refine pl_val (want_on 4 true rfl 134 rfl (by kernel_rfl)) (some 137) rfl (.bool false) (fun w => Eq.trans (b := .ok (.value (.bool (!((reU s).toList == s.toList)))) w) (by kernel_rfl) (by rw [seq_pos (reU_six s c2 c3 (or3 s c4).1 (or3 s c4).2.1 (or3 s c4).2.2)]; rfl)) ?_
                        refine pl_val (want_no rfl) (some 138) rfl (.bool false) (fun _ => by kernel_rfl) ?_
                        refine pl_nil ?_
                        refine au_then ?_
                        refine wp_cond_false (by kernel_rfl) ?_
                        refine wp_skip ?_
                        refine au_then ?_
                        exact ⟨fun k_ => ([yv1 8, undef, undef, undef, undef, undef, undef, undef, .string (reU s), .int .i64 0, .bool true, .bool true, undef, undef, undef, undef, undef, undef, undef, undef, undef, undef, undef, undef, undef, undef, undef, undef, undef, undef, undef, undef, undef, undef, undef, undef, undef, undef, undef, undef, undef, undef, undef, undef, undef, undef, undef, undef, undef, undef, undef, undef, undef, undef, undef, undef, undef, undef, undef, undef, undef, .int .i64 (rcE s), .bool true, .tuple #[.string (reU s), .int .i64 0], .agg (av 9 (ls [.bool (zB (rcE s) (decide ((sr (bt s 0) 4) = 6))), .int .u64 (zI (rcE s) (if (sr (bt s 0) 4) = 6 then (bdv (s.extract 8 16)) else 0)), .int .u64 (zI (rcE s) (if (sr (bt s 0) 4) = 6 then (bdv (s.extract 16 24)) else (bdv (s.extract 12 16)))), .bool (zB (rcE s) (decide ((sr (bt s 0) 4) = 6))), .int .u64 (zI (rcE s) (if (sr (bt s 0) 4) = 6 then (bdv (s.extract 24 32)) else 0)), .int .u64 (zI (rcE s) (if (sr (bt s 0) 4) = 6 then (bdv (s.extract 32 40)) else (bdv (s.extract 16 20)))), .int .u8 (zI (rcE s) (if (sr (bt s 0) 4) = 6 then (bt s 6) else (bt s 9))), .int .u8 (zI (rcE s) (if (sr (bt s 0) 4) = 6 then (bt s 7) else (bt s 8))), .string (zS (rcE s) (if (sr (bt s 0) 4) = 6 then (s.extract 40 s.size) else (s.extract 20 s.size)))])), .tuple #[.string (reU s), .int .i64 0], .string (reU s), .int .i64 0, .int .i64 0, .bool false, .bool false, .string (reU s), .int .i64 ((reU s).size : Int), .string s, .int .i64 (s.size : Int), .bool false, .bool false, .bool false, .string (reU s), .string (reU s), .int .i64 ((reU s).size : Int), .pointer (some ⟨g4, 8, none⟩), .string (zS (rcE s) (if (sr (bt s 0) 4) = 6 then (s.extract 40 s.size) else (s.extract 20 s.size))), .int .i64 ((zS (rcE s) (if (sr (bt s 0) 4) = 6 then (s.extract 40 s.size) else (s.extract 20 s.size))).size : Int), .int .i64 (((s.size - (reD s).size) : Nat) : Int), .string ((reU s).extract (s.size - (reD s).size) (reU s).size), .pointer (some ⟨g4, 8, none⟩), .string (zS (rcE s) (if (sr (bt s 0) 4) = 6 then (s.extract 40 s.size) else (s.extract 20 s.size))), .bool false, .bool false, .string s, .int .u8 (bt s 0), .bool true, .bool true, .string s, .int .u8 (bt s 1), .string s, .int .u8 (bt s 2), .int .u8 (ob8 (bt s 1) (bt s 2)), .string s, .int .u8 (bt s 3), .int .u8 (ob8 (ob8 (bt s 1) (bt s 2)) (bt s 3)), .bool true, .bool true, .string s, .int .u8 (bt s 0), .bool true, .bool true, .string s, .int .u8 (bt s 1), .bool true, .bool true, .bool true, .string s, .string (s.extract 4 8), .bool true, .bool true, .bool true, .string s, .string (s.extract 10 12), .bool true, .bool true, .bool true, .bool true, undef, .bool true, .bool true, .string (reU s), .string s, .bool false, .bool false] : List Value).getD (k_ - 8) undef, by kernel_rfl, M⟩
                    · skip
                      refine pl_val (want_on 8 true rfl 120 rfl (by kernel_rfl)) (some 123) rfl (.bool false) (fun w => Eq.trans (b := .ok (.value (.bool ((s.extract 4 8).toList == (⟨#[0, 0, 0, 0]⟩ : ByteArray).toList))) w) (by kernel_rfl) (by rw [seq_neg c7])) ?_
                      refine pl_val (want_no rfl) (some 124) rfl (.bool false) (fun _ => by kernel_rfl) ?_
                      refine pl_val (want_no rfl) (some 125) rfl (.bool false) (fun _ => by kernel_rfl) ?_
                      refine pl_skip (want_off 13 true rfl 125 rfl (by kernel_rfl)) (some 126) rfl ?_
                      refine pl_skip (want_off 13 true rfl 125 rfl (by kernel_rfl)) (some 127) rfl ?_
                      refine pl_skip (want_off 13 true rfl 125 rfl (by kernel_rfl)) (some 128) rfl ?_
                      refine pl_val (want_no rfl) (some 129) rfl (.bool false) (fun _ => by kernel_rfl) ?_
                      refine pl_val (want_no rfl) (some 19) rfl (.bool false) (fun _ => by kernel_rfl) ?_
                      refine pl_nil ?_
                      refine au_then ?_
                      refine wp_seq ?_
                      refine rg_lit ?_
                      refine pl_val (want_no rfl) (some 130) rfl (.bool true) (fun _ => by kernel_rfl) ?_
                      refine pl_val (want_no rfl) (some 131) rfl (.bool true) (fun _ => by kernel_rfl) ?_
                      refine pl_skip (want_off 1 false rfl 131 rfl (by kernel_rfl)) (some 132) rfl ?_
                      refine pl_val (want_no rfl) (some 133) rfl (.bool true) (fun _ => by kernel_rfl) ?_
                      refine pl_val (want_no rfl) (some 134) rfl (.bool true) (fun _ => by kernel_rfl) ?_
                      refine pl_val (want_on 4 true rfl 134 rfl (by kernel_rfl)) (some 135) rfl (.string (reU s)) (fun _ => by kernel_rfl) ?_
                      refine pl_val (want_on 4 true rfl 134 rfl (by kernel_rfl)) (some 136) rfl (.string s) (fun _ => by kernel_rfl) ?_
                      refine pl_val (want_on 4 true rfl 134 rfl (by kernel_rfl)) (some 137) rfl (.bool false) (fun w => Eq.trans (b := .ok (.value (.bool (!((reU s).toList == s.toList)))) w) (by kernel_rfl) (by rw [seq_pos (reU_six s c2 c3 (or3 s c4).1 (or3 s c4).2.1 (or3 s c4).2.2)]; rfl)) ?_
                      refine pl_val (want_no rfl) (some 138) rfl (.bool false) (fun _ => by kernel_rfl) ?_
                      refine pl_nil ?_
                      refine au_then ?_
                      refine wp_cond_false (by kernel_rfl) ?_
                      refine wp_skip ?_
                      refine au_then ?_
                      exact ⟨fun k_ => ([yv1 8, undef, undef, undef, undef, undef, undef, undef, .string (reU s), .int .i64 0, .bool true, .bool false, undef, undef, undef, undef, undef, undef, undef, undef, undef, undef, undef, undef, undef, undef, undef, undef, undef, undef, undef, undef, undef, undef, undef, undef, undef, undef, undef, undef, undef, undef, undef, undef, undef, undef, undef, undef, undef, undef, undef, undef, undef, undef, undef, undef, undef, undef, undef, undef, undef, .int .i64 (rcE s), .bool true, .tuple #[.string (reU s), .int .i64 0], .agg (av 9 (ls [.bool (zB (rcE s) (decide ((sr (bt s 0) 4) = 6))), .int .u64 (zI (rcE s) (if (sr (bt s 0) 4) = 6 then (bdv (s.extract 8 16)) else 0)), .int .u64 (zI (rcE s) (if (sr (bt s 0) 4) = 6 then (bdv (s.extract 16 24)) else (bdv (s.extract 12 16)))), .bool (zB (rcE s) (decide ((sr (bt s 0) 4) = 6))), .int .u64 (zI (rcE s) (if (sr (bt s 0) 4) = 6 then (bdv (s.extract 24 32)) else 0)), .int .u64 (zI (rcE s) (if (sr (bt s 0) 4) = 6 then (bdv (s.extract 32 40)) else (bdv (s.extract 16 20)))), .int .u8 (zI (rcE s) (if (sr (bt s 0) 4) = 6 then (bt s 6) else (bt s 9))), .int .u8 (zI (rcE s) (if (sr (bt s 0) 4) = 6 then (bt s 7) else (bt s 8))), .string (zS (rcE s) (if (sr (bt s 0) 4) = 6 then (s.extract 40 s.size) else (s.extract 20 s.size)))])), .tuple #[.string (reU s), .int .i64 0], .string (reU s), .int .i64 0, .int .i64 0, .bool false, .bool false, .string (reU s), .int .i64 ((reU s).size : Int), .string s, .int .i64 (s.size : Int), .bool false, .bool false, .bool false, .string (reU s), .string (reU s), .int .i64 ((reU s).size : Int), .pointer (some ⟨g4, 8, none⟩), .string (zS (rcE s) (if (sr (bt s 0) 4) = 6 then (s.extract 40 s.size) else (s.extract 20 s.size))), .int .i64 ((zS (rcE s) (if (sr (bt s 0) 4) = 6 then (s.extract 40 s.size) else (s.extract 20 s.size))).size : Int), .int .i64 (((s.size - (reD s).size) : Nat) : Int), .string ((reU s).extract (s.size - (reD s).size) (reU s).size), .pointer (some ⟨g4, 8, none⟩), .string (zS (rcE s) (if (sr (bt s 0) 4) = 6 then (s.extract 40 s.size) else (s.extract 20 s.size))), .bool false, .bool false, .string s, .int .u8 (bt s 0), .bool true, .bool true, .string s, .int .u8 (bt s 1), .string s, .int .u8 (bt s 2), .int .u8 (ob8 (bt s 1) (bt s 2)), .string s, .int .u8 (bt s 3), .int .u8 (ob8 (ob8 (bt s 1) (bt s 2)) (bt s 3)), .bool true, .bool true, .string s, .int .u8 (bt s 0), .bool true, .bool true, .string s, .int .u8 (bt s 1), .bool true, .bool true, .bool true, .string s, .string (s.extract 4 8), .bool false, .bool false, .bool false, undef, undef, undef, .bool false, .bool true, .bool true, undef, .bool true, .bool true, .string (reU s), .string s, .bool false, .bool false] : List Value).getD (k_ - 8) undef, by kernel_rfl, M⟩
                  · skip
                    refine pl_val (want_on 3 true rfl 115 rfl (by kernel_rfl)) (some 118) rfl (.bool false) (fun w => Eq.trans (b := .ok (.value (.bool (decide ((bt s 1) = 0)))) w) (by kernel_rfl) (by rw [decide_eq_false (c6)])) ?_
                    refine pl_val (want_no rfl) (some 119) rfl (.bool false) (fun _ => by kernel_rfl) ?_
                    refine pl_val (want_no rfl) (some 120) rfl (.bool false) (fun _ => by kernel_rfl) ?_
                    refine pl_skip (want_off 8 true rfl 120 rfl (by kernel_rfl)) (some 121) rfl ?_
                    refine pl_skip (want_off 8 true rfl 120 rfl (by kernel_rfl)) (some 122) rfl ?_
                    refine pl_skip (want_off 8 true rfl 120 rfl (by kernel_rfl)) (some 123) rfl ?_
                    refine pl_val (want_no rfl) (some 124) rfl (.bool false) (fun _ => by kernel_rfl) ?_
                    refine pl_val (want_no rfl) (some 125) rfl (.bool false) (fun _ => by kernel_rfl) ?_
                    refine pl_skip (want_off 13 true rfl 125 rfl (by kernel_rfl)) (some 126) rfl ?_
                    refine pl_skip (want_off 13 true rfl 125 rfl (by kernel_rfl)) (some 127) rfl ?_
                    refine pl_skip (want_off 13 true rfl 125 rfl (by kernel_rfl)) (some 128) rfl ?_
                    refine pl_val (want_no rfl) (some 129) rfl (.bool false) (fun _ => by kernel_rfl) ?_
                    refine pl_val (want_no rfl) (some 19) rfl (.bool false) (fun _ => by kernel_rfl) ?_
                    refine pl_nil ?_
                    refine au_then ?_
                    refine wp_seq ?_
                    refine rg_lit ?_
                    refine pl_val (want_no rfl) (some 130) rfl (.bool true) (fun _ => by kernel_rfl) ?_
                    refine pl_val (want_no rfl) (some 131) rfl (.bool true) (fun _ => by kernel_rfl) ?_
                    refine pl_skip (want_off 1 false rfl 131 rfl (by kernel_rfl)) (some 132) rfl ?_
                    refine pl_val (want_no rfl) (some 133) rfl (.bool true) (fun _ => by kernel_rfl) ?_
                    refine pl_val (want_no rfl) (some 134) rfl (.bool true) (fun _ => by kernel_rfl) ?_
                    refine pl_val (want_on 4 true rfl 134 rfl (by kernel_rfl)) (some 135) rfl (.string (reU s)) (fun _ => by kernel_rfl) ?_
                    refine pl_val (want_on 4 true rfl 134 rfl (by kernel_rfl)) (some 136) rfl (.string s) (fun _ => by kernel_rfl) ?_
                    refine pl_val (want_on 4 true rfl 134 rfl (by kernel_rfl)) (some 137) rfl (.bool false) (fun w => Eq.trans (b := .ok (.value (.bool (!((reU s).toList == s.toList)))) w) (by kernel_rfl) (by rw [seq_pos (reU_six s c2 c3 (or3 s c4).1 (or3 s c4).2.1 (or3 s c4).2.2)]; rfl)) ?_
                    refine pl_val (want_no rfl) (some 138) rfl (.bool false) (fun _ => by kernel_rfl) ?_
                    refine pl_nil ?_
                    refine au_then ?_
                    refine wp_cond_false (by kernel_rfl) ?_
                    refine wp_skip ?_
                    refine au_then ?_
                    exact ⟨fun k_ => ([yv1 8, undef, undef, undef, undef, undef, undef, undef, .string (reU s), .int .i64 0, .bool true, .bool false, undef, undef, undef, undef, undef, undef, undef, undef, undef, undef, undef, undef, undef, undef, undef, undef, undef, undef, undef, undef, undef, undef, undef, undef, undef, undef, undef, undef, undef, undef, undef, undef, undef, undef, undef, undef, undef, undef, undef, undef, undef, undef, undef, undef, undef, undef, undef, undef, undef, .int .i64 (rcE s), .bool true, .tuple #[.string (reU s), .int .i64 0], .agg (av 9 (ls [.bool (zB (rcE s) (decide ((sr (bt s 0) 4) = 6))), .int .u64 (zI (rcE s) (if (sr (bt s 0) 4) = 6 then (bdv (s.extract 8 16)) else 0)), .int .u64 (zI (rcE s) (if (sr (bt s 0) 4) = 6 then (bdv (s.extract 16 24)) else (bdv (s.extract 12 16)))), .bool (zB (rcE s) (decide ((sr (bt s 0) 4) = 6))), .int .u64 (zI (rcE s) (if (sr (bt s 0) 4) = 6 then (bdv (s.extract 24 32)) else 0)), .int .u64 (zI (rcE s) (if (sr (bt s 0) 4) = 6 then (bdv (s.extract 32 40)) else (bdv (s.extract 16 20)))), .int .u8 (zI (rcE s) (if (sr (bt s 0) 4) = 6 then (bt s 6) else (bt s 9))), .int .u8 (zI (rcE s) (if (sr (bt s 0) 4) = 6 then (bt s 7) else (bt s 8))), .string (zS (rcE s) (if (sr (bt s 0) 4) = 6 then (s.extract 40 s.size) else (s.extract 20 s.size)))])), .tuple #[.string (reU s), .int .i64 0], .string (reU s), .int .i64 0, .int .i64 0, .bool false, .bool false, .string (reU s), .int .i64 ((reU s).size : Int), .string s, .int .i64 (s.size : Int), .bool false, .bool false, .bool false, .string (reU s), .string (reU s), .int .i64 ((reU s).size : Int), .pointer (some ⟨g4, 8, none⟩), .string (zS (rcE s) (if (sr (bt s 0) 4) = 6 then (s.extract 40 s.size) else (s.extract 20 s.size))), .int .i64 ((zS (rcE s) (if (sr (bt s 0) 4) = 6 then (s.extract 40 s.size) else (s.extract 20 s.size))).size : Int), .int .i64 (((s.size - (reD s).size) : Nat) : Int), .string ((reU s).extract (s.size - (reD s).size) (reU s).size), .pointer (some ⟨g4, 8, none⟩), .string (zS (rcE s) (if (sr (bt s 0) 4) = 6 then (s.extract 40 s.size) else (s.extract 20 s.size))), .bool false, .bool false, .string s, .int .u8 (bt s 0), .bool true, .bool true, .string s, .int .u8 (bt s 1), .string s, .int .u8 (bt s 2), .int .u8 (ob8 (bt s 1) (bt s 2)), .string s, .int .u8 (bt s 3), .int .u8 (ob8 (ob8 (bt s 1) (bt s 2)) (bt s 3)), .bool true, .bool true, .string s, .int .u8 (bt s 0), .bool true, .bool true, .string s, .int .u8 (bt s 1), .bool false, .bool false, .bool false, undef, undef, undef, .bool false, .bool false, undef, undef, undef, .bool false, .bool true, .bool true, undef, .bool true, .bool true, .string (reU s), .string s, .bool false, .bool false] : List Value).getD (k_ - 8) undef, by kernel_rfl, M⟩
                · skip
                  refine pl_val (want_no rfl) (some 114) rfl (.bool false) (fun w => Eq.trans (b := .ok (.value (.bool (decide ((bt s 0) = 69)))) w) (by kernel_rfl) (by rw [decide_eq_false (c5)])) ?_
                  refine pl_val (want_no rfl) (some 115) rfl (.bool false) (fun _ => by kernel_rfl) ?_
                  refine pl_skip (want_off 3 true rfl 115 rfl (by kernel_rfl)) (some 116) rfl ?_
                  refine pl_skip (want_off 3 true rfl 115 rfl (by kernel_rfl)) (some 117) rfl ?_
                  refine pl_skip (want_off 3 true rfl 115 rfl (by kernel_rfl)) (some 118) rfl ?_
                  refine pl_val (want_no rfl) (some 119) rfl (.bool false) (fun _ => by kernel_rfl) ?_
                  refine pl_val (want_no rfl) (some 120) rfl (.bool false) (fun _ => by kernel_rfl) ?_
                  refine pl_skip (want_off 8 true rfl 120 rfl (by kernel_rfl)) (some 121) rfl ?_
                  refine pl_skip (want_off 8 true rfl 120 rfl (by kernel_rfl)) (some 122) rfl ?_
                  refine pl_skip (want_off 8 true rfl 120 rfl (by kernel_rfl)) (some 123) rfl ?_
                  refine pl_val (want_no rfl) (some 124) rfl (.bool false) (fun _ => by kernel_rfl) ?_
                  refine pl_val (want_no rfl) (some 125) rfl (.bool false) (fun _ => by kernel_rfl) ?_
                  refine pl_skip (want_off 13 true rfl 125 rfl (by kernel_rfl)) (some 126) rfl ?_
                  refine pl_skip (want_off 13 true rfl 125 rfl (by kernel_rfl)) (some 127) rfl ?_
                  refine pl_skip (want_off 13 true rfl 125 rfl (by kernel_rfl)) (some 128) rfl ?_
                  refine pl_val (want_no rfl) (some 129) rfl (.bool false) (fun _ => by kernel_rfl) ?_
                  refine pl_val (want_no rfl) (some 19) rfl (.bool false) (fun _ => by kernel_rfl) ?_
                  refine pl_nil ?_
                  refine au_then ?_
                  refine wp_seq ?_
                  refine rg_lit ?_
                  refine pl_val (want_no rfl) (some 130) rfl (.bool true) (fun _ => by kernel_rfl) ?_
                  refine pl_val (want_no rfl) (some 131) rfl (.bool true) (fun _ => by kernel_rfl) ?_
                  refine pl_skip (want_off 1 false rfl 131 rfl (by kernel_rfl)) (some 132) rfl ?_
                  refine pl_val (want_no rfl) (some 133) rfl (.bool true) (fun _ => by kernel_rfl) ?_
                  refine pl_val (want_no rfl) (some 134) rfl (.bool true) (fun _ => by kernel_rfl) ?_
                  refine pl_val (want_on 4 true rfl 134 rfl (by kernel_rfl)) (some 135) rfl (.string (reU s)) (fun _ => by kernel_rfl) ?_
                  refine pl_val (want_on 4 true rfl 134 rfl (by kernel_rfl)) (some 136) rfl (.string s) (fun _ => by kernel_rfl) ?_
                  refine pl_val (want_on 4 true rfl 134 rfl (by kernel_rfl)) (some 137) rfl (.bool false) (fun w => Eq.trans (b := .ok (.value (.bool (!((reU s).toList == s.toList)))) w) (by kernel_rfl) (by rw [seq_pos (reU_six s c2 c3 (or3 s c4).1 (or3 s c4).2.1 (or3 s c4).2.2)]; rfl)) ?_
                  refine pl_val (want_no rfl) (some 138) rfl (.bool false) (fun _ => by kernel_rfl) ?_
                  refine pl_nil ?_
                  refine au_then ?_
                  refine wp_cond_false (by kernel_rfl) ?_
                  refine wp_skip ?_
                  refine au_then ?_
                  exact ⟨fun k_ => ([yv1 8, undef, undef, undef, undef, undef, undef, undef, .string (reU s), .int .i64 0, .bool true, .bool false, undef, undef, undef, undef, undef, undef, undef, undef, undef, undef, undef, undef, undef, undef, undef, undef, undef, undef, undef, undef, undef, undef, undef, undef, undef, undef, undef, undef, undef, undef, undef, undef, undef, undef, undef, undef, undef, undef, undef, undef, undef, undef, undef, undef, undef, undef, undef, undef, undef, .int .i64 (rcE s), .bool true, .tuple #[.string (reU s), .int .i64 0], .agg (av 9 (ls [.bool (zB (rcE s) (decide ((sr (bt s 0) 4) = 6))), .int .u64 (zI (rcE s) (if (sr (bt s 0) 4) = 6 then (bdv (s.extract 8 16)) else 0)), .int .u64 (zI (rcE s) (if (sr (bt s 0) 4) = 6 then (bdv (s.extract 16 24)) else (bdv (s.extract 12 16)))), .bool (zB (rcE s) (decide ((sr (bt s 0) 4) = 6))), .int .u64 (zI (rcE s) (if (sr (bt s 0) 4) = 6 then (bdv (s.extract 24 32)) else 0)), .int .u64 (zI (rcE s) (if (sr (bt s 0) 4) = 6 then (bdv (s.extract 32 40)) else (bdv (s.extract 16 20)))), .int .u8 (zI (rcE s) (if (sr (bt s 0) 4) = 6 then (bt s 6) else (bt s 9))), .int .u8 (zI (rcE s) (if (sr (bt s 0) 4) = 6 then (bt s 7) else (bt s 8))), .string (zS (rcE s) (if (sr (bt s 0) 4) = 6 then (s.extract 40 s.size) else (s.extract 20 s.size)))])), .tuple #[.string (reU s), .int .i64 0], .string (reU s), .int .i64 0, .int .i64 0, .bool false, .bool false, .string (reU s), .int .i64 ((reU s).size : Int), .string s, .int .i64 (s.size : Int), .bool false, .bool false, .bool false, .string (reU s), .string (reU s), .int .i64 ((reU s).size : Int), .pointer (some ⟨g4, 8, none⟩), .string (zS (rcE s) (if (sr (bt s 0) 4) = 6 then (s.extract 40 s.size) else (s.extract 20 s.size))), .int .i64 ((zS (rcE s) (if (sr (bt s 0) 4) = 6 then (s.extract 40 s.size) else (s.extract 20 s.size))).size : Int), .int .i64 (((s.size - (reD s).size) : Nat) : Int), .string ((reU s).extract (s.size - (reD s).size) (reU s).size), .pointer (some ⟨g4, 8, none⟩), .string (zS (rcE s) (if (sr (bt s 0) 4) = 6 then (s.extract 40 s.size) else (s.extract 20 s.size))), .bool false, .bool false, .string s, .int .u8 (bt s 0), .bool true, .bool true, .string s, .int .u8 (bt s 1), .string s, .int .u8 (bt s 2), .int .u8 (ob8 (bt s 1) (bt s 2)), .string s, .int .u8 (bt s 3), .int .u8 (ob8 (ob8 (bt s 1) (bt s 2)) (bt s 3)), .bool true, .bool true, .string s, .int .u8 (bt s 0), .bool false, .bool false, undef, undef, undef, .bool false, .bool false, undef, undef, undef, .bool false, .bool false, undef, undef, undef, .bool false, .bool true, .bool true, undef, .bool true, .bool true, .string (reU s), .string s, .bool false, .bool false] : List Value).getD (k_ - 8) undef, by kernel_rfl, M⟩
              · skip
                refine k_val (want_on 3 true rfl 101 rfl (by kernel_rfl)) (some 110) rfl (.bool false) (fun w => Eq.trans (b := .ok (.value (.bool (decide ((ob8 (ob8 (bt s 1) (bt s 2)) (bt s 3)) = 0)))) w) (by kernel_rfl) (by rw [decide_eq_false (c4)])) ?_
                refine k_val (want_no rfl) (some 111) rfl (.bool false) (fun _ => by kernel_rfl) ?_
                refine kl_nil ?_
                intro u10 M
                replace M : Mem ⟨w, []⟩ [⟨g1, .cells (av 9 (ls [.bool (v0), .int .u64 h0, .int .u64 l0, .bool (v1), .int .u64 h1, .int .u64 l1, .int .u8 p, .int .u8 t, .string d])) 26⟩, ⟨g2, .cells (av 3 (ls [.bool (va), .int .u64 ha, .int .u64 la])) 24⟩, ⟨g3, .cells (av 4 (ls [.bool (vx), .int .u64 hx_, .int .u64 lx, .int .u8 bx])) 39⟩, ⟨g4, .cells (av 9 (ls [.bool (zB (rcE s) (decide ((sr (bt s 0) 4) = 6))), .int .u64 (zI (rcE s) (if (sr (bt s 0) 4) = 6 then (bdv (s.extract 8 16)) else 0)), .int .u64 (zI (rcE s) (if (sr (bt s 0) 4) = 6 then (bdv (s.extract 16 24)) else (bdv (s.extract 12 16)))), .bool (zB (rcE s) (decide ((sr (bt s 0) 4) = 6))), .int .u64 (zI (rcE s) (if (sr (bt s 0) 4) = 6 then (bdv (s.extract 24 32)) else 0)), .int .u64 (zI (rcE s) (if (sr (bt s 0) 4) = 6 then (bdv (s.extract 32 40)) else (bdv (s.extract 16 20)))), .int .u8 (zI (rcE s) (if (sr (bt s 0) 4) = 6 then (bt s 6) else (bt s 9))), .int .u8 (zI (rcE s) (if (sr (bt s 0) 4) = 6 then (bt s 7) else (bt s 8))), .string (zS (rcE s) (if (sr (bt s 0) 4) = 6 then (s.extract 40 s.size) else (s.extract 20 s.size)))])) 26⟩] u10 := M
                refine pl_val (want_no rfl) (some 18) rfl (.bool false) (fun _ => by kernel_rfl) ?_
                refine pl_nil ?_
                refine au_then ?_
                refine wp_seq ?_
                refine rg_lit ?_
                refine pl_val (want_no rfl) (some 112) rfl (.string s) (fun _ => by kernel_rfl) ?_
                refine pl_val (want_no rfl) (some 113) rfl (.int .u8 (bt s 0)) (run_ixS 9 Tryz.underlying9 _ _ rfl s (by kernel_rfl) .i64 0 (by kernel_rfl) (by omega)) ?_
                by_cases c5 : (bt s 0) = 69
                · skip
                  refine pl_val (want_no rfl) (some 114) rfl (.bool true) (fun w => Eq.trans (b := .ok (.value (.bool (decide ((bt s 0) = 69)))) w) (by kernel_rfl) (by rw [decide_eq_true (c5)])) ?_
                  refine pl_val (want_no rfl) (some 115) rfl (.bool true) (fun _ => by kernel_rfl) ?_
                  refine pl_val (want_on 3 true rfl 115 rfl (by kernel_rfl)) (some 116) rfl (.string s) (fun _ => by kernel_rfl) ?_
                  refine pl_val (want_on 3 true rfl 115 rfl (by kernel_rfl)) (some 117) rfl (.int .u8 (bt s 1)) (run_ixS 9 Tryz.underlying9 _ _ rfl s (by kernel_rfl) .i64 1 (by kernel_rfl) (by omega)) ?_
                  by_cases c6 : (bt s 1) = 0
                  · skip
                    refine pl_val (want_on 3 true rfl 115 rfl (by kernel_rfl)) (some 118) rfl (.bool true) (fun w => Eq.trans (b := .ok (.value (.bool (decide ((bt s 1) = 0)))) w) (by kernel_rfl) (by rw [decide_eq_true (c6)])) ?_
                    refine pl_val (want_no rfl) (some 119) rfl (.bool true) (fun _ => by kernel_rfl) ?_
                    refine pl_val (want_no rfl) (some 120) rfl (.bool true) (fun _ => by kernel_rfl) ?_
                    refine pl_val (want_on 8 true rfl 120 rfl (by kernel_rfl)) (some 121) rfl (.string s) (fun _ => by kernel_rfl) ?_
                    refine pl_val (want_on 8 true rfl 120 rfl (by kernel_rfl)) (some 122) rfl (.string (s.extract 4 8)) (run_strlh 9 Tryz.underlying9 _ _ _ rfl s (by kernel_rfl) .i64 .i64 4 8 (by kernel_rfl) (by kernel_rfl) (by omega) (by omega)) ?_
                    by_cases c7 : (s.extract 4 8) = (⟨#[0, 0, 0, 0]⟩ : ByteArray)
                    · skip
                      refine pl_val (want_on 8 true rfl 120 rfl (by kernel_rfl)) (some 123) rfl (.bool true) (fun w => Eq.trans (b := .ok (.value (.bool ((s.extract 4 8).toList == (⟨#[0, 0, 0, 0]⟩ : ByteArray).toList))) w) (by kernel_rfl) (by rw [seq_pos c7])) ?_
                      refine pl_val (want_no rfl) (some 124) rfl (.bool true) (fun _ => by kernel_rfl) ?_
                      refine pl_val (want_no rfl) (some 125) rfl (.bool true) (fun _ => by kernel_rfl) ?_
                      refine pl_val (want_on 13 true rfl 125 rfl (by kernel_rfl)) (some 126) rfl (.string s) (fun _ => by kernel_rfl) ?_
                      refine pl_val (want_on 13 true rfl 125 rfl (by kernel_rfl)) (some 127) rfl (.string (s.extract 10 12)) (run_strlh 9 Tryz.underlying9 _ _ _ rfl s (by kernel_rfl) .i64 .i64 10 12 (by kernel_rfl) (by kernel_rfl) (by omega) (by omega)) ?_
                      by_cases c8 : (s.extract 10 12) = (⟨#[255, 255]⟩ : ByteArray)
                      · skip
                        refine pl_val (want_on 13 true rfl 125 rfl (by kernel_rfl)) (some 128) rfl (.bool false) (fun w => Eq.trans (b := .ok (.value (.bool (!((s.extract 10 12).toList == (⟨#[255, 255]⟩ : ByteArray).toList)))) w) (by kernel_rfl) (by rw [seq_pos c8]; rfl)) ?_
                        refine pl_val (want_no rfl) (some 129) rfl (.bool false) (fun _ => by kernel_rfl) ?_
                        refine pl_val (want_no rfl) (some 19) rfl (.bool false) (fun _ => by kernel_rfl) ?_
                        refine pl_nil ?_
                        refine au_then ?_
                        refine wp_seq ?_
                        refine rg_lit ?_
                        refine pl_val (want_no rfl) (some 130) rfl (.bool false) (fun _ => by kernel_rfl) ?_
                        refine pl_val (want_no rfl) (some 131) rfl (.bool false) (fun _ => by kernel_rfl) ?_
                        refine pl_val (want_on 1 false rfl 131 rfl (by kernel_rfl)) (some 132) rfl (.bool false) (fun _ => by kernel_rfl) ?_
                        refine pl_val (want_no rfl) (some 133) rfl (.bool false) (fun _ => by kernel_rfl) ?_
                        refine pl_val (want_no rfl) (some 134) rfl (.bool false) (fun _ => by kernel_rfl) ?_
                        refine pl_skip (want_off 4 true rfl 134 rfl (by kernel_rfl)) (some 135) rfl ?_
                        refine pl_skip (want_off 4 true rfl 134 rfl (by kernel_rfl)) (some 136) rfl ?_
                        refine pl_skip (want_off 4 true rfl 134 rfl (by kernel_rfl)) (some 137) rfl ?_
                        refine pl_val (want_no rfl) (some 138) rfl (.bool false) (fun _ => by kernel_rfl) ?_
                        refine pl_nil ?_
                        refine au_then ?_
                        refine wp_cond_false (by kernel_rfl) ?_
                        refine wp_skip ?_
                        refine au_then ?_
                        exact ⟨fun k_ => ([yv1 8, undef, undef, undef, undef, undef, undef, undef, .string (reU s), .int .i64 0, .bool false, .bool false, undef, undef, undef, undef, undef, undef, undef, undef, undef, undef, undef, undef, undef, undef, undef, undef, undef, undef, undef, undef, undef, undef, undef, undef, undef, undef, undef, undef, undef, undef, undef, undef, undef, undef, undef, undef, undef, undef, undef, undef, undef, undef, undef, undef, undef, undef, undef, undef, undef, .int .i64 (rcE s), .bool true, .tuple #[.string (reU s), .int .i64 0], .agg (av 9 (ls [.bool (zB (rcE s) (decide ((sr (bt s 0) 4) = 6))), .int .u64 (zI (rcE s) (if (sr (bt s 0) 4) = 6 then (bdv (s.extract 8 16)) else 0)), .int .u64 (zI (rcE s) (if (sr (bt s 0) 4) = 6 then (bdv (s.extract 16 24)) else (bdv (s.extract 12 16)))), .bool (zB (rcE s) (decide ((sr (bt s 0) 4) = 6))), .int .u64 (zI (rcE s) (if (sr (bt s 0) 4) = 6 then (bdv (s.extract 24 32)) else 0)), .int .u64 (zI (rcE s) (if (sr (bt s 0) 4) = 6 then (bdv (s.extract 32 40)) else (bdv (s.extract 16 20)))), .int .u8 (zI (rcE s) (if (sr (bt s 0) 4) = 6 then (bt s 6) else (bt s 9))), .int .u8 (zI (rcE s) (if (sr (bt s 0) 4) = 6 then (bt s 7) else (bt s 8))), .string (zS (rcE s) (if (sr (bt s 0) 4) = 6 then (s.extract 40 s.size) else (s.extract 20 s.size)))])), .tuple #[.string (reU s), .int .i64 0], .string (reU s), .int .i64 0, .int .i64 0, .bool false, .bool false, .string (reU s), .int .i64 ((reU s).size : Int), .string s, .int .i64 (s.size : Int), .bool false, .bool false, .bool false, .string (reU s), .string (reU s), .int .i64 ((reU s).size : Int), .pointer (some ⟨g4, 8, none⟩), .string (zS (rcE s) (if (sr (bt s 0) 4) = 6 then (s.extract 40 s.size) else (s.extract 20 s.size))), .int .i64 ((zS (rcE s) (if (sr (bt s 0) 4) = 6 then (s.extract 40 s.size) else (s.extract 20 s.size))).size : Int), .int .i64 (((s.size - (reD s).size) : Nat) : Int), .string ((reU s).extract (s.size - (reD s).size) (reU s).size), .pointer (some ⟨g4, 8, none⟩), .string (zS (rcE s) (if (sr (bt s 0) 4) = 6 then (s.extract 40 s.size) else (s.extract 20 s.size))), .bool false, .bool false, .string s, .int .u8 (bt s 0), .bool true, .bool true, .string s, .int .u8 (bt s 1), .string s, .int .u8 (bt s 2), .int .u8 (ob8 (bt s 1) (bt s 2)), .string s, .int .u8 (bt s 3), .int .u8 (ob8 (ob8 (bt s 1) (bt s 2)) (bt s 3)), .bool false, .bool false, .string s, .int .u8 (bt s 0), .bool true, .bool true, .string s, .int .u8 (bt s 1), .bool true, .bool true, .bool true, .string s, .string (s.extract 4 8), .bool true, .bool true, .bool true, .string s, .string (s.extract 10 12), .bool false, .bool false, .bool false, .bool false, .bool false, .bool false, .bool false, undef, undef, undef, .bool false] : List Value).getD (k_ - 8) undef, by kernel_rfl, M⟩
                      · skip
                        refine pl_val (want_on 13 true rfl 125 rfl (by kernel_rfl)) (some 128) rfl (.bool true) (fun w => Eq.trans (b := .ok (.value (.bool (!((s.extract 10 12).toList == (⟨#[255, 255]⟩ : ByteArray).toList)))) w) (by kernel_rfl) (by rw [seq_neg c8]; rfl)) ?_
                        refine pl_val (want_no rfl) (some 129) rfl (.bool true) (fun _ => by kernel_rfl) ?_
                        refine pl_val (want_no rfl) (some 19) rfl (.bool true) (fun _ => by kernel_rfl) ?_
                        refine pl_nil ?_
                        refine au_then ?_
                        refine wp_seq ?_
                        refine rg_lit ?_
                        refine pl_val (want_no rfl) (some 130) rfl (.bool false) (fun _ => by kernel_rfl) ?_
                        refine pl_val (want_no rfl) (some 131) rfl (.bool false) (fun _ => by kernel_rfl) ?_
                        refine pl_val (want_on 1 false rfl 131 rfl (by kernel_rfl)) (some 132) rfl (.bool true) (fun _ => by kernel_rfl) ?_
                        refine pl_val (want_no rfl) (some 133) rfl (.bool true) (fun _ => by kernel_rfl) ?_
                        refine pl_val (want_no rfl) (some 134) rfl (.bool true) (fun _ => by kernel_rfl) ?_
                        refine pl_val (want_on 4 true rfl 134 rfl (by kernel_rfl)) (some 135) rfl (.string (reU s)) (fun _ => by kernel_rfl) ?_
                        refine pl_val (want_on 4 true rfl 134 rfl (by kernel_rfl)) (some 136) rfl (.string s) (fun _ => by kernel_rfl) ?_
                        refine pl_val (want_on 4 true rfl 134 rfl (by kernel_rfl)) (some 137) rfl (.bool false) (fun w => Eq.trans (b := .ok (.value (.bool (!((reU s).toList == s.toList)))) w) (by kernel_rfl) (by rw [seq_pos (reU_four s c2 c5 c6 c7 c8)]; rfl)) ?_
                        refine pl_val (want_no rfl) (some 138) rfl (.bool false) (fun _ => by kernel_rfl) ?_
                        refine pl_nil ?_
                        refine au_then ?_
                        refine wp_cond_false (by kernel_rfl) ?_
                        refine wp_skip ?_
                        refine au_then ?_
                        exact ⟨fun k_ => ([yv1 8, undef, undef, undef, undef, undef, undef, undef, .string (reU s), .int .i64 0, .bool false, .bool true, undef, undef, undef, undef, undef, undef, undef, undef, undef, undef, undef, undef, undef, undef, undef, undef, undef, undef, undef, undef, undef, undef, undef, undef, undef, undef, undef, undef, undef, undef, undef, undef, undef, undef, undef, undef, undef, undef, undef, undef, undef, undef, undef, undef, undef, undef, undef, undef, undef, .int .i64 (rcE s), .bool true, .tuple #[.string (reU s), .int .i64 0], .agg (av 9 (ls [.bool (zB (rcE s) (decide ((sr (bt s 0) 4) = 6))), .int .u64 (zI (rcE s) (if (sr (bt s 0) 4) = 6 then (bdv (s.extract 8 16)) else 0)), .int .u64 (zI (rcE s) (if (sr (bt s 0) 4) = 6 then (bdv (s.extract 16 24)) else (bdv (s.extract 12 16)))), .bool (zB (rcE s) (decide ((sr (bt s 0) 4) = 6))), .int .u64 (zI (rcE s) (if (sr (bt s 0) 4) = 6 then (bdv (s.extract 24 32)) else 0)), .int .u64 (zI (rcE s) (if (sr (bt s 0) 4) = 6 then (bdv (s.extract 32 40)) else (bdv (s.extract 16 20)))), .int .u8 (zI (rcE s) (if (sr (bt s 0) 4) = 6 then (bt s 6) else (bt s 9))), .int .u8 (zI (rcE s) (if (sr (bt s 0) 4) = 6 then (bt s 7) else (bt s 8))), .string (zS (rcE s) (if (sr (bt s 0) 4) = 6 then (s.extract 40 s.size) else (s.extract 20 s.size)))])), .tuple #[.string (reU s), .int .i64 0], .string (reU s), .int .i64 0, .int .i64 0, .bool false, .bool false, .string (reU s), .int .i64 ((reU s).size : Int), .string s, .int .i64 (s.size : Int), .bool false, .bool false, .bool false, .string (reU s), .string (reU s), .int .i64 ((reU s).size : Int), .pointer (some ⟨g4, 8, none⟩), .string (zS (rcE s) (if (sr (bt s 0) 4) = 6 then (s.extract 40 s.size) else (s.extract 20 s.size))), .int .i64 ((zS (rcE s) (if (sr (bt s 0) 4) = 6 then (s.extract 40 s.size) else (s.extract 20 s.size))).size : Int), .int .i64 (((s.size - (reD s).size) : Nat) : Int), .string ((reU s).extract (s.size - (reD s).size) (reU s).size), .pointer (some ⟨g4, 8, none⟩), .string (zS (rcE s) (if (sr (bt s 0) 4) = 6 then (s.extract 40 s.size) else (s.extract 20 s.size))), .bool false, .bool false, .string s, .int .u8 (bt s 0), .bool true, .bool true, .string s, .int .u8 (bt s 1), .string s, .int .u8 (bt s 2), .int .u8 (ob8 (bt s 1) (bt s 2)), .string s, .int .u8 (bt s 3), .int .u8 (ob8 (ob8 (bt s 1) (bt s 2)) (bt s 3)), .bool false, .bool false, .string s, .int .u8 (bt s 0), .bool true, .bool true, .string s, .int .u8 (bt s 1), .bool true, .bool true, .bool true, .string s, .string (s.extract 4 8), .bool true, .bool true, .bool true, .string s, .string (s.extract 10 12), .bool true, .bool true, .bool false, .bool false, .bool true, .bool true, .bool true, .string (reU s), .string s, .bool false, .bool false] : List Value).getD (k_ - 8) undef, by kernel_rfl, M⟩
                    · skip
                      refine pl_val (want_on 8 true rfl 120 rfl (by kernel_rfl)) (some 123) rfl (.bool false) (fun w => Eq.trans (b := .ok (.value (.bool ((s.extract 4 8).toList == (⟨#[0, 0, 0, 0]⟩ : ByteArray).toList))) w) (by kernel_rfl) (by rw [seq_neg c7])) ?_
                      refine pl_val (want_no rfl) (some 124) rfl (.bool false) (fun _ => by kernel_rfl) ?_
                      refine pl_val (want_no rfl) (some 125) rfl (.bool false) (fun _ => by kernel_rfl) ?_
                      refine pl_skip (want_off 13 true rfl 125 rfl (by kernel_rfl)) (some 126) rfl ?_
                      refine pl_skip (want_off 13 true rfl 125 rfl (by kernel_rfl)) (some 127) rfl ?_
                      refine pl_skip (want_off 13 true rfl 125 rfl (by kernel_rfl)) (some 128) rfl ?_
                      refine pl_val (want_no rfl) (some 129) rfl (.bool false) (fun _ => by kernel_rfl) ?_
                      refine pl_val (want_no rfl) (some 19) rfl (.bool false) (fun _ => by kernel_rfl) ?_
                      refine pl_nil ?_
                      refine au_then ?_
                      refine wp_seq ?_
                      refine rg_lit ?_
                      refine pl_val (want_no rfl) (some 130) rfl (.bool false) (fun _ => by kernel_rfl) ?_
                      refine pl_val (want_no rfl) (some 131) rfl (.bool false) (fun _ => by kernel_rfl) ?_
                      refine pl_val (want_on 1 false rfl 131 rfl (by kernel_rfl)) (some 132) rfl (.bool false) (fun _ => by kernel_rfl) ?_
                      refine pl_val (want_no rfl) (some 133) rfl (.bool false) (fun _ => by kernel_rfl) ?_
                      refine pl_val (want_no rfl) (some 134) rfl (.bool false) (fun _ => by kernel_rfl) ?_
                      refine pl_skip (want_off 4 true rfl 134 rfl (by kernel_rfl)) (some 135) rfl ?_
                      refine pl_skip (want_off 4 true rfl 134 rfl (by kernel_rfl)) (some 136) rfl ?_
                      refine pl_skip (want_off 4 true rfl 134 rfl (by kernel_rfl)) (some 137) rfl ?_
                      refine pl_val (want_no rfl) (some 138) rfl (.bool false) (fun _ => by kernel_rfl) ?_
                      refine pl_nil ?_
                      refine au_then ?_
                      refine wp_cond_false (by kernel_rfl) ?_
                      refine wp_skip ?_
                      refine au_then ?_
                      exact ⟨fun k_ => ([yv1 8, undef, undef, undef, undef, undef, undef, undef, .string (reU s), .int .i64 0, .bool false, .bool false, undef, undef, undef, undef, undef, undef, undef, undef, undef, undef, undef, undef, undef, undef, undef, undef, undef, undef, undef, undef, undef, undef, undef, undef, undef, undef, undef, undef, undef, undef, undef, undef, undef, undef, undef, undef, undef, undef, undef, undef, undef, undef, undef, undef, undef, undef, undef, undef, undef, .int .i64 (rcE s), .bool true, .tuple #[.string (reU s), .int .i64 0], .agg (av 9 (ls [.bool (zB (rcE s) (decide ((sr (bt s 0) 4) = 6))), .int .u64 (zI (rcE s) (if (sr (bt s 0) 4) = 6 then (bdv (s.extract 8 16)) else 0)), .int .u64 (zI (rcE s) (if (sr (bt s 0) 4) = 6 then (bdv (s.extract 16 24)) else (bdv (s.extract 12 16)))), .bool (zB (rcE s) (decide ((sr (bt s 0) 4) = 6))), .int .u64 (zI (rcE s) (if (sr (bt s 0) 4) = 6 then (bdv (s.extract 24 32)) else 0)), .int .u64 (zI (rcE s) (if (sr (bt s 0) 4) = 6 then (bdv (s.extract 32 40)) else (bdv (s.extract 16 20)))), .int .u8 (zI (rcE s) (if (sr (bt s 0) 4) = 6 then (bt s 6) else (bt s 9))), .int .u8 (zI (rcE s) (if (sr (bt s 0) 4) = 6 then (bt s 7) else (bt s 8))), .string (zS (rcE s) (if (sr (bt s 0) 4) = 6 then (s.extract 40 s.size) else (s.extract 20 s.size)))])), .tuple #[.string (reU s), .int .i64 0], .string (reU s), .int .i64 0, .int .i64 0, .bool false, .bool false, .string (reU s), .int .i64 ((reU s).size : Int), .string s, .int .i64 (s.size : Int), .bool false, .bool false, .bool false, .string (reU s), .string (reU s), .int .i64 ((reU s).size : Int), .pointer (some ⟨g4, 8, none⟩), .string (zS (rcE s) (if (sr (bt s 0) 4) = 6 then (s.extract 40 s.size) else (s.extract 20 s.size))), .int .i64 ((zS (rcE s) (if (sr (bt s 0) 4) = 6 then (s.extract 40 s.size) else (s.extract 20 s.size))).size : Int), .int .i64 (((s.size - (reD s).size) : Nat) : Int), .string ((reU s).extract (s.size - (reD s).size) (reU s).size), .pointer (some ⟨g4, 8, none⟩), .string (zS (rcE s) (if (sr (bt s 0) 4) = 6 then (s.extract 40 s.size) else (s.extract 20 s.size))), .bool false, .bool false, .string s, .int .u8 (bt s 0), .bool true, .bool true, .string s, .int .u8 (bt s 1), .string s, .int .u8 (bt s 2), .int .u8 (ob8 (bt s 1) (bt s 2)), .string s, .int .u8 (bt s 3), .int .u8 (ob8 (ob8 (bt s 1) (bt s 2)) (bt s 3)), .bool false, .bool false, .string s, .int .u8 (bt s 0), .bool true, .bool true, .string s, .int .u8 (bt s 1), .bool true, .bool true, .bool true, .string s, .string (s.extract 4 8), .bool false, .bool false, .bool false, undef, undef, undef, .bool false, .bool false, .bool false, .bool false, .bool false, .bool false, undef, undef, undef, .bool false] : List Value).getD (k_ - 8) undef, by kernel_rfl, M⟩
                  · skip
                    refine pl_val (want_on 3 true rfl 115 rfl (by kernel_rfl)) (some 118) rfl (.bool false) (fun w => Eq.trans (b := .ok (.value (.bool (decide ((bt s 1) = 0)))) w) (by kernel_rfl) (by rw [decide_eq_false (c6)])) ?_
                    refine pl_val (want_no rfl) (some 119) rfl (.bool false) (fun _ => by kernel_rfl) ?_
                    refine pl_val (want_no rfl) (some 120) rfl (.bool false) (fun _ => by kernel_rfl) ?_
                    refine pl_skip (want_off 8 true rfl 120 rfl (by kernel_rfl)) (some 121) rfl ?_
                    refine pl_skip (want_off 8 true rfl 120 rfl (by kernel_rfl)) (some 122) rfl ?_
                    refine pl_skip (want_off 8 true rfl 120 rfl (by kernel_rfl)) (some 123) rfl ?_
                    refine pl_val (want_no rfl) (some 124) rfl (.bool false) (fun _ => by kernel_rfl) ?_
                    refine pl_val (want_no rfl) (some 125) rfl (.bool false) (fun _ => by kernel_rfl) ?_
                    refine pl_skip (want_off 13 true rfl 125 rfl (by kernel_rfl)) (some 126) rfl ?_
                    refine pl_skip (want_off 13 true rfl 125 rfl (by kernel_rfl)) (some 127) rfl ?_
                    refine pl_skip (want_off 13 true rfl 125 rfl (by kernel_rfl)) (some 128) rfl ?_
                    refine pl_val (want_no rfl) (some 129) rfl (.bool false) (fun _ => by kernel_rfl) ?_
                    refine pl_val (want_no rfl) (some 19) rfl (.bool false) (fun _ => by kernel_rfl) ?_
                    refine pl_nil ?_
                    refine au_then ?_
                    refine wp_seq ?_
                    refine rg_lit ?_
                    refine pl_val (want_no rfl) (some 130) rfl (.bool false) (fun _ => by kernel_rfl) ?_
                    refine pl_val (want_no rfl) (some 131) rfl (.bool false) (fun _ => by kernel_rfl) ?_
                    refine pl_val (want_on 1 false rfl 131 rfl (by kernel_rfl)) (some 132) rfl (.bool false) (fun _ => by kernel_rfl) ?_
                    refine pl_val (want_no rfl) (some 133) rfl (.bool false) (fun _ => by kernel_rfl) ?_
                    refine pl_val (want_no rfl) (some 134) rfl (.bool false) (fun _ => by kernel_rfl) ?_
                    refine pl_skip (want_off 4 true rfl 134 rfl (by kernel_rfl)) (some 135) rfl ?_
                    refine pl_skip (want_off 4 true rfl 134 rfl (by kernel_rfl)) (some 136) rfl ?_
                    refine pl_skip (want_off 4 true rfl 134 rfl (by kernel_rfl)) (some 137) rfl ?_
                    refine pl_val (want_no rfl) (some 138) rfl (.bool false) (fun _ => by kernel_rfl) ?_
                    refine pl_nil ?_
                    refine au_then ?_
                    refine wp_cond_false (by kernel_rfl) ?_
                    refine wp_skip ?_
                    refine au_then ?_
                    exact ⟨fun k_ => ([yv1 8, undef, undef, undef, undef, undef, undef, undef, .string (reU s), .int .i64 0, .bool false, .bool false, undef, undef, undef, undef, undef, undef, undef, undef, undef, undef, undef, undef, undef, undef, undef, undef, undef, undef, undef, undef, undef, undef, undef, undef, undef, undef, undef, undef, undef, undef, undef, undef, undef, undef, undef, undef, undef, undef, undef, undef, undef, undef, undef, undef, undef, undef, undef, undef, undef, .int .i64 (rcE s), .bool true, .tuple #[.string (reU s), .int .i64 0], .agg (av 9 (ls [.bool (zB (rcE s) (decide ((sr (bt s 0) 4) = 6))), .int .u64 (zI (rcE s) (if (sr (bt s 0) 4) = 6 then (bdv (s.extract 8 16)) else 0)), .int .u64 (zI (rcE s) (if (sr (bt s 0) 4) = 6 then (bdv (s.extract 16 24)) else (bdv (s.extract 12 16)))), .bool (zB (rcE s) (decide ((sr (bt s 0) 4) = 6))), .int .u64 (zI (rcE s) (if (sr (bt s 0) 4) = 6 then (bdv (s.extract 24 32)) else 0)), .int .u64 (zI (rcE s) (if (sr (bt s 0) 4) = 6 then (bdv (s.extract 32 40)) else (bdv (s.extract 16 20)))), .int .u8 (zI (rcE s) (if (sr (bt s 0) 4) = 6 then (bt s 6) else (bt s 9))), .int .u8 (zI (rcE s) (if (sr (bt s 0) 4) = 6 then (bt s 7) else (bt s 8))), .string (zS (rcE s) (if (sr (bt s 0) 4) = 6 then (s.extract 40 s.size) else (s.extract 20 s.size)))])), .tuple #[.string (reU s), .int .i64 0], .string (reU s), .int .i64 0, .int .i64 0, .bool false, .bool false, .string (reU s), .int .i64 ((reU s).size : Int), .string s, .int .i64 (s.size : Int), .bool false, .bool false, .bool false, .string (reU s), .string (reU s), .int .i64 ((reU s).size : Int), .pointer (some ⟨g4, 8, none⟩), .string (zS (rcE s) (if (sr (bt s 0) 4) = 6 then (s.extract 40 s.size) else (s.extract 20 s.size))), .int .i64 ((zS (rcE s) (if (sr (bt s 0) 4) = 6 then (s.extract 40 s.size) else (s.extract 20 s.size))).size : Int), .int .i64 (((s.size - (reD s).size) : Nat) : Int), .string ((reU s).extract (s.size - (reD s).size) (reU s).size), .pointer (some ⟨g4, 8, none⟩), .string (zS (rcE s) (if (sr (bt s 0) 4) = 6 then (s.extract 40 s.size) else (s.extract 20 s.size))), .bool false, .bool false, .string s, .int .u8 (bt s 0), .bool true, .bool true, .string s, .int .u8 (bt s 1), .string s, .int .u8 (bt s 2), .int .u8 (ob8 (bt s 1) (bt s 2)), .string s, .int .u8 (bt s 3), .int .u8 (ob8 (ob8 (bt s 1) (bt s 2)) (bt s 3)), .bool false, .bool false, .string s, .int .u8 (bt s 0), .bool true, .bool true, .string s, .int .u8 (bt s 1), .bool false, .bool false, .bool false, undef, undef, undef, .bool false, .bool false, undef, undef, undef, .bool false, .bool false, .bool false, .bool false, .bool false, .bool false, undef, undef, undef, .bool false] : List Value).getD (k_ - 8) undef, by kernel_rfl, M⟩
                · skip
                  refine pl_val (want_no rfl) (some 114) rfl (.bool false) (fun w => Eq.trans (b := .ok (.value (.bool (decide ((bt s 0) = 69)))) w) (by kernel_rfl) (by rw [decide_eq_false (c5)])) ?_
                  refine pl_val (want_no rfl) (some 115) rfl (.bool false) (fun _ => by kernel_rfl) ?_
                  refine pl_skip (want_off 3 true rfl 115 rfl (by kernel_rfl)) (some 116) rfl ?_
                  refine pl_skip (want_off 3 true rfl 115 rfl (by kernel_rfl)) (some 117) rfl ?_
                  refine pl_skip (want_off 3 true rfl 115 rfl (by kernel_rfl)) (some 118) rfl ?_
                  refine pl_val (want_no rfl) (some 119) rfl (.bool false) (fun _ => by kernel_rfl) ?_
                  refine pl_val (want_no rfl) (some 120) rfl (.bool false) (fun _ => by kernel_rfl) ?_
                  refine pl_skip (want_off 8 true rfl 120 rfl (by kernel_rfl)) (some 121) rfl ?_
                  refine pl_skip (want_off 8 true rfl 120 rfl (by kernel_rfl)) (some 122) rfl ?_
                  refine pl_skip (want_off 8 true rfl 120 rfl (by kernel_rfl)) (some 123) rfl ?_
                  refine pl_val (want_no rfl) (some 124) rfl (.bool false) (fun _ => by kernel_rfl) ?_
                  refine pl_val (want_no rfl) (some 125) rfl (.bool false) (fun _ => by kernel_rfl) ?_
                  refine pl_skip (want_off 13 true rfl 125 rfl (by kernel_rfl)) (some 126) rfl ?_
                  refine pl_skip (want_off 13 true rfl 125 rfl (by kernel_rfl)) (some 127) rfl ?_
                  refine pl_skip (want_off 13 true rfl 125 rfl (by kernel_rfl)) (some 128) rfl ?_
                  refine pl_val (want_no rfl) (some 129) rfl (.bool false) (fun _ => by kernel_rfl) ?_
                  refine pl_val (want_no rfl) (some 19) rfl (.bool false) (fun _ => by kernel_rfl) ?_
                  refine pl_nil ?_
                  refine au_then ?_
                  refine wp_seq ?_
                  refine rg_lit ?_
                  refine pl_val (want_no rfl) (some 130) rfl (.bool false) (fun _ => by kernel_rfl) ?_
                  refine pl_val (want_no rfl) (some 131) rfl (.bool false) (fun _ => by kernel_rfl) ?_
                  refine pl_val (want_on 1 false rfl 131 rfl (by kernel_rfl)) (some 132) rfl (.bool false) (fun _ => by kernel_rfl) ?_
                  refine pl_val (want_no rfl) (some 133) rfl (.bool false) (fun _ => by kernel_rfl) ?_
                  refine pl_val (want_no rfl) (some 134) rfl (.bool false) (fun _ => by kernel_rfl) ?_
                  refine pl_skip (want_off 4 true rfl 134 rfl (by kernel_rfl)) (some 135) rfl ?_
                  refine pl_skip (want_off 4 true rfl 134 rfl (by kernel_rfl)) (some 136) rfl ?_
                  refine pl_skip (want_off 4 true rfl 134 rfl (by kernel_rfl)) (some 137) rfl ?_
                  refine pl_val (want_no rfl) (some 138) rfl (.bool false) (fun _ => by kernel_rfl) ?_
                  refine pl_nil ?_
                  refine au_then ?_
                  refine wp_cond_false (by kernel_rfl) ?_
                  refine wp_skip ?_
                  refine au_then ?_
                  exact ⟨fun k_ => ([yv1 8, undef, undef, undef, undef, undef, undef, undef, .string (reU s), .int .i64 0, .bool false, .bool false, undef, undef, undef, undef, undef, undef, undef, undef, undef, undef, undef, undef, undef, undef, undef, undef, undef, undef, undef, undef, undef, undef, undef, undef, undef, undef, undef, undef, undef, undef, undef, undef, undef, undef, undef, undef, undef, undef, undef, undef, undef, undef, undef, undef, undef, undef, undef, undef, undef, .int .i64 (rcE s), .bool true, .tuple #[.string (reU s), .int .i64 0], .agg (av 9 (ls [.bool (zB (rcE s) (decide ((sr (bt s 0) 4) = 6))), .int .u64 (zI (rcE s) (if (sr (bt s 0) 4) = 6 then (bdv (s.extract 8 16)) else 0)), .int .u64 (zI (rcE s) (if (sr (bt s 0) 4) = 6 then (bdv (s.extract 16 24)) else (bdv (s.extract 12 16)))), .bool (zB (rcE s) (decide ((sr (bt s 0) 4) = 6))), .int .u64 (zI (rcE s) (if (sr (bt s 0) 4) = 6 then (bdv (s.extract 24 32)) else 0)), .int .u64 (zI (rcE s) (if (sr (bt s 0) 4) = 6 then (bdv (s.extract 32 40)) else (bdv (s.extract 16 20)))), .int .u8 (zI (rcE s) (if (sr (bt s 0) 4) = 6 then (bt s 6) else (bt s 9))), .int .u8 (zI (rcE s) (if (sr (bt s 0) 4) = 6 then (bt s 7) else (bt s 8))), .string (zS (rcE s) (if (sr (bt s 0) 4) = 6 then (s.extract 40 s.size) else (s.extract 20 s.size)))])), .tuple #[.string (reU s), .int .i64 0], .string (reU s), .int .i64 0, .int .i64 0, .bool false, .bool false, .string (reU s), .int .i64 ((reU s).size : Int), .string s, .int .i64 (s.size : Int), .bool false, .bool false, .bool false, .string (reU s), .string (reU s), .int .i64 ((reU s).size : Int), .pointer (some ⟨g4, 8, none⟩), .string (zS (rcE s) (if (sr (bt s 0) 4) = 6 then (s.extract 40 s.size) else (s.extract 20 s.size))), .int .i64 ((zS (rcE s) (if (sr (bt s 0) 4) = 6 then (s.extract 40 s.size) else (s.extract 20 s.size))).size : Int), .int .i64 (((s.size - (reD s).size) : Nat) : Int), .string ((reU s).extract (s.size - (reD s).size) (reU s).size), .pointer (some ⟨g4, 8, none⟩), .string (zS (rcE s) (if (sr (bt s 0) 4) = 6 then (s.extract 40 s.size) else (s.extract 20 s.size))), .bool false, .bool false, .string s, .int .u8 (bt s 0), .bool true, .bool true, .string s, .int .u8 (bt s 1), .string s, .int .u8 (bt s 2), .int .u8 (ob8 (bt s 1) (bt s 2)), .string s, .int .u8 (bt s 3), .int .u8 (ob8 (ob8 (bt s 1) (bt s 2)) (bt s 3)), .bool false, .bool false, .string s, .int .u8 (bt s 0), .bool false, .bool false, undef, undef, undef, .bool false, .bool false, undef, undef, undef, .bool false, .bool false, undef, undef, undef, .bool false, .bool false, .bool false, .bool false, .bool false, .bool false, undef, undef, undef, .bool false] : List Value).getD (k_ - 8) undef, by kernel_rfl, M⟩
            · skip
              refine k_val (want_no rfl) (some 100) rfl (.bool false) (fun w => Eq.trans (b := .ok (.value (.bool (decide ((bt s 0) = 96)))) w) (by kernel_rfl) (by rw [decide_eq_false (c3)])) ?_
              refine k_val (want_no rfl) (some 101) rfl (.bool false) (fun _ => by kernel_rfl) ?_
              refine k_skip (want_off 3 true rfl 101 rfl (by kernel_rfl)) (some 102) rfl ?_
              refine k_skip (want_off 3 true rfl 101 rfl (by kernel_rfl)) (some 103) rfl ?_
              refine k_skip (want_off 3 true rfl 101 rfl (by kernel_rfl)) (some 104) rfl ?_
              refine k_skip (want_off 3 true rfl 101 rfl (by kernel_rfl)) (some 105) rfl ?_
              refine k_skip (want_off 3 true rfl 101 rfl (by kernel_rfl)) (some 106) rfl ?_
              refine k_skip (want_off 3 true rfl 101 rfl (by kernel_rfl)) (some 107) rfl ?_
              refine k_skip (want_off 3 true rfl 101 rfl (by kernel_rfl)) (some 108) rfl ?_
              refine k_skip (want_off 3 true rfl 101 rfl (by kernel_rfl)) (some 109) rfl ?_
              refine k_skip (want_off 3 true rfl 101 rfl (by kernel_rfl)) (some 110) rfl ?_
              refine k_val (want_no rfl) (some 111) rfl (.bool false) (fun _ => by kernel_rfl) ?_
              refine kl_nil ?_
              intro u10 M
              replace M : Mem ⟨w, []⟩ [⟨g1, .cells (av 9 (ls [.bool (v0), .int .u64 h0, .int .u64 l0, .bool (v1), .int .u64 h1, .int .u64 l1, .int .u8 p, .int .u8 t, .string d])) 26⟩, ⟨g2, .cells (av 3 (ls [.bool (va), .int .u64 ha, .int .u64 la])) 24⟩, ⟨g3, .cells (av 4 (ls [.bool (vx), .int .u64 hx_, .int .u64 lx, .int .u8 bx])) 39⟩, ⟨g4, .cells (av 9 (ls [.bool (zB (rcE s) (decide ((sr (bt s 0) 4) = 6))), .int .u64 (zI (rcE s) (if (sr (bt s 0) 4) = 6 then (bdv (s.extract 8 16)) else 0)), .int .u64 (zI (rcE s) (if (sr (bt s 0) 4) = 6 then (bdv (s.extract 16 24)) else (bdv (s.extract 12 16)))), .bool (zB (rcE s) (decide ((sr (bt s 0) 4) = 6))), .int .u64 (zI (rcE s) (if (sr (bt s 0) 4) = 6 then (bdv (s.extract 24 32)) else 0)), .int .u64 (zI (rcE s) (if (sr (bt s 0) 4) = 6 then (bdv (s.extract 32 40)) else (bdv (s.extract 16 20)))), .int .u8 (zI (rcE s) (if (sr (bt s 0) 4) = 6 then (bt s 6) else (bt s 9))), .int .u8 (zI (rcE s) (if (sr (bt s 0) 4) = 6 then (bt s 7) else (bt s 8))), .string (zS (rcE s) (if (sr (bt s 0) 4) = 6 then (s.extract 40 s.size) else (s.extract 20 s.size)))])) 26⟩] u10 := M
              refine pl_val (want_no rfl) (some 18) rfl (.bool false) (fun _ => by kernel_rfl) ?_
              refine pl_nil ?_
              refine au_then ?_
              refine wp_seq ?_
              refine rg_lit ?_
              refine pl_val (want_no rfl) (some 112) rfl (.string s) (fun _ => by kernel_rfl) ?_
              refine pl_val (want_no rfl) (some 113) rfl (.int .u8 (bt s 0)) (run_ixS 9 Tryz.underlying9 _ _ rfl s (by kernel_rfl) .i64 0 (by kernel_rfl) (by omega)) ?_
              by_cases c4 : (bt s 0) = 69
              · skip
                refine pl_val (want_no rfl) (some 114) rfl (.bool true) (fun w => Eq.trans (b := .ok (.value (.bool (decide ((bt s 0) = 69)))) w) (by kernel_rfl) (by rw [decide_eq_true (c4)])) ?_
                refine pl_val (want_no rfl) (some 115) rfl (.bool true) (fun _ => by kernel_rfl) ?_
                refine pl_val (want_on 3 true rfl 115 rfl (by kernel_rfl)) (some 116) rfl (.string s) (fun _ => by kernel_rfl) ?_
                refine pl_val (want_on 3 true rfl 115 rfl (by kernel_rfl)) (some 117) rfl (.int .u8 (bt s 1)) (run_ixS 9 Tryz.underlying9 _ _ rfl s (by kernel_rfl) .i64 1 (by kernel_rfl) (by omega)) ?_
                by_cases c5 : (bt s 1) = 0
                · skip
                  refine pl_val (want_on 3 true rfl 115 rfl (by kernel_rfl)) (some 118) rfl (.bool true) (fun w => Eq.trans (b := .ok (.value (.bool (decide ((bt s 1) = 0)))) w) (by kernel_rfl) (by rw [decide_eq_true (c5)])) ?_
                  refine pl_val (want_no rfl) (some 119) rfl (.bool true) (fun _ => by kernel_rfl) ?_
                  refine pl_val (want_no rfl) (some 120) rfl (.bool true) (fun _ => by kernel_rfl) ?_
                  refine pl_val (want_on 8 true rfl 120 rfl (by kernel_rfl)) (some 121) rfl (.string s) (fun _ => by kernel_rfl) ?_
                  refine pl_val (want_on 8 true rfl 120 rfl (by kernel_rfl)) (some 122) rfl (.string (s.extract 4 8)) (run_strlh 9 Tryz.underlying9 _ _ _ rfl s (by kernel_rfl) .i64 .i64 4 8 (by kernel_rfl) (by kernel_rfl) (by omega) (by omega)) ?_
                  by_cases c6 : (s.extract 4 8) = (⟨#[0, 0, 0, 0]⟩ : ByteArray)
                  · skip
                    refine pl_val (want_on 8 true rfl 120 rfl (by kernel_rfl)) (some 123) rfl (.bool true) (fun w => Eq.trans (b := .ok (.value (.bool ((s.extract 4 8).toList == (⟨#[0, 0, 0, 0]⟩ : ByteArray).toList))) w) (by kernel_rfl) (by rw [seq_pos c6])) ?_
                    refine pl_val (want_no rfl) (some 124) rfl (.bool true) (fun _ => by kernel_rfl) ?_
                    refine pl_val (want_no rfl) (some 125) rfl (.bool true) (fun _ => by kernel_rfl) ?_
                    refine pl_val (want_on 13 true rfl 125 rfl (by kernel_rfl)) (some 126) rfl (.string s) (fun _ => by kernel_rfl) ?_
                    refine pl_val (want_on 13 true rfl 125 rfl (by kernel_rfl)) (some 127) rfl (.string (s.extract 10 12)) (run_strlh 9 Tryz.underlying9 _ _ _ rfl s (by kernel_rfl) .i64 .i64 10 12 (by kernel_rfl) (by kernel_rfl) (by omega) (by omega)) ?_
                    by_cases c7 : (s.extract 10 12) = (⟨#[255, 255]⟩ : ByteArray)
                    · skip
                      refine pl_val (want_on 13 true rfl 125 rfl (by kernel_rfl)) (some 128) rfl (.bool false) (fun w => Eq.trans (b := .ok (.value (.bool (!((s.extract 10 12).toList == (⟨#[255, 255]⟩ : ByteArray).toList)))) w) (by kernel_rfl) (by rw [seq_pos c7]; rfl)) ?_
                      refine pl_val (want_no rfl) (some 129) rfl (.bool false) (fun _ => by kernel_rfl) ?_
                      refine pl_val (want_no rfl) (some 19) rfl (.bool false) (fun _ => by kernel_rfl) ?_
                      refine pl_nil ?_
                      refine au_then ?_
                      refine wp_seq ?_
                      refine rg_lit ?_
                      refine pl_val (want_no rfl) (some 130) rfl (.bool false) (fun _ => by kernel_rfl) ?_
                      refine pl_val (want_no rfl) (some 131) rfl (.bool false) (fun _ => by kernel_rfl) ?_
                      refine pl_val (want_on 1 false rfl 131 rfl (by kernel_rfl)) (some 132) rfl (.bool false) (fun _ => by kernel_rfl) ?_
                      refine pl_val (want_no rfl) (some 133) rfl (.bool false) (fun _ => by kernel_rfl) ?_
                      refine pl_val (want_no rfl) (some 134) rfl (.bool false) (fun _ => by kernel_rfl) ?_
                      refine pl_skip (want_off 4 true rfl 134 rfl (by kernel_rfl)) (some 135) rfl ?_
                      refine pl_skip (want_off 4 true rfl 134 rfl (by kernel_rfl)) (some 136) rfl ?_
                      refine pl_skip (want_off 4 true rfl 134 rfl (by kernel_rfl)) (some 137) rfl ?_
                      refine pl_val (want_no rfl) (some 138) rfl (.bool false) (fun _ => by kernel_rfl) ?_
                      refine pl_nil ?_
                      refine au_then ?_
                      refine wp_cond_false (by kernel_rfl) ?_
                      refine wp_skip ?_
                      refine au_then ?_
                      exact ⟨fun k_ => ([yv1 8, undef, undef, undef, undef, undef, undef, undef, .string (reU s), .int .i64 0, .bool false, .bool false, undef, undef, undef, undef, undef, undef, undef, undef, undef, undef, undef, undef, undef, undef, undef, undef, undef, undef, undef, undef, undef, undef, undef, undef, undef, undef, undef, undef, undef, undef, undef, undef, undef, undef, undef, undef, undef, undef, undef, undef, undef, undef, undef, undef, undef, undef, undef, undef, undef, .int .i64 (rcE s), .bool true, .tuple #[.string (reU s), .int .i64 0], .agg (av 9 (ls [.bool (zB (rcE s) (decide ((sr (bt s 0) 4) = 6))), .int .u64 (zI (rcE s) (if (sr (bt s 0) 4) = 6 then (bdv (s.extract 8 16)) else 0)), .int .u64 (zI (rcE s) (if (sr (bt s 0) 4) = 6 then (bdv (s.extract 16 24)) else (bdv (s.extract 12 16)))), .bool (zB (rcE s) (decide ((sr (bt s 0) 4) = 6))), .int .u64 (zI (rcE s) (if (sr (bt s 0) 4) = 6 then (bdv (s.extract 24 32)) else 0)), .int .u64 (zI (rcE s) (if (sr (bt s 0) 4) = 6 then (bdv (s.extract 32 40)) else (bdv (s.extract 16 20)))), .int .u8 (zI (rcE s) (if (sr (bt s 0) 4) = 6 then (bt s 6) else (bt s 9))), .int .u8 (zI (rcE s) (if (sr (bt s 0) 4) = 6 then (bt s 7) else (bt s 8))), .string (zS (rcE s) (if (sr (bt s 0) 4) = 6 then (s.extract 40 s.size) else (s.extract 20 s.size)))])), .tuple #[.string (reU s), .int .i64 0], .string (reU s), .int .i64 0, .int .i64 0, .bool false, .bool false, .string (reU s), .int .i64 ((reU s).size : Int), .string s, .int .i64 (s.size : Int), .bool false, .bool false, .bool false, .string (reU s), .string (reU s), .int .i64 ((reU s).size : Int), .pointer (some ⟨g4, 8, none⟩), .string (zS (rcE s) (if (sr (bt s 0) 4) = 6 then (s.extract 40 s.size) else (s.extract 20 s.size))), .int .i64 ((zS (rcE s) (if (sr (bt s 0) 4) = 6 then (s.extract 40 s.size) else (s.extract 20 s.size))).size : Int), .int .i64 (((s.size - (reD s).size) : Nat) : Int), .string ((reU s).extract (s.size - (reD s).size) (reU s).size), .pointer (some ⟨g4, 8, none⟩), .string (zS (rcE s) (if (sr (bt s 0) 4) = 6 then (s.extract 40 s.size) else (s.extract 20 s.size))), .bool false, .bool false, .string s, .int .u8 (bt s 0), .bool false, .bool false, undef, undef, undef, undef, undef, undef, undef, undef, undef, .bool false, .string s, .int .u8 (bt s 0), .bool true, .bool true, .string s, .int .u8 (bt s 1), .bool true, .bool true, .bool true, .string s, .string (s.extract 4 8), .bool true, .bool true, .bool true, .string s, .string (s.extract 10 12), .bool false, .bool false, .bool false, .bool false, .bool false, .bool false, .bool false, undef, undef, undef, .bool false] : List Value).getD (k_ - 8) undef, by kernel_rfl, M⟩
                    · skip
                      refine pl_val (want_on 13 true rfl 125 rfl (by kernel_rfl)) (some 128) rfl (.bool true) (fun w => Eq.trans (b := .ok (.value (.bool (!((s.extract 10 12).toList == (⟨#[255, 255]⟩ : ByteArray).toList)))) w) (by kernel_rfl) (by rw [seq_neg c7]; rfl)) ?_
                      refine pl_val (want_no rfl) (some 129) rfl (.bool true) (fun _ => by kernel_rfl) ?_
                      refine pl_val (want_no rfl) (some 19) rfl (.bool true) (fun _ => by kernel_rfl) ?_
                      refine pl_nil ?_
                      refine au_then ?_
                      refine wp_seq ?_
                      refine rg_lit ?_
                      refine pl_val (want_no rfl) (some 130) rfl (.bool false) (fun _ => by kernel_rfl) ?_
                      refine pl_val (want_no rfl) (some 131) rfl (.bool false) (fun _ => by kernel_rfl) ?_
                      refine pl_val (want_on 1 false rfl 131 rfl (by kernel_rfl)) (some 132) rfl (.bool true) (fun _ => by kernel_rfl) ?_
                      refine pl_val (want_no rfl) (some 133) rfl (.bool true) (fun _ => by kernel_rfl) ?_
                      refine pl_val (want_no rfl) (some 134) rfl (.bool true) (fun _ => by kernel_rfl) ?_
                      refine pl_val (want_on 4 true rfl 134 rfl (by kernel_rfl)) (some 135) rfl (.string (reU s)) (fun _ => by kernel_rfl) ?_
                      refine pl_val (want_on 4 true rfl 134 rfl (by kernel_rfl)) (some 136) rfl (.string s) (fun _ => by kernel_rfl) ?_
                      refine pl_val (want_on 4 true rfl 134 rfl (by kernel_rfl)) (some 137) rfl (.bool false) (fun w => Eq.trans (b := .ok (.value (.bool (!((reU s).toList == s.toList)))) w) (by kernel_rfl) (by rw [seq_pos (reU_four s c2 c4 c5 c6 c7)]; rfl)) ?_
                      refine pl_val (want_no rfl) (some 138) rfl (.bool false) (fun _ => by kernel_rfl) ?_
                      refine pl_nil ?_
                      refine au_then ?_
                      refine wp_cond_false (by kernel_rfl) ?_
                      refine wp_skip ?_
                      refine au_then ?_
                      exact ⟨fun k_ => ([yv1 8, undef, undef, undef, undef, undef, undef, undef, .string (reU s), .int .i64 0, .bool false, .bool true, undef, undef, undef, undef, undef, undef, undef, undef, undef, undef, undef, undef, undef, undef, undef, undef, undef, undef, undef, undef, undef, undef, undef, undef, undef, undef, undef, undef, undef, undef, undef, undef, undef, undef, undef, undef, undef, undef, undef, undef, undef, undef, undef, undef, undef, undef, undef, undef, undef, .int .i64 (rcE s), .bool true, .tuple #[.string (reU s), .int .i64 0], .agg (av 9 (ls [.bool (zB (rcE s) (decide ((sr (bt s 0) 4) = 6))), .int .u64 (zI (rcE s) (if (sr (bt s 0) 4) = 6 then (bdv (s.extract 8 16)) else 0)), .int .u64 (zI (rcE s) (if (sr (bt s 0) 4) = 6 then (bdv (s.extract 16 24)) else (bdv (s.extract 12 16)))), .bool (zB (rcE s) (decide ((sr (bt s 0) 4) = 6))), .int .u64 (zI (rcE s) (if (sr (bt s 0) 4) = 6 then (bdv (s.extract 24 32)) else 0)), .int .u64 (zI (rcE s) (if (sr (bt s 0) 4) = 6 then (bdv (s.extract 32 40)) else (bdv (s.extract 16 20)))), .int .u8 (zI (rcE s) (if (sr (bt s 0) 4) = 6 then (bt s 6) else (bt s 9))), .int .u8 (zI (rcE s) (if (sr (bt s 0) 4) = 6 then (bt s 7) else (bt s 8))), .string (zS (rcE s) (if (sr (bt s 0) 4) = 6 then (s.extract 40 s.size) else (s.extract 20 s.size)))])), .tuple #[.string (reU s), .int .i64 0], .string (reU s), .int .i64 0, .int .i64 0, .bool false, .bool false, .string (reU s), .int .i64 ((reU s).size : Int), .string s, .int .i64 (s.size : Int), .bool false, .bool false, .bool false, .string (reU s), .string (reU s), .int .i64 ((reU s).size : Int), .pointer (some ⟨g4, 8, none⟩), .string (zS (rcE s) (if (sr (bt s 0) 4) = 6 then (s.extract 40 s.size) else (s.extract 20 s.size))), .int .i64 ((zS (rcE s) (if (sr (bt s 0) 4) = 6 then (s.extract 40 s.size) else (s.extract 20 s.size))).size : Int), .int .i64 (((s.size - (reD s).size) : Nat) : Int), .string ((reU s).extract (s.size - (reD s).size) (reU s).size), .pointer (some ⟨g4, 8, none⟩), .string (zS (rcE s) (if (sr (bt s 0) 4) = 6 then (s.extract 40 s.size) else (s.extract 20 s.size))), .bool false, .bool false, .string s, .int .u8 (bt s 0), .bool false, .bool false, undef, undef, undef, undef, undef, undef, undef, undef, undef, .bool false, .string s, .int .u8 (bt s 0), .bool true, .bool true, .string s, .int .u8 (bt s 1), .bool true, .bool true, .bool true, .string s, .string (s.extract 4 8), .bool true, .bool true, .bool true, .string s, .string (s.extract 10 12), .bool true, .bool true, .bool false, .bool false, .bool true, .bool true, .bool true, .string (reU s), .string s, .bool false, .bool false] : List Value).getD (k_ - 8) undef, by kernel_rfl, M⟩
                  · skip
                    refine pl_val (want_on 8 true rfl 120 rfl (by kernel_rfl)) (some 123) rfl (.bool false) (fun w => Eq.trans (b := .ok (.value (.bool ((s.extract 4 8).toList == (⟨#[0, 0, 0, 0]⟩ : ByteArray).toList))) w) (by kernel_rfl) (by rw [seq_neg c6])) ?_
                    refine pl_val (want_no rfl) (some 124) rfl (.bool false) (fun _ => by kernel_rfl) ?_
                    refine pl_val (want_no rfl) (some 125) rfl (.bool false) (fun _ => by kernel_rfl) ?_
                    refine pl_skip (want_off 13 true rfl 125 rfl (by kernel_rfl)) (some 126) rfl ?_
                    refine pl_skip (want_off 13 true rfl 125 rfl (by kernel_rfl)) (some 127) rfl ?_
                    refine pl_skip (want_off 13 true rfl 125 rfl (by kernel_rfl)) (some 128) rfl ?_
                    refine pl_val (want_no rfl) (some 129) rfl (.bool false) (fun _ => by kernel_rfl) ?_
                    refine pl_val (want_no rfl) (some 19) rfl (.bool false) (fun _ => by kernel_rfl) ?_
                    refine pl_nil ?_
                    refine au_then ?_
                    refine wp_seq ?_
                    refine rg_lit ?_
                    refine pl_val (want_no rfl) (some 130) rfl (.bool false) (fun _ => by kernel_rfl) ?_
                    refine pl_val (want_no rfl) (some 131) rfl (.bool false) (fun _ => by kernel_rfl) ?_
                    refine pl_val (want_on 1 false rfl 131 rfl (by kernel_rfl)) (some 132) rfl (.bool false) (fun _ => by kernel_rfl) ?_
                    refine pl_val (want_no rfl) (some 133) rfl (.bool false) (fun _ => by kernel_rfl) ?_
                    refine pl_val (want_no rfl) (some 134) rfl (.bool false) (fun _ => by kernel_rfl) ?_
                    refine pl_skip (want_off 4 true rfl 134 rfl (by kernel_rfl)) (some 135) rfl ?_
                    refine pl_skip (want_off 4 true rfl 134 rfl (by kernel_rfl)) (some 136) rfl ?_
                    refine pl_skip (want_off 4 true rfl 134 rfl (by kernel_rfl)) (some 137) rfl ?_
                    refine pl_val (want_no rfl) (some 138) rfl (.bool false) (fun _ => by kernel_rfl) ?_
                    refine pl_nil ?_
                    refine au_then ?_
                    refine wp_cond_false (by kernel_rfl) ?_
                    refine wp_skip ?_
                    refine au_then ?_
                    exact ⟨fun k_ => ([yv1 8, undef, undef, undef, undef, undef, undef, undef, .string (reU s), .int .i64 0, .bool false, .bool false, undef, undef, undef, undef, undef, undef, undef, undef, undef, undef, undef, undef, undef, undef, undef, undef, undef, undef, undef, undef, undef, undef, undef, undef, undef, undef, undef, undef, undef, undef, undef, undef, undef, undef, undef, undef, undef, undef, undef, undef, undef, undef, undef, undef, undef, undef, undef, undef, undef, .int .i64 (rcE s), .bool true, .tuple #[.string (reU s), .int .i64 0], .agg (av 9 (ls [.bool (zB (rcE s) (decide ((sr (bt s 0) 4) = 6))), .int .u64 (zI (rcE s) (if (sr (bt s 0) 4) = 6 then (bdv (s.extract 8 16)) else 0)), .int .u64 (zI (rcE s) (if (sr (bt s 0) 4) = 6 then (bdv (s.extract 16 24)) else (bdv (s.extract 12 16)))), .bool (zB (rcE s) (decide ((sr (bt s 0) 4) = 6))), .int .u64 (zI (rcE s) (if (sr (bt s 0) 4) = 6 then (bdv (s.extract 24 32)) else 0)), .int .u64 (zI (rcE s) (if (sr (bt s 0) 4) = 6 then (bdv (s.extract 32 40)) else (bdv (s.extract 16 20)))), .int .u8 (zI (rcE s) (if (sr (bt s 0) 4) = 6 then (bt s 6) else (bt s 9))), .int .u8 (zI (rcE s) (if (sr (bt s 0) 4) = 6 then (bt s 7) else (bt s 8))), .string (zS (rcE s) (if (sr (bt s 0) 4) = 6 then (s.extract 40 s.size) else (s.extract 20 s.size)))])), .tuple #[.string (reU s), .int .i64 0], .string (reU s), .int .i64 0, .int .i64 0, .bool false, .bool false, .string (reU s), .int .i64 ((reU s).size : Int), .string s, .int .i64 (s.size : Int), .bool false, .bool false, .bool false, .string (reU s), .string (reU s), .int .i64 ((reU s).size : Int), .pointer (some ⟨g4, 8, none⟩), .string (zS (rcE s) (if (sr (bt s 0) 4) = 6 then (s.extract 40 s.size) else (s.extract 20 s.size))), .int .i64 ((zS (rcE s) (if (sr (bt s 0) 4) = 6 then (s.extract 40 s.size) else (s.extract 20 s.size))).size : Int), .int .i64 (((s.size - (reD s).size) : Nat) : Int), .string ((reU s).extract (s.size - (reD s).size) (reU s).size), .pointer (some ⟨g4, 8, none⟩), .string (zS (rcE s) (if (sr (bt s 0) 4) = 6 then (s.extract 40 s.size) else (s.extract 20 s.size))), .bool false, .bool false, .string s, .int .u8 (bt s 0), .bool false, .bool false, undef, undef, undef, undef, undef, undef, undef, undef, undef, .bool false, .string s, .int .u8 (bt s 0), .bool true, .bool true, .string s, .int .u8 (bt s 1), .bool true, .bool true, .bool true, .string s, .string (s.extract 4 8), .bool false, .bool false, .bool false, undef, undef, undef, .bool false, .bool false, .bool false, .bool false, .bool false, .bool false, undef, undef, undef, .bool false] : List Value).getD (k_ - 8) undef, by kernel_rfl, M⟩
                · skip
                  refine pl_val (want_on 3 true rfl 115 rfl (by kernel_rfl)) (some 118) rfl (.bool false) (fun w => Eq.trans (b := .ok (.value (.bool (decide ((bt s 1) = 0)))) w) (by kernel_rfl) (by rw [decide_eq_false (c5)])) ?_
                  refine pl_val (want_no rfl) (some 119) rfl (.bool false) (fun _ => by kernel_rfl) ?_
                  refine pl_val (want_no rfl) (some 120) rfl (.bool false) (fun _ => by kernel_rfl) ?_
                  refine pl_skip (want_off 8 true rfl 120 rfl (by kernel_rfl)) (some 121) rfl ?_
                  refine pl_skip (want_off 8 true rfl 120 rfl (by kernel_rfl)) (some 122) rfl ?_
                  refine pl_skip (want_off 8 true rfl 120 rfl (by kernel_rfl)) (some 123) rfl ?_
                  refine pl_val (want_no rfl) (some 124) rfl (.bool false) (fun _ => by kernel_rfl) ?_
                  refine pl_val (want_no rfl) (some 125) rfl (.bool false) (fun _ => by kernel_rfl) ?_
                  refine pl_skip (want_off 13 true rfl 125 rfl (by kernel_rfl)) (some 126) rfl ?_
                  refine pl_skip (want_off 13 true rfl 125 rfl (by kernel_rfl)) (some 127) rfl ?_
                  refine pl_skip (want_off 13 true rfl 125 rfl (by kernel_rfl)) (some 128) rfl ?_
                  refine pl_val (want_no rfl) (some 129) rfl (.bool false) (fun _ => by kernel_rfl) ?_
                  refine pl_val (want_no rfl) (some 19) rfl (.bool false) (fun _ => by kernel_rfl) ?_
                  refine pl_nil ?_
                  refine au_then ?_
                  refine wp_seq ?_
                  refine rg_lit ?_
                  refine pl_val (want_no rfl) (some 130) rfl (.bool false) (fun _ => by kernel_rfl) ?_
                  refine pl_val (want_no rfl) (some 131) rfl (.bool false) (fun _ => by kernel_rfl) ?_
                  refine pl_val (want_on 1 false rfl 131 rfl (by kernel_rfl)) (some 132) rfl (.bool false) (fun _ => by kernel_rfl) ?_
                  refine pl_val (want_no rfl) (some 133) rfl (.bool false) (fun _ => by kernel_rfl) ?_
                  refine pl_val (want_no rfl) (some 134) rfl (.bool false) (fun _ => by kernel_rfl) ?_
                  refine pl_skip (want_off 4 true rfl 134 rfl (by kernel_rfl)) (some 135) rfl ?_
                  refine pl_skip (want_off 4 true rfl 134 rfl (by kernel_rfl)) (some 136) rfl ?_
                  refine pl_skip (want_off 4 true rfl 134 rfl (by kernel_rfl)) (some 137) rfl ?_
                  refine pl_val (want_no rfl) (some 138) rfl (.bool false) (fun _ => by kernel_rfl) ?_
                  refine pl_nil ?_
                  refine au_then ?_
                  refine wp_cond_false (by kernel_rfl) ?_
                  refine wp_skip ?_
                  refine au_then ?_
                  exact ⟨fun k_ => ([yv1 8, undef, undef, undef, undef, undef, undef, undef, .string (reU s), .int .i64 0, .bool false, .bool false, undef, undef, undef, undef, undef, undef, undef, undef, undef, undef, undef, undef, undef, undef, undef, undef, undef, undef, undef, undef, undef, undef, undef, undef, undef, undef, undef, undef, undef, undef, undef, undef, undef, undef, undef, undef, undef, undef, undef, undef, undef, undef, undef, undef, undef, undef, undef, undef, undef, .int .i64 (rcE s), .bool true, .tuple #[.string (reU s), .int .i64 0], .agg (av 9 (ls [.bool (zB (rcE s) (decide ((sr (bt s 0) 4) = 6))), .int .u64 (zI (rcE s) (if (sr (bt s 0) 4) = 6 then (bdv (s.extract 8 16)) else 0)), .int .u64 (zI (rcE s) (if (sr (bt s 0) 4) = 6 then (bdv (s.extract 16 24)) else (bdv (s.extract 12 16)))), .bool (zB (rcE s) (decide ((sr (bt s 0) 4) = 6))), .int .u64 (zI (rcE s) (if (sr (bt s 0) 4) = 6 then (bdv (s.extract 24 32)) else 0)), .int .u64 (zI (rcE s) (if (sr (bt s 0) 4) = 6 then (bdv (s.extract 32 40)) else (bdv (s.extract 16 20)))), .int .u8 (zI (rcE s) (if (sr (bt s 0) 4) = 6 then (bt s 6) else (bt s 9))), .int .u8 (zI (rcE s) (if (sr (bt s 0) 4) = 6 then (bt s 7) else (bt s 8))), .string (zS (rcE s) (if (sr (bt s 0) 4) = 6 then (s.extract 40 s.size) else (s.extract 20 s.size)))])), .tuple #[.string (reU s), .int .i64 0], .string (reU s), .int .i64 0, .int .i64 0, .bool false, .bool false, .string (reU s), .int .i64 ((reU s).size : Int), .string s, .int .i64 (s.size : Int), .bool false, .bool false, .bool false, .string (reU s), .string (reU s), .int .i64 ((reU s).size : Int), .pointer (some ⟨g4, 8, none⟩), .string (zS (rcE s) (if (sr (bt s 0) 4) = 6 then (s.extract 40 s.size) else (s.extract 20 s.size))), .int .i64 ((zS (rcE s) (if (sr (bt s 0) 4) = 6 then (s.extract 40 s.size) else (s.extract 20 s.size))).size : Int), .int .i64 (((s.size - (reD s).size) : Nat) : Int), .string ((reU s).extract (s.size - (reD s).size) (reU s).size), .pointer (some ⟨g4, 8, none⟩), .string (zS (rcE s) (if (sr (bt s 0) 4) = 6 then (s.extract 40 s.size) else (s.extract 20 s.size))), .bool false, .bool false, .string s, .int .u8 (bt s 0), .bool false, .bool false, undef, undef, undef, undef, undef, undef, undef, undef, undef, .bool false, .string s, .int .u8 (bt s 0), .bool true, .bool true, .string s, .int .u8 (bt s 1), .bool false, .bool false, .bool false, undef, undef, undef, .bool false, .bool false, undef, undef, undef, .bool false, .bool false, .bool false, .bool false, .bool false, .bool false, undef, undef, undef, .bool false] : List Value).getD (k_ - 8) undef, by kernel_rfl, M⟩
              · skip
                refine pl_val (want_no rfl) (some 114) rfl (.bool false) (fun w => Eq.trans (b := .ok (.value (.bool (decide ((bt s 0) = 69)))) w) (by kernel_rfl) (by rw [decide_eq_false (c4)])) ?_
                refine pl_val (want_no rfl) (some 115) rfl (.bool false) (fun _ => by kernel_rfl) ?_
                refine pl_skip (want_off 3 true rfl 115 rfl (by kernel_rfl)) (some 116) rfl ?_
                refine pl_skip (want_off 3 true rfl 115 rfl (by kernel_rfl)) (some 117) rfl ?_
                refine pl_skip (want_off 3 true rfl 115 rfl (by kernel_rfl)) (some 118) rfl ?_
                refine pl_val (want_no rfl) (some 119) rfl (.bool false) (fun _ => by kernel_rfl) ?_
                refine pl_val (want_no rfl) (some 120) rfl (.bool false) (fun _ => by kernel_rfl) ?_
                refine pl_skip (want_off 8 true rfl 120 rfl (by kernel_rfl)) (some 121) rfl ?_
                refine pl_skip (want_off 8 true rfl 120 rfl (by kernel_rfl)) (some 122) rfl ?_
                refine pl_skip (want_off 8 true rfl 120 rfl (by kernel_rfl)) (some 123) rfl ?_
                refine pl_val (want_no rfl) (some 124) rfl (.bool false) (fun _ => by kernel_rfl) ?_
                refine pl_val (want_no rfl) (some 125) rfl (.bool false) (fun _ => by kernel_rfl) ?_
                refine pl_skip (want_off 13 true rfl 125 rfl (by kernel_rfl)) (some 126) rfl ?_
                refine pl_skip (want_off 13 true rfl 125 rfl (by kernel_rfl)) (some 127) rfl ?_
                refine pl_skip (want_off 13 true rfl 125 rfl (by kernel_rfl)) (some 128) rfl ?_
                refine pl_val (want_no rfl) (some 129) rfl (.bool false) (fun _ => by kernel_rfl) ?_
                refine pl_val (want_no rfl) (some 19) rfl (.bool false) (fun _ => by kernel_rfl) ?_
                refine pl_nil ?_
                refine au_then ?_
                refine wp_seq ?_
                refine rg_lit ?_
                refine pl_val (want_no rfl) (some 130) rfl (.bool false) (fun _ => by kernel_rfl) ?_
                refine pl_val (want_no rfl) (some 131) rfl (.bool false) (fun _ => by kernel_rfl) ?_
                refine pl_val (want_on 1 false rfl 131 rfl (by kernel_rfl)) (some 132) rfl (.bool false) (fun _ => by kernel_rfl) ?_
                refine pl_val (want_no rfl) (some 133) rfl (.bool false) (fun _ => by kernel_rfl) ?_
                refine pl_val (want_no rfl) (some 134) rfl (.bool false) (fun _ => by kernel_rfl) ?_
                refine pl_skip (want_off 4 true rfl 134 rfl (by kernel_rfl)) (some 135) rfl ?_
                refine pl_skip (want_off 4 true rfl 134 rfl (by kernel_rfl)) (some 136) rfl ?_
                refine pl_skip (want_off 4 true rfl 134 rfl (by kernel_rfl)) (some 137) rfl ?_
                refine pl_val (want_no rfl) (some 138) rfl (.bool false) (fun _ => by kernel_rfl) ?_
                refine pl_nil ?_
                refine au_then ?_
                refine wp_cond_false (by kernel_rfl) ?_
                refine wp_skip ?_
                refine au_then ?_
                exact ⟨fun k_ => ([yv1 8, undef, undef, undef, undef, undef, undef, undef, .string (reU s), .int .i64 0, .bool false, .bool false, undef, undef, undef, undef, undef, undef, undef, undef, undef, undef, undef, undef, undef, undef, undef, undef, undef, undef, undef, undef, undef, undef, undef, undef, undef, undef, undef, undef, undef, undef, undef, undef, undef, undef, undef, undef, undef, undef, undef, undef, undef, undef, undef, undef, undef, undef, undef, undef, undef, .int .i64 (rcE s), .bool true, .tuple #[.string (reU s), .int .i64 0], .agg (av 9 (ls [.bool (zB (rcE s) (decide ((sr (bt s 0) 4) = 6))), .int .u64 (zI (rcE s) (if (sr (bt s 0) 4) = 6 then (bdv (s.extract 8 16)) else 0)), .int .u64 (zI (rcE s) (if (sr (bt s 0) 4) = 6 then (bdv (s.extract 16 24)) else (bdv (s.extract 12 16)))), .bool (zB (rcE s) (decide ((sr (bt s 0) 4) = 6))), .int .u64 (zI (rcE s) (if (sr (bt s 0) 4) = 6 then (bdv (s.extract 24 32)) else 0)), .int .u64 (zI (rcE s) (if (sr (bt s 0) 4) = 6 then (bdv (s.extract 32 40)) else (bdv (s.extract 16 20)))), .int .u8 (zI (rcE s) (if (sr (bt s 0) 4) = 6 then (bt s 6) else (bt s 9))), .int .u8 (zI (rcE s) (if (sr (bt s 0) 4) = 6 then (bt s 7) else (bt s 8))), .string (zS (rcE s) (if (sr (bt s 0) 4) = 6 then (s.extract 40 s.size) else (s.extract 20 s.size)))])), .tuple #[.string (reU s), .int .i64 0], .string (reU s), .int .i64 0, .int .i64 0, .bool false, .bool false, .string (reU s), .int .i64 ((reU s).size : Int), .string s, .int .i64 (s.size : Int), .bool false, .bool false, .bool false, .string (reU s), .string (reU s), .int .i64 ((reU s).size : Int), .pointer (some ⟨g4, 8, none⟩), .string (zS (rcE s) (if (sr (bt s 0) 4) = 6 then (s.extract 40 s.size) else (s.extract 20 s.size))), .int .i64 ((zS (rcE s) (if (sr (bt s 0) 4) = 6 then (s.extract 40 s.size) else (s.extract 20 s.size))).size : Int), .int .i64 (((s.size - (reD s).size) : Nat) : Int), .string ((reU s).extract (s.size - (reD s).size) (reU s).size), .pointer (some ⟨g4, 8, none⟩), .string (zS (rcE s) (if (sr (bt s 0) 4) = 6 then (s.extract 40 s.size) else (s.extract 20 s.size))), .bool false, .bool false, .string s, .int .u8 (bt s 0), .bool false, .bool false, undef, undef, undef, undef, undef, undef, undef, undef, undef, .bool false, .string s, .int .u8 (bt s 0), .bool false, .bool false, undef, undef, undef, .bool false, .bool false, undef, undef, undef, .bool false, .bool false, undef, undef, undef, .bool false, .bool false, .bool false, .bool false, .bool false, .bool false, undef, undef, undef, .bool false] : List Value).getD (k_ - 8) undef, by kernel_rfl, M⟩
          · skip
            refine pl_val (want_no rfl) (some 70) rfl (.bool false) (fun w => Eq.trans (b := .ok (.value (.bool (decide ((rcE s) = 0)))) w) (by kernel_rfl) (by rw [decide_eq_false (c2)])) ?_
            refine pl_nil ?_
            refine au_then ?_
            refine wp_cond_false (by kernel_rfl) ?_
            refine wp_skip ?_
            refine au_then ?_
            exact ⟨fun k_ => ([yv1 8, undef, undef, undef, undef, undef, undef, undef, undef, undef, undef, undef, undef, undef, undef, undef, undef, undef, undef, undef, undef, undef, undef, undef, undef, undef, undef, undef, undef, undef, undef, undef, undef, undef, undef, undef, undef, undef, undef, undef, undef, undef, undef, undef, undef, undef, undef, undef, undef, undef, undef, undef, undef, undef, undef, undef, undef, undef, undef, undef, undef, .int .i64 (rcE s), .bool false, undef, undef, undef, undef, undef, undef, undef, undef, undef, undef, undef, undef, undef, undef, undef, undef, undef, undef, undef, undef, undef, undef, undef, undef, undef, undef, undef, undef, undef, undef, undef, undef, undef, undef, undef, undef, undef, undef, undef, undef, undef, undef, undef, undef, undef, undef, undef, undef, undef, undef, undef, undef, undef, undef, undef, undef, undef, undef, undef, undef, undef, undef, undef, undef, undef, undef, undef, undef] : List Value).getD (k_ - 8) undef, by kernel_rfl, M⟩
        · intro a u0 hI
          obtain ⟨yv2, rfl, M⟩ := hI
          refine wp_seq ?_
          refine rg_lit ?_
          refine pl_load M (want_no rfl) (some 140) rfl 24 _ rfl 1 g2 0 (by kernel_rfl) 3 24 (ls [.bool (va), .int .u64 ha, .int .u64 la]) rfl 3 (ls [.bool (va), .int .u64 ha, .int .u64 la]) (fun j _ => by rw [Nat.zero_add]) (by decide) _ Tryz.underlying24 rfl inz24 ?_
          rcases Bool.eq_false_or_eq_true (mA va ha la) with c2 | c2
          · skip
            refine pl_call M (want_no rfl) (some 141) rfl 22 #[.agg (av 3 (ls [.bool (va), .int .u64 ha, .int .u64 la]))] (.string (txt va ha la)) (fun _ => by kernel_rfl) (fun w M => c_Text va ha la w M.laid) ?_
            intro u8 M
            refine pl_call M (want_no rfl) (some 142) rfl 18 #[.string (txt va ha la)] (.tuple #[.agg (av 3 (ls [.bool (va), .int .u64 ha, .int .u64 la])), .int .i64 0]) (fun _ => by kernel_rfl) (fun w M => call_val (c_Read (txt va ha la) w M.laid) (by obtain ⟨_, q2, q3, q4, q5⟩ := read_txt va ha la ha0 ha1 la0 la1 c2; rw [q2, q3, q4, q5]; rfl)) ?_
            intro u9 M
            refine pl_val (want_no rfl) (some 139) rfl (.tuple #[.agg (av 3 (ls [.bool (va), .int .u64 ha, .int .u64 la])), .int .i64 0]) (fun _ => by kernel_rfl) ?_
            refine pl_val (want_no rfl) (some 143) rfl (.agg (av 3 (ls [.bool (va), .int .u64 ha, .int .u64 la]))) (fun _ => by kernel_rfl) ?_
            refine pl_val (want_no rfl) (some 144) rfl (.int .i64 0) (fun _ => by kernel_rfl) ?_
            refine pl_new M (want_no rfl) (some 20) rfl (.cells (av 3 (ls [.bool false, .int .u64 0, .int .u64 0])) 24) (fun _ => by kernel_rfl) ?_
            intro g5 u10 M
            replace M : Mem ⟨w, []⟩ [⟨g1, .cells (av 9 (ls [.bool (v0), .int .u64 h0, .int .u64 l0, .bool (v1), .int .u64 h1, .int .u64 l1, .int .u8 p, .int .u8 t, .string d])) 26⟩, ⟨g2, .cells (av 3 (ls [.bool (va), .int .u64 ha, .int .u64 la])) 24⟩, ⟨g3, .cells (av 4 (ls [.bool (vx), .int .u64 hx_, .int .u64 lx, .int .u8 bx])) 39⟩, ⟨g4, .cells (av 9 (ls [.bool (zB (rcE s) (decide ((sr (bt s 0) 4) = 6))), .int .u64 (zI (rcE s) (if (sr (bt s 0) 4) = 6 then (bdv (s.extract 8 16)) else 0)), .int .u64 (zI (rcE s) (if (sr (bt s 0) 4) = 6 then (bdv (s.extract 16 24)) else (bdv (s.extract 12 16)))), .bool (zB (rcE s) (decide ((sr (bt s 0) 4) = 6))), .int .u64 (zI (rcE s) (if (sr (bt s 0) 4) = 6 then (bdv (s.extract 24 32)) else 0)), .int .u64 (zI (rcE s) (if (sr (bt s 0) 4) = 6 then (bdv (s.extract 32 40)) else (bdv (s.extract 16 20)))), .int .u8 (zI (rcE s) (if (sr (bt s 0) 4) = 6 then (bt s 6) else (bt s 9))), .int .u8 (zI (rcE s) (if (sr (bt s 0) 4) = 6 then (bt s 7) else (bt s 8))), .string (zS (rcE s) (if (sr (bt s 0) 4) = 6 then (s.extract 40 s.size) else (s.extract 20 s.size)))])) 26⟩, ⟨g5, .cells (av 3 (ls [.bool false, .int .u64 0, .int .u64 0])) 24⟩] u10 := M
            refine pl_put M (want_no rfl) rfl 24 _ _ rfl 4 g5 0 (by kernel_rfl) 3 24 (ls [.bool false, .int .u64 0, .int .u64 0]) rfl 3 (ls [.bool (va), .int .u64 ha, .int .u64 la]) (ls [.bool (va), .int .u64 ha, .int .u64 la]) (by kernel_rfl) inz24 (by decide) (one_ls _ rfl) (fun j hj => by rw [if_pos (by omega), Nat.sub_zero]) ?_
            intro u11 M
            replace M : Mem ⟨w, []⟩ [⟨g1, .cells (av 9 (ls [.bool (v0), .int .u64 h0, .int .u64 l0, .bool (v1), .int .u64 h1, .int .u64 l1, .int .u8 p, .int .u8 t, .string d])) 26⟩, ⟨g2, .cells (av 3 (ls [.bool (va), .int .u64 ha, .int .u64 la])) 24⟩, ⟨g3, .cells (av 4 (ls [.bool (vx), .int .u64 hx_, .int .u64 lx, .int .u8 bx])) 39⟩, ⟨g4, .cells (av 9 (ls [.bool (zB (rcE s) (decide ((sr (bt s 0) 4) = 6))), .int .u64 (zI (rcE s) (if (sr (bt s 0) 4) = 6 then (bdv (s.extract 8 16)) else 0)), .int .u64 (zI (rcE s) (if (sr (bt s 0) 4) = 6 then (bdv (s.extract 16 24)) else (bdv (s.extract 12 16)))), .bool (zB (rcE s) (decide ((sr (bt s 0) 4) = 6))), .int .u64 (zI (rcE s) (if (sr (bt s 0) 4) = 6 then (bdv (s.extract 24 32)) else 0)), .int .u64 (zI (rcE s) (if (sr (bt s 0) 4) = 6 then (bdv (s.extract 32 40)) else (bdv (s.extract 16 20)))), .int .u8 (zI (rcE s) (if (sr (bt s 0) 4) = 6 then (bt s 6) else (bt s 9))), .int .u8 (zI (rcE s) (if (sr (bt s 0) 4) = 6 then (bt s 7) else (bt s 8))), .string (zS (rcE s) (if (sr (bt s 0) 4) = 6 then (s.extract 40 s.size) else (s.extract 20 s.size)))])) 26⟩, ⟨g5, .cells (av 3 (ls [.bool (va), .int .u64 ha, .int .u64 la])) 24⟩] u11 := M
            refine pl_val (want_no rfl) (some 21) rfl (.int .i64 0) (fun _ => by kernel_rfl) ?_
            refine pl_nil ?_
            refine au_then ?_
            refine wp_seq ?_
            refine rg_lit ?_
            refine pl_load M (want_no rfl) (some 146) rfl 39 _ rfl 2 g3 0 (by kernel_rfl) 4 39 (ls [.bool (vx), .int .u64 hx_, .int .u64 lx, .int .u8 bx]) rfl 4 (ls [.bool (vx), .int .u64 hx_, .int .u64 lx, .int .u8 bx]) (fun j _ => by rw [Nat.zero_add]) (by decide) _ Tryz.underlying39 rfl inz39 ?_
            rcases Bool.eq_false_or_eq_true (mP vx hx_ lx bx) with c3 | c3
            · skip
              refine pl_call M (want_no rfl) (some 147) rfl 24 #[.agg (av 4 (ls [.bool (vx), .int .u64 hx_, .int .u64 lx, .int .u8 bx]))] (.string (ptx vx hx_ lx bx)) (fun _ => by kernel_rfl) (fun w M => c_PrefixText vx hx_ lx bx bx0 (by omega) w M.laid) ?_
              intro u12 M
              refine pl_call M (want_no rfl) (some 148) rfl 20 #[.string (ptx vx hx_ lx bx)] (.tuple #[.agg (av 4 (ls [.bool (vx), .int .u64 hx_, .int .u64 lx, .int .u8 bx])), .int .i64 0]) (fun _ => by kernel_rfl) (fun w M => call_val (c_ReadPrefix (ptx vx hx_ lx bx) (ptx_size vx hx_ lx bx) w M.laid) (by obtain ⟨q1, q2, q3, q4, q5⟩ := read_ptx vx hx_ lx bx hx0 hx1 lx0 lx1 bx0 bx1 c3; rw [q1, q2, q3, q4, q5]; rfl)) ?_
              intro u13 M
              refine pl_val (want_no rfl) (some 145) rfl (.tuple #[.agg (av 4 (ls [.bool (vx), .int .u64 hx_, .int .u64 lx, .int .u8 bx])), .int .i64 0]) (fun _ => by kernel_rfl) ?_
              refine pl_val (want_no rfl) (some 149) rfl (.agg (av 4 (ls [.bool (vx), .int .u64 hx_, .int .u64 lx, .int .u8 bx]))) (fun _ => by kernel_rfl) ?_
              refine pl_val (want_no rfl) (some 150) rfl (.int .i64 0) (fun _ => by kernel_rfl) ?_
              refine pl_new M (want_no rfl) (some 22) rfl (.cells (av 4 (ls [.bool false, .int .u64 0, .int .u64 0, .int .u8 0])) 39) (fun _ => by kernel_rfl) ?_
              intro g6 u14 M
              replace M : Mem ⟨w, []⟩ [⟨g1, .cells (av 9 (ls [.bool (v0), .int .u64 h0, .int .u64 l0, .bool (v1), .int .u64 h1, .int .u64 l1, .int .u8 p, .int .u8 t, .string d])) 26⟩, ⟨g2, .cells (av 3 (ls [.bool (va), .int .u64 ha, .int .u64 la])) 24⟩, ⟨g3, .cells (av 4 (ls [.bool (vx), .int .u64 hx_, .int .u64 lx, .int .u8 bx])) 39⟩, ⟨g4, .cells (av 9 (ls [.bool (zB (rcE s) (decide ((sr (bt s 0) 4) = 6))), .int .u64 (zI (rcE s) (if (sr (bt s 0) 4) = 6 then (bdv (s.extract 8 16)) else 0)), .int .u64 (zI (rcE s) (if (sr (bt s 0) 4) = 6 then (bdv (s.extract 16 24)) else (bdv (s.extract 12 16)))), .bool (zB (rcE s) (decide ((sr (bt s 0) 4) = 6))), .int .u64 (zI (rcE s) (if (sr (bt s 0) 4) = 6 then (bdv (s.extract 24 32)) else 0)), .int .u64 (zI (rcE s) (if (sr (bt s 0) 4) = 6 then (bdv (s.extract 32 40)) else (bdv (s.extract 16 20)))), .int .u8 (zI (rcE s) (if (sr (bt s 0) 4) = 6 then (bt s 6) else (bt s 9))), .int .u8 (zI (rcE s) (if (sr (bt s 0) 4) = 6 then (bt s 7) else (bt s 8))), .string (zS (rcE s) (if (sr (bt s 0) 4) = 6 then (s.extract 40 s.size) else (s.extract 20 s.size)))])) 26⟩, ⟨g5, .cells (av 3 (ls [.bool (va), .int .u64 ha, .int .u64 la])) 24⟩, ⟨g6, .cells (av 4 (ls [.bool false, .int .u64 0, .int .u64 0, .int .u8 0])) 39⟩] u14 := M
              refine pl_put M (want_no rfl) rfl 39 _ _ rfl 5 g6 0 (by kernel_rfl) 4 39 (ls [.bool false, .int .u64 0, .int .u64 0, .int .u8 0]) rfl 4 (ls [.bool (vx), .int .u64 hx_, .int .u64 lx, .int .u8 bx]) (ls [.bool (vx), .int .u64 hx_, .int .u64 lx, .int .u8 bx]) (by kernel_rfl) inz39 (by decide) (one_ls _ rfl) (fun j hj => by rw [if_pos (by omega), Nat.sub_zero]) ?_
              intro u15 M
              replace M : Mem ⟨w, []⟩ [⟨g1, .cells (av 9 (ls [.bool (v0), .int .u64 h0, .int .u64 l0, .bool (v1), .int .u64 h1, .int .u64 l1, .int .u8 p, .int .u8 t, .string d])) 26⟩, ⟨g2, .cells (av 3 (ls [.bool (va), .int .u64 ha, .int .u64 la])) 24⟩, ⟨g3, .cells (av 4 (ls [.bool (vx), .int .u64 hx_, .int .u64 lx, .int .u8 bx])) 39⟩, ⟨g4, .cells (av 9 (ls [.bool (zB (rcE s) (decide ((sr (bt s 0) 4) = 6))), .int .u64 (zI (rcE s) (if (sr (bt s 0) 4) = 6 then (bdv (s.extract 8 16)) else 0)), .int .u64 (zI (rcE s) (if (sr (bt s 0) 4) = 6 then (bdv (s.extract 16 24)) else (bdv (s.extract 12 16)))), .bool (zB (rcE s) (decide ((sr (bt s 0) 4) = 6))), .int .u64 (zI (rcE s) (if (sr (bt s 0) 4) = 6 then (bdv (s.extract 24 32)) else 0)), .int .u64 (zI (rcE s) (if (sr (bt s 0) 4) = 6 then (bdv (s.extract 32 40)) else (bdv (s.extract 16 20)))), .int .u8 (zI (rcE s) (if (sr (bt s 0) 4) = 6 then (bt s 6) else (bt s 9))), .int .u8 (zI (rcE s) (if (sr (bt s 0) 4) = 6 then (bt s 7) else (bt s 8))), .string (zS (rcE s) (if (sr (bt s 0) 4) = 6 then (s.extract 40 s.size) else (s.extract 20 s.size)))])) 26⟩, ⟨g5, .cells (av 3 (ls [.bool (va), .int .u64 ha, .int .u64 la])) 24⟩, ⟨g6, .cells (av 4 (ls [.bool (vx), .int .u64 hx_, .int .u64 lx, .int .u8 bx])) 39⟩] u15 := M
              refine pl_val (want_no rfl) (some 23) rfl (.int .i64 0) (fun _ => by kernel_rfl) ?_
              refine pl_nil ?_
              refine au_then ?_
              refine wp_seq ?_
              refine rg_lit ?_
              refine pl_val (want_no rfl) (some 151) rfl (.int .i64 0) (fun _ => by kernel_rfl) ?_
              refine pl_val (want_no rfl) (some 152) rfl (.bool true) (fun _ => by kernel_rfl) ?_
              refine pl_val (want_no rfl) (some 153) rfl (.bool true) (fun _ => by kernel_rfl) ?_
              refine pl_load M (want_on 2 true rfl 153 rfl (by kernel_rfl)) (some 154) rfl 24 _ rfl 4 g5 0 (by kernel_rfl) 3 24 (ls [.bool (va), .int .u64 ha, .int .u64 la]) rfl 3 (ls [.bool (va), .int .u64 ha, .int .u64 la]) (fun j _ => by rw [Nat.zero_add]) (by decide) _ Tryz.underlying24 rfl inz24 ?_
              refine pl_load M (want_on 2 true rfl 153 rfl (by kernel_rfl)) (some 155) rfl 24 _ rfl 1 g2 0 (by kernel_rfl) 3 24 (ls [.bool (va), .int .u64 ha, .int .u64 la]) rfl 3 (ls [.bool (va), .int .u64 ha, .int .u64 la]) (fun j _ => by rw [Nat.zero_add]) (by decide) _ Tryz.underlying24 rfl inz24 ?_
              refine pl_val (want_on 2 true rfl 153 rfl (by kernel_rfl)) (some 156) rfl (.bool true) (fun w => (eql24 va va ha ha la la _ _ rfl (by kernel_rfl) (by kernel_rfl) w).trans (by rw [decide_eq_true (⟨rfl, rfl, rfl⟩ : va = va ∧ ha = ha ∧ la = la)])) ?_
              refine pl_val (want_no rfl) (some 157) rfl (.bool true) (fun _ => by kernel_rfl) ?_
              refine pl_val (want_no rfl) (some 158) rfl (.bool true) (fun _ => by kernel_rfl) ?_
              refine pl_skip (want_off 7 false rfl 158 rfl (by kernel_rfl)) (some 159) rfl ?_
              refine pl_skip (want_off 7 false rfl 158 rfl (by kernel_rfl)) (some 160) rfl ?_
              refine pl_skip (want_off 7 false rfl 158 rfl (by kernel_rfl)) (some 161) rfl ?_
              refine pl_val (want_no rfl) (some 162) rfl (.bool true) (fun _ => by kernel_rfl) ?_
              refine pl_val (want_no rfl) (some 163) rfl (.bool true) (fun _ => by kernel_rfl) ?_
              refine pl_val (want_on 12 true rfl 163 rfl (by kernel_rfl)) (some 164) rfl (.int .i64 0) (fun _ => by kernel_rfl) ?_
              refine pl_val (want_on 12 true rfl 163 rfl (by kernel_rfl)) (some 165) rfl (.bool true) (fun _ => by kernel_rfl) ?_
              refine pl_val (want_on 12 true rfl 163 rfl (by kernel_rfl)) (some 166) rfl (.bool true) (fun _ => by kernel_rfl) ?_
              refine pl_load M (want_on 15 true rfl 166 rfl (by kernel_rfl)) (some 167) rfl 39 _ rfl 5 g6 0 (by kernel_rfl) 4 39 (ls [.bool (vx), .int .u64 hx_, .int .u64 lx, .int .u8 bx]) rfl 4 (ls [.bool (vx), .int .u64 hx_, .int .u64 lx, .int .u8 bx]) (fun j _ => by rw [Nat.zero_add]) (by decide) _ Tryz.underlying39 rfl inz39 ?_
              refine pl_load M (want_on 15 true rfl 166 rfl (by kernel_rfl)) (some 168) rfl 39 _ rfl 2 g3 0 (by kernel_rfl) 4 39 (ls [.bool (vx), .int .u64 hx_, .int .u64 lx, .int .u8 bx]) rfl 4 (ls [.bool (vx), .int .u64 hx_, .int .u64 lx, .int .u8 bx]) (fun j _ => by rw [Nat.zero_add]) (by decide) _ Tryz.underlying39 rfl inz39 ?_
              refine pl_val (want_on 15 true rfl 166 rfl (by kernel_rfl)) (some 169) rfl (.bool true) (fun w => (eql39 vx vx hx_ hx_ lx lx bx bx _ _ rfl (by kernel_rfl) (by kernel_rfl) w).trans (by rw [decide_eq_true (⟨rfl, rfl, rfl, rfl⟩ : vx = vx ∧ hx_ = hx_ ∧ lx = lx ∧ bx = bx)])) ?_
              refine pl_val (want_on 12 true rfl 163 rfl (by kernel_rfl)) (some 170) rfl (.bool true) (fun _ => by kernel_rfl) ?_
              refine pl_val (want_on 12 true rfl 163 rfl (by kernel_rfl)) (some 171) rfl (.bool true) (fun _ => by kernel_rfl) ?_
              refine pl_skip (want_off 20 false rfl 171 rfl (by kernel_rfl)) (some 172) rfl ?_
              refine pl_skip (want_off 20 false rfl 171 rfl (by kernel_rfl)) (some 173) rfl ?_
              refine pl_skip (want_off 20 false rfl 171 rfl (by kernel_rfl)) (some 174) rfl ?_
              refine pl_val (want_on 12 true rfl 163 rfl (by kernel_rfl)) (some 175) rfl (.bool true) (fun _ => by kernel_rfl) ?_
              refine pl_val (want_no rfl) (some 176) rfl (.bool true) (fun _ => by kernel_rfl) ?_
              refine pl_val (want_no rfl) (some 177) rfl (.bool true) (fun _ => by kernel_rfl) ?_
              refine pl_call M (want_on 26 true rfl 177 rfl (by kernel_rfl)) (some 178) rfl 9 #[] (.bool true) (fun _ => by kernel_rfl) (fun w M => c_works w M.laid) ?_
              intro u16 M
              refine pl_val (want_no rfl) (some 179) rfl (.bool true) (fun _ => by kernel_rfl) ?_
              refine pl_val (want_no rfl) (some 8) rfl (.bool true) (fun _ => by kernel_rfl) ?_
              refine pl_nil ?_
              refine au_then ?_
              refine wp_ret ?_
              exact bodyPost_ret (v := .bool true) (results_tmp1 Tryz.results6 _ _ _ (by kernel_rfl)) (by kernel_rfl) ⟨rfl, below_grown M.old⟩
            · skip
              refine pl_call M (want_no rfl) (some 147) rfl 24 #[.agg (av 4 (ls [.bool (vx), .int .u64 hx_, .int .u64 lx, .int .u8 bx]))] (.string ⟨#[]⟩) (fun _ => by kernel_rfl) (fun w M => call_val (c_PrefixText vx hx_ lx bx bx0 (by omega) w M.laid) (by unfold ptx; rw [if_neg (by rw [c3]; decide)])) ?_
              intro u12 M
              refine pl_call M (want_no rfl) (some 148) rfl 20 #[.string ⟨#[]⟩] (.tuple #[.agg (av 4 (ls [.bool false, .int .u64 0, .int .u64 0, .int .u8 0])), .int .i64 8]) (fun _ => by kernel_rfl) (fun w M => call_val (c_ReadPrefix ⟨#[]⟩ (by decide) w M.laid) (by kernel_rfl)) ?_
              intro u13 M
              refine pl_val (want_no rfl) (some 145) rfl (.tuple #[.agg (av 4 (ls [.bool false, .int .u64 0, .int .u64 0, .int .u8 0])), .int .i64 8]) (fun _ => by kernel_rfl) ?_
              refine pl_val (want_no rfl) (some 149) rfl (.agg (av 4 (ls [.bool false, .int .u64 0, .int .u64 0, .int .u8 0]))) (fun _ => by kernel_rfl) ?_
              refine pl_val (want_no rfl) (some 150) rfl (.int .i64 8) (fun _ => by kernel_rfl) ?_
              refine pl_new M (want_no rfl) (some 22) rfl (.cells (av 4 (ls [.bool false, .int .u64 0, .int .u64 0, .int .u8 0])) 39) (fun _ => by kernel_rfl) ?_
              intro g6 u14 M
              replace M : Mem ⟨w, []⟩ [⟨g1, .cells (av 9 (ls [.bool (v0), .int .u64 h0, .int .u64 l0, .bool (v1), .int .u64 h1, .int .u64 l1, .int .u8 p, .int .u8 t, .string d])) 26⟩, ⟨g2, .cells (av 3 (ls [.bool (va), .int .u64 ha, .int .u64 la])) 24⟩, ⟨g3, .cells (av 4 (ls [.bool (vx), .int .u64 hx_, .int .u64 lx, .int .u8 bx])) 39⟩, ⟨g4, .cells (av 9 (ls [.bool (zB (rcE s) (decide ((sr (bt s 0) 4) = 6))), .int .u64 (zI (rcE s) (if (sr (bt s 0) 4) = 6 then (bdv (s.extract 8 16)) else 0)), .int .u64 (zI (rcE s) (if (sr (bt s 0) 4) = 6 then (bdv (s.extract 16 24)) else (bdv (s.extract 12 16)))), .bool (zB (rcE s) (decide ((sr (bt s 0) 4) = 6))), .int .u64 (zI (rcE s) (if (sr (bt s 0) 4) = 6 then (bdv (s.extract 24 32)) else 0)), .int .u64 (zI (rcE s) (if (sr (bt s 0) 4) = 6 then (bdv (s.extract 32 40)) else (bdv (s.extract 16 20)))), .int .u8 (zI (rcE s) (if (sr (bt s 0) 4) = 6 then (bt s 6) else (bt s 9))), .int .u8 (zI (rcE s) (if (sr (bt s 0) 4) = 6 then (bt s 7) else (bt s 8))), .string (zS (rcE s) (if (sr (bt s 0) 4) = 6 then (s.extract 40 s.size) else (s.extract 20 s.size)))])) 26⟩, ⟨g5, .cells (av 3 (ls [.bool (va), .int .u64 ha, .int .u64 la])) 24⟩, ⟨g6, .cells (av 4 (ls [.bool false, .int .u64 0, .int .u64 0, .int .u8 0])) 39⟩] u14 := M
              refine pl_put M (want_no rfl) rfl 39 _ _ rfl 5 g6 0 (by kernel_rfl) 4 39 (ls [.bool false, .int .u64 0, .int .u64 0, .int .u8 0]) rfl 4 (ls [.bool false, .int .u64 0, .int .u64 0, .int .u8 0]) (ls [.bool false, .int .u64 0, .int .u64 0, .int .u8 0]) (by kernel_rfl) inz39 (by decide) (one_ls _ rfl) (fun j hj => by rw [if_pos (by omega), Nat.sub_zero]) ?_
              intro u15 M
              replace M : Mem ⟨w, []⟩ [⟨g1, .cells (av 9 (ls [.bool (v0), .int .u64 h0, .int .u64 l0, .bool (v1), .int .u64 h1, .int .u64 l1, .int .u8 p, .int .u8 t, .string d])) 26⟩, ⟨g2, .cells (av 3 (ls [.bool (va), .int .u64 ha, .int .u64 la])) 24⟩, ⟨g3, .cells (av 4 (ls [.bool (vx), .int .u64 hx_, .int .u64 lx, .int .u8 bx])) 39⟩, ⟨g4, .cells (av 9 (ls [.bool (zB (rcE s) (decide ((sr (bt s 0) 4) = 6))), .int .u64 (zI (rcE s) (if (sr (bt s 0) 4) = 6 then (bdv (s.extract 8 16)) else 0)), .int .u64 (zI (rcE s) (if (sr (bt s 0) 4) = 6 then (bdv (s.extract 16 24)) else (bdv (s.extract 12 16)))), .bool (zB (rcE s) (decide ((sr (bt s 0) 4) = 6))), .int .u64 (zI (rcE s) (if (sr (bt s 0) 4) = 6 then (bdv (s.extract 24 32)) else 0)), .int .u64 (zI (rcE s) (if (sr (bt s 0) 4) = 6 then (bdv (s.extract 32 40)) else (bdv (s.extract 16 20)))), .int .u8 (zI (rcE s) (if (sr (bt s 0) 4) = 6 then (bt s 6) else (bt s 9))), .int .u8 (zI (rcE s) (if (sr (bt s 0) 4) = 6 then (bt s 7) else (bt s 8))), .string (zS (rcE s) (if (sr (bt s 0) 4) = 6 then (s.extract 40 s.size) else (s.extract 20 s.size)))])) 26⟩, ⟨g5, .cells (av 3 (ls [.bool (va), .int .u64 ha, .int .u64 la])) 24⟩, ⟨g6, .cells (av 4 (ls [.bool false, .int .u64 0, .int .u64 0, .int .u8 0])) 39⟩] u15 := M
              refine pl_val (want_no rfl) (some 23) rfl (.int .i64 8) (fun _ => by kernel_rfl) ?_
              refine pl_nil ?_
              refine au_then ?_
              refine wp_seq ?_
              refine rg_lit ?_
              refine pl_val (want_no rfl) (some 151) rfl (.int .i64 0) (fun _ => by kernel_rfl) ?_
              refine pl_val (want_no rfl) (some 152) rfl (.bool true) (fun _ => by kernel_rfl) ?_
              refine pl_val (want_no rfl) (some 153) rfl (.bool true) (fun _ => by kernel_rfl) ?_
              refine pl_load M (want_on 2 true rfl 153 rfl (by kernel_rfl)) (some 154) rfl 24 _ rfl 4 g5 0 (by kernel_rfl) 3 24 (ls [.bool (va), .int .u64 ha, .int .u64 la]) rfl 3 (ls [.bool (va), .int .u64 ha, .int .u64 la]) (fun j _ => by rw [Nat.zero_add]) (by decide) _ Tryz.underlying24 rfl inz24 ?_
              refine pl_load M (want_on 2 true rfl 153 rfl (by kernel_rfl)) (some 155) rfl 24 _ rfl 1 g2 0 (by kernel_rfl) 3 24 (ls [.bool (va), .int .u64 ha, .int .u64 la]) rfl 3 (ls [.bool (va), .int .u64 ha, .int .u64 la]) (fun j _ => by rw [Nat.zero_add]) (by decide) _ Tryz.underlying24 rfl inz24 ?_
              refine pl_val (want_on 2 true rfl 153 rfl (by kernel_rfl)) (some 156) rfl (.bool true) (fun w => (eql24 va va ha ha la la _ _ rfl (by kernel_rfl) (by kernel_rfl) w).trans (by rw [decide_eq_true (⟨rfl, rfl, rfl⟩ : va = va ∧ ha = ha ∧ la = la)])) ?_
              refine pl_val (want_no rfl) (some 157) rfl (.bool true) (fun _ => by kernel_rfl) ?_
              refine pl_val (want_no rfl) (some 158) rfl (.bool true) (fun _ => by kernel_rfl) ?_
              refine pl_skip (want_off 7 false rfl 158 rfl (by kernel_rfl)) (some 159) rfl ?_
              refine pl_skip (want_off 7 false rfl 158 rfl (by kernel_rfl)) (some 160) rfl ?_
              refine pl_skip (want_off 7 false rfl 158 rfl (by kernel_rfl)) (some 161) rfl ?_
              refine pl_val (want_no rfl) (some 162) rfl (.bool true) (fun _ => by kernel_rfl) ?_
              refine pl_val (want_no rfl) (some 163) rfl (.bool true) (fun _ => by kernel_rfl) ?_
              refine pl_val (want_on 12 true rfl 163 rfl (by kernel_rfl)) (some 164) rfl (.int .i64 8) (fun _ => by kernel_rfl) ?_
              refine pl_val (want_on 12 true rfl 163 rfl (by kernel_rfl)) (some 165) rfl (.bool false) (fun _ => by kernel_rfl) ?_
              refine pl_val (want_on 12 true rfl 163 rfl (by kernel_rfl)) (some 166) rfl (.bool false) (fun _ => by kernel_rfl) ?_
              refine pl_skip (want_off 15 true rfl 166 rfl (by kernel_rfl)) (some 167) rfl ?_
              refine pl_skip (want_off 15 true rfl 166 rfl (by kernel_rfl)) (some 168) rfl ?_
              refine pl_skip (want_off 15 true rfl 166 rfl (by kernel_rfl)) (some 169) rfl ?_
              refine pl_val (want_on 12 true rfl 163 rfl (by kernel_rfl)) (some 170) rfl (.bool false) (fun _ => by kernel_rfl) ?_
              refine pl_val (want_on 12 true rfl 163 rfl (by kernel_rfl)) (some 171) rfl (.bool false) (fun _ => by kernel_rfl) ?_
              refine pl_load M (want_on 20 false rfl 171 rfl (by kernel_rfl)) (some 172) rfl 39 _ rfl 2 g3 0 (by kernel_rfl) 4 39 (ls [.bool (vx), .int .u64 hx_, .int .u64 lx, .int .u8 bx]) rfl 4 (ls [.bool (vx), .int .u64 hx_, .int .u64 lx, .int .u8 bx]) (fun j _ => by rw [Nat.zero_add]) (by decide) _ Tryz.underlying39 rfl inz39 ?_
              refine pl_call M (want_on 20 false rfl 171 rfl (by kernel_rfl)) (some 173) rfl 26 #[.agg (av 4 (ls [.bool (vx), .int .u64 hx_, .int .u64 lx, .int .u8 bx]))] (.bool false) (fun _ => by kernel_rfl) (fun w M => call_val (c_MayPrefix vx hx_ lx bx bx0 (by omega) w M.laid) (congrArg Value.bool c3)) ?_
              intro u16 M
              refine pl_val (want_on 20 false rfl 171 rfl (by kernel_rfl)) (some 174) rfl (.bool true) (fun _ => by kernel_rfl) ?_
              refine pl_val (want_on 12 true rfl 163 rfl (by kernel_rfl)) (some 175) rfl (.bool true) (fun _ => by kernel_rfl) ?_
              refine pl_val (want_no rfl) (some 176) rfl (.bool true) (fun _ => by kernel_rfl) ?_
              refine pl_val (want_no rfl) (some 177) rfl (.bool true) (fun _ => by kernel_rfl) ?_
              refine pl_call M (want_on 26 true rfl 177 rfl (by kernel_rfl)) (some 178) rfl 9 #[] (.bool true) (fun _ => by kernel_rfl) (fun w M => c_works w M.laid) ?_
              intro u17 M
              refine pl_val (want_no rfl) (some 179) rfl (.bool true) (fun _ => by kernel_rfl) ?_
              refine pl_val (want_no rfl) (some 8) rfl (.bool true) (fun _ => by kernel_rfl) ?_
              refine pl_nil ?_
              refine au_then ?_
              refine wp_ret ?_
              exact bodyPost_ret (v := .bool true) (results_tmp1 Tryz.results6 _ _ _ (by kernel_rfl)) (by kernel_rfl) ⟨rfl, below_grown M.old⟩
          · skip
            refine pl_call M (want_no rfl) (some 141) rfl 22 #[.agg (av 3 (ls [.bool (va), .int .u64 ha, .int .u64 la]))] (.string ⟨#[]⟩) (fun _ => by kernel_rfl) (fun w M => call_val (c_Text va ha la w M.laid) (by unfold txt; rw [if_neg (by rw [c2]; decide)])) ?_
            intro u8 M
            refine pl_call M (want_no rfl) (some 142) rfl 18 #[.string ⟨#[]⟩] (.tuple #[.agg (av 3 (ls [.bool false, .int .u64 0, .int .u64 0])), .int .i64 8]) (fun _ => by kernel_rfl) (fun w M => call_val (c_Read ⟨#[]⟩ w M.laid) (by kernel_rfl)) ?_
            intro u9 M
            refine pl_val (want_no rfl) (some 139) rfl (.tuple #[.agg (av 3 (ls [.bool false, .int .u64 0, .int .u64 0])), .int .i64 8]) (fun _ => by kernel_rfl) ?_
            refine pl_val (want_no rfl) (some 143) rfl (.agg (av 3 (ls [.bool false, .int .u64 0, .int .u64 0]))) (fun _ => by kernel_rfl) ?_
            refine pl_val (want_no rfl) (some 144) rfl (.int .i64 8) (fun _ => by kernel_rfl) ?_
            refine pl_new M (want_no rfl) (some 20) rfl (.cells (av 3 (ls [.bool false, .int .u64 0, .int .u64 0])) 24) (fun _ => by kernel_rfl) ?_
            intro g5 u10 M
            replace M : Mem ⟨w, []⟩ [⟨g1, .cells (av 9 (ls [.bool (v0), .int .u64 h0, .int .u64 l0, .bool (v1), .int .u64 h1, .int .u64 l1, .int .u8 p, .int .u8 t, .string d])) 26⟩, ⟨g2, .cells (av 3 (ls [.bool (va), .int .u64 ha, .int .u64 la])) 24⟩, ⟨g3, .cells (av 4 (ls [.bool (vx), .int .u64 hx_, .int .u64 lx, .int .u8 bx])) 39⟩, ⟨g4, .cells (av 9 (ls [.bool (zB (rcE s) (decide ((sr (bt s 0) 4) = 6))), .int .u64 (zI (rcE s) (if (sr (bt s 0) 4) = 6 then (bdv (s.extract 8 16)) else 0)), .int .u64 (zI (rcE s) (if (sr (bt s 0) 4) = 6 then (bdv (s.extract 16 24)) else (bdv (s.extract 12 16)))), .bool (zB (rcE s) (decide ((sr (bt s 0) 4) = 6))), .int .u64 (zI (rcE s) (if (sr (bt s 0) 4) = 6 then (bdv (s.extract 24 32)) else 0)), .int .u64 (zI (rcE s) (if (sr (bt s 0) 4) = 6 then (bdv (s.extract 32 40)) else (bdv (s.extract 16 20)))), .int .u8 (zI (rcE s) (if (sr (bt s 0) 4) = 6 then (bt s 6) else (bt s 9))), .int .u8 (zI (rcE s) (if (sr (bt s 0) 4) = 6 then (bt s 7) else (bt s 8))), .string (zS (rcE s) (if (sr (bt s 0) 4) = 6 then (s.extract 40 s.size) else (s.extract 20 s.size)))])) 26⟩, ⟨g5, .cells (av 3 (ls [.bool false, .int .u64 0, .int .u64 0])) 24⟩] u10 := M
            refine pl_put M (want_no rfl) rfl 24 _ _ rfl 4 g5 0 (by kernel_rfl) 3 24 (ls [.bool false, .int .u64 0, .int .u64 0]) rfl 3 (ls [.bool false, .int .u64 0, .int .u64 0]) (ls [.bool false, .int .u64 0, .int .u64 0]) (by kernel_rfl) inz24 (by decide) (one_ls _ rfl) (fun j hj => by rw [if_pos (by omega), Nat.sub_zero]) ?_
            intro u11 M
            replace M : Mem ⟨w, []⟩ [⟨g1, .cells (av 9 (ls [.bool (v0), .int .u64 h0, .int .u64 l0, .bool (v1), .int .u64 h1, .int .u64 l1, .int .u8 p, .int .u8 t, .string d])) 26⟩, ⟨g2, .cells (av 3 (ls [.bool (va), .int .u64 ha, .int .u64 la])) 24⟩, ⟨g3, .cells (av 4 (ls [.bool (vx), .int .u64 hx_, .int .u64 lx, .int .u8 bx])) 39⟩, ⟨g4, .cells (av 9 (ls [.bool (zB (rcE s) (decide ((sr (bt s 0) 4) = 6))), .int .u64 (zI (rcE s) (if (sr (bt s 0) 4) = 6 then (bdv (s.extract 8 16)) else 0)), .int .u64 (zI (rcE s) (if (sr (bt s 0) 4) = 6 then (bdv (s.extract 16 24)) else (bdv (s.extract 12 16)))), .bool (zB (rcE s) (decide ((sr (bt s 0) 4) = 6))), .int .u64 (zI (rcE s) (if (sr (bt s 0) 4) = 6 then (bdv (s.extract 24 32)) else 0)), .int .u64 (zI (rcE s) (if (sr (bt s 0) 4) = 6 then (bdv (s.extract 32 40)) else (bdv (s.extract 16 20)))), .int .u8 (zI (rcE s) (if (sr (bt s 0) 4) = 6 then (bt s 6) else (bt s 9))), .int .u8 (zI (rcE s) (if (sr (bt s 0) 4) = 6 then (bt s 7) else (bt s 8))), .string (zS (rcE s) (if (sr (bt s 0) 4) = 6 then (s.extract 40 s.size) else (s.extract 20 s.size)))])) 26⟩, ⟨g5, .cells (av 3 (ls [.bool false, .int .u64 0, .int .u64 0])) 24⟩] u11 := M
            refine pl_val (want_no rfl) (some 21) rfl (.int .i64 8) (fun _ => by kernel_rfl) ?_
            refine pl_nil ?_
            refine au_then ?_
            refine wp_seq ?_
            refine rg_lit ?_
            refine pl_load M (want_no rfl) (some 146) rfl 39 _ rfl 2 g3 0 (by kernel_rfl) 4 39 (ls [.bool (vx), .int .u64 hx_, .int .u64 lx, .int .u8 bx]) rfl 4 (ls [.bool (vx), .int .u64 hx_, .int .u64 lx, .int .u8 bx]) (fun j _ => by rw [Nat.zero_add]) (by decide) _ Tryz.underlying39 rfl inz39 ?_
            rcases Bool.eq_false_or_eq_true (mP vx hx_ lx bx) with c3 | c3
            · skip
              refine pl_call M (want_no rfl) (some 147) rfl 24 #[.agg (av 4 (ls [.bool (vx), .int .u64 hx_, .int .u64 lx, .int .u8 bx]))] (.string (ptx vx hx_ lx bx)) (fun _ => by kernel_rfl) (fun w M => c_PrefixText vx hx_ lx bx bx0 (by omega) w M.laid) ?_
              intro u12 M
              refine pl_call M (want_no rfl) (some 148) rfl 20 #[.string (ptx vx hx_ lx bx)] (.tuple #[.agg (av 4 (ls [.bool (vx), .int .u64 hx_, .int .u64 lx, .int .u8 bx])), .int .i64 0]) (fun _ => by kernel_rfl) (fun w M => call_val (c_ReadPrefix (ptx vx hx_ lx bx) (ptx_size vx hx_ lx bx) w M.laid) (by obtain ⟨q1, q2, q3, q4, q5⟩ := read_ptx vx hx_ lx bx hx0 hx1 lx0 lx1 bx0 bx1 c3; rw [q1, q2, q3, q4, q5]; rfl)) ?_
              intro u13 M
              refine pl_val (want_no rfl) (some 145) rfl (.tuple #[.agg (av 4 (ls [.bool (vx), .int .u64 hx_, .int .u64 lx, .int .u8 bx])), .int .i64 0]) (fun _ => by kernel_rfl) ?_
              refine pl_val (want_no rfl) (some 149) rfl (.agg (av 4 (ls [.bool (vx), .int .u64 hx_, .int .u64 lx, .int .u8 bx]))) (fun _ => by kernel_rfl) ?_
              refine pl_val (want_no rfl) (some 150) rfl (.int .i64 0) (fun _ => by kernel_rfl) ?_
              refine pl_new M (want_no rfl) (some 22) rfl (.cells (av 4 (ls [.bool false, .int .u64 0, .int .u64 0, .int .u8 0])) 39) (fun _ => by kernel_rfl) ?_
              intro g6 u14 M
              replace M : Mem ⟨w, []⟩ [⟨g1, .cells (av 9 (ls [.bool (v0), .int .u64 h0, .int .u64 l0, .bool (v1), .int .u64 h1, .int .u64 l1, .int .u8 p, .int .u8 t, .string d])) 26⟩, ⟨g2, .cells (av 3 (ls [.bool (va), .int .u64 ha, .int .u64 la])) 24⟩, ⟨g3, .cells (av 4 (ls [.bool (vx), .int .u64 hx_, .int .u64 lx, .int .u8 bx])) 39⟩, ⟨g4, .cells (av 9 (ls [.bool (zB (rcE s) (decide ((sr (bt s 0) 4) = 6))), .int .u64 (zI (rcE s) (if (sr (bt s 0) 4) = 6 then (bdv (s.extract 8 16)) else 0)), .int .u64 (zI (rcE s) (if (sr (bt s 0) 4) = 6 then (bdv (s.extract 16 24)) else (bdv (s.extract 12 16)))), .bool (zB (rcE s) (decide ((sr (bt s 0) 4) = 6))), .int .u64 (zI (rcE s) (if (sr (bt s 0) 4) = 6 then (bdv (s.extract 24 32)) else 0)), .int .u64 (zI (rcE s) (if (sr (bt s 0) 4) = 6 then (bdv (s.extract 32 40)) else (bdv (s.extract 16 20)))), .int .u8 (zI (rcE s) (if (sr (bt s 0) 4) = 6 then (bt s 6) else (bt s 9))), .int .u8 (zI (rcE s) (if (sr (bt s 0) 4) = 6 then (bt s 7) else (bt s 8))), .string (zS (rcE s) (if (sr (bt s 0) 4) = 6 then (s.extract 40 s.size) else (s.extract 20 s.size)))])) 26⟩, ⟨g5, .cells (av 3 (ls [.bool false, .int .u64 0, .int .u64 0])) 24⟩, ⟨g6, .cells (av 4 (ls [.bool false, .int .u64 0, .int .u64 0, .int .u8 0])) 39⟩] u14 := M
              refine pl_put M (want_no rfl) rfl 39 _ _ rfl 5 g6 0 (by kernel_rfl) 4 39 (ls [.bool false, .int .u64 0, .int .u64 0, .int .u8 0]) rfl 4 (ls [.bool (vx), .int .u64 hx_, .int .u64 lx, .int .u8 bx]) (ls [.bool (vx), .int .u64 hx_, .int .u64 lx, .int .u8 bx]) (by kernel_rfl) inz39 (by decide) (one_ls _ rfl) (fun j hj => by rw [if_pos (by omega), Nat.sub_zero]) ?_
              intro u15 M
              replace M : Mem ⟨w, []⟩ [⟨g1, .cells (av 9 (ls [.bool (v0), .int .u64 h0, .int .u64 l0, .bool (v1), .int .u64 h1, .int .u64 l1, .int .u8 p, .int .u8 t, .string d])) 26⟩, ⟨g2, .cells (av 3 (ls [.bool (va), .int .u64 ha, .int .u64 la])) 24⟩, ⟨g3, .cells (av 4 (ls [.bool (vx), .int .u64 hx_, .int .u64 lx, .int .u8 bx])) 39⟩, ⟨g4, .cells (av 9 (ls [.bool (zB (rcE s) (decide ((sr (bt s 0) 4) = 6))), .int .u64 (zI (rcE s) (if (sr (bt s 0) 4) = 6 then (bdv (s.extract 8 16)) else 0)), .int .u64 (zI (rcE s) (if (sr (bt s 0) 4) = 6 then (bdv (s.extract 16 24)) else (bdv (s.extract 12 16)))), .bool (zB (rcE s) (decide ((sr (bt s 0) 4) = 6))), .int .u64 (zI (rcE s) (if (sr (bt s 0) 4) = 6 then (bdv (s.extract 24 32)) else 0)), .int .u64 (zI (rcE s) (if (sr (bt s 0) 4) = 6 then (bdv (s.extract 32 40)) else (bdv (s.extract 16 20)))), .int .u8 (zI (rcE s) (if (sr (bt s 0) 4) = 6 then (bt s 6) else (bt s 9))), .int .u8 (zI (rcE s) (if (sr (bt s 0) 4) = 6 then (bt s 7) else (bt s 8))), .string (zS (rcE s) (if (sr (bt s 0) 4) = 6 then (s.extract 40 s.size) else (s.extract 20 s.size)))])) 26⟩, ⟨g5, .cells (av 3 (ls [.bool false, .int .u64 0, .int .u64 0])) 24⟩, ⟨g6, .cells (av 4 (ls [.bool (vx), .int .u64 hx_, .int .u64 lx, .int .u8 bx])) 39⟩] u15 := M
              refine pl_val (want_no rfl) (some 23) rfl (.int .i64 0) (fun _ => by kernel_rfl) ?_
              refine pl_nil ?_
              refine au_then ?_
              refine wp_seq ?_
              refine rg_lit ?_
              refine pl_val (want_no rfl) (some 151) rfl (.int .i64 8) (fun _ => by kernel_rfl) ?_
              refine pl_val (want_no rfl) (some 152) rfl (.bool false) (fun _ => by kernel_rfl) ?_
              refine pl_val (want_no rfl) (some 153) rfl (.bool false) (fun _ => by kernel_rfl) ?_
              refine pl_skip (want_off 2 true rfl 153 rfl (by kernel_rfl)) (some 154) rfl ?_
              refine pl_skip (want_off 2 true rfl 153 rfl (by kernel_rfl)) (some 155) rfl ?_
              refine pl_skip (want_off 2 true rfl 153 rfl (by kernel_rfl)) (some 156) rfl ?_
              refine pl_val (want_no rfl) (some 157) rfl (.bool false) (fun _ => by kernel_rfl) ?_
              refine pl_val (want_no rfl) (some 158) rfl (.bool false) (fun _ => by kernel_rfl) ?_
              refine pl_load M (want_on 7 false rfl 158 rfl (by kernel_rfl)) (some 159) rfl 24 _ rfl 1 g2 0 (by kernel_rfl) 3 24 (ls [.bool (va), .int .u64 ha, .int .u64 la]) rfl 3 (ls [.bool (va), .int .u64 ha, .int .u64 la]) (fun j _ => by rw [Nat.zero_add]) (by decide) _ Tryz.underlying24 rfl inz24 ?_
              refine pl_call M (want_on 7 false rfl 158 rfl (by kernel_rfl)) (some 160) rfl 22 #[.agg (av 3 (ls [.bool (va), .int .u64 ha, .int .u64 la]))] (.string ⟨#[]⟩) (fun _ => by kernel_rfl) (fun w M => call_val (c_Text va ha la w M.laid) (by unfold txt; rw [if_neg (by rw [c2]; decide)])) ?_
              intro u16 M
              refine pl_val (want_on 7 false rfl 158 rfl (by kernel_rfl)) (some 161) rfl (.bool true) (fun _ => by kernel_rfl) ?_
              refine pl_val (want_no rfl) (some 162) rfl (.bool true) (fun _ => by kernel_rfl) ?_
              refine pl_val (want_no rfl) (some 163) rfl (.bool true) (fun _ => by kernel_rfl) ?_
              refine pl_val (want_on 12 true rfl 163 rfl (by kernel_rfl)) (some 164) rfl (.int .i64 0) (fun _ => by kernel_rfl) ?_
              refine pl_val (want_on 12 true rfl 163 rfl (by kernel_rfl)) (some 165) rfl (.bool true) (fun _ => by kernel_rfl) ?_
              refine pl_val (want_on 12 true rfl 163 rfl (by kernel_rfl)) (some 166) rfl (.bool true) (fun _ => by kernel_rfl) ?_
              refine pl_load M (want_on 15 true rfl 166 rfl (by kernel_rfl)) (some 167) rfl 39 _ rfl 5 g6 0 (by kernel_rfl) 4 39 (ls [.bool (vx), .int .u64 hx_, .int .u64 lx, .int .u8 bx]) rfl 4 (ls [.bool (vx), .int .u64 hx_, .int .u64 lx, .int .u8 bx]) (fun j _ => by rw [Nat.zero_add]) (by decide) _ Tryz.underlying39 rfl inz39 ?_
              refine pl_load M (want_on 15 true rfl 166 rfl (by kernel_rfl)) (some 168) rfl 39 _ rfl 2 g3 0 (by kernel_rfl) 4 39 (ls [.bool (vx), .int .u64 hx_, .int .u64 lx, .int .u8 bx]) rfl 4 (ls [.bool (vx), .int .u64 hx_, .int .u64 lx, .int .u8 bx]) (fun j _ => by rw [Nat.zero_add]) (by decide) _ Tryz.underlying39 rfl inz39 ?_
              refine pl_val (want_on 15 true rfl 166 rfl (by kernel_rfl)) (some 169) rfl (.bool true) (fun w => (eql39 vx vx hx_ hx_ lx lx bx bx _ _ rfl (by kernel_rfl) (by kernel_rfl) w).trans (by rw [decide_eq_true (⟨rfl, rfl, rfl, rfl⟩ : vx = vx ∧ hx_ = hx_ ∧ lx = lx ∧ bx = bx)])) ?_
              refine pl_val (want_on 12 true rfl 163 rfl (by kernel_rfl)) (some 170) rfl (.bool true) (fun _ => by kernel_rfl) ?_
              refine pl_val (want_on 12 true rfl 163 rfl (by kernel_rfl)) (some 171) rfl (.bool true) (fun _ => by kernel_rfl) ?_
              refine pl_skip (want_off 20 false rfl 171 rfl (by kernel_rfl)) (some 172) rfl ?_
              refine pl_skip (want_off 20 false rfl 171 rfl (by kernel_rfl)) (some 173) rfl ?_
              refine pl_skip (want_off 20 false rfl 171 rfl (by kernel_rfl)) (some 174) rfl ?_
              refine pl_val (want_on 12 true rfl 163 rfl (by kernel_rfl)) (some 175) rfl (.bool true) (fun _ => by kernel_rfl) ?_
              refine pl_val (want_no rfl) (some 176) rfl (.bool true) (fun _ => by kernel_rfl) ?_
              refine pl_val (want_no rfl) (some 177) rfl (.bool true) (fun _ => by kernel_rfl) ?_
              refine pl_call M (want_on 26 true rfl 177 rfl (by kernel_rfl)) (some 178) rfl 9 #[] (.bool true) (fun _ => by kernel_rfl) (fun w M => c_works w M.laid) ?_
              intro u17 M
              refine pl_val (want_no rfl) (some 179) rfl (.bool true) (fun _ => by kernel_rfl) ?_
              refine pl_val (want_no rfl) (some 8) rfl (.bool true) (fun _ => by kernel_rfl) ?_
              refine pl_nil ?_
              refine au_then ?_
              refine wp_ret ?_
              exact bodyPost_ret (v := .bool true) (results_tmp1 Tryz.results6 _ _ _ (by kernel_rfl)) (by kernel_rfl) ⟨rfl, below_grown M.old⟩
            · skip
              refine pl_call M (want_no rfl) (some 147) rfl 24 #[.agg (av 4 (ls [.bool (vx), .int .u64 hx_, .int .u64 lx, .int .u8 bx]))] (.string ⟨#[]⟩) (fun _ => by kernel_rfl) (fun w M => call_val (c_PrefixText vx hx_ lx bx bx0 (by omega) w M.laid) (by unfold ptx; rw [if_neg (by rw [c3]; decide)])) ?_
              intro u12 M
              refine pl_call M (want_no rfl) (some 148) rfl 20 #[.string ⟨#[]⟩] (.tuple #[.agg (av 4 (ls [.bool false, .int .u64 0, .int .u64 0, .int .u8 0])), .int .i64 8]) (fun _ => by kernel_rfl) (fun w M => call_val (c_ReadPrefix ⟨#[]⟩ (by decide) w M.laid) (by kernel_rfl)) ?_
              intro u13 M
              refine pl_val (want_no rfl) (some 145) rfl (.tuple #[.agg (av 4 (ls [.bool false, .int .u64 0, .int .u64 0, .int .u8 0])), .int .i64 8]) (fun _ => by kernel_rfl) ?_
              refine pl_val (want_no rfl) (some 149) rfl (.agg (av 4 (ls [.bool false, .int .u64 0, .int .u64 0, .int .u8 0]))) (fun _ => by kernel_rfl) ?_
              refine pl_val (want_no rfl) (some 150) rfl (.int .i64 8) (fun _ => by kernel_rfl) ?_
              refine pl_new M (want_no rfl) (some 22) rfl (.cells (av 4 (ls [.bool false, .int .u64 0, .int .u64 0, .int .u8 0])) 39) (fun _ => by kernel_rfl) ?_
              intro g6 u14 M
              replace M : Mem ⟨w, []⟩ [⟨g1, .cells (av 9 (ls [.bool (v0), .int .u64 h0, .int .u64 l0, .bool (v1), .int .u64 h1, .int .u64 l1, .int .u8 p, .int .u8 t, .string d])) 26⟩, ⟨g2, .cells (av 3 (ls [.bool (va), .int .u64 ha, .int .u64 la])) 24⟩, ⟨g3, .cells (av 4 (ls [.bool (vx), .int .u64 hx_, .int .u64 lx, .int .u8 bx])) 39⟩, ⟨g4, .cells (av 9 (ls [.bool (zB (rcE s) (decide ((sr (bt s 0) 4) = 6))), .int .u64 (zI (rcE s) (if (sr (bt s 0) 4) = 6 then (bdv (s.extract 8 16)) else 0)), .int .u64 (zI (rcE s) (if (sr (bt s 0) 4) = 6 then (bdv (s.extract 16 24)) else (bdv (s.extract 12 16)))), .bool (zB (rcE s) (decide ((sr (bt s 0) 4) = 6))), .int .u64 (zI (rcE s) (if (sr (bt s 0) 4) = 6 then (bdv (s.extract 24 32)) else 0)), .int .u64 (zI (rcE s) (if (sr (bt s 0) 4) = 6 then (bdv (s.extract 32 40)) else (bdv (s.extract 16 20)))), .int .u8 (zI (rcE s) (if (sr (bt s 0) 4) = 6 then (bt s 6) else (bt s 9))), .int .u8 (zI (rcE s) (if (sr (bt s 0) 4) = 6 then (bt s 7) else (bt s 8))), .string (zS (rcE s) (if (sr (bt s 0) 4) = 6 then (s.extract 40 s.size) else (s.extract 20 s.size)))])) 26⟩, ⟨g5, .cells (av 3 (ls [.bool false, .int .u64 0, .int .u64 0])) 24⟩, ⟨g6, .cells (av 4 (ls [.bool false, .int .u64 0, .int .u64 0, .int .u8 0])) 39⟩] u14 := M
              refine pl_put M (want_no rfl) rfl 39 _ _ rfl 5 g6 0 (by kernel_rfl) 4 39 (ls [.bool false, .int .u64 0, .int .u64 0, .int .u8 0]) rfl 4 (ls [.bool false, .int .u64 0, .int .u64 0, .int .u8 0]) (ls [.bool false, .int .u64 0, .int .u64 0, .int .u8 0]) (by kernel_rfl) inz39 (by decide) (one_ls _ rfl) (fun j hj => by rw [if_pos (by omega), Nat.sub_zero]) ?_
              intro u15 M
              replace M : Mem ⟨w, []⟩ [⟨g1, .cells (av 9 (ls [.bool (v0), .int .u64 h0, .int .u64 l0, .bool (v1), .int .u64 h1, .int .u64 l1, .int .u8 p, .int .u8 t, .string d])) 26⟩, ⟨g2, .cells (av 3 (ls [.bool (va), .int .u64 ha, .int .u64 la])) 24⟩, ⟨g3, .cells (av 4 (ls [.bool (vx), .int .u64 hx_, .int .u64 lx, .int .u8 bx])) 39⟩, ⟨g4, .cells (av 9 (ls [.bool (zB (rcE s) (decide ((sr (bt s 0) 4) = 6))), .int .u64 (zI (rcE s) (if (sr (bt s 0) 4) = 6 then (bdv (s.extract 8 16)) else 0)), .int .u64 (zI (rcE s) (if (sr (bt s 0) 4) = 6 then (bdv (s.extract 16 24)) else (bdv (s.extract 12 16)))), .bool (zB (rcE s) (decide ((sr (bt s 0) 4) = 6))), .int .u64 (zI (rcE s) (if (sr (bt s 0) 4) = 6 then (bdv (s.extract 24 32)) else 0)), .int .u64 (zI (rcE s) (if (sr (bt s 0) 4) = 6 then (bdv (s.extract 32 40)) else (bdv (s.extract 16 20)))), .int .u8 (zI (rcE s) (if (sr (bt s 0) 4) = 6 then (bt s 6) else (bt s 9))), .int .u8 (zI (rcE s) (if (sr (bt s 0) 4) = 6 then (bt s 7) else (bt s 8))), .string (zS (rcE s) (if (sr (bt s 0) 4) = 6 then (s.extract 40 s.size) else (s.extract 20 s.size)))])) 26⟩, ⟨g5, .cells (av 3 (ls [.bool false, .int .u64 0, .int .u64 0])) 24⟩, ⟨g6, .cells (av 4 (ls [.bool false, .int .u64 0, .int .u64 0, .int .u8 0])) 39⟩] u15 := M
              refine pl_val (want_no rfl) (some 23) rfl (.int .i64 8) (fun _ => by kernel_rfl) ?_
              refine pl_nil ?_
              refine au_then ?_
              refine wp_seq ?_
              refine rg_lit ?_
              refine pl_val (want_no rfl) (some 151) rfl (.int .i64 8) (fun _ => by kernel_rfl) ?_
              refine pl_val (want_no rfl) (some 152) rfl (.bool false) (fun _ => by kernel_rfl) ?_
              refine pl_val (want_no rfl) (some 153) rfl (.bool false) (fun _ => by kernel_rfl) ?_
              refine pl_skip (want_off 2 true rfl 153 rfl (by kernel_rfl)) (some 154) rfl ?_
              refine pl_skip (want_off 2 true rfl 153 rfl (by kernel_rfl)) (some 155) rfl ?_
              refine pl_skip (want_off 2 true rfl 153 rfl (by kernel_rfl)) (some 156) rfl ?_
              refine pl_val (want_no rfl) (some 157) rfl (.bool false) (fun _ => by kernel_rfl) ?_
              refine pl_val (want_no rfl) (some 158) rfl (.bool false) (fun _ => by kernel_rfl) ?_
              refine pl_load M (want_on 7 false rfl 158 rfl (by kernel_rfl)) (some 159) rfl 24 _ rfl 1 g2 0 (by kernel_rfl) 3 24 (ls [.bool (va), .int .u64 ha, .int .u64 la]) rfl 3 (ls [.bool (va), .int .u64 ha, .int .u64 la]) (fun j _ => by rw [Nat.zero_add]) (by decide) _ Tryz.underlying24 rfl inz24 ?_
              refine pl_call M (want_on 7 false rfl 158 rfl (by kernel_rfl)) (some 160) rfl 22 #[.agg (av 3 (ls [.bool (va), .int .u64 ha, .int .u64 la]))] (.string ⟨#[]⟩) (fun _ => by kernel_rfl) (fun w M => call_val (c_Text va ha la w M.laid) (by unfold txt; rw [if_neg (by rw [c2]; decide)])) ?_
              intro u16 M
              refine pl_val (want_on 7 false rfl 158 rfl (by kernel_rfl)) (some 161) rfl (.bool true) (fun _ => by kernel_rfl) ?_
              refine pl_val (want_no rfl) (some 162) rfl (.bool true) (fun _ => by kernel_rfl) ?_
              refine pl_val (want_no rfl) (some 163) rfl (.bool true) (fun _ => by kernel_rfl) ?_
              refine pl_val (want_on 12 true rfl 163 rfl (by kernel_rfl)) (some 164) rfl (.int .i64 8) (fun _ => by kernel_rfl) ?_
              refine pl_val (want_on 12 true rfl 163 rfl (by kernel_rfl)) (some 165) rfl (.bool false) (fun _ => by kernel_rfl) ?_
              refine pl_val (want_on 12 true rfl 163 rfl (by kernel_rfl)) (some 166) rfl (.bool false) (fun _ => by kernel_rfl) ?_
              refine pl_skip (want_off 15 true rfl 166 rfl (by kernel_rfl)) (some 167) rfl ?_
              refine pl_skip (want_off 15 true rfl 166 rfl (by kernel_rfl)) (some 168) rfl ?_
              refine pl_skip (want_off 15 true rfl 166 rfl (by kernel_rfl)) (some 169) rfl ?_
              refine pl_val (want_on 12 true rfl 163 rfl (by kernel_rfl)) (some 170) rfl (.bool false) (fun _ => by kernel_rfl) ?_
              refine pl_val (want_on 12 true rfl 163 rfl (by kernel_rfl)) (some 171) rfl (.bool false) (fun _ => by kernel_rfl) ?_
              refine pl_load M (want_on 20 false rfl 171 rfl (by kernel_rfl)) (some 172) rfl 39 _ rfl 2 g3 0 (by kernel_rfl) 4 39 (ls [.bool (vx), .int .u64 hx_, .int .u64 lx, .int .u8 bx]) rfl 4 (ls [.bool (vx), .int .u64 hx_, .int .u64 lx, .int .u8 bx]) (fun j _ => by rw [Nat.zero_add]) (by decide) _ Tryz.underlying39 rfl inz39 ?_
              refine pl_call M (want_on 20 false rfl 171 rfl (by kernel_rfl)) (some 173) rfl 26 #[.agg (av 4 (ls [.bool (vx), .int .u64 hx_, .int .u64 lx, .int .u8 bx]))] (.bool false) (fun _ => by kernel_rfl) (fun w M => call_val (c_MayPrefix vx hx_ lx bx bx0 (by omega) w M.laid) (congrArg Value.bool c3)) ?_
              intro u17 M
              refine pl_val (want_on 20 false rfl 171 rfl (by kernel_rfl)) (some 174) rfl (.bool true) (fun _ => by kernel_rfl) ?_
              refine pl_val (want_on 12 true rfl 163 rfl (by kernel_rfl)) (some 175) rfl (.bool true) (fun _ => by kernel_rfl) ?_
              refine pl_val (want_no rfl) (some 176) rfl (.bool true) (fun _ => by kernel_rfl) ?_
              refine pl_val (want_no rfl) (some 177) rfl (.bool true) (fun _ => by kernel_rfl) ?_
              refine pl_call M (want_on 26 true rfl 177 rfl (by kernel_rfl)) (some 178) rfl 9 #[] (.bool true) (fun _ => by kernel_rfl) (fun w M => c_works w M.laid) ?_
              intro u18 M
              refine pl_val (want_no rfl) (some 179) rfl (.bool true) (fun _ => by kernel_rfl) ?_
              refine pl_val (want_no rfl) (some 8) rfl (.bool true) (fun _ => by kernel_rfl) ?_
              refine pl_nil ?_
              refine au_then ?_
              refine wp_ret ?_
              exact bodyPost_ret (v := .bool true) (results_tmp1 Tryz.results6 _ _ _ (by kernel_rfl)) (by kernel_rfl) ⟨rfl, below_grown M.old⟩


end Go.Proofs.YtndonmdgplojnaaGreatDoor

/- The package variables: what the conditions give a walk; a world that meets them; arguments of each type, opened. -/
namespace Go.Proofs.YtndonmdgplojnaaGreatDoor
open Go.RowKit
set_option maxRecDepth 100000

def lay7 : List (String × DataW Unit) := [("math/bits.deBruijn32tab", Rows.laid_math_bits_deBruijn32tab), ("math/bits.deBruijn64tab", Rows.laid_math_bits_deBruijn64tab), ("internal/strconv.uint64pow10", Rows.laid_internal_strconv_uint64pow10), ("unicode/utf8.acceptRanges", Rows.laid_unicode_utf8_acceptRanges), ("strconv.ErrRange", Rows.laid_strconv_ErrRange), ("strconv.ErrSyntax", Rows.laid_strconv_ErrSyntax), ("unicode/utf8.first", Rows.laid_unicode_utf8_first)]
def db64 : List Int := [0, 1, 56, 2, 57, 49, 28, 3, 61, 58, 42, 50, 38, 29, 17, 4, 62, 47, 59, 36, 45, 43, 51, 22, 53, 39, 33, 30, 24, 18, 12, 5, 63, 55, 48, 27, 60, 41, 37, 16, 46, 35, 44, 21, 52, 32, 23, 11, 54, 26, 40, 15, 34, 20, 31, 10, 25, 14, 19, 9, 13, 8, 7, 6]
theorem tab_of {W : World} {name : String} {k : IntKind} {zs : List Int} {g : Nat} {t e : TypeId} {n : Nat} {d : DataW Unit} (hd : d = Lib.tabData k zs) (hg : Tryz.prog.globalNamed name = some g) (hty : (Tryz.prog.globals[g]?).map (·.type) = some t) (ht : Tryz.prog.underlying t = some (.array n e)) (he : Tryz.prog.underlying e = some (.int k)) (hce : Tryz.prog.cellsOf e = 1) (hct : Tryz.prog.cellsOf t = n)
    {g' : Nat} {t' : TypeId} {cs : Array Value} {fuel : Nat} {p : List MemPlace} (hg' : Tryz.prog.globalNamed name = some g') (ht' : (Tryz.prog.globals[g']?).map (·.type) = some t') (hv : W.var? Tryz.prog name = some cs) (h : DataW.trod (fun _ => ()) Tryz.prog W 0 (fun _ => true) false fuel t' cs.toList = some (d, p)) : Lib.TabIs Tryz.prog W name k zs := by
  subst hd
  obtain rfl := Option.some.inj (hg.symm.trans hg')
  obtain rfl := Option.some.inj (hty.symm.trans ht')
  unfold Lib.TabIs
  rw [hv, ← Lib.cells_of_tab ht he hce hct h]
theorem err_of {W : World} {name : String} {g : Nat} {nm : String} {d : DataW Unit} (hg : Tryz.prog.globalNamed name = some g) (hty : (Tryz.prog.globals[g]?).map (·.type) = some 90)
    {g' : Nat} {t' : TypeId} {cs : Array Value} {fuel : Nat} {p : List MemPlace} (hg' : Tryz.prog.globalNamed name = some g') (ht' : (Tryz.prog.globals[g']?).map (·.type) = some t') (hv : W.var? Tryz.prog name = some cs) (h : DataW.trod (fun _ => ()) Tryz.prog W 0 (fun _ => true) false fuel t' cs.toList = some (.iface nm d, p)) : ∃ t p, W.cell? ⟨g, 0, none⟩ = some (.iface t p) := by
  obtain rfl := Option.some.inj (hg.symm.trans hg')
  obtain rfl := Option.some.inj (hty.symm.trans ht')
  obtain ⟨_, u, v, hc, _⟩ := iface_of_trod Tryz.underlying90 h
  refine ⟨u, v, ?_⟩
  rw [World.var?_cell hg hv 0, ← Array.getElem?_toList, hc]
  rfl
theorem var_lt {W : World} {name : String} {g : Nat} {cs : Array Value} (hg : Tryz.prog.globalNamed name = some g) (hv : W.var? Tryz.prog name = some cs) : g < W.heap.size := by
  unfold World.var? at hv
  rw [hg, Option.bind_some] at hv
  by_cases h : g < W.heap.size
  · exact h
  · rw [Array.getElem?_eq_none (by omega)] at hv
    cases hv
theorem laid_of {W : World} (h0 : laidMetH Tryz.prog lay7 W) (hs : W.ShapedOpen Tryz.prog) : Laid W := by
  have h : laidMet Tryz.prog lay7 W := h0
  obtain ⟨ps, ⟨_, _, _, _, _, _, _, _, _, _, ⟨g2, t2, c2, f2, p2, _, hg2, ht2, hv2, hd2, ⟨g3, t3, c3, f3, p3, _, hg3, ht3, hv3, hd3, ⟨_, _, _, _, _, _, _, _, hv4, _, ⟨g5, t5, c5, f5, p5, _, hg5, ht5, hv5, hd5, ⟨g6, t6, c6, f6, p6, _, hg6, ht6, hv6, hd6, _, _⟩, _⟩, _⟩, _⟩, _⟩, _⟩, _⟩ := h
  refine ⟨cell_of_shapedOpen_int hs (g := 0) (t := 3) (zero := #[.int .i64 0]) (by decide) (by kernel_rfl) rfl (by kernel_rfl) (by kernel_rfl) Tryz.underlying3, ?_, ?_, ?_, ?_, ?_⟩
  · exact tab_of (g := 1) (by kernel_rfl) (by kernel_rfl) (by kernel_rfl) Tryz.underlying144 Tryz.underlying22 (by kernel_rfl) (by kernel_rfl) hg3 ht3 hv3 hd3
  · exact err_of (by kernel_rfl) (by kernel_rfl) hg6 ht6 hv6 hd6
  · exact err_of (by kernel_rfl) (by kernel_rfl) hg5 ht5 hv5 hd5
  · have := tab_of (g := 5) (zs := db64) (by kernel_rfl) (by kernel_rfl) (by kernel_rfl) Tryz.underlying166 Tryz.underlying5 (by kernel_rfl) (by kernel_rfl) hg2 ht2 hv2 hd2
    exact this.cell (by kernel_rfl) 15 (by decide)
  · have hg : Tryz.prog.globalNamed "unicode/utf8.acceptRanges" = some 7 := by kernel_rfl
    have := var_lt hg hv4
    omega
theorem lay_witness (os : Os) (args : Array Value) : laidMetH Tryz.prog lay7 ((World.laidAll Tryz.prog os lay7).forCall (fun _ _ => 0) ⟨#[], args, []⟩).memory := laidMet_laidAll (laid := lay7) args (by kernel_rfl) (by kernel_rfl)
/-- What the shape and the listed variables give a contract. -/
theorem handed_laid {H : Type} {enc : TypeId × Value → H} {os : Os} {f : FuncId} {fn : Func} {s : ChangeSpec} {conds : List PathCond} (own : ownKnob Tryz.prog.godebug = none) (started : os.Started) (noInit : Tryz.prog.inits.idxOf? f = none) (hfn : Tryz.prog.funcs[f]? = some fn)
    (wit : ∃ (w : World) (tape : Tape) (i : Input), w.os = os ∧ (w.forCall tape i).Shaped Tryz.checked.prog ∧ i.vars = [] ∧ Input.okWide Tryz.checked.prog (w.forCall tape i) .any w.heap.size f i ∧ ((s.pre enc Tryz.checked.prog fn conds false (w.forCall tape i).memory i.args ∧ laidMetH Tryz.checked.prog lay7 (w.forCall tape i).memory) ∧ sizedMet enc Tryz.checked.prog fn (OpenSpec.ofChange s) false (w.forCall tape i).memory i.args) ∧ ({} : Assume).holds Tryz.checked.prog (lone (Frame.enter Tryz.checked.prog f i.args .normal) [] (w.forCall tape i)))
    (contract : ∀ (W : World) (base : Nat) (args : Array Value) (ds gs : List (DataW H)) (before : List MemPlace), (∀ (j : Nat) t v, fn.params[j]? = some t → args[j]? = some v → Value.okWide Tryz.prog W .any base t v) → DataW.Whole enc Tryz.prog fn.params.toList s.vars false W args.toList ds gs before → Laid W →
      Calls Tryz.prog f args W fun e W' => ∃ v, e = .returned v ∧ s.post enc Tryz.prog fn false true false false W args v W') :
    ReturnsInHanded {} Tryz.checked os f .any (fun w args => (s.pre enc Tryz.checked.prog fn conds false w args ∧ laidMetH Tryz.checked.prog lay7 w) ∧ sizedMet enc Tryz.checked.prog fn (OpenSpec.ofChange s) false w args) (s.post enc Tryz.checked.prog fn false true false false) := by
  refine returnsInHanded_of_calls own started noInit wit fun w tape i _ hsh _ hok hpre _ => ?_
  obtain ⟨_, _, _, fn2, hfn2, _, _, _, _, hval⟩ := hok
  obtain rfl : fn2 = fn := Option.some.inj (hfn2.symm.trans hfn)
  obtain ⟨⟨⟨ds, gs, before, hw, _⟩, hx⟩, _⟩ := hpre
  have hx2 : laidMetH Tryz.prog lay7 (w.forCall tape i) := laidMetH.of_heap (by rfl) hx
  have hl : Laid (w.forCall tape i) := laid_of hx2 hsh
  have hw' := DataW.Whole.of_heap (w' := w.forCall tape i) (by rfl) hw
  refine (contract (w.forCall tape i) w.heap.size i.args ds gs before hval hw' hl).mono fun e W' ⟨v, he, hp⟩ => ?_
  subst he
  exact ChangeSpec.post_blind hp
theorem laidOut : laidOutB Tryz.prog = true := by kernel_rfl
theorem ownNone : ownKnob Tryz.prog.godebug = none := by kernel_rfl
section
variable {W : World} {b0 : Nat} {v : Value}
theorem cell_bool (h : Cell.okWide Tryz.prog W .any b0 4 v) : ∃ b, v = .bool b := by
  simp only [Cell.okWide, Tryz.underlying4] at h
  cases v <;> simp_all [Cell.ok, Tryz.underlying4]
theorem cell_u64 (h : Cell.okWide Tryz.prog W .any b0 22 v) : ∃ n, v = .int .u64 n ∧ 0 ≤ n ∧ n < 18446744073709551616 := by
  simp only [Cell.okWide, Tryz.underlying22] at h
  cases v <;> simp_all [Cell.ok, Tryz.underlying22]
  rename_i k n
  obtain ⟨rfl, h1, h2⟩ := h
  simp [IntKind.min, IntKind.max, IntKind.bits, IntKind.signed] at h1 h2
  exact ⟨h1, by omega⟩
theorem cell_u8 (h : Cell.okWide Tryz.prog W .any b0 5 v) : ∃ n, v = .int .u8 n ∧ 0 ≤ n ∧ n < 256 := by
  simp only [Cell.okWide, Tryz.underlying5] at h
  cases v <;> simp_all [Cell.ok, Tryz.underlying5]
  rename_i k n
  obtain ⟨rfl, h1, h2⟩ := h
  simp [IntKind.min, IntKind.max, IntKind.bits, IntKind.signed] at h1 h2
  exact ⟨h1, by omega⟩
theorem cell_str (h : Cell.okWide Tryz.prog W .any b0 9 v) : ∃ s, v = .string s := by
  simp only [Cell.okWide, Tryz.underlying9] at h
  cases v <;> simp_all [Cell.ok, Tryz.underlying9]
theorem op9 (h : Value.okWide Tryz.prog W .any b0 9 v) : ∃ s, v = .string s := by
  simp only [Value.okWide, Tryz.underlying9] at h
  exact cell_str h
theorem row_av (cs : Array Value) (l : List Value) (hs : cs.size = l.length) (h : ∀ i, i < l.length → cs[i]? = l[i]?) : cs = av l.length (ls l) := by
  apply Array.ext_getElem?
  intro i
  by_cases hi : i < l.length
  · rw [h i hi, av_get _ _ _ hi]
    unfold ls
    rw [getD_app, List.getElem?_eq_getElem hi]
    rfl
  · rw [Array.getElem?_eq_none (by omega), Array.getElem?_eq_none (by rw [av_size]; omega)]
end
theorem row_cells {W : World} {b0 : Nat} {t : TypeId} {v : Value} {fs : Array Field} {ts : List TypeId} (ht : Tryz.prog.underlying t = some (.struct fs)) (hc : Tryz.prog.cellTypes Tryz.prog.depth t = some ts) (hn : Tryz.prog.cellsOf t = ts.length) (h : Value.okWide Tryz.prog W .any b0 t v) : ∃ cs, v = .agg cs ∧ cs.size = ts.length ∧ ∀ (i : Nat) (u : TypeId), ts[i]? = some u → ∃ x, cs[i]? = some x ∧ Cell.okWide Tryz.prog W .any b0 u x := by
  simp only [Value.okWide, ht] at h
  obtain ⟨cs, rfl, h2, ts2, h3, _, h4⟩ := h
  rw [hc] at h3
  cases h3
  refine ⟨cs, rfl, by omega, fun i u hu => ?_⟩
  have hi := (List.getElem?_eq_some_iff.1 hu).1
  obtain ⟨u2, hu2, hx⟩ := h4 i cs[i] (Array.getElem?_eq_getElem (by omega))
  rw [Nat.mod_eq_of_lt hi, hu] at hu2
  cases hu2
  exact ⟨cs[i], Array.getElem?_eq_getElem (by omega), hx⟩
theorem op24 {W : World} {b0 : Nat} {v : Value} (h : Value.okWide Tryz.prog W .any b0 24 v) : ∃ (b : Bool) (h1 : Int) (l1 : Int), v = .agg (av 3 (ls [.bool b, .int .u64 h1, .int .u64 l1])) ∧ (0 ≤ h1 ∧ h1 < 18446744073709551616) ∧ (0 ≤ l1 ∧ l1 < 18446744073709551616) := by
  obtain ⟨cs, rfl, hs, hc⟩ := row_cells (ts := [4, 22, 22]) Tryz.underlying24 (by kernel_rfl) (by kernel_rfl) h
  obtain ⟨x0, e0, o0⟩ := hc 0 4 rfl
  obtain ⟨b, rfl⟩ := cell_bool o0
  obtain ⟨x1, e1, o1⟩ := hc 1 22 rfl
  obtain ⟨h1, rfl, r1⟩ := cell_u64 o1
  obtain ⟨x2, e2, o2⟩ := hc 2 22 rfl
  obtain ⟨l1, rfl, r2⟩ := cell_u64 o2
  refine ⟨b, h1, l1, congrArg Value.agg (row_av cs [.bool b, .int .u64 h1, .int .u64 l1] hs fun i hi => ?_), r1, r2⟩
  rcases i with _ | _ | _ | i
  · exact e0
  · exact e1
  · exact e2
  · exact absurd hi (by simp)
theorem op39 {W : World} {b0 : Nat} {v : Value} (h : Value.okWide Tryz.prog W .any b0 39 v) : ∃ (b : Bool) (h1 : Int) (l1 : Int) (n1 : Int), v = .agg (av 4 (ls [.bool b, .int .u64 h1, .int .u64 l1, .int .u8 n1])) ∧ (0 ≤ h1 ∧ h1 < 18446744073709551616) ∧ (0 ≤ l1 ∧ l1 < 18446744073709551616) ∧ (0 ≤ n1 ∧ n1 < 256) := by
  obtain ⟨cs, rfl, hs, hc⟩ := row_cells (ts := [4, 22, 22, 5]) Tryz.underlying39 (by kernel_rfl) (by kernel_rfl) h
  obtain ⟨x0, e0, o0⟩ := hc 0 4 rfl
  obtain ⟨b, rfl⟩ := cell_bool o0
  obtain ⟨x1, e1, o1⟩ := hc 1 22 rfl
  obtain ⟨h1, rfl, r1⟩ := cell_u64 o1
  obtain ⟨x2, e2, o2⟩ := hc 2 22 rfl
  obtain ⟨l1, rfl, r2⟩ := cell_u64 o2
  obtain ⟨x3, e3, o3⟩ := hc 3 5 rfl
  obtain ⟨n1, rfl, r3⟩ := cell_u8 o3
  refine ⟨b, h1, l1, n1, congrArg Value.agg (row_av cs [.bool b, .int .u64 h1, .int .u64 l1, .int .u8 n1] hs fun i hi => ?_), r1, r2, r3⟩
  rcases i with _ | _ | _ | _ | i
  · exact e0
  · exact e1
  · exact e2
  · exact e3
  · exact absurd hi (by simp)
theorem op26 {W : World} {b0 : Nat} {v : Value} (h : Value.okWide Tryz.prog W .any b0 26 v) : ∃ (b0_ : Bool) (h0_ : Int) (l0_ : Int) (b1_ : Bool) (h1_ : Int) (l1_ : Int) (p_ : Int) (t_ : Int) (s_ : ByteArray), v = .agg (av 9 (ls [.bool b0_, .int .u64 h0_, .int .u64 l0_, .bool b1_, .int .u64 h1_, .int .u64 l1_, .int .u8 p_, .int .u8 t_, .string s_])) ∧ (0 ≤ h0_ ∧ h0_ < 18446744073709551616) ∧ (0 ≤ l0_ ∧ l0_ < 18446744073709551616) ∧ (0 ≤ h1_ ∧ h1_ < 18446744073709551616) ∧ (0 ≤ l1_ ∧ l1_ < 18446744073709551616) ∧ (0 ≤ p_ ∧ p_ < 256) ∧ (0 ≤ t_ ∧ t_ < 256) := by
  obtain ⟨cs, rfl, hs, hc⟩ := row_cells (ts := [4, 22, 22, 4, 22, 22, 5, 5, 9]) Tryz.underlying26 (by kernel_rfl) (by kernel_rfl) h
  obtain ⟨x0, e0, o0⟩ := hc 0 4 rfl
  obtain ⟨b0_, rfl⟩ := cell_bool o0
  obtain ⟨x1, e1, o1⟩ := hc 1 22 rfl
  obtain ⟨h0_, rfl, r1⟩ := cell_u64 o1
  obtain ⟨x2, e2, o2⟩ := hc 2 22 rfl
  obtain ⟨l0_, rfl, r2⟩ := cell_u64 o2
  obtain ⟨x3, e3, o3⟩ := hc 3 4 rfl
  obtain ⟨b1_, rfl⟩ := cell_bool o3
  obtain ⟨x4, e4, o4⟩ := hc 4 22 rfl
  obtain ⟨h1_, rfl, r4⟩ := cell_u64 o4
  obtain ⟨x5, e5, o5⟩ := hc 5 22 rfl
  obtain ⟨l1_, rfl, r5⟩ := cell_u64 o5
  obtain ⟨x6, e6, o6⟩ := hc 6 5 rfl
  obtain ⟨p_, rfl, r6⟩ := cell_u8 o6
  obtain ⟨x7, e7, o7⟩ := hc 7 5 rfl
  obtain ⟨t_, rfl, r7⟩ := cell_u8 o7
  obtain ⟨x8, e8, o8⟩ := hc 8 9 rfl
  obtain ⟨s_, rfl⟩ := cell_str o8
  refine ⟨b0_, h0_, l0_, b1_, h1_, l1_, p_, t_, s_, congrArg Value.agg (row_av cs [.bool b0_, .int .u64 h0_, .int .u64 l0_, .bool b1_, .int .u64 h1_, .int .u64 l1_, .int .u8 p_, .int .u8 t_, .string s_] hs fun i hi => ?_), r1, r2, r4, r5, r6, r7⟩
  rcases i with _ | _ | _ | _ | _ | _ | _ | _ | _ | i
  · exact e0
  · exact e1
  · exact e2
  · exact e3
  · exact e4
  · exact e5
  · exact e6
  · exact e7
  · exact e8
  · exact absurd hi (by simp)

end Go.Proofs.YtndonmdgplojnaaGreatDoor
