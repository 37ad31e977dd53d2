/- Part 2 of the walks and facts. -/
import Derived.Test.YtmhfmhmpoobmlaaGreatDoorCxDef
import Derived.Test.YtmhfmhmpoobmlaaGreatDoorCx1
import Derived.Shelf.Strings.Repeat
import Derived.Test.YtmhfmhmpoobmlaaGreatDoorProg
set_option maxHeartbeats 4000000
set_option maxRecDepth 100000
namespace Go.Proofs.YtmhfmhmpoobmlaaGreatDoor.Sha
open Go.RowKit
def shf (x : Nat → Int) : Nat → Int := fun j => if 1 ≤ j ∧ j < 8 then x (j - 1) else x j
def bS1 (e : Int) : Int := ux (ux (rot e 14) (rot e 18)) (rot e 41)
def bS0 (a : Int) : Int := ux (ux (rot a 28) (rot a 34)) (rot a 39)
def lS0 (a : Int) : Int := ux (ux (rot a 1) (rot a 8)) (sr a 7)
def lS1 (a : Int) : Int := ux (ux (rot a 19) (rot a 61)) (sr a 6)
def chF (e f g : Int) : Int := ux (un e f) (un (ut e) g)
def majF (a b c : Int) : Int := ux (ux (un a b) (un a c)) (un b c)
def uF (x : Nat → Int) (comes : Int) : Int := ua (ua (ua (x 7) (bS1 (x 4))) (chF (x 4) (x 5) (x 6))) comes
def vF (x : Nat → Int) : Int := ua (bS0 (x 0)) (majF (x 0) (x 1) (x 2))
def r8 (a b c d e f g h : Int) : Nat → Int
 | 0 => a
 | 1 => b
 | 2 => c
 | 3 => d
 | 4 => e
 | 5 => f
 | 6 => g
 | 7 => h
 | _ => 0
def st8 (x : Nat → Int) (comes : Int) : Nat → Int := r8 (ua (uF x comes) (vF x)) (x 0) (x 1) (x 2) (ua (x 3) (uF x comes)) (x 4) (x 5) (x 6)
theorem lt8 {p : Nat → Prop} (h : p 0 ∧ p 1 ∧ p 2 ∧ p 3 ∧ p 4 ∧ p 5 ∧ p 6 ∧ p 7) : ∀ i, i < 8 → p i
 | 0, _ => h.1
 | 1, _ => h.2.1
 | 2, _ => h.2.2.1
 | 3, _ => h.2.2.2.1
 | 4, _ => h.2.2.2.2.1
 | 5, _ => h.2.2.2.2.2.1
 | 6, _ => h.2.2.2.2.2.2.1
 | 7, _ => h.2.2.2.2.2.2.2
 | n + 8, h => absurd h (by omega)
theorem st8_av (x : Nat → Int) (comes : Int) : av 8 (w64 (upd (upd (shf x) 0 (ua (uF x comes) (vF x))) 4 (ua ((upd (shf x) 0 (ua (uF x comes) (vF x))) 4) (uF x comes)))) = av 8 (w64 (st8 x comes)) := by
 refine av_congr fun i hi => ?_
 unfold w64
 congr 1
 revert i
 exact lt8 ⟨by simp [upd, st8, r8], by simp [upd, shf, st8, r8], by simp [upd, shf, st8, r8], by simp [upd, shf, st8, r8], by simp [upd, shf, st8, r8], by simp [upd, shf, st8, r8], by simp [upd, shf, st8, r8], by simp [upd, shf, st8, r8]⟩
theorem c_stepped (x : Nat → Int) (comes : Int) (w : World) (hL : Laid w)  :
  Cs 146 #[.agg (av 8 (w64 x)), .int .u64 comes] w (.agg (av 8 (w64 (st8 x comes)))) := by
 go_enter Tryz.func146, Tryz.ntmps146
 have M := Mem.start hL
 refine sR ?_
 refine pN M 2 (.cells (av 8 (w64 x)) 95) fun g1 u1 M => ?_
 refine pN M 4 (.cells (av 8 (w64 fun _ => 0)) 95) fun g2 u2 M => ?_
 refine nT ?_
 refine wp_seq ?_
 refine rg_tail M 8 (by kernel_rfl) (by kernel_rfl) ?_
 simp only [List.take_succ_cons, List.take_zero]
 refine kV 13 (.pointer (some ⟨g1, 0, none⟩)) ?_
 refine kE M 14 g1 0 (.int .u64 (x 0)) (fun w M => M.cell 0 rfl (by decide) rfl) ?_
 refine kV 15 (.pointer (some ⟨g1, 1, none⟩)) ?_
 refine kE M 16 g1 1 (.int .u64 (x 1)) (fun w M => M.cell 0 rfl (by decide) rfl) ?_
 refine kV 17 (.pointer (some ⟨g1, 2, none⟩)) ?_
 refine kE M 18 g1 2 (.int .u64 (x 2)) (fun w M => M.cell 0 rfl (by decide) rfl) ?_
 refine kV 5 (.int .u64 (x 0)) <| kV 6 (.int .u64 (x 1)) ?_
 refine kl_nil fun u3 M => ?_
 refine pV 7 (.int .u64 (x 2)) <| nT ?_
 refine wp_seq ?_
 refine rg_tail M 8 (by kernel_rfl) (by kernel_rfl) ?_
 simp only [List.take_succ_cons, List.take_zero]
 refine kV 19 (.pointer (some ⟨g1, 4, none⟩)) ?_
 refine kE M 20 g1 4 (.int .u64 (x 4)) (fun w M => M.cell 0 rfl (by decide) rfl) ?_
 refine kV 21 (.pointer (some ⟨g1, 5, none⟩)) ?_
 refine kE M 22 g1 5 (.int .u64 (x 5)) (fun w M => M.cell 0 rfl (by decide) rfl) ?_
 refine kV 23 (.pointer (some ⟨g1, 6, none⟩)) ?_
 refine kE M 24 g1 6 (.int .u64 (x 6)) (fun w M => M.cell 0 rfl (by decide) rfl) ?_
 refine kV 8 (.int .u64 (x 4)) <| kV 9 (.int .u64 (x 5)) ?_
 refine kl_nil fun u4 M => ?_
 refine pV 10 (.int .u64 (x 6)) <| nT ?_
 refine wp_seq ?_
 refine rg_tail M 16 (by kernel_rfl) (by kernel_rfl) ?_
 simp only [List.take_succ_cons, List.take_zero]
 refine kV 25 (.pointer (some ⟨g1, 7, none⟩)) ?_
 refine kE M 26 g1 7 (.int .u64 (x 7)) (fun w M => M.cell 0 rfl (by decide) rfl) ?_
 refine kV 27 (.int .u64 (x 4)) ?_
 refine kC M 28 151 #[.int .u64 (x 4), .int .i64 14, .int .i64 18, .int .i64 41] (.int .u64 (bS1 (x 4))) (fun w M => c_thr14 (x 4) w M.laid) ?_
 refine kV 29 (.int .u64 (ua (x 7) (bS1 (x 4)))) <| kV 30 (.int .u64 (x 4)) <| kV 31 (.int .u64 (x 5)) <| kV 32 (.int .u64 (un (x 4) (x 5))) ?_
 refine kV 33 (.int .u64 (x 4)) <| kV 34 (.int .u64 (ut (x 4))) <| kV 35 (.int .u64 (x 6)) <| kV 36 (.int .u64 (un (ut (x 4)) (x 6))) ?_
 refine kV 37 (.int .u64 (ux (un (x 4) (x 5)) (un (ut (x 4)) (x 6)))) <| kV 38 (.int .u64 (ua (ua (x 7) (bS1 (x 4))) (ux (un (x 4) (x 5)) (un (ut (x 4)) (x 6))))) <| kV 39 (.int .u64 comes) <| kV 40 (.int .u64 (ua (ua (ua (x 7) (bS1 (x 4))) (ux (un (x 4) (x 5)) (un (ut (x 4)) (x 6)))) comes)) ?_
 refine kl_nil fun u5 M => ?_
 refine pV 11 (.int .u64 (uF x comes)) <| nT <| sR <| pV 41 (.int .u64 (x 0)) ?_
 refine pC M 42 151 #[.int .u64 (x 0), .int .i64 28, .int .i64 34, .int .i64 39] (.int .u64 (bS0 (x 0))) (fun w M => c_thr28 (x 0) w M.laid) fun u6 M => ?_
 refine pV 43 (.int .u64 (x 0)) <| pV 44 (.int .u64 (x 1)) <| pV 45 (.int .u64 (un (x 0) (x 1))) <| pV 46 (.int .u64 (x 0)) ?_
 refine pV 47 (.int .u64 (x 2)) <| pV 48 (.int .u64 (un (x 0) (x 2))) <| pV 49 (.int .u64 (ux (un (x 0) (x 1)) (un (x 0) (x 2)))) <| pV 50 (.int .u64 (x 1)) ?_
 refine pV 51 (.int .u64 (x 2)) <| pV 52 (.int .u64 (un (x 1) (x 2))) <| pV 53 (.int .u64 (ux (ux (un (x 0) (x 1)) (un (x 0) (x 2))) (un (x 1) (x 2)))) <| pV 54 (.int .u64 (ua (bS0 (x 0)) (ux (ux (un (x 0) (x 1)) (un (x 0) (x 2))) (un (x 1) (x 2))))) ?_
 refine pV 12 (.int .u64 (vF x)) <| nT ?_
 refine wp_seq ?_
 refine rg_tail M 2 (by kernel_rfl) (by kernel_rfl) ?_
 simp only [List.take_succ_cons, List.take_zero]
 refine kV 55 (.slice (some ⟨g1, 1, none⟩) 7 7) <| kV 56 (.slice (some ⟨g1, 0, none⟩) 7 8) ?_
 refine kl_nil fun u7 M => ?_
 refine pl_copyA M (want_no rfl) (some 57) rfl 127 127 3 34 Tryz.underlying127 inz34 0 g1 8 95 (w64 x) rfl 1 7 7 0 7 8 7 rfl (by decide) (by decide) (fun _ _ => rfl) (w64 (shf x)) (fun j hj => by unfold w64 shf; split <;> (congr 2; try omega)) (fun _ => by kernel_rfl) fun u8 M => ?_
 refine nT <| sR <| pV 58 (.int .u64 (uF x comes)) <| pV 59 (.int .u64 (vF x)) ?_
 refine pV 60 (.int .u64 (ua (uF x comes) (vF x))) <| pV 61 (.pointer (some ⟨g1, 0, none⟩)) ?_
 refine pP M 0 rfl 0 (.int .u64 (ua (uF x comes) (vF x))) (w64 (upd (shf x) 0 (ua (uF x comes) (vF x)))) (by decide) (fun j _ => put_w64 _ _ _ j) fun u9 M => ?_
 refine nT <| sR <| pV 62 (.pointer (some ⟨g1, 4, none⟩)) ?_
 refine pE M 63 g1 4 (.int .u64 ((upd (shf x) 0 (ua (uF x comes) (vF x))) 4)) (fun w M => M.cell 0 rfl (by decide) rfl) ?_
 refine pV 64 (.int .u64 (uF x comes)) <| pV 65 (.int .u64 (ua ((upd (shf x) 0 (ua (uF x comes) (vF x))) 4) (uF x comes))) <| pV 66 (.pointer (some ⟨g1, 4, none⟩)) ?_
 refine pP M 0 rfl 4 (.int .u64 (ua ((upd (shf x) 0 (ua (uF x comes) (vF x))) 4) (uF x comes))) (w64 (upd (upd (shf x) 0 (ua (uF x comes) (vF x))) 4 (ua ((upd (shf x) 0 (ua (uF x comes) (vF x))) 4) (uF x comes)))) (by decide) (fun j _ => put_w64 _ _ _ j) fun u10 M => ?_
 refine nT <| sR ?_
 refine pA M 67 0 8 (w64 (upd (upd (shf x) 0 (ua (uF x comes) (vF x))) 4 (ua ((upd (shf x) 0 (ua (uF x comes) (vF x))) 4) (uF x comes)))) ?_
 refine pl_put M (want_no rfl) rfl 95 _ _ rfl 1 g2 0 (by kernel_rfl) 8 95 (w64 fun _ => 0) rfl 8 (w64 (upd (upd (shf x) 0 (ua (uF x comes) (vF x))) 4 (ua ((upd (shf x) 0 (ua (uF x comes) (vF x))) 4) (uF x comes)))) (w64 (upd (upd (shf x) 0 (ua (uF x comes) (vF x))) 4 (ua ((upd (shf x) 0 (ua (uF x comes) (vF x))) 4) (uF x comes)))) (by kernel_rfl) inz95 (by decide) (fun _ _ => rfl) (fun j hj => by rw [if_pos (by omega), Nat.sub_zero]) fun u11 M => ?_
 refine nT ?_
 refine wp_ret ?_
 have e := st8_av x comes
 refine bodyPost_ret (v := .agg (av 8 (w64 (st8 x comes)))) (Eq.trans (b := .ok (.agg (av 8 (w64 (upd (upd (shf x) 0 (ua (uF x comes) (vF x))) 4 (ua ((upd (shf x) 0 (ua (uF x comes) (vF x))) 4) (uF x comes)))))) _) (results_cell_row Tryz.results146 _ _ g2 95 (av 8 (w64 (upd (upd (shf x) 0 (ua (uF x comes) (vF x))) 4 (ua ((upd (shf x) 0 (ua (uF x comes) (vF x))) 4) (uF x comes))))) (0, 0) _ (by kernel_rfl) (M.get 1 rfl) Tryz.underlying95 rfl (by rw [av_size]; exact inz95)) (by rw [show av 8 (w64 (upd (upd (shf x) 0 (ua (uF x comes) (vF x))) 4 (ua ((upd (shf x) 0 (ua (uF x comes) (vF x))) 4) (uF x comes)))) = av 8 (w64 (st8 x comes)) from e])) (by kernel_rfl) ⟨rfl, below_grown M.old⟩
theorem wrap64 {x : Int} (h0 : -9223372036854775808 ≤ x) (h1 : x < 9223372036854775808) : IntKind.wrap .i64 x = x := by
 simp [IntKind.wrap, IntKind.signed, IntKind.bits, go_sem]
 omega
theorem quo8 (j : Nat) (hj : j < 1000000) : IntKind.wrap .i64 ((j : Int).tdiv 8) = ((j / 8 : Nat) : Int) := by
 rw [Int.tdiv_eq_ediv_of_nonneg (by omega), wrap64 (by omega) (by omega)]
 omega
def sp1 (rs : Nat → Int) : Nat → (Nat → Int)
 | 0 => fun _ => 0
 | j + 1 => upd (sp1 rs j) (j / 8) (uo (sl (sp1 rs j (j / 8)) 8) (cv .u64 (rs j)))
def sp2 (rs : Nat → Int) : Nat → (Nat → Int)
 | 0 => sp1 rs 128
 | j + 1 => upd (sp2 rs j) (16 + j) (ua (ua (ua (sp2 rs j j) (lS0 (sp2 rs j (j + 1)))) (sp2 rs j (j + 9))) (lS1 (sp2 rs j (j + 14))))
def rd (x rs : Nat → Int) : Nat → (Nat → Int)
 | 0 => x
 | j + 1 => st8 (rd x rs j) (ua (KF j) (sp2 rs 64 j))
def ad (x y : Nat → Int) : Nat → (Nat → Int)
 | 0 => x
 | j + 1 => upd (ad x y j) j (ua (ad x y j j) (y j))
def mixV (x rs : Nat → Int) : Nat → Int := fun i => ua (x i) (rd x rs 80 i)
theorem ad_av (x y : Nat → Int) : av 8 (w64 (ad x y 8)) = av 8 (w64 fun i => ua (x i) (y i)) := by
 refine av_congr fun i hi => ?_
 unfold w64
 congr 1
 revert i
 exact lt8 ⟨by simp [ad, upd], by simp [ad, upd], by simp [ad, upd], by simp [ad, upd], by simp [ad, upd], by simp [ad, upd], by simp [ad, upd], by simp [ad, upd]⟩
theorem c_spread (rs : Nat → Int) (w : World) (hL : Laid w)  :
  Cs 145 #[.agg (av 128 (w8 rs))] w (.agg (av 80 (w64 (sp2 rs 64)))) := by
 go_enter Tryz.func145, Tryz.ntmps145
 have M := Mem.start hL
 refine sR ?_
 refine pN M 1 (.cells (av 128 (w8 rs)) 123) fun g1 u1 M => ?_
 refine pN M 2 (.cells (av 80 (w64 fun _ => 0)) 155) fun g2 u2 M => ?_
 refine nT <| sR ?_
 refine pN M 3 (.cells (av 80 (w64 fun _ => 0)) 155) fun g3 u3 M => ?_
 refine nT ?_
 refine wp_seq ?_
 refine sR ?_
 refine pA M 7 0 128 (w8 rs) ?_
 refine pV 8 (.int .i64 0) <| nT ?_
 refine wp_block ?_
 refine au_loop (fun j a w' => ∃ v1 : Nat → Value, a = ⟨#[.agg (av 128 (w8 rs)), .pointer (some ⟨g1, 0, none⟩), .pointer (some ⟨g2, 0, none⟩), .pointer (some ⟨g3, 0, none⟩), v1 4, v1 5, undef, .agg (av 128 (w8 rs)), .int .i64 (j : Int), v1 9, v1 10, v1 11, v1 12, v1 13, v1 14, v1 15, v1 16, v1 17, v1 18, v1 19, v1 20, v1 21, v1 22, v1 23, undef, undef, undef, undef, undef, undef, undef, undef, undef, undef, undef, undef, undef, undef, undef, undef, undef, undef, undef, undef, undef, undef, undef, undef, undef, undef, undef, undef], []⟩ ∧ Mem ⟨w, []⟩ [⟨g1, .cells (av 128 (w8 rs)) 123⟩, ⟨g2, .cells (av 80 (w64 fun _ => 0)) 155⟩, ⟨g3, .cells (av 80 (w64 (sp1 rs j))) 155⟩] w') 128 ⟨fun k => ([undef, undef, undef, undef, undef, undef, undef, undef, undef, undef, undef, undef, undef, undef, undef, undef, undef, undef, undef, undef] : List Value).getD (k - 4) undef, by kernel_rfl, M⟩ ?_ ?_
 ·intro j a u0 hj hI
  obtain ⟨v1, rfl, M⟩ := hI
  refine sR <| pH 9 (.bool true) (dT ((j : Int) < 128) (by omega)) <| nT ?_
  refine wp_seq ?_
  refine cT ?_
  refine wp_skip ?_
  refine au_then ?_
  refine wp_seq ?_
  refine wp_block ?_
  refine sR <| pV 10 (.int .i64 (j : Int)) <| pH 11 (.int .u8 (rs (j))) (run_ixA 123 128 5 Tryz.underlying123 inz5 (fun _ => by kernel_rfl) _ _ rfl (w8 rs) (by kernel_rfl) .i64 (j) (by kernel_rfl) (by omega) rfl) <| pV 4 (.int .i64 (j : Int)) ?_
  refine pV 5 (.int .u8 (rs (j))) <| nT ?_
  refine rg_lit ?_
  refine pV 12 (.int .i64 (j : Int)) <| pH 13 (.int .i64 ((j / 8 : Nat) : Int)) (fun w => Eq.trans (b := .ok (.value (.int .i64 (IntKind.wrap .i64 ((j : Int).tdiv 8)))) w) (by kernel_rfl) (by rw [quo8 j (by omega)])) <| pV 14 (.int .i64 (j : Int)) <| pH 15 (.int .i64 ((j / 8 : Nat) : Int)) (fun w => Eq.trans (b := .ok (.value (.int .i64 (IntKind.wrap .i64 ((j : Int).tdiv 8)))) w) (by kernel_rfl) (by rw [quo8 j (by omega)])) ?_
  refine pH 16 (.pointer (some ⟨g3, ((j / 8 : Nat)), none⟩)) (run_ix1 155 80 34 Tryz.underlying155 inz34 _ _ rfl g3 (by kernel_rfl) .i64 ((j / 8 : Nat)) (by kernel_rfl) (by omega)) ?_
  refine pE M 17 g3 ((j / 8 : Nat)) (.int .u64 ((sp1 rs j) ((j / 8 : Nat)))) (fun w M => M.cell 2 rfl (by omega) rfl) ?_
  refine pV 18 (.int .u64 (sl ((sp1 rs j) ((j / 8 : Nat))) 8)) <| pV 19 (.int .u8 (rs (j))) <| pV 20 (.int .u64 (cv .u64 (rs (j)))) <| pV 21 (.int .u64 (uo (sl ((sp1 rs j) ((j / 8 : Nat))) 8) (cv .u64 (rs (j))))) ?_
  refine pH 22 (.pointer (some ⟨g3, ((j / 8 : Nat)), none⟩)) (run_ix1 155 80 34 Tryz.underlying155 inz34 _ _ rfl g3 (by kernel_rfl) .i64 ((j / 8 : Nat)) (by kernel_rfl) (by omega)) ?_
  refine pP M 2 rfl ((j / 8 : Nat)) (.int .u64 (uo (sl ((sp1 rs j) ((j / 8 : Nat))) 8) (cv .u64 (rs (j))))) (w64 (upd (sp1 rs j) ((j / 8 : Nat)) (uo (sl ((sp1 rs j) ((j / 8 : Nat))) 8) (cv .u64 (rs (j)))))) (by omega) (fun j _ => put_w64 _ _ _ j) fun u4 M => ?_
  refine pl_nil ?_
  refine au_block ?_
  refine au_then ?_
  refine rg_lit ?_
  refine pH 23 (.int .i64 ((j + 1 : Nat) : Int)) (iV ((j : Int) + 1) (by omega) (by omega) (by omega)) <| pV 8 (.int .i64 ((j + 1 : Nat) : Int)) <| nT ?_
  exact ⟨fun k => ([.int .i64 (j : Int), .int .u8 (rs (j)), undef, undef, undef, .bool true, .int .i64 (j : Int), .int .u8 (rs (j)), .int .i64 (j : Int), .int .i64 ((j / 8 : Nat) : Int), .int .i64 (j : Int), .int .i64 ((j / 8 : Nat) : Int), .pointer (some ⟨g3, ((j / 8 : Nat)), none⟩), .int .u64 ((sp1 rs j) ((j / 8 : Nat))), .int .u64 (sl ((sp1 rs j) ((j / 8 : Nat))) 8), .int .u8 (rs (j)), .int .u64 (cv .u64 (rs (j))), .int .u64 (uo (sl ((sp1 rs j) ((j / 8 : Nat))) 8) (cv .u64 (rs (j)))), .pointer (some ⟨g3, ((j / 8 : Nat)), none⟩), .int .i64 ((j + 1 : Nat) : Int)] : List Value).getD (k - 4) undef, by kernel_rfl, M⟩
 ·intro a u0 hI
  obtain ⟨v1, rfl, M⟩ := hI
  refine sR <| pH 9 (.bool false) (dF (128 < 128) (by omega)) <| nT ?_
  refine wp_seq ?_
  refine cF ?_
  refine wp_exit ?_
  refine au_then_exit ?_
  refine au_then_exit ?_
  refine au_block_exit ?_
  refine au_then ?_
  refine wp_seq ?_
  refine sR <| pV 6 (.int .i64 16) <| nT ?_
  refine wp_block ?_
  refine au_loop (fun j a w' => ∃ v2 : Nat → Value, a = ⟨#[.agg (av 128 (w8 rs)), .pointer (some ⟨g1, 0, none⟩), .pointer (some ⟨g2, 0, none⟩), .pointer (some ⟨g3, 0, none⟩), v1 4, v1 5, .int .i64 ((16 + j : Nat) : Int), .agg (av 128 (w8 rs)), .int .i64 (128 : Int), .bool false, v1 10, v1 11, v1 12, v1 13, v1 14, v1 15, v1 16, v1 17, v1 18, v1 19, v1 20, v1 21, v1 22, v1 23, v2 24, v2 25, v2 26, v2 27, v2 28, v2 29, v2 30, v2 31, v2 32, v2 33, v2 34, v2 35, v2 36, v2 37, v2 38, v2 39, v2 40, v2 41, v2 42, v2 43, v2 44, v2 45, v2 46, v2 47, v2 48, v2 49, v2 50, undef], []⟩ ∧ Mem ⟨w, []⟩ [⟨g1, .cells (av 128 (w8 rs)) 123⟩, ⟨g2, .cells (av 80 (w64 fun _ => 0)) 155⟩, ⟨g3, .cells (av 80 (w64 (sp2 rs j))) 155⟩] w') 64 ⟨fun k => ([undef, undef, undef, undef, undef, undef, undef, undef, undef, undef, undef, undef, undef, undef, undef, undef, undef, undef, undef, undef, undef, undef, undef, undef, undef, undef, undef] : List Value).getD (k - 24) undef, by kernel_rfl, M⟩ ?_ ?_
  ·intro j a u0 hj hI
   obtain ⟨v2, rfl, M⟩ := hI
   refine wp_seq ?_
   refine sR <| pV 24 (.int .i64 ((16 + j : Nat) : Int)) <| pH 25 (.bool true) (dT (((16 + j : Nat) : Int) < 80) (by omega)) <| nT ?_
   refine cT ?_
   refine wp_skip ?_
   refine au_then ?_
   refine wp_seq ?_
   refine wp_block ?_
   refine rg_tail M 23 (by kernel_rfl) (by kernel_rfl) ?_
   simp only [List.take_succ_cons, List.take_zero]
   refine kV 28 (.int .i64 ((16 + j : Nat) : Int)) <| kV 29 (.int .i64 ((16 + j : Nat) : Int)) <| kH 30 (.int .i64 (j : Int)) (iV (((16 + j : Nat) : Int) - 16) (by omega) (by omega) (by omega)) <| kH 31 (.pointer (some ⟨g3, j, none⟩)) (run_ix1 155 80 34 Tryz.underlying155 inz34 _ _ rfl g3 (by kernel_rfl) .i64 (j) (by kernel_rfl) (by omega)) ?_
   refine kE M 32 g3 j (.int .u64 ((sp2 rs j) j)) (fun w M => M.cell 2 rfl (by omega) rfl) ?_
   refine kV 33 (.int .i64 ((16 + j : Nat) : Int)) <| kH 34 (.int .i64 ((j + 1 : Nat) : Int)) (iV (((16 + j : Nat) : Int) - 15) (by omega) (by omega) (by omega)) <| kH 35 (.pointer (some ⟨g3, ((j + 1 : Nat)), none⟩)) (run_ix1 155 80 34 Tryz.underlying155 inz34 _ _ rfl g3 (by kernel_rfl) .i64 ((j + 1 : Nat)) (by kernel_rfl) (by omega)) ?_
   refine kE M 36 g3 ((j + 1 : Nat)) (.int .u64 ((sp2 rs j) ((j + 1 : Nat)))) (fun w M => M.cell 2 rfl (by omega) rfl) ?_
   refine kC M 37 150 #[.int .u64 ((sp2 rs j) ((j + 1 : Nat))), .int .i64 1, .int .i64 8, .int .i64 7] (.int .u64 (lS0 ((sp2 rs j) ((j + 1 : Nat))))) (fun w M => c_mov1 ((sp2 rs j) ((j + 1 : Nat))) w M.laid) ?_
   refine kV 38 (.int .u64 (ua ((sp2 rs j) j) (lS0 ((sp2 rs j) ((j + 1 : Nat)))))) <| kV 39 (.int .i64 ((16 + j : Nat) : Int)) <| kH 40 (.int .i64 ((j + 9 : Nat) : Int)) (iV (((16 + j : Nat) : Int) - 7) (by omega) (by omega) (by omega)) <| kH 41 (.pointer (some ⟨g3, ((j + 9 : Nat)), none⟩)) (run_ix1 155 80 34 Tryz.underlying155 inz34 _ _ rfl g3 (by kernel_rfl) .i64 ((j + 9 : Nat)) (by kernel_rfl) (by omega)) ?_
   refine kE M 42 g3 ((j + 9 : Nat)) (.int .u64 ((sp2 rs j) ((j + 9 : Nat)))) (fun w M => M.cell 2 rfl (by omega) rfl) ?_
   refine kV 43 (.int .u64 (ua (ua ((sp2 rs j) j) (lS0 ((sp2 rs j) ((j + 1 : Nat))))) ((sp2 rs j) ((j + 9 : Nat))))) <| kV 44 (.int .i64 ((16 + j : Nat) : Int)) <| kH 45 (.int .i64 ((j + 14 : Nat) : Int)) (iV (((16 + j : Nat) : Int) - 2) (by omega) (by omega) (by omega)) <| kH 46 (.pointer (some ⟨g3, ((j + 14 : Nat)), none⟩)) (run_ix1 155 80 34 Tryz.underlying155 inz34 _ _ rfl g3 (by kernel_rfl) .i64 ((j + 14 : Nat)) (by kernel_rfl) (by omega)) ?_
   refine kE M 47 g3 ((j + 14 : Nat)) (.int .u64 ((sp2 rs j) ((j + 14 : Nat)))) (fun w M => M.cell 2 rfl (by omega) rfl) ?_
   refine kC M 48 150 #[.int .u64 ((sp2 rs j) ((j + 14 : Nat))), .int .i64 19, .int .i64 61, .int .i64 6] (.int .u64 (lS1 ((sp2 rs j) ((j + 14 : Nat))))) (fun w M => c_mov19 ((sp2 rs j) ((j + 14 : Nat))) w M.laid) ?_
   refine kV 49 (.int .u64 (ua (ua (ua ((sp2 rs j) j) (lS0 ((sp2 rs j) ((j + 1 : Nat))))) ((sp2 rs j) ((j + 9 : Nat)))) (lS1 ((sp2 rs j) ((j + 14 : Nat)))))) <| kH 50 (.pointer (some ⟨g3, ((16 + j : Nat)), none⟩)) (run_ix1 155 80 34 Tryz.underlying155 inz34 _ _ rfl g3 (by kernel_rfl) .i64 ((16 + j : Nat)) (by kernel_rfl) (by omega)) ?_
   refine kl_nil fun u5 M => ?_
   refine pP M 2 rfl ((16 + j : Nat)) (.int .u64 (ua (ua (ua ((sp2 rs j) j) (lS0 ((sp2 rs j) ((j + 1 : Nat))))) ((sp2 rs j) ((j + 9 : Nat)))) (lS1 ((sp2 rs j) ((j + 14 : Nat)))))) (w64 (upd (sp2 rs j) ((16 + j : Nat)) (ua (ua (ua ((sp2 rs j) j) (lS0 ((sp2 rs j) ((j + 1 : Nat))))) ((sp2 rs j) ((j + 9 : Nat)))) (lS1 ((sp2 rs j) ((j + 14 : Nat))))))) (by omega) (fun j _ => put_w64 _ _ _ j) fun u6 M => ?_
   refine pl_nil ?_
   refine au_block ?_
   refine au_then ?_
   refine rg_lit ?_
   refine pV 26 (.int .i64 ((16 + j : Nat) : Int)) <| pH 27 (.int .i64 ((16 + (j + 1) : Nat) : Int)) (iV (((16 + j : Nat) : Int) + 1) (by omega) (by omega) (by omega)) <| pV 6 (.int .i64 ((16 + (j + 1) : Nat) : Int)) <| nT ?_
   exact ⟨fun k => ([.int .i64 ((16 + j : Nat) : Int), .bool true, .int .i64 ((16 + j : Nat) : Int), .int .i64 ((16 + (j + 1) : Nat) : Int), .int .i64 ((16 + j : Nat) : Int), .int .i64 ((16 + j : Nat) : Int), .int .i64 (j : Int), .pointer (some ⟨g3, j, none⟩), .int .u64 ((sp2 rs j) j), .int .i64 ((16 + j : Nat) : Int), .int .i64 ((j + 1 : Nat) : Int), .pointer (some ⟨g3, ((j + 1 : Nat)), none⟩), .int .u64 ((sp2 rs j) ((j + 1 : Nat))), .int .u64 (lS0 ((sp2 rs j) ((j + 1 : Nat)))), .int .u64 (ua ((sp2 rs j) j) (lS0 ((sp2 rs j) ((j + 1 : Nat))))), .int .i64 ((16 + j : Nat) : Int), .int .i64 ((j + 9 : Nat) : Int), .pointer (some ⟨g3, ((j + 9 : Nat)), none⟩), .int .u64 ((sp2 rs j) ((j + 9 : Nat))), .int .u64 (ua (ua ((sp2 rs j) j) (lS0 ((sp2 rs j) ((j + 1 : Nat))))) ((sp2 rs j) ((j + 9 : Nat)))), .int .i64 ((16 + j : Nat) : Int), .int .i64 ((j + 14 : Nat) : Int), .pointer (some ⟨g3, ((j + 14 : Nat)), none⟩), .int .u64 ((sp2 rs j) ((j + 14 : Nat))), .int .u64 (lS1 ((sp2 rs j) ((j + 14 : Nat)))), .int .u64 (ua (ua (ua ((sp2 rs j) j) (lS0 ((sp2 rs j) ((j + 1 : Nat))))) ((sp2 rs j) ((j + 9 : Nat)))) (lS1 ((sp2 rs j) ((j + 14 : Nat))))), .pointer (some ⟨g3, ((16 + j : Nat)), none⟩)] : List Value).getD (k - 24) undef, by kernel_rfl, M⟩
  ·intro a u0 hI
   obtain ⟨v2, rfl, M⟩ := hI
   refine wp_seq ?_
   refine sR <| pV 24 (.int .i64 ((16 + 64 : Nat) : Int)) <| pH 25 (.bool false) (dF (((16 + 64 : Nat) : Int) < 80) (by omega)) <| nT ?_
   refine cF ?_
   refine wp_exit ?_
   refine au_then_exit ?_
   refine au_then_exit ?_
   refine au_block_exit ?_
   refine au_then ?_
   refine sR ?_
   refine pA M 51 2 80 (w64 (sp2 rs 64)) ?_
   refine pl_put M (want_no rfl) rfl 155 _ _ rfl 1 g2 0 (by kernel_rfl) 80 155 (w64 fun _ => 0) rfl 80 (w64 (sp2 rs 64)) (w64 (sp2 rs 64)) (by kernel_rfl) inz155 (by decide) (fun _ _ => rfl) (fun j hj => by rw [if_pos (by omega), Nat.sub_zero]) fun u7 M => ?_
   refine nT ?_
   refine wp_ret ?_
   exact bodyPost_ret (v := .agg (av 80 (w64 (sp2 rs 64)))) (results_cell_row Tryz.results145 _ _ g2 155 (av 80 (w64 (sp2 rs 64))) (0, 0) _ (by kernel_rfl) (M.get 1 rfl) Tryz.underlying155 rfl (by rw [av_size]; exact inz155)) (by kernel_rfl) ⟨rfl, below_grown M.old⟩
theorem c_mixed (x rs : Nat → Int) (w : World) (hL : Laid w)  :
  Cs 138 #[.agg (av 8 (w64 x)), .agg (av 128 (w8 rs))] w (.agg (av 8 (w64 (mixV x rs)))) := by
 go_enter Tryz.func138, Tryz.ntmps138
 have M := Mem.start hL
 refine sR ?_
 refine pN M 2 (.cells (av 8 (w64 x)) 95) fun g1 u1 M => ?_
 refine pN M 3 (.cells (av 128 (w8 rs)) 123) fun g2 u2 M => ?_
 refine pN M 4 (.cells (av 8 (w64 fun _ => 0)) 95) fun g3 u3 M => ?_
 refine nT <| sR ?_
 refine pA M 10 1 128 (w8 rs) ?_
 refine pC M 11 145 #[.agg (av 128 (w8 rs))] (.agg (av 80 (w64 (sp2 rs 64)))) (fun w M => c_spread rs w M.laid) fun u4 M => ?_
 refine pN M 5 (.cells (av 80 (w64 fun _ => 0)) 155) fun g4 u5 M => ?_
 refine pl_put M (want_no rfl) rfl 155 _ _ rfl 3 g4 0 (by kernel_rfl) 80 155 (w64 fun _ => 0) rfl 80 (w64 (sp2 rs 64)) (w64 (sp2 rs 64)) (by kernel_rfl) inz155 (by decide) (fun _ _ => rfl) (fun j hj => by rw [if_pos (by omega), Nat.sub_zero]) fun u6 M => ?_
 refine nT <| sR ?_
 refine pA M 12 0 8 (w64 x) ?_
 refine pN M 6 (.cells (av 8 (w64 fun _ => 0)) 95) fun g5 u7 M => ?_
 refine pl_put M (want_no rfl) rfl 95 _ _ rfl 4 g5 0 (by kernel_rfl) 8 95 (w64 fun _ => 0) rfl 8 (w64 x) (w64 x) (by kernel_rfl) inz95 (by decide) (fun _ _ => rfl) (fun j hj => by rw [if_pos (by omega), Nat.sub_zero]) fun u8 M => ?_
 refine nT ?_
 refine wp_seq ?_
 refine sR ?_
 refine pA M 13 3 80 (w64 (sp2 rs 64)) ?_
 refine pV 14 (.int .i64 0) <| nT ?_
 refine wp_block ?_
 refine au_loop (fun j a w' => ∃ v1 : Nat → Value, a = ⟨#[.agg (av 8 (w64 x)), .agg (av 128 (w8 rs)), .pointer (some ⟨g1, 0, none⟩), .pointer (some ⟨g2, 0, none⟩), .pointer (some ⟨g3, 0, none⟩), .pointer (some ⟨g4, 0, none⟩), .pointer (some ⟨g5, 0, none⟩), v1 7, v1 8, undef, .agg (av 128 (w8 rs)), .agg (av 80 (w64 (sp2 rs 64))), .agg (av 8 (w64 x)), .agg (av 80 (w64 (sp2 rs 64))), .int .i64 (j : Int), v1 15, v1 16, v1 17, v1 18, v1 19, v1 20, v1 21, v1 22, v1 23, v1 24, v1 25, undef, undef, undef, undef, undef, undef, undef, undef, undef, undef, undef, undef, undef], []⟩ ∧ Mem ⟨w, []⟩ [⟨g1, .cells (av 8 (w64 x)) 95⟩, ⟨g2, .cells (av 128 (w8 rs)) 123⟩, ⟨g3, .cells (av 8 (w64 fun _ => 0)) 95⟩, ⟨g4, .cells (av 80 (w64 (sp2 rs 64))) 155⟩, ⟨g5, .cells (av 8 (w64 (rd x rs j))) 95⟩] w') 80 ⟨fun k => ([undef, undef, undef, undef, undef, undef, undef, undef, undef, undef, undef, undef, undef, undef, undef, undef, undef, undef, undef] : List Value).getD (k - 7) undef, by kernel_rfl, M⟩ ?_ ?_
 ·intro j a u0 hj hI
  obtain ⟨v1, rfl, M⟩ := hI
  refine sR <| pH 15 (.bool true) (dT ((j : Int) < 80) (by omega)) <| nT ?_
  refine wp_seq ?_
  refine cT ?_
  refine wp_skip ?_
  refine au_then ?_
  refine wp_seq ?_
  refine wp_block ?_
  refine sR <| pV 16 (.int .i64 (j : Int)) <| pH 17 (.int .u64 ((sp2 rs 64) (j))) (run_ixA 155 80 34 Tryz.underlying155 inz34 (fun _ => by kernel_rfl) _ _ rfl (w64 (sp2 rs 64)) (by kernel_rfl) .i64 (j) (by kernel_rfl) (by omega) rfl) <| pV 7 (.int .i64 (j : Int)) ?_
  refine pV 8 (.int .u64 ((sp2 rs 64) (j))) <| nT ?_
  refine rg_tail M 7 (by kernel_rfl) (by kernel_rfl) ?_
  simp only [List.take_succ_cons, List.take_zero]
  refine kA M 18 4 8 (w64 (rd x rs j)) ?_
  refine kV 19 (.int .i64 (j : Int)) <| kH 20 (.pointer (some ⟨0, j, none⟩)) (run_ix1 155 80 34 Tryz.underlying155 inz34 _ _ rfl 0 (by kernel_rfl) .i64 (j) (by kernel_rfl) (by omega)) ?_
  refine kE M 21 0 j (.int .u64 (KF j)) (fun w M => M.laid j (by omega)) ?_
  refine kV 22 (.int .u64 ((sp2 rs 64) (j))) <| kV 23 (.int .u64 (ua (KF j) ((sp2 rs 64) (j)))) ?_
  refine kC M 24 146 #[.agg (av 8 (w64 (rd x rs j))), .int .u64 (ua (KF j) ((sp2 rs 64) (j)))] (.agg (av 8 (w64 (st8 (rd x rs j) (ua (KF j) ((sp2 rs 64) (j))))))) (fun w M => c_stepped _ _ w M.laid) ?_
  refine kl_nil fun u9 M => ?_
  refine pl_put M (want_no rfl) rfl 95 _ _ rfl 4 g5 0 (by kernel_rfl) 8 95 (w64 (rd x rs j)) rfl 8 (w64 (st8 (rd x rs j) (ua (KF j) ((sp2 rs 64) (j))))) (w64 (st8 (rd x rs j) (ua (KF j) ((sp2 rs 64) (j))))) (by kernel_rfl) inz95 (by decide) (fun _ _ => rfl) (fun j hj => by rw [if_pos (by omega), Nat.sub_zero]) fun u10 M => ?_
  refine pl_nil ?_
  refine au_block ?_
  refine au_then ?_
  refine rg_lit ?_
  refine pH 25 (.int .i64 ((j + 1 : Nat) : Int)) (iV ((j : Int) + 1) (by omega) (by omega) (by omega)) <| pV 14 (.int .i64 ((j + 1 : Nat) : Int)) <| nT ?_
  exact ⟨fun k => ([.int .i64 (j : Int), .int .u64 ((sp2 rs 64) (j)), undef, undef, undef, undef, undef, undef, .bool true, .int .i64 (j : Int), .int .u64 ((sp2 rs 64) (j)), .agg (av 8 (w64 (rd x rs j))), .int .i64 (j : Int), .pointer (some ⟨0, j, none⟩), .int .u64 (KF j), .int .u64 ((sp2 rs 64) (j)), .int .u64 (ua (KF j) ((sp2 rs 64) (j))), .agg (av 8 (w64 (st8 (rd x rs j) (ua (KF j) ((sp2 rs 64) (j)))))), .int .i64 ((j + 1 : Nat) : Int)] : List Value).getD (k - 7) undef, by kernel_rfl, M⟩
 ·intro a u0 hI
  obtain ⟨v1, rfl, M⟩ := hI
  refine sR <| pH 15 (.bool false) (dF (80 < 80) (by omega)) <| nT ?_
  refine wp_seq ?_
  refine cF ?_
  refine wp_exit ?_
  refine au_then_exit ?_
  refine au_then_exit ?_
  refine au_block_exit ?_
  refine au_then ?_
  refine wp_seq ?_
  refine sR <| pV 26 (.int .i64 0) <| nT ?_
  refine wp_block ?_
  refine au_loop (fun j a w' => ∃ v2 : Nat → Value, a = ⟨#[.agg (av 8 (w64 x)), .agg (av 128 (w8 rs)), .pointer (some ⟨g1, 0, none⟩), .pointer (some ⟨g2, 0, none⟩), .pointer (some ⟨g3, 0, none⟩), .pointer (some ⟨g4, 0, none⟩), .pointer (some ⟨g5, 0, none⟩), v1 7, v1 8, v2 9, .agg (av 128 (w8 rs)), .agg (av 80 (w64 (sp2 rs 64))), .agg (av 8 (w64 x)), .agg (av 80 (w64 (sp2 rs 64))), .int .i64 (80 : Int), .bool false, v1 16, v1 17, v1 18, v1 19, v1 20, v1 21, v1 22, v1 23, v1 24, v1 25, .int .i64 (j : Int), v2 27, v2 28, v2 29, v2 30, v2 31, v2 32, v2 33, v2 34, v2 35, v2 36, v2 37, undef], []⟩ ∧ Mem ⟨w, []⟩ [⟨g1, .cells (av 8 (w64 (ad x (rd x rs 80) j))) 95⟩, ⟨g2, .cells (av 128 (w8 rs)) 123⟩, ⟨g3, .cells (av 8 (w64 fun _ => 0)) 95⟩, ⟨g4, .cells (av 80 (w64 (sp2 rs 64))) 155⟩, ⟨g5, .cells (av 8 (w64 (rd x rs 80))) 95⟩] w') 8 ⟨fun k => ([undef, undef, undef, undef, undef, undef, undef, undef, undef, undef, undef, undef, undef, undef, undef, undef, undef, undef, undef, undef, undef, undef, undef, undef, undef, undef, undef, undef, undef] : List Value).getD (k - 9) undef, by kernel_rfl, M⟩ ?_ ?_
  ·intro j a u0 hj hI
   obtain ⟨v2, rfl, M⟩ := hI
   refine sR <| pH 27 (.bool true) (dT ((j : Int) < 8) (by omega)) <| nT ?_
   refine wp_seq ?_
   refine cT ?_
   refine wp_skip ?_
   refine au_then ?_
   refine wp_seq ?_
   refine wp_block ?_
   refine sR <| pV 28 (.int .i64 (j : Int)) <| pV 9 (.int .i64 (j : Int)) <| nT ?_
   refine rg_tail M 8 (by kernel_rfl) (by kernel_rfl) ?_
   simp only [List.take_succ_cons, List.take_zero]
   refine kV 29 (.int .i64 (j : Int)) <| kH 30 (.pointer (some ⟨g1, j, none⟩)) (run_ix1 95 8 34 Tryz.underlying95 inz34 _ _ rfl g1 (by kernel_rfl) .i64 (j) (by kernel_rfl) (by omega)) ?_
   refine kE M 31 g1 j (.int .u64 ((ad x (rd x rs 80) j) j)) (fun w M => M.cell 0 rfl (by omega) rfl) ?_
   refine kV 32 (.int .i64 (j : Int)) <| kH 33 (.pointer (some ⟨g5, j, none⟩)) (run_ix1 95 8 34 Tryz.underlying95 inz34 _ _ rfl g5 (by kernel_rfl) .i64 (j) (by kernel_rfl) (by omega)) ?_
   refine kE M 34 g5 j (.int .u64 ((rd x rs 80) j)) (fun w M => M.cell 4 rfl (by omega) rfl) ?_
   refine kV 35 (.int .u64 (ua ((ad x (rd x rs 80) j) j) ((rd x rs 80) j))) <| kH 36 (.pointer (some ⟨g1, j, none⟩)) (run_ix1 95 8 34 Tryz.underlying95 inz34 _ _ rfl g1 (by kernel_rfl) .i64 (j) (by kernel_rfl) (by omega)) ?_
   refine kl_nil fun u11 M => ?_
   refine pP M 0 rfl j (.int .u64 (ua ((ad x (rd x rs 80) j) j) ((rd x rs 80) j))) (w64 (upd (ad x (rd x rs 80) j) j (ua ((ad x (rd x rs 80) j) j) ((rd x rs 80) j)))) (by omega) (fun j _ => put_w64 _ _ _ j) fun u12 M => ?_
   refine pl_nil ?_
   refine au_block ?_
   refine au_then ?_
   refine rg_lit ?_
   refine pH 37 (.int .i64 ((j + 1 : Nat) : Int)) (iV ((j : Int) + 1) (by omega) (by omega) (by omega)) <| pV 26 (.int .i64 ((j + 1 : Nat) : Int)) <| nT ?_
   exact ⟨fun k => ([.int .i64 (j : Int), undef, undef, undef, undef, undef, undef, undef, undef, undef, undef, undef, undef, undef, undef, undef, undef, undef, .bool true, .int .i64 (j : Int), .int .i64 (j : Int), .pointer (some ⟨g1, j, none⟩), .int .u64 ((ad x (rd x rs 80) j) j), .int .i64 (j : Int), .pointer (some ⟨g5, j, none⟩), .int .u64 ((rd x rs 80) j), .int .u64 (ua ((ad x (rd x rs 80) j) j) ((rd x rs 80) j)), .pointer (some ⟨g1, j, none⟩), .int .i64 ((j + 1 : Nat) : Int)] : List Value).getD (k - 9) undef, by kernel_rfl, M⟩
  ·intro a u0 hI
   obtain ⟨v2, rfl, M⟩ := hI
   refine sR <| pH 27 (.bool false) (dF (8 < 8) (by omega)) <| nT ?_
   refine wp_seq ?_
   refine cF ?_
   refine wp_exit ?_
   refine au_then_exit ?_
   refine au_then_exit ?_
   refine au_block_exit ?_
   refine au_then ?_
   refine sR ?_
   refine pA M 38 0 8 (w64 (ad x (rd x rs 80) 8)) ?_
   refine pl_put M (want_no rfl) rfl 95 _ _ rfl 2 g3 0 (by kernel_rfl) 8 95 (w64 fun _ => 0) rfl 8 (w64 (ad x (rd x rs 80) 8)) (w64 (ad x (rd x rs 80) 8)) (by kernel_rfl) inz95 (by decide) (fun _ _ => rfl) (fun j hj => by rw [if_pos (by omega), Nat.sub_zero]) fun u13 M => ?_
   refine nT ?_
   refine wp_ret ?_
   refine bodyPost_ret (v := .agg (av 8 (w64 (mixV x rs)))) (Eq.trans (b := .ok (.agg (av 8 (w64 (ad x (rd x rs 80) 8)))) _) (results_cell_row Tryz.results138 _ _ g3 95 (av 8 (w64 (ad x (rd x rs 80) 8))) (0, 0) _ (by kernel_rfl) (M.get 2 rfl) Tryz.underlying95 rfl (by rw [av_size]; exact inz95)) (by rw [ad_av]; rfl)) (by kernel_rfl) ⟨rfl, below_grown M.old⟩
def hF (mk : Bool) (ws rs : Nat → Int) (ct : Int) : Nat → Value := fun i => if i = 0 then .bool mk else if i < 9 then .int .u64 (ws (i - 1)) else if i < 137 then .int .u8 (rs (i - 9)) else .int .u64 ct
theorem hF_words (mk : Bool) (ws rs : Nat → Int) (ct : Int) : ∀ j, j < 8 → hF mk ws rs ct (1 + j) = w64 ws j := fun j hj => by
 unfold hF w64
 rw [if_neg (by omega), if_pos (by omega), show 1 + j - 1 = j by omega]
theorem hF_rest (mk : Bool) (ws rs : Nat → Int) (ct : Int) : ∀ j, j < 128 → hF mk ws rs ct (9 + j) = w8 rs j := fun j hj => by
 unfold hF w8
 rw [if_neg (by omega), if_neg (by omega), if_pos (by omega), show 9 + j - 9 = j by omega]
theorem hF_putw (mk : Bool) (ws rs : Nat → Int) (ct : Int) (f : Nat → Int) : ∀ j, j < 138 → (if 1 ≤ j ∧ j < 1 + 8 then w64 f (j - 1) else hF mk ws rs ct j) = hF mk f rs ct j := fun j hj => by
 unfold hF w64
 by_cases h : 1 ≤ j ∧ j < 1 + 8
 ·rw [if_pos h, if_neg (by omega), if_pos (by omega)]
 ·rw [if_neg h]
  by_cases h0 : j = 0
  ·rw [if_pos h0, if_pos h0]
  ·have h9 : ¬ j < 9 := by omega
   rw [if_neg h0, if_neg h0, if_neg h9, if_neg h9]
theorem hF_putc (mk : Bool) (ws rs : Nat → Int) (ct : Int) (c' : Int) : ∀ j, j < 138 → (if j = 137 then .int .u64 c' else hF mk ws rs ct j) = hF mk ws rs c' j := fun j hj => by
 unfold hF
 by_cases h : j = 137
 ·rw [if_pos h, if_neg (by omega), if_neg (by omega), if_neg (by omega)]
 ·rw [if_neg h]
  by_cases h0 : j < 137
  ·rw [if_pos h0, if_pos h0]
  ·omega
theorem hF_one (mk : Bool) (ws rs : Nat → Int) (ct : Int) : ∀ j, j < 138 → (hF mk ws rs ct j).oneCell' = true := fun j _ => by
 unfold hF
 split
 ·rfl
 ·split
  ·rfl
  ·split <;> rfl
def cpy (rs : Nat → Int) (p k : Nat) (s : ByteArray) : Nat → Int := fun i => if p ≤ i ∧ i < p + k then bt s (i - p) else rs i
theorem hF_cpy (mk : Bool) (ws rs : Nat → Int) (ct : Int) (p k : Nat) (s : ByteArray) (hp : p + k ≤ 128) : ∀ j, j < 138 → (if 9 + p ≤ j ∧ j < 9 + p + k then w8 (bt s) (j - (9 + p)) else hF mk ws rs ct j) = hF mk ws (cpy rs p k s) ct j := fun j hj => by
 unfold hF w8 cpy
 by_cases h : 9 + p ≤ j ∧ j < 9 + p + k
 ·rw [if_pos h, if_neg (by omega), if_neg (by omega), if_pos (by omega), if_pos (by omega), show j - (9 + p) = j - 9 - p by omega]
 ·rw [if_neg h]
  by_cases h0 : j = 0
  ·rw [if_pos h0, if_pos h0]
  ·rw [if_neg h0, if_neg h0]
   by_cases h9 : j < 9
   ·rw [if_pos h9, if_pos h9]
   ·rw [if_neg h9, if_neg h9]
    by_cases h1 : j < 137
    ·rw [if_pos h1, if_pos h1, if_neg (by omega)]
    ·rw [if_neg h1, if_neg h1]
def HB : Nat → Int := r8 7640891576956012808 13503953896175478587 4354685564936845355 11912009170470909681 5840696475078001361 11170449401992604703 2270897969802886507 6620516959819538809
structure HS where
 ws : Nat → Int
 rs : Nat → Int
 ct : Int
def HS.ok (H : HS) : Prop := 0 ≤ H.ct ∧ H.ct < 18446744073709551616
def hs0 : HS := ⟨HB, fun _ => 0, 0⟩
def ab (H : HS) (b : Int) : HS := ⟨if H.ct % 128 = 127 then mixV H.ws (upd H.rs 127 b) else H.ws, upd H.rs (H.ct % 128).toNat b, ua H.ct 1⟩
def tk (H : HS) (s : ByteArray) : Nat → HS
 | 0 => H
 | k + 1 => ab (tk H s k) (bt s k)
theorem ua_eq (x y : Int) : ua x y = (x + y) % 18446744073709551616 := by
 unfold ua
 simp [IntKind.wrap, IntKind.signed, IntKind.bits]
theorem ab_ok (H : HS) (b : Int) : (ab H b).ok := by
 unfold HS.ok ab
 simp only [ua_eq]
 omega
theorem tk_ok {H : HS} (h : H.ok) (s : ByteArray) : ∀ k, (tk H s k).ok
 | 0 => h
 | _ + 1 => ab_ok _ _
theorem cpy_zero (rs : Nat → Int) (p : Nat) (s : ByteArray) : cpy rs p 0 s = rs := by
 funext i
 unfold cpy
 rw [if_neg (by omega)]
theorem tk_run (H : HS) (h : H.ok) (s : ByteArray) (k p : Nat) (rem : ByteArray) (hrem : ∀ i, bt rem i = bt s (k + i)) (hp : (tk H s k).ct % 128 = (p : Int)) : ∀ n, p + n ≤ 128 →
  (tk H s (k + n)).rs = cpy (tk H s k).rs p n rem ∧ (tk H s (k + n)).ct = ua (tk H s k).ct (n : Int) ∧ (tk H s (k + n)).ws = if n ≠ 0 ∧ p + n = 128 then mixV (tk H s k).ws (cpy (tk H s k).rs p n rem) else (tk H s k).ws := by
 intro n
 have hok := tk_ok h s k
 induction n with
 | zero =>
  intro _
  refine ⟨by rw [cpy_zero]; rfl, ?_, by rw [if_neg (by simp)]; rfl⟩
  rw [ua_eq]
  simp only [Nat.add_zero, Int.natCast_zero, Int.add_zero]
  unfold HS.ok at hok
  omega
 | succ n ih =>
  intro hn
  obtain ⟨h1, h2, h3⟩ := ih (by omega)
  have hct : (tk H s (k + n)).ct % 128 = ((p + n : Nat) : Int) := by
   rw [h2, ua_eq]
   omega
  have hrs : (tk H s (k + (n + 1))).rs = cpy (tk H s k).rs p (n + 1) rem := by
   show upd (tk H s (k + n)).rs ((tk H s (k + n)).ct % 128).toNat (bt s (k + n)) = _
   rw [hct, h1, Int.toNat_natCast]
   funext i
   unfold upd cpy
   by_cases hi : i = p + n
   ·rw [if_pos hi, if_pos (by omega), hrem, hi, show k + (p + n - p) = k + n by omega]
   ·rw [if_neg hi]
    by_cases hj : p ≤ i ∧ i < p + n
    ·rw [if_pos hj, if_pos (by omega)]
    ·rw [if_neg hj, if_neg (by omega)]
  refine ⟨hrs, ?_, ?_⟩
  ·show ua (tk H s (k + n)).ct 1 = _
   rw [h2, ua_eq, ua_eq, ua_eq]
   omega
  ·have hwn : (tk H s (k + n)).ws = (tk H s k).ws := by rw [h3, if_neg (by omega)]
   have hu : (tk H s (k + (n + 1))).ws = if (tk H s (k + n)).ct % 128 = 127 then mixV (tk H s (k + n)).ws (upd (tk H s (k + n)).rs 127 (bt s (k + n))) else (tk H s (k + n)).ws := rfl
   rw [hu, hwn, hct]
   by_cases he : p + (n + 1) = 128
   ·rw [if_pos (by omega), if_pos ⟨by omega, he⟩, ← hrs]
    show mixV _ _ = mixV _ (upd (tk H s (k + n)).rs ((tk H s (k + n)).ct % 128).toNat (bt s (k + n)))
    rw [hct, Int.toNat_natCast, show p + n = 127 by omega]
   ·rw [if_neg (by omega), if_neg (by omega)]
theorem c_first  (w : World) (hL : Laid w)  :
  Cs 100 #[] w (.agg (av 8 (w64 HB))) := by
 go_enter Tryz.func100, Tryz.ntmps100
 have M := Mem.start hL
 refine sR ?_
 refine pN M 0 (.cells (av 8 (w64 fun _ => 0)) 95) fun g1 u1 M => ?_
 refine nT <| sR <| pV 1 (.agg (av 8 (w64 HB))) ?_
 refine pl_put M (want_no rfl) rfl 95 _ _ rfl 0 g1 0 (by kernel_rfl) 8 95 (w64 fun _ => 0) rfl 8 (w64 HB) (w64 HB) (by kernel_rfl) inz95 (by decide) (fun _ _ => rfl) (fun j hj => by rw [if_pos (by omega), Nat.sub_zero]) fun u2 M => ?_
 refine nT ?_
 refine wp_ret ?_
 exact bodyPost_ret (v := .agg (av 8 (w64 HB))) (results_cell_row Tryz.results100 _ _ g1 95 (av 8 (w64 HB)) (0, 0) _ (by kernel_rfl) (M.get 0 rfl) Tryz.underlying95 rfl (by rw [av_size]; exact inz95)) (by kernel_rfl) ⟨rfl, below_grown M.old⟩
theorem c_new  (w : World) (hL : Laid w)  :
  Calls Tryz.prog 54 #[] w fun r w' => ∃ g, r = .returned (.pointer (some ⟨g, 0, none⟩)) ∧ w.heap.size ≤ g ∧ w'.heap[g]? = some (.cells (av 138 (hF true hs0.ws hs0.rs hs0.ct)) 125) ∧ Below w.heap.size w w' := by
 go_enter Tryz.func54, Tryz.ntmps54
 have M := Mem.start hL
 refine sR <| pV 0 (.pointer none) <| nT <| sR ?_
 refine pC M 1 100 #[] (.agg (av 8 (w64 HB))) (fun w M => c_first w M.laid) fun u1 M => ?_
 refine pV 2 (.agg (av 138 (hF true HB (fun _ => 0) 0))) ?_
 refine pN M 3 (.cells (av 138 (hF true HB (fun _ => 0) 0)) 125) fun g1 u2 M => ?_
 refine pV 0 (.pointer (some ⟨g1, 0, none⟩)) <| nT ?_
 refine wp_ret ?_
 exact bodyPost_ret (v := .pointer (some ⟨g1, 0, none⟩)) (results_tmp1 Tryz.results54 _ _ _ (by kernel_rfl)) (by kernel_rfl) ⟨g1, rfl, (M.ge _ (List.mem_singleton.2 rfl)).elim id (fun h => by cases h), M.get 0 rfl, below_grown M.old⟩
theorem rem128 (x : Int) (h0 : 0 ≤ x) (p : Nat) (hp : x % 128 = (p : Int)) : IntKind.wrap .i64 (Int.tmod x 128) = (p : Int) := by
 rw [Int.tmod_eq_emod_of_nonneg h0, hp, wrap64 (by omega) (by omega)]
theorem cv_u64 (n : Nat) (h : n < 18446744073709551616) : cv .u64 (n : Int) = (n : Int) := by
 unfold cv
 simp [IntKind.wrap, IntKind.signed, IntKind.bits]
 omega
theorem bt_extract (s : ByteArray) (k : Nat) (i : Nat) : bt (s.extract k s.size) i = bt s (k + i) := by
 unfold bt
 congr 2
 have e : (s.extract k s.size).data[i]? = s.data[k + i]? := by
  have hs : s.data.size = s.size := rfl
  rw [ByteArray.data_extract, Array.getElem?_extract]
  by_cases h : k + i < s.size
  ·rw [if_pos (by omega)]
  ·rw [if_neg (by omega), Array.getElem?_eq_none (by omega)]
 rw [e]
theorem size_extract (s : ByteArray) (k : Nat) : (s.extract k s.size).size = s.size - k := by simp [ByteArray.size_extract]
theorem extract_extract (s : ByteArray) (k q : Nat) (hk : k + q ≤ s.size) : (s.extract k s.size).extract q (s.extract k s.size).size = s.extract (k + q) s.size := by
 have hs : s.size = s.data.size := rfl
 apply ByteArray.ext
 rw [ByteArray.data_extract, ByteArray.data_extract, ByteArray.data_extract, size_extract]
 apply Array.ext_getElem?
 intro i
 rw [Array.getElem?_extract, Array.getElem?_extract, Array.getElem?_extract]
 by_cases h : k + q + i < s.size
 ·rw [if_pos (by simp; omega), if_pos (by omega), if_pos (by omega), Nat.add_assoc]
 ·rw [if_neg (by simp; omega), if_neg (by omega)]
theorem extract_all (s : ByteArray) : s.extract 0 s.size = s := by simp
theorem run_strl {P : Program} {a : Act} {o : Oper} (t : TypeId) (hu : P.underlying t = some .string) (x lo : Operand) (ho : o.op = .slice t x (some lo) none none) (s : ByteArray) (hx : a.eval x = .string s) (k : IntKind) (i : Nat) (hi : a.eval lo = .int k (i : Int)) (hle : i ≤ s.size) (v : ByteArray) (hv : s.extract i s.size = v) (w : World) :
  (execOp a.eval o).run P w = .ok (.value (.string v)) w := by
 subst hv
 unfold execOp
 simp [ho, hx, hi, run_sliceAt_string w t (.string s) (some (.int k i)) none none hu, run_slice_string_l w t s hu k i (by omega) (by omega)]
theorem c_take (H : HS) (hH : H.ok) (g : Nat) (s : ByteArray) (w : World) (hL : Laid w) (hg : w.heap[g]? = some (.cells (av 138 (hF true H.ws H.rs H.ct)) 125)) (h0 : g ≠ 0) :
  Calls Tryz.prog 96 #[.pointer (some ⟨g, 0, none⟩), .string s] w fun r w' => r = .returned (.tuple #[]) ∧ Grw w w' [g] ∧ w'.heap[g]? = some (.cells (av 138 (hF true (tk H s s.size).ws (tk H s s.size).rs (tk H s s.size).ct)) 125) := by
 go_enter Tryz.func96, Tryz.ntmps96
 have M := Mem.startp hL hg h0
 refine wp_block ?_
 refine wp_loop_ghost (fun n a w' => ∃ (v : Nat → Value) (k : Nat) (rem : ByteArray), k + n = s.size ∧ rem = s.extract k s.size ∧ a = ⟨#[.pointer (some ⟨g, 0, none⟩), .string rem, undef, undef, v 4, v 5, v 6, v 7, v 8, v 9, v 10, v 11, v 12, v 13, v 14, v 15, v 16, v 17, v 18, v 19, v 20, v 21, v 22, v 23, v 24, v 25, v 26, v 27, v 28, v 29, v 30, v 31, v 32, v 33, v 34, v 35, v 36, v 37, v 38, v 39, v 40, v 41, v 42, v 43, v 44, v 45, v 46, v 47, v 48, v 49], []⟩ ∧ Mem ⟨w, [g]⟩ [⟨g, .cells (av 138 (hF true (tk H s k).ws (tk H s k).rs (tk H s k).ct)) 125⟩] w') s.size ⟨fun _ => undef, 0, s, by omega, (extract_all s).symm, by kernel_rfl, M⟩ ?_
 intro n a u0 hI
 obtain ⟨v, k, rem, hk, hrem, rfl, M⟩ := hI
 have hsz : rem.size = n := by rw [hrem, size_extract]; omega
 obtain ⟨G, hG⟩ : ∃ G, G = tk H s k := ⟨_, rfl⟩
 have hok : G.ok := by rw [hG]; exact tk_ok hH s k
 rw [← hG] at M
 rcases Nat.eq_zero_or_pos n with hn | hn
 ·skip
  refine wp_seq ?_
  refine sR <| pV 6 (.string rem) <| pV 7 (.int .i64 (rem.size : Int)) <| pH 8 (.bool false) (dF ((0 : Int) < (rem.size : Int)) (by omega)) ?_
  refine nT ?_
  refine cF ?_
  refine wp_exit ?_
  refine au_then_exit ?_
  refine au_then_exit ?_
  refine au_block_exit ?_
  have ek : k = s.size := by omega
  rw [hG, ek] at M
  exact bodyPost_end (v := .tuple #[]) (results_none Tryz.results96 _ _) (by kernel_rfl) ⟨rfl, M.old, M.get 0 rfl⟩
 have hp : ∃ p : Nat, G.ct % 128 = (p : Int) ∧ p < 128 := ⟨(G.ct % 128).toNat, by unfold HS.ok at hok; omega, by omega⟩
 obtain ⟨p, hp, hp1⟩ := hp
 obtain ⟨q, hq⟩ : ∃ q, q = Nat.min rem.size (128 - p) := ⟨_, rfl⟩
 have hq1 : q ≤ n := by rw [hq, hsz]; exact Nat.min_le_left _ _
 have hq2 : q ≤ 128 - p := by rw [hq]; exact Nat.min_le_right _ _
 have hq3 : 0 < q := by rw [hq, hsz]; exact Nat.lt_min.2 ⟨hn, by omega⟩
 have hrun := tk_run H hH s k p rem (fun i => by rw [hrem, bt_extract]) (by rw [← hG]; exact hp) q (by omega)
 rw [← hG] at hrun
 obtain ⟨e1, e2, e3⟩ := hrun
 have hct : ua G.ct (cv .u64 (q : Int)) = (tk H s (k + q)).ct := by rw [e2, cv_u64 q (by omega)]
 by_cases hf : p + q = 128
 ·skip
  refine wp_seq ?_
  refine sR <| pV 6 (.string rem) <| pV 7 (.int .i64 (rem.size : Int)) <| pH 8 (.bool true) (dT ((0 : Int) < (rem.size : Int)) (by omega)) ?_
  refine nT ?_
  refine cT ?_
  refine wp_skip ?_
  refine au_then ?_
  refine wp_block ?_
  refine sR <| pV 9 (.pointer (some ⟨g, 0, none⟩)) <| pV 10 (.pointer (some ⟨g, 0, none⟩)) <| pV 11 (.pointer (some ⟨g, 137, none⟩)) ?_
  refine pE M 12 g 137 (.int .u64 G.ct) (fun w M => M.cell 0 rfl (by decide) rfl) ?_
  refine pV 13 (.int .u64 (Int.tmod G.ct 128)) <| pH 14 (.int .i64 (p : Int)) (fun w => Eq.trans (b := .ok (.value (.int .i64 (IntKind.wrap .i64 (Int.tmod G.ct 128)))) w) (by kernel_rfl) (by rw [rem128 G.ct hok.1 p hp])) <| pV 4 (.int .i64 (p : Int)) <| nT ?_
  refine sR <| pV 15 (.pointer (some ⟨g, 0, none⟩)) <| pV 16 (.pointer (some ⟨g, 0, none⟩)) <| pV 17 (.pointer (some ⟨g, 9, none⟩)) ?_
  refine pV 18 (.int .i64 (p : Int)) <| pH 19 (.slice (some ⟨g, (9 + p), none⟩) (128 - p) (128 - p)) (run_slA 123 128 5 Tryz.underlying123 inz5 _ _ rfl g 9 (by kernel_rfl) .i64 p (by kernel_rfl) hp1) <| pV 20 (.string rem) ?_
  refine pl_copyS M (want_no rfl) (some 21) rfl 32 9 3 5 Tryz.underlying32 inz5 0 g 138 125 (hF true G.ws G.rs G.ct) rfl (9 + p) (128 - p) (128 - p) rem q hq (by omega) (hF true G.ws (cpy G.rs p q rem) G.ct) (hF_cpy true G.ws G.rs G.ct p q rem (by omega)) (fun _ => by kernel_rfl) fun u1 M => ?_
  refine pV 5 (.int .i64 (q : Int)) <| nT <| sR <| pV 22 (.pointer (some ⟨g, 0, none⟩)) ?_
  refine pV 23 (.pointer (some ⟨g, 0, none⟩)) <| pV 24 (.pointer (some ⟨g, 137, none⟩)) ?_
  refine pE M 25 g 137 (.int .u64 G.ct) (fun w M => M.cell 0 rfl (by decide) rfl) ?_
  refine pV 26 (.int .i64 (q : Int)) <| pV 27 (.int .u64 (cv .u64 (q : Int))) <| pV 28 (.int .u64 (ua G.ct (cv .u64 (q : Int)))) <| pV 29 (.pointer (some ⟨g, 0, none⟩)) ?_
  refine pV 30 (.pointer (some ⟨g, 137, none⟩)) ?_
  refine pP M 0 rfl 137 (.int .u64 (ua G.ct (cv .u64 (q : Int)))) (hF true G.ws (cpy G.rs p q rem) (ua G.ct (cv .u64 (q : Int)))) (by decide) (hF_putc true G.ws (cpy G.rs p q rem) G.ct (ua G.ct (cv .u64 (q : Int)))) fun u2 M => ?_
  refine nT <| sR <| pV 31 (.string rem) <| pV 32 (.int .i64 (q : Int)) ?_
  refine pH 33 (.string (s.extract (k + q) s.size)) (run_strl 9 Tryz.underlying9 _ _ rfl rem (by kernel_rfl) .i64 q (by kernel_rfl) (by omega) _ (by rw [hrem]; exact extract_extract s k q (by omega))) <| pV 1 (.string (s.extract (k + q) s.size)) <| nT <| sR ?_
  refine pV 34 (.int .i64 (p : Int)) <| pV 35 (.int .i64 (q : Int)) <| pH 36 (.int .i64 ((p + q : Nat) : Int)) (iV ((p : Int) + (q : Int)) (by omega) (by omega) (by omega)) <| pH 37 (.bool true) (dT (((p + q : Nat) : Int) = 128) (by omega)) ?_
  refine nT ?_
  refine cT ?_
  refine rg_tail M 12 (by kernel_rfl) (by kernel_rfl) ?_
  simp only [List.take_succ_cons, List.take_zero]
  refine kV 38 (.pointer (some ⟨g, 0, none⟩)) <| kV 39 (.pointer (some ⟨g, 0, none⟩)) <| kV 40 (.pointer (some ⟨g, 0, none⟩)) <| kV 41 (.pointer (some ⟨g, 1, none⟩)) ?_
  refine kL M 42 0 rfl 1 8 (w64 G.ws) (hF_words true G.ws (cpy G.rs p q rem) (ua G.ct (cv .u64 (q : Int)))) ?_
  refine kV 43 (.pointer (some ⟨g, 0, none⟩)) <| kV 44 (.pointer (some ⟨g, 0, none⟩)) <| kV 45 (.pointer (some ⟨g, 9, none⟩)) ?_
  refine kL M 46 0 rfl 9 128 (w8 (cpy G.rs p q rem)) (hF_rest true G.ws (cpy G.rs p q rem) (ua G.ct (cv .u64 (q : Int)))) ?_
  refine kC M 47 138 #[.agg (av 8 (w64 G.ws)), .agg (av 128 (w8 (cpy G.rs p q rem)))] (.agg (av 8 (w64 (mixV G.ws (cpy G.rs p q rem))))) (fun w M => c_mixed _ _ w M.laid) ?_
  refine kV 48 (.pointer (some ⟨g, 0, none⟩)) <| kV 49 (.pointer (some ⟨g, 1, none⟩)) ?_
  refine kl_nil fun u3 M => ?_
  refine pl_put M (want_no rfl) rfl 95 _ _ rfl 0 g 1 (by kernel_rfl) 138 125 (hF true G.ws (cpy G.rs p q rem) (ua G.ct (cv .u64 (q : Int)))) rfl 8 (w64 (mixV G.ws (cpy G.rs p q rem))) (hF true (mixV G.ws (cpy G.rs p q rem)) (cpy G.rs p q rem) (ua G.ct (cv .u64 (q : Int)))) (by kernel_rfl) inz95 (by decide) (fun _ _ => rfl) (hF_putw true G.ws (cpy G.rs p q rem) (ua G.ct (cv .u64 (q : Int))) (mixV G.ws (cpy G.rs p q rem))) fun u4 M => ?_
  refine pl_nil ?_
  refine au_block ?_
  refine au_then ?_
  have E : hF true (mixV G.ws (cpy G.rs p q rem)) (cpy G.rs p q rem) (ua G.ct (cv .u64 (q : Int))) = hF true (tk H s (k + q)).ws (tk H s (k + q)).rs (tk H s (k + q)).ct := by rw [e1, e3, if_pos ⟨by omega, hf⟩, hct]
  rw [E] at M
  exact ⟨n - q, by omega, fun k_ => ([.int .i64 (p : Int), .int .i64 (q : Int), .string rem, .int .i64 (rem.size : Int), .bool true, .pointer (some ⟨g, 0, none⟩), .pointer (some ⟨g, 0, none⟩), .pointer (some ⟨g, 137, none⟩), .int .u64 G.ct, .int .u64 (Int.tmod G.ct 128), .int .i64 (p : Int), .pointer (some ⟨g, 0, none⟩), .pointer (some ⟨g, 0, none⟩), .pointer (some ⟨g, 9, none⟩), .int .i64 (p : Int), .slice (some ⟨g, (9 + p), none⟩) (128 - p) (128 - p), .string rem, .int .i64 (q : Int), .pointer (some ⟨g, 0, none⟩), .pointer (some ⟨g, 0, none⟩), .pointer (some ⟨g, 137, none⟩), .int .u64 G.ct, .int .i64 (q : Int), .int .u64 (cv .u64 (q : Int)), .int .u64 (ua G.ct (cv .u64 (q : Int))), .pointer (some ⟨g, 0, none⟩), .pointer (some ⟨g, 137, none⟩), .string rem, .int .i64 (q : Int), .string (s.extract (k + q) s.size), .int .i64 (p : Int), .int .i64 (q : Int), .int .i64 ((p + q : Nat) : Int), .bool true, .pointer (some ⟨g, 0, none⟩), .pointer (some ⟨g, 0, none⟩), .pointer (some ⟨g, 0, none⟩), .pointer (some ⟨g, 1, none⟩), .agg (av 8 (w64 G.ws)), .pointer (some ⟨g, 0, none⟩), .pointer (some ⟨g, 0, none⟩), .pointer (some ⟨g, 9, none⟩), .agg (av 128 (w8 (cpy G.rs p q rem))), .agg (av 8 (w64 (mixV G.ws (cpy G.rs p q rem)))), .pointer (some ⟨g, 0, none⟩), .pointer (some ⟨g, 1, none⟩)] : List Value).getD (k_ - 4) undef, k + q, s.extract (k + q) s.size, by omega, rfl, by kernel_rfl, M⟩
 ·skip
  refine wp_seq ?_
  refine sR <| pV 6 (.string rem) <| pV 7 (.int .i64 (rem.size : Int)) <| pH 8 (.bool true) (dT ((0 : Int) < (rem.size : Int)) (by omega)) ?_
  refine nT ?_
  refine cT ?_
  refine wp_skip ?_
  refine au_then ?_
  refine wp_block ?_
  refine sR <| pV 9 (.pointer (some ⟨g, 0, none⟩)) <| pV 10 (.pointer (some ⟨g, 0, none⟩)) <| pV 11 (.pointer (some ⟨g, 137, none⟩)) ?_
  refine pE M 12 g 137 (.int .u64 G.ct) (fun w M => M.cell 0 rfl (by decide) rfl) ?_
  refine pV 13 (.int .u64 (Int.tmod G.ct 128)) <| pH 14 (.int .i64 (p : Int)) (fun w => Eq.trans (b := .ok (.value (.int .i64 (IntKind.wrap .i64 (Int.tmod G.ct 128)))) w) (by kernel_rfl) (by rw [rem128 G.ct hok.1 p hp])) <| pV 4 (.int .i64 (p : Int)) <| nT ?_
  refine sR <| pV 15 (.pointer (some ⟨g, 0, none⟩)) <| pV 16 (.pointer (some ⟨g, 0, none⟩)) <| pV 17 (.pointer (some ⟨g, 9, none⟩)) ?_
  refine pV 18 (.int .i64 (p : Int)) <| pH 19 (.slice (some ⟨g, (9 + p), none⟩) (128 - p) (128 - p)) (run_slA 123 128 5 Tryz.underlying123 inz5 _ _ rfl g 9 (by kernel_rfl) .i64 p (by kernel_rfl) hp1) <| pV 20 (.string rem) ?_
  refine pl_copyS M (want_no rfl) (some 21) rfl 32 9 3 5 Tryz.underlying32 inz5 0 g 138 125 (hF true G.ws G.rs G.ct) rfl (9 + p) (128 - p) (128 - p) rem q hq (by omega) (hF true G.ws (cpy G.rs p q rem) G.ct) (hF_cpy true G.ws G.rs G.ct p q rem (by omega)) (fun _ => by kernel_rfl) fun u5 M => ?_
  refine pV 5 (.int .i64 (q : Int)) <| nT <| sR <| pV 22 (.pointer (some ⟨g, 0, none⟩)) ?_
  refine pV 23 (.pointer (some ⟨g, 0, none⟩)) <| pV 24 (.pointer (some ⟨g, 137, none⟩)) ?_
  refine pE M 25 g 137 (.int .u64 G.ct) (fun w M => M.cell 0 rfl (by decide) rfl) ?_
  refine pV 26 (.int .i64 (q : Int)) <| pV 27 (.int .u64 (cv .u64 (q : Int))) <| pV 28 (.int .u64 (ua G.ct (cv .u64 (q : Int)))) <| pV 29 (.pointer (some ⟨g, 0, none⟩)) ?_
  refine pV 30 (.pointer (some ⟨g, 137, none⟩)) ?_
  refine pP M 0 rfl 137 (.int .u64 (ua G.ct (cv .u64 (q : Int)))) (hF true G.ws (cpy G.rs p q rem) (ua G.ct (cv .u64 (q : Int)))) (by decide) (hF_putc true G.ws (cpy G.rs p q rem) G.ct (ua G.ct (cv .u64 (q : Int)))) fun u6 M => ?_
  refine nT <| sR <| pV 31 (.string rem) <| pV 32 (.int .i64 (q : Int)) ?_
  refine pH 33 (.string (s.extract (k + q) s.size)) (run_strl 9 Tryz.underlying9 _ _ rfl rem (by kernel_rfl) .i64 q (by kernel_rfl) (by omega) _ (by rw [hrem]; exact extract_extract s k q (by omega))) <| pV 1 (.string (s.extract (k + q) s.size)) <| nT <| sR ?_
  refine pV 34 (.int .i64 (p : Int)) <| pV 35 (.int .i64 (q : Int)) <| pH 36 (.int .i64 ((p + q : Nat) : Int)) (iV ((p : Int) + (q : Int)) (by omega) (by omega) (by omega)) <| pH 37 (.bool false) (dF (((p + q : Nat) : Int) = 128) (by omega)) ?_
  refine nT ?_
  refine cF ?_
  refine wp_skip ?_
  refine au_block ?_
  refine au_then ?_
  have E : hF true G.ws (cpy G.rs p q rem) (ua G.ct (cv .u64 (q : Int))) = hF true (tk H s (k + q)).ws (tk H s (k + q)).rs (tk H s (k + q)).ct := by rw [e1, e3, if_neg (fun h => hf h.2), hct]
  rw [E] at M
  exact ⟨n - q, by omega, fun k_ => ([.int .i64 (p : Int), .int .i64 (q : Int), .string rem, .int .i64 (rem.size : Int), .bool true, .pointer (some ⟨g, 0, none⟩), .pointer (some ⟨g, 0, none⟩), .pointer (some ⟨g, 137, none⟩), .int .u64 G.ct, .int .u64 (Int.tmod G.ct 128), .int .i64 (p : Int), .pointer (some ⟨g, 0, none⟩), .pointer (some ⟨g, 0, none⟩), .pointer (some ⟨g, 9, none⟩), .int .i64 (p : Int), .slice (some ⟨g, (9 + p), none⟩) (128 - p) (128 - p), .string rem, .int .i64 (q : Int), .pointer (some ⟨g, 0, none⟩), .pointer (some ⟨g, 0, none⟩), .pointer (some ⟨g, 137, none⟩), .int .u64 G.ct, .int .i64 (q : Int), .int .u64 (cv .u64 (q : Int)), .int .u64 (ua G.ct (cv .u64 (q : Int))), .pointer (some ⟨g, 0, none⟩), .pointer (some ⟨g, 137, none⟩), .string rem, .int .i64 (q : Int), .string (s.extract (k + q) s.size), .int .i64 (p : Int), .int .i64 (q : Int), .int .i64 ((p + q : Nat) : Int), .bool false, v 38, v 39, v 40, v 41, v 42, v 43, v 44, v 45, v 46, v 47, v 48, v 49] : List Value).getD (k_ - 4) undef, k + q, s.extract (k + q) s.size, by omega, rfl, by kernel_rfl, M⟩
def hV (f : Nat → Int) : Nat → List Value
 | 0 => []
 | j + 1 => hV f j ++ [.int .u8 (cv .u8 (sr (f j) 56))] ++ [.int .u8 (cv .u8 (sr (f j) 48))] ++ [.int .u8 (cv .u8 (sr (f j) 40))] ++ [.int .u8 (cv .u8 (sr (f j) 32))] ++ [.int .u8 (cv .u8 (sr (f j) 24))] ++ [.int .u8 (cv .u8 (sr (f j) 16))] ++ [.int .u8 (cv .u8 (sr (f j) 8))] ++ [.int .u8 (cv .u8 (sr (f j) 0))]
def hI (f : Nat → Int) : Nat → List Int
 | 0 => []
 | j + 1 => hI f j ++ [cv .u8 (sr (f j) 56), cv .u8 (sr (f j) 48), cv .u8 (sr (f j) 40), cv .u8 (sr (f j) 32), cv .u8 (sr (f j) 24), cv .u8 (sr (f j) 16), cv .u8 (sr (f j) 8), cv .u8 (sr (f j) 0)]
theorem hV_eq (f : Nat → Int) : ∀ j, hV f j = vs8 (hI f j)
 | 0 => rfl
 | j + 1 => by
  unfold hV hI
  rw [hV_eq f j]
  unfold vs8
  simp
theorem hI_length (f : Nat → Int) : ∀ j, (hI f j).length = 8 * j
 | 0 => rfl
 | j + 1 => by
  unfold hI
  rw [List.length_append, hI_length f j]
  simp
  omega
theorem hV_length (f : Nat → Int) (j : Nat) : (hV f j).length = 8 * j := by rw [hV_eq, vs8_length, hI_length]
theorem cv8_nn (x : Int) : 0 ≤ cv .u8 x ∧ cv .u8 x < 256 := by
 unfold cv
 simp [IntKind.wrap, IntKind.signed, IntKind.bits]
 omega
theorem hI_nn (f : Nat → Int) : ∀ j, ∀ x ∈ hI f j, 0 ≤ x ∧ x < 256
 | 0, x, h => by simp [hI] at h
 | j + 1, x, h => by
  unfold hI at h
  rcases List.mem_append.1 h with h | h
  ·exact hI_nn f j x h
  ·simp only [List.mem_cons, List.not_mem_nil, or_false] at h
   rcases h with rfl | rfl | rfl | rfl | rfl | rfl | rfl | rfl <;> exact cv8_nn _
theorem run_ixL {P : Program} {a : Act} {o : Oper} (t elem : TypeId) (hu : P.underlying t = some (.slice elem)) (hs : (P.info? elem).map (·.size) = some 1) (x ix : Operand) (ho : o.op = .indexAddr t x ix) (g off len cap : Nat) (hx : a.eval x = .slice (some ⟨g, off, none⟩) len cap) (k : IntKind) (i : Nat) (hi : a.eval ix = .int k (i : Int)) (hlt : i < len) (w : World) :
  (execOp a.eval o).run P w = .ok (.value (.pointer (some ⟨g, off + i, none⟩))) w := by
 cases hq : P.info? elem with
 | none => simp [hq] at hs
 | some u =>
  have hsz : u.size = 1 := by simpa [hq] using hs
  unfold execOp
  simp [ho, hx, hi, Instr.indexAt, asIntOf, run_underlying hu, sizeOf, typeInfo, hq, hsz, add_at, hlt]
theorem info5_ex : (Tryz.prog.info? 5).isSome = true := by kernel_rfl
theorem info5_eq : Tryz.prog.info? 5 = some ((Tryz.prog.info? 5).get info5_ex) := (Option.some_get info5_ex).symm
theorem info5_z : ((Tryz.prog.info? 5).get info5_ex).zero = some (.int .u8 0) := by kernel_rfl
theorem c_high (g off n cap : Nat) (f : Nat → Int) (hn : n ≤ 8) (w : World) (hL : Laid w) (hc : ∀ i, i < n → w.cell? ⟨g, off + i, none⟩ = some (.int .u64 (f i))) :
  Cs 102 #[.slice (some ⟨g, off, none⟩) n cap] w (.string (bs (hI f n))) := by
 go_enter Tryz.func102, Tryz.ntmps102
 have M := Mem.start hL
 refine sR <| pV 2 (.string ⟨#[]⟩) <| nT <| sR ?_
 refine pV 7 (.slice (some ⟨g, off, none⟩) n cap) <| pV 8 (.int .i64 (n : Int)) <| pH 9 (.int .i64 ((8 * n : Nat) : Int)) (iV (8 * (n : Int)) (by omega) (by omega) (by omega)) ?_
 refine pl_make M (want_no rfl) (some 10) rfl 32 5 _ (.int .u8 0) Tryz.underlying32 info5_eq info5_z (by kernel_rfl) (by decide +kernel) _ _ rfl .i64 .i64 (by kernel_rfl) (8 * n) (by kernel_rfl) (by omega) ?_
 intro g1 Zg1 u1 hZ M
 refine pV 3 (.slice (some ⟨g1, 0, none⟩) 0 (8 * n)) <| nT ?_
 refine wp_seq ?_
 refine sR <| pV 11 (.slice (some ⟨g, off, none⟩) n cap) <| pV 12 (.int .i64 (n : Int)) <| pV 13 (.int .i64 0) ?_
 refine nT ?_
 refine wp_block ?_
 refine au_loop (fun j a w' => ∃ (v : Nat → Value) (Z : Obj), a = ⟨#[.slice (some ⟨g, off, none⟩) n cap, undef, .string ⟨#[]⟩, .slice (some ⟨g1, 0, none⟩) (8 * j) (8 * n), undef, v 5, v 6, .slice (some ⟨g, off, none⟩) n cap, .int .i64 (n : Int), .int .i64 ((8 * n : Nat) : Int), .slice (some ⟨g1, 0, none⟩) 0 (8 * n), .slice (some ⟨g, off, none⟩) n cap, .int .i64 (n : Int), .int .i64 (j : Int), v 14, v 15, v 16, v 17, v 18, v 19, v 20, v 21, v 22, v 23, v 24, v 25, v 26, v 27, v 28, undef, undef], []⟩ ∧ SB Z (8 * n) (hV f j) ∧ Mem ⟨w, []⟩ [⟨g1, Z⟩] w') n ⟨fun _ => undef, Zg1, by kernel_rfl, hZ, M⟩ ?_ ?_
 ·intro j a u0 hj hI
  obtain ⟨v, Z, rfl, hZ, M⟩ := hI
  refine sR <| pH 14 (.bool true) (dT ((j : Int) < (n : Int)) (by omega)) <| nT ?_
  refine wp_seq ?_
  refine cT ?_
  refine wp_skip ?_
  refine au_then ?_
  refine wp_seq ?_
  refine wp_block ?_
  refine sR <| pH 15 (.pointer (some ⟨g, off + j, none⟩)) (run_ixL 127 34 Tryz.underlying127 inz34 _ _ rfl g off n cap (by kernel_rfl) .i64 j (by kernel_rfl) hj) ?_
  refine pE M 16 g (off + j) (.int .u64 (f j)) (fun w M => M.oldc (hc j hj) (by simp)) ?_
  refine pV 5 (.int .u64 (f j)) <| nT <| sR <| pV 6 (.int .i64 56) ?_
  refine nT ?_
  refine wp_block ?_
  refine wp_loop_rounds 9 ?_
  refine rounds_go ?_
  refine wp_seq ?_
  refine sR <| pV 17 (.int .i64 56) <| pV 18 (.bool true) <| nT ?_
  refine cT ?_
  refine wp_skip ?_
  refine au_then ?_
  refine wp_seq ?_
  refine wp_block ?_
  refine rg_lit ?_
  refine pV 21 (.slice (some ⟨g1, 0, none⟩) (8 * j) (8 * n)) <| pV 22 (.int .u64 (f j)) <| pV 23 (.int .i64 56) <| pV 24 (.int .u64 (sr (f j) 56)) ?_
  refine pV 25 (.int .u8 (cv .u8 (sr (f j) 56))) ?_
  refine pl_mk M (want_no rfl) (some 26) rfl (fun g2 => .slice (some ⟨g2, 0, none⟩) 1 1) (.cells (av 1 (fun _ => .int .u8 (cv .u8 (sr (f j) 56)))) 5) (fun _ => by kernel_rfl) fun g2 u2 M => ?_
  refine pl_appR M (want_no rfl) (some 27) rfl 32 41 5 Tryz.underlying32 inz5 0 g1 ((8 * j)) (8 * n) Z (hV f j) rfl hZ (by simp [hV_length]) (by omega) 1 g2 5 (.int .u8 (cv .u8 (sr (f j) 56))) rfl rfl (fun _ => by kernel_rfl) ?_
  intro Y1 u3 hY1 M
  refine pV 3 (.slice (some ⟨g1, 0, none⟩) ((8 * j) + 1) (8 * n)) ?_
  refine pl_nil ?_
  refine au_block ?_
  refine au_then ?_
  refine rg_lit ?_
  refine pV 19 (.int .i64 56) <| pV 20 (.int .i64 48) <| pV 6 (.int .i64 48) <| nT ?_
  refine rounds_go ?_
  refine wp_seq ?_
  refine sR <| pV 17 (.int .i64 48) <| pV 18 (.bool true) <| nT ?_
  refine cT ?_
  refine wp_skip ?_
  refine au_then ?_
  refine wp_seq ?_
  refine wp_block ?_
  refine rg_lit ?_
  refine pV 21 (.slice (some ⟨g1, 0, none⟩) ((8 * j) + 1) (8 * n)) <| pV 22 (.int .u64 (f j)) <| pV 23 (.int .i64 48) <| pV 24 (.int .u64 (sr (f j) 48)) ?_
  refine pV 25 (.int .u8 (cv .u8 (sr (f j) 48))) ?_
  refine pl_mk M (want_no rfl) (some 26) rfl (fun g3 => .slice (some ⟨g3, 0, none⟩) 1 1) (.cells (av 1 (fun _ => .int .u8 (cv .u8 (sr (f j) 48)))) 5) (fun _ => by kernel_rfl) fun g3 u4 M => ?_
  refine pl_appR M (want_no rfl) (some 27) rfl 32 41 5 Tryz.underlying32 inz5 0 g1 (((8 * j) + 1)) (8 * n) Y1 (hV f j ++ [.int .u8 (cv .u8 (sr (f j) 56))]) rfl hY1 (by simp [hV_length]) (by omega) 2 g3 5 (.int .u8 (cv .u8 (sr (f j) 48))) rfl rfl (fun _ => by kernel_rfl) ?_
  intro Y2 u5 hY2 M
  refine pV 3 (.slice (some ⟨g1, 0, none⟩) (((8 * j) + 1) + 1) (8 * n)) ?_
  refine pl_nil ?_
  refine au_block ?_
  refine au_then ?_
  refine rg_lit ?_
  refine pV 19 (.int .i64 48) <| pV 20 (.int .i64 40) <| pV 6 (.int .i64 40) <| nT ?_
  refine rounds_go ?_
  refine wp_seq ?_
  refine sR <| pV 17 (.int .i64 40) <| pV 18 (.bool true) <| nT ?_
  refine cT ?_
  refine wp_skip ?_
  refine au_then ?_
  refine wp_seq ?_
  refine wp_block ?_
  refine rg_lit ?_
  refine pV 21 (.slice (some ⟨g1, 0, none⟩) (((8 * j) + 1) + 1) (8 * n)) <| pV 22 (.int .u64 (f j)) <| pV 23 (.int .i64 40) <| pV 24 (.int .u64 (sr (f j) 40)) ?_
  refine pV 25 (.int .u8 (cv .u8 (sr (f j) 40))) ?_
  refine pl_mk M (want_no rfl) (some 26) rfl (fun g4 => .slice (some ⟨g4, 0, none⟩) 1 1) (.cells (av 1 (fun _ => .int .u8 (cv .u8 (sr (f j) 40)))) 5) (fun _ => by kernel_rfl) fun g4 u6 M => ?_
  refine pl_appR M (want_no rfl) (some 27) rfl 32 41 5 Tryz.underlying32 inz5 0 g1 ((((8 * j) + 1) + 1)) (8 * n) Y2 (hV f j ++ [.int .u8 (cv .u8 (sr (f j) 56))] ++ [.int .u8 (cv .u8 (sr (f j) 48))]) rfl hY2 (by simp [hV_length]) (by omega) 3 g4 5 (.int .u8 (cv .u8 (sr (f j) 40))) rfl rfl (fun _ => by kernel_rfl) ?_
  intro Y3 u7 hY3 M
  refine pV 3 (.slice (some ⟨g1, 0, none⟩) ((((8 * j) + 1) + 1) + 1) (8 * n)) ?_
  refine pl_nil ?_
  refine au_block ?_
  refine au_then ?_
  refine rg_lit ?_
  refine pV 19 (.int .i64 40) <| pV 20 (.int .i64 32) <| pV 6 (.int .i64 32) <| nT ?_
  refine rounds_go ?_
  refine wp_seq ?_
  refine sR <| pV 17 (.int .i64 32) <| pV 18 (.bool true) <| nT ?_
  refine cT ?_
  refine wp_skip ?_
  refine au_then ?_
  refine wp_seq ?_
  refine wp_block ?_
  refine rg_lit ?_
  refine pV 21 (.slice (some ⟨g1, 0, none⟩) ((((8 * j) + 1) + 1) + 1) (8 * n)) <| pV 22 (.int .u64 (f j)) <| pV 23 (.int .i64 32) <| pV 24 (.int .u64 (sr (f j) 32)) ?_
  refine pV 25 (.int .u8 (cv .u8 (sr (f j) 32))) ?_
  refine pl_mk M (want_no rfl) (some 26) rfl (fun g5 => .slice (some ⟨g5, 0, none⟩) 1 1) (.cells (av 1 (fun _ => .int .u8 (cv .u8 (sr (f j) 32)))) 5) (fun _ => by kernel_rfl) fun g5 u8 M => ?_
  refine pl_appR M (want_no rfl) (some 27) rfl 32 41 5 Tryz.underlying32 inz5 0 g1 (((((8 * j) + 1) + 1) + 1)) (8 * n) Y3 (hV f j ++ [.int .u8 (cv .u8 (sr (f j) 56))] ++ [.int .u8 (cv .u8 (sr (f j) 48))] ++ [.int .u8 (cv .u8 (sr (f j) 40))]) rfl hY3 (by simp [hV_length]) (by omega) 4 g5 5 (.int .u8 (cv .u8 (sr (f j) 32))) rfl rfl (fun _ => by kernel_rfl) ?_
  intro Y4 u9 hY4 M
  refine pV 3 (.slice (some ⟨g1, 0, none⟩) (((((8 * j) + 1) + 1) + 1) + 1) (8 * n)) ?_
  refine pl_nil ?_
  refine au_block ?_
  refine au_then ?_
  refine rg_lit ?_
  refine pV 19 (.int .i64 32) <| pV 20 (.int .i64 24) <| pV 6 (.int .i64 24) <| nT ?_
  refine rounds_go ?_
  refine wp_seq ?_
  refine sR <| pV 17 (.int .i64 24) <| pV 18 (.bool true) <| nT ?_
  refine cT ?_
  refine wp_skip ?_
  refine au_then ?_
  refine wp_seq ?_
  refine wp_block ?_
  refine rg_lit ?_
  refine pV 21 (.slice (some ⟨g1, 0, none⟩) (((((8 * j) + 1) + 1) + 1) + 1) (8 * n)) <| pV 22 (.int .u64 (f j)) <| pV 23 (.int .i64 24) <| pV 24 (.int .u64 (sr (f j) 24)) ?_
  refine pV 25 (.int .u8 (cv .u8 (sr (f j) 24))) ?_
  refine pl_mk M (want_no rfl) (some 26) rfl (fun g6 => .slice (some ⟨g6, 0, none⟩) 1 1) (.cells (av 1 (fun _ => .int .u8 (cv .u8 (sr (f j) 24)))) 5) (fun _ => by kernel_rfl) fun g6 u10 M => ?_
  refine pl_appR M (want_no rfl) (some 27) rfl 32 41 5 Tryz.underlying32 inz5 0 g1 ((((((8 * j) + 1) + 1) + 1) + 1)) (8 * n) Y4 (hV f j ++ [.int .u8 (cv .u8 (sr (f j) 56))] ++ [.int .u8 (cv .u8 (sr (f j) 48))] ++ [.int .u8 (cv .u8 (sr (f j) 40))] ++ [.int .u8 (cv .u8 (sr (f j) 32))]) rfl hY4 (by simp [hV_length]) (by omega) 5 g6 5 (.int .u8 (cv .u8 (sr (f j) 24))) rfl rfl (fun _ => by kernel_rfl) ?_
  intro Y5 u11 hY5 M
  refine pV 3 (.slice (some ⟨g1, 0, none⟩) ((((((8 * j) + 1) + 1) + 1) + 1) + 1) (8 * n)) ?_
  refine pl_nil ?_
  refine au_block ?_
  refine au_then ?_
  refine rg_lit ?_
  refine pV 19 (.int .i64 24) <| pV 20 (.int .i64 16) <| pV 6 (.int .i64 16) <| nT ?_
  refine rounds_go ?_
  refine wp_seq ?_
  refine sR <| pV 17 (.int .i64 16) <| pV 18 (.bool true) <| nT ?_
  refine cT ?_
  refine wp_skip ?_
  refine au_then ?_
  refine wp_seq ?_
  refine wp_block ?_
  refine rg_lit ?_
  refine pV 21 (.slice (some ⟨g1, 0, none⟩) ((((((8 * j) + 1) + 1) + 1) + 1) + 1) (8 * n)) <| pV 22 (.int .u64 (f j)) <| pV 23 (.int .i64 16) <| pV 24 (.int .u64 (sr (f j) 16)) ?_
  refine pV 25 (.int .u8 (cv .u8 (sr (f j) 16))) ?_
  refine pl_mk M (want_no rfl) (some 26) rfl (fun g7 => .slice (some ⟨g7, 0, none⟩) 1 1) (.cells (av 1 (fun _ => .int .u8 (cv .u8 (sr (f j) 16)))) 5) (fun _ => by kernel_rfl) fun g7 u12 M => ?_
  refine pl_appR M (want_no rfl) (some 27) rfl 32 41 5 Tryz.underlying32 inz5 0 g1 (((((((8 * j) + 1) + 1) + 1) + 1) + 1)) (8 * n) Y5 (hV f j ++ [.int .u8 (cv .u8 (sr (f j) 56))] ++ [.int .u8 (cv .u8 (sr (f j) 48))] ++ [.int .u8 (cv .u8 (sr (f j) 40))] ++ [.int .u8 (cv .u8 (sr (f j) 32))] ++ [.int .u8 (cv .u8 (sr (f j) 24))]) rfl hY5 (by simp [hV_length]) (by omega) 6 g7 5 (.int .u8 (cv .u8 (sr (f j) 16))) rfl rfl (fun _ => by kernel_rfl) ?_
  intro Y6 u13 hY6 M
  refine pV 3 (.slice (some ⟨g1, 0, none⟩) (((((((8 * j) + 1) + 1) + 1) + 1) + 1) + 1) (8 * n)) ?_
  refine pl_nil ?_
  refine au_block ?_
  refine au_then ?_
  refine rg_lit ?_
  refine pV 19 (.int .i64 16) <| pV 20 (.int .i64 8) <| pV 6 (.int .i64 8) <| nT ?_
  refine rounds_go ?_
  refine wp_seq ?_
  refine sR <| pV 17 (.int .i64 8) <| pV 18 (.bool true) <| nT ?_
  refine cT ?_
  refine wp_skip ?_
  refine au_then ?_
  refine wp_seq ?_
  refine wp_block ?_
  refine rg_lit ?_
  refine pV 21 (.slice (some ⟨g1, 0, none⟩) (((((((8 * j) + 1) + 1) + 1) + 1) + 1) + 1) (8 * n)) <| pV 22 (.int .u64 (f j)) <| pV 23 (.int .i64 8) <| pV 24 (.int .u64 (sr (f j) 8)) ?_
  refine pV 25 (.int .u8 (cv .u8 (sr (f j) 8))) ?_
  refine pl_mk M (want_no rfl) (some 26) rfl (fun g8 => .slice (some ⟨g8, 0, none⟩) 1 1) (.cells (av 1 (fun _ => .int .u8 (cv .u8 (sr (f j) 8)))) 5) (fun _ => by kernel_rfl) fun g8 u14 M => ?_
  refine pl_appR M (want_no rfl) (some 27) rfl 32 41 5 Tryz.underlying32 inz5 0 g1 ((((((((8 * j) + 1) + 1) + 1) + 1) + 1) + 1)) (8 * n) Y6 (hV f j ++ [.int .u8 (cv .u8 (sr (f j) 56))] ++ [.int .u8 (cv .u8 (sr (f j) 48))] ++ [.int .u8 (cv .u8 (sr (f j) 40))] ++ [.int .u8 (cv .u8 (sr (f j) 32))] ++ [.int .u8 (cv .u8 (sr (f j) 24))] ++ [.int .u8 (cv .u8 (sr (f j) 16))]) rfl hY6 (by simp [hV_length]) (by omega) 7 g8 5 (.int .u8 (cv .u8 (sr (f j) 8))) rfl rfl (fun _ => by kernel_rfl) ?_
  intro Y7 u15 hY7 M
  refine pV 3 (.slice (some ⟨g1, 0, none⟩) ((((((((8 * j) + 1) + 1) + 1) + 1) + 1) + 1) + 1) (8 * n)) ?_
  refine pl_nil ?_
  refine au_block ?_
  refine au_then ?_
  refine rg_lit ?_
  refine pV 19 (.int .i64 8) <| pV 20 (.int .i64 0) <| pV 6 (.int .i64 0) <| nT ?_
  refine rounds_go ?_
  refine wp_seq ?_
  refine sR <| pV 17 (.int .i64 0) <| pV 18 (.bool true) <| nT ?_
  refine cT ?_
  refine wp_skip ?_
  refine au_then ?_
  refine wp_seq ?_
  refine wp_block ?_
  refine rg_lit ?_
  refine pV 21 (.slice (some ⟨g1, 0, none⟩) ((((((((8 * j) + 1) + 1) + 1) + 1) + 1) + 1) + 1) (8 * n)) <| pV 22 (.int .u64 (f j)) <| pV 23 (.int .i64 0) <| pV 24 (.int .u64 (sr (f j) 0)) ?_
  refine pV 25 (.int .u8 (cv .u8 (sr (f j) 0))) ?_
  refine pl_mk M (want_no rfl) (some 26) rfl (fun g9 => .slice (some ⟨g9, 0, none⟩) 1 1) (.cells (av 1 (fun _ => .int .u8 (cv .u8 (sr (f j) 0)))) 5) (fun _ => by kernel_rfl) fun g9 u16 M => ?_
  refine pl_appR M (want_no rfl) (some 27) rfl 32 41 5 Tryz.underlying32 inz5 0 g1 (((((((((8 * j) + 1) + 1) + 1) + 1) + 1) + 1) + 1)) (8 * n) Y7 (hV f j ++ [.int .u8 (cv .u8 (sr (f j) 56))] ++ [.int .u8 (cv .u8 (sr (f j) 48))] ++ [.int .u8 (cv .u8 (sr (f j) 40))] ++ [.int .u8 (cv .u8 (sr (f j) 32))] ++ [.int .u8 (cv .u8 (sr (f j) 24))] ++ [.int .u8 (cv .u8 (sr (f j) 16))] ++ [.int .u8 (cv .u8 (sr (f j) 8))]) rfl hY7 (by simp [hV_length]) (by omega) 8 g9 5 (.int .u8 (cv .u8 (sr (f j) 0))) rfl rfl (fun _ => by kernel_rfl) ?_
  intro Y8 u17 hY8 M
  refine pV 3 (.slice (some ⟨g1, 0, none⟩) (((((((((8 * j) + 1) + 1) + 1) + 1) + 1) + 1) + 1) + 1) (8 * n)) ?_
  refine pl_nil ?_
  refine au_block ?_
  refine au_then ?_
  refine rg_lit ?_
  refine pV 19 (.int .i64 0) <| pV 20 (.int .i64 (-8)) <| pV 6 (.int .i64 (-8)) <| nT ?_
  refine rounds_go ?_
  refine wp_seq ?_
  refine sR <| pV 17 (.int .i64 (-8)) <| pV 18 (.bool false) <| nT ?_
  refine cF ?_
  refine wp_exit ?_
  refine au_then_exit ?_
  refine au_then_exit ?_
  refine au_block_exit ?_
  refine au_block ?_
  refine au_then ?_
  refine rg_lit ?_
  refine pH 28 (.int .i64 ((j + 1 : Nat) : Int)) (iV ((j : Int) + 1) (by omega) (by omega) (by omega)) <| pV 13 (.int .i64 ((j + 1 : Nat) : Int)) <| nT ?_
  exact ⟨fun k_ => ([.int .u64 (f j), .int .i64 (-8), undef, undef, undef, undef, undef, undef, undef, .bool true, .pointer (some ⟨g, off + j, none⟩), .int .u64 (f j), .int .i64 (-8), .bool false, .int .i64 0, .int .i64 (-8), .slice (some ⟨g1, 0, none⟩) ((((((((8 * j) + 1) + 1) + 1) + 1) + 1) + 1) + 1) (8 * n), .int .u64 (f j), .int .i64 0, .int .u64 (sr (f j) 0), .int .u8 (cv .u8 (sr (f j) 0)), .slice (some ⟨g9, 0, none⟩) 1 1, .slice (some ⟨g1, 0, none⟩) (((((((((8 * j) + 1) + 1) + 1) + 1) + 1) + 1) + 1) + 1) (8 * n), .int .i64 ((j + 1 : Nat) : Int)] : List Value).getD (k_ - 5) undef, Y8, by kernel_rfl, hY8, M.drop (.cons_cons _ (.cons _ (.cons _ (.cons _ (.cons _ (.cons _ (.cons _ (.cons _ (.cons _ (.slnil))))))))))⟩
 ·intro a u0 hI
  obtain ⟨v, Z, rfl, hZ, M⟩ := hI
  refine sR <| pH 14 (.bool false) (dF ((n : Int) < (n : Int)) (by omega)) <| nT ?_
  refine wp_seq ?_
  refine cF ?_
  refine wp_exit ?_
  refine au_then_exit ?_
  refine au_then_exit ?_
  refine au_block_exit ?_
  refine au_then ?_
  refine sR <| pV 29 (.slice (some ⟨g1, 0, none⟩) (8 * n) (8 * n)) ?_
  rw [hV_eq] at hZ
  refine pl_back M (want_no rfl) (some 30) rfl _ rfl 0 g1 ((8 * n)) (8 * n) (by kernel_rfl) Z rfl (hI f n) (8 * n) hZ (hI_length f n) (hI_nn f n) ?_
  refine pV 2 (.string (bs (hI f n))) <| nT ?_
  refine wp_ret ?_
  exact bodyPost_ret (v := .string (bs (hI f n))) (results_tmp1 Tryz.results102 _ _ _ (by kernel_rfl)) (by kernel_rfl) ⟨rfl, below_grown M.old⟩
end Go.Proofs.YtmhfmhmpoobmlaaGreatDoor.Sha

namespace Go.Proofs.YtmhfmhmpoobmlaaGreatDoor.Sha
open Go.Shelf Go.RowKit
def repRen : Go.Shelf.Ren := ⟨fun | 105 => 57 | 212 => 103 | 99 => 104 | 165 => 105 | 166 => 106 | 170 => 107 | 169 => 108 | 263 => 139 | 264 => 140 | 206 => 141 | 240 => 142 | 241 => 143 | 276 => 147 | 277 => 148 | n => n, fun | 9 => 9 | 3 => 3 | 4 => 4 | 20 => 20 | 0 => 0 | 46 => 39 | 109 => 128 | 5 => 5 | 72 => 132 | 76 => 136 | 51 => 113 | 146 => 162 | 53 => 34 | 148 => 150 | 70 => 130 | 37 => 32 | 75 => 135 | 127 => 165 | 164 => 168 | 80 => 40 | n => n, fun | n => n⟩
theorem repLays : Go.Proofs.Lays.n105 Tryz.prog repRen := {
 mixed := by kernel_rfl
 f99 := Tryz.func104.trans (congrArg some (by kernel_rfl))
 f105 := Tryz.func57.trans (congrArg some (by kernel_rfl))
 f165 := Tryz.func105.trans (congrArg some (by kernel_rfl))
 f166 := Tryz.func106.trans (congrArg some (by kernel_rfl))
 f169 := Tryz.func108.trans (congrArg some (by kernel_rfl))
 f170 := Tryz.func107.trans (congrArg some (by kernel_rfl))
 f206 := Tryz.func141.trans (congrArg some (by kernel_rfl))
 f212 := Tryz.func103.trans (congrArg some (by kernel_rfl))
 f240 := Tryz.func142.trans (congrArg some (by kernel_rfl))
 f241 := Tryz.func143.trans (congrArg some (by kernel_rfl))
 f263 := Tryz.func139.trans (congrArg some (by kernel_rfl))
 f264 := Tryz.func140.trans (congrArg some (by kernel_rfl))
 f276 := Tryz.func147.trans (congrArg some (by kernel_rfl))
 f277 := Tryz.func148.trans (congrArg some (by kernel_rfl))
 t0 := Tryz.underlying0
 a0 := Tryz.isAgg0
 z0 := Tryz.sizeOf0
 v0 := Tryz.zeroValue0
 t3 := Tryz.underlying3
 a3 := Tryz.isAgg3
 z3 := Tryz.sizeOf3
 v3 := Tryz.zeroValue3
 t4 := Tryz.underlying4
 a4 := Tryz.isAgg4
 z4 := Tryz.sizeOf4
 v4 := Tryz.zeroValue4
 t5 := Tryz.underlying5
 a5 := Tryz.isAgg5
 z5 := Tryz.sizeOf5
 v5 := Tryz.zeroValue5
 t9 := Tryz.underlying9
 a9 := Tryz.isAgg9
 z9 := Tryz.sizeOf9
 v9 := Tryz.zeroValue9
 t20 := Tryz.underlying20
 a20 := Tryz.isAgg20
 z20 := Tryz.sizeOf20
 v20 := Tryz.zeroValue20
 t37 := Tryz.underlying32
 a37 := Tryz.isAgg32
 z37 := Tryz.sizeOf32
 v37 := Tryz.zeroValue32
 t46 := Tryz.underlying39
 a46 := Tryz.isAgg39
 z46 := Tryz.sizeOf39
 v46 := Tryz.zeroValue39
 t51 := Tryz.underlying113
 a51 := Tryz.isAgg113
 z51 := Tryz.sizeOf113
 v51 := Tryz.zeroValue113
 t53 := Tryz.underlying34
 a53 := Tryz.isAgg34
 z53 := Tryz.sizeOf34
 v53 := Tryz.zeroValue34
 t70 := Tryz.underlying130
 a70 := Tryz.isAgg130
 z70 := Tryz.sizeOf130
 v70 := Tryz.zeroValue130
 t72 := Tryz.underlying132
 a72 := Tryz.isAgg132
 z72 := Tryz.sizeOf132
 v72 := Tryz.zeroValue132
 t75 := Tryz.underlying135
 a75 := Tryz.isAgg135
 z75 := Tryz.sizeOf135
 v75 := Tryz.zeroValue135
 t76 := Tryz.underlying136
 a76 := Tryz.isAgg136
 z76 := Tryz.sizeOf136
 v76 := Tryz.zeroValue136
 t109 := Tryz.underlying128
 a109 := Tryz.isAgg128
 z109 := Tryz.sizeOf128
 v109 := Tryz.zeroValue128
 t127 := Tryz.underlying165
 a127 := Tryz.isAgg165
 z127 := Tryz.sizeOf165
 v127 := Tryz.zeroValue165
 t146 := Tryz.underlying162
 a146 := Tryz.isAgg162
 z146 := Tryz.sizeOf162
 v146 := Tryz.zeroValue162
 t148 := Tryz.underlying150
 a148 := Tryz.isAgg150
 z148 := Tryz.sizeOf150
 v148 := Tryz.zeroValue150
 t164 := Tryz.underlying168
 a164 := Tryz.isAgg168
 z164 := Tryz.sizeOf168
 v164 := Tryz.zeroValue168 }
theorem repExtra : Builder.Extra Tryz.prog repRen := {
 sizeBuilder := by kernel_rfl
 liesBuilder := by kernel_rfl
 t5 := Tryz.underlying5
 a5 := Tryz.isAgg5
 z5 := Tryz.sizeOf5
 v5 := Tryz.zeroValue5
 infoByte := by kernel_rfl
 cellsByte := by kernel_rfl
 sizeByte := by kernel_rfl
 neB5 := by decide }
def zs (c : Nat) : ByteArray := ⟨(List.replicate c (0 : UInt8)).toArray⟩
theorem repeatL_one (c : Nat) : Lib.repeatL [0] c = List.replicate c 0 := by
 induction c with
 | zero => rfl
 | succ c ih => rw [Lib.repeatL, ih]; rfl
theorem c_rep (c : Nat) (w : World) (hc : c < 1000) : Cs 57 #[.string ⟨#[0]⟩, .int .i64 (c : Int)] w (.string (zs c)) := by
 have h := Any.strings_Repeat repLays repExtra ⟨#[0]⟩ c w (by omega) (by show 1 * c ≤ _; omega)
 have e : (⟨(Lib.repeatL (⟨#[0]⟩ : ByteArray).data.toList c).toArray⟩ : ByteArray) = zs c := by
  unfold zs
  rw [show (⟨#[0]⟩ : ByteArray).data.toList = [0] from rfl, repeatL_one]
 rw [e] at h
 exact h
def r2 (a b : Int) : Nat → Int
 | 0 => a
 | _ => b
def padS (ct : Int) : ByteArray := (⟨#[128]⟩ ++ zs ((239 - (ct % 128).toNat) % 128)) ++ bs (hI (r2 (sr ct 61) (sl ct 3)) 2)
def sumV (H : HS) : ByteArray := bs (hI (tk H (padS H.ct) (padS H.ct).size).ws 8)
def ofV (s : ByteArray) : ByteArray := sumV (tk hs0 s s.size)
theorem run_cat {P : Program} {a : Act} {o : Oper} (t rt : TypeId) (x y : Operand) (ho : o.op = .binOp .add t x y rt) (s u : ByteArray) (hx : a.eval x = .string s) (hy : a.eval y = .string u) (hb : s.size + u.size ≤ 9223372036854775807) (w : World) :
  (execOp a.eval o).run P w = .ok (.value (.string (s ++ u))) w := by
 have h := run_string_add_sum (P := P) (w := w) s u hb
 unfold execOp
 simp [ho, hx, hy, eqGuard, binOp, h]
theorem zs_size (c : Nat) : (zs c).size = c := by simp [zs, ByteArray.size]
theorem below_same {w w' : World} {g : Nat} {Z : Obj} (h : Grw w w' [g]) (h1 : w.heap[g]? = some Z) (h2 : w'.heap[g]? = some Z) : Below w.heap.size w w' := ⟨h.os, h.tape, h.output, h.size, fun k hk => by
 by_cases e : k = g
 ·subst e
  rw [h1, h2]
 ·exact h.block k hk (fun e2 => e (List.mem_singleton.1 e2))⟩
theorem rem64 (n : Nat) : Int.tmod (n : Int) 128 = ((n % 128 : Nat) : Int) := by
 rw [Int.tmod_eq_emod_of_nonneg (by omega)]
 omega
theorem c_endA (H : HS) (hH : H.ok) (g : Nat) (A : ByteArray) (hA : padS H.ct = A) (w : World) (hL : Laid w) (hg : w.heap[g]? = some (.cells (av 138 (hF true H.ws H.rs H.ct)) 125)) (h0 : g ≠ 0) :
  Calls Tryz.prog 101 #[.pointer (some ⟨g, 0, none⟩)] w fun r w' => r = .returned (.tuple #[]) ∧ Grw w w' [g] ∧ w'.heap[g]? = some (.cells (av 138 (hF true (tk H A A.size).ws (tk H A A.size).rs (tk H A A.size).ct)) 125) := by
 go_enter Tryz.func101, Tryz.ntmps101
 have M := Mem.startp hL hg h0
 obtain ⟨p, hp⟩ : ∃ p, p = (H.ct % 128).toNat := ⟨_, rfl⟩
 have hp2 : H.ct % 128 = (p : Int) := by unfold HS.ok at hH; omega
 have hp1 : p < 128 := by omega
 refine wp_seq ?_
 refine rg_tail M 11 (by kernel_rfl) (by kernel_rfl) ?_
 simp only [List.take_succ_cons, List.take_zero]
 refine kV 5 (.pointer (some ⟨g, 0, none⟩)) <| kV 6 (.pointer (some ⟨g, 0, none⟩)) <| kV 7 (.pointer (some ⟨g, 137, none⟩)) ?_
 refine kE M 8 g 137 (.int .u64 H.ct) (fun w M => M.cell 0 rfl (by decide) rfl) ?_
 refine kV 9 (.int .u64 (sr H.ct 61)) <| kV 10 (.pointer (some ⟨g, 0, none⟩)) <| kV 11 (.pointer (some ⟨g, 0, none⟩)) <| kV 12 (.pointer (some ⟨g, 137, none⟩)) ?_
 refine kE M 13 g 137 (.int .u64 H.ct) (fun w M => M.cell 0 rfl (by decide) rfl) ?_
 refine kV 14 (.int .u64 (sl H.ct 3)) <| kV 2 (.int .u64 (sr H.ct 61)) ?_
 refine kl_nil fun u1 M => ?_
 refine pV 3 (.int .u64 (sl H.ct 3)) <| nT <| sR <| pV 15 (.pointer (some ⟨g, 0, none⟩)) ?_
 refine pV 16 (.pointer (some ⟨g, 0, none⟩)) <| pV 17 (.pointer (some ⟨g, 137, none⟩)) ?_
 refine pE M 18 g 137 (.int .u64 H.ct) (fun w M => M.cell 0 rfl (by decide) rfl) ?_
 refine pV 19 (.int .u64 (Int.tmod H.ct 128)) <| pH 20 (.int .i64 (p : Int)) (fun w => Eq.trans (b := .ok (.value (.int .i64 (IntKind.wrap .i64 (Int.tmod H.ct 128)))) w) (by kernel_rfl) (by rw [rem128 H.ct hH.1 p hp2])) <| pH 21 (.int .i64 ((239 - p : Nat) : Int)) (iV (239 - (p : Int)) (by omega) (by omega) (by omega)) <| pH 22 (.int .i64 (((239 - p) % 128 : Nat) : Int)) (fun w => Eq.trans (b := .ok (.value (.int .i64 (Int.tmod ((239 - p : Nat) : Int) 128))) w) (by kernel_rfl) (by rw [rem64])) ?_
 refine pV 4 (.int .i64 (((239 - p) % 128 : Nat) : Int)) <| nT ?_
 refine rg_lit ?_
 refine pV 23 (.pointer (some ⟨g, 0, none⟩)) <| pV 24 (.int .i64 (((239 - p) % 128 : Nat) : Int)) ?_
 refine pC M 25 57 #[.string ⟨#[0]⟩, .int .i64 (((239 - p) % 128 : Nat) : Int)] (.string (zs ((239 - p) % 128))) (fun w M => c_rep ((239 - p) % 128) w (by omega)) fun u2 M => ?_
 refine pH 26 (.string (⟨#[128]⟩ ++ (zs ((239 - p) % 128)))) (run_cat 9 9 _ _ rfl ⟨#[128]⟩ ((zs ((239 - p) % 128))) (by kernel_rfl) (by kernel_rfl) (by rw [zs_size]; show 1 + _ ≤ _; omega)) <| pV 27 (.int .u64 (sr H.ct 61)) <| pV 28 (.int .u64 (sl H.ct 3)) ?_
 refine pl_mk M (want_no rfl) (some 29) rfl (fun g1 => .slice (some ⟨g1, 0, none⟩) 2 2) (.cells (av 2 (w64 (r2 (sr H.ct 61) (sl H.ct 3)))) 34) (fun _ => by kernel_rfl) fun g1 u3 M => ?_
 refine pC M 30 102 #[.slice (some ⟨g1, 0, none⟩) 2 2] (.string (bs (hI (r2 (sr H.ct 61) (sl H.ct 3)) 2))) (fun w M => c_high g1 0 2 2 (r2 (sr H.ct 61) (sl H.ct 3)) (by decide) w M.laid (fun i hi => by rw [Nat.zero_add]; exact M.cell 1 rfl hi rfl)) fun u4 M => ?_
 refine pH 31 (.string A) (fun w => Eq.trans (run_cat 9 9 _ _ rfl (⟨#[128]⟩ ++ zs ((239 - p) % 128)) (bs (hI (r2 (sr H.ct 61) (sl H.ct 3)) 2)) (by kernel_rfl) (by kernel_rfl) (by rw [ByteArray.size_append, zs_size, bs_size, hI_length]; show 1 + _ + _ ≤ _; omega) w) (by rw [← hA]; unfold padS; rw [← hp])) ?_
 refine pl_callp M (want_no rfl) (some 32) rfl 96 #[.pointer (some ⟨g, 0, none⟩), .string A] (.tuple #[]) 0 g (.cells (av 138 (hF true H.ws H.rs H.ct)) 125) (.cells (av 138 (hF true (tk H A A.size).ws (tk H A A.size).rs (tk H A A.size).ct)) 125) rfl (fun _ => by kernel_rfl) (fun w M => c_take H hH g A w M.laid (M.get 0 rfl) (M.ne0 0 rfl)) fun u5 M => ?_
 refine pl_nil ?_
 exact bodyPost_end (v := .tuple #[]) (results_none Tryz.results101 _ _) (by kernel_rfl) ⟨rfl, M.old, M.get 0 rfl⟩
theorem c_end (H : HS) (hH : H.ok) (g : Nat) (w : World) (hL : Laid w) (hg : w.heap[g]? = some (.cells (av 138 (hF true H.ws H.rs H.ct)) 125)) (h0 : g ≠ 0) : Calls Tryz.prog 101 #[.pointer (some ⟨g, 0, none⟩)] w fun r w' => r = .returned (.tuple #[]) ∧ Grw w w' [g] ∧ w'.heap[g]? = some (.cells (av 138 (hF true (tk H (padS H.ct) (padS H.ct).size).ws (tk H (padS H.ct) (padS H.ct).size).rs (tk H (padS H.ct) (padS H.ct).size).ct)) 125) := c_endA H hH g (padS H.ct) rfl w hL hg h0
theorem c_add (H : HS) (hH : H.ok) (g : Nat) (s : ByteArray) (w : World) (hL : Laid w) (hg : w.heap[g]? = some (.cells (av 138 (hF true H.ws H.rs H.ct)) 125)) (h0 : g ≠ 0) :
  Calls Tryz.prog 55 #[.pointer (some ⟨g, 0, none⟩), .string s] w fun r w' => r = .returned (.int .i64 0) ∧ Grw w w' [g] ∧ w'.heap[g]? = some (.cells (av 138 (hF true (tk H s s.size).ws (tk H s s.size).rs (tk H s s.size).ct)) 125) := by
 go_enter Tryz.func55, Tryz.ntmps55
 have M := Mem.startp hL hg h0
 refine sR <| pV 4 (.int .i64 0) <| nT ?_
 refine wp_seq ?_
 refine sR <| pV 5 (.pointer (some ⟨g, 0, none⟩)) <| pV 6 (.bool false) <| pV 7 (.bool false) ?_
 refine pl_val (want_on 2 false rfl 7 rfl (by kernel_rfl)) (some 8) rfl (.pointer (some ⟨g, 0, none⟩)) (fun _ => by kernel_rfl) ?_
 refine pl_val (want_on 2 false rfl 7 rfl (by kernel_rfl)) (some 9) rfl (.pointer (some ⟨g, 0, none⟩)) (fun _ => by kernel_rfl) ?_
 refine pl_val (want_on 2 false rfl 7 rfl (by kernel_rfl)) (some 10) rfl (.pointer (some ⟨g, 0, none⟩)) (fun _ => by kernel_rfl) ?_
 refine pl_cell M (want_on 2 false rfl 7 rfl (by kernel_rfl)) (some 11) rfl 4 _ rfl g 0 (by kernel_rfl) (.bool true) (fun _ => by kernel_rfl) (fun w M => M.cell 0 rfl (by decide) rfl) ?_
 refine pl_val (want_on 2 false rfl 7 rfl (by kernel_rfl)) (some 12) rfl (.bool false) (fun _ => by kernel_rfl) ?_
 refine pV 13 (.bool false) <| nT ?_
 refine cF ?_
 refine wp_skip ?_
 refine au_then ?_
 refine sR <| pV 14 (.pointer (some ⟨g, 0, none⟩)) <| pV 15 (.string s) ?_
 refine pl_callp M (want_no rfl) (some 16) rfl 96 #[.pointer (some ⟨g, 0, none⟩), .string s] (.tuple #[]) 0 g (.cells (av 138 (hF true H.ws H.rs H.ct)) 125) (.cells (av 138 (hF true (tk H s s.size).ws (tk H s s.size).rs (tk H s s.size).ct)) 125) rfl (fun _ => by kernel_rfl) (fun w M => c_take H hH g s w M.laid (M.get 0 rfl) (M.ne0 0 rfl)) fun u1 M => ?_
 refine nT <| sR <| pV 4 (.int .i64 0) <| nT ?_
 refine wp_ret ?_
 exact bodyPost_ret (v := .int .i64 0) (results_tmp1 Tryz.results55 _ _ _ (by kernel_rfl)) (by kernel_rfl) ⟨rfl, M.old, M.get 0 rfl⟩
theorem c_sum (H : HS) (hH : H.ok) (g : Nat) (w : World) (hL : Laid w) (hg : w.heap[g]? = some (.cells (av 138 (hF true H.ws H.rs H.ct)) 125)) (h0 : g ≠ 0) :
  Cs 56 #[.pointer (some ⟨g, 0, none⟩)] w (.string (sumV H)) := by
 go_enter Tryz.func56, Tryz.ntmps56
 have M := Mem.startp hL hg h0
 refine sR <| pV 2 (.string ⟨#[]⟩) <| nT ?_
 refine wp_seq ?_
 refine sR <| pV 4 (.pointer (some ⟨g, 0, none⟩)) <| pV 5 (.bool false) <| pV 6 (.bool false) ?_
 refine pl_val (want_on 2 false rfl 6 rfl (by kernel_rfl)) (some 7) rfl (.pointer (some ⟨g, 0, none⟩)) (fun _ => by kernel_rfl) ?_
 refine pl_val (want_on 2 false rfl 6 rfl (by kernel_rfl)) (some 8) rfl (.pointer (some ⟨g, 0, none⟩)) (fun _ => by kernel_rfl) ?_
 refine pl_val (want_on 2 false rfl 6 rfl (by kernel_rfl)) (some 9) rfl (.pointer (some ⟨g, 0, none⟩)) (fun _ => by kernel_rfl) ?_
 refine pl_cell M (want_on 2 false rfl 6 rfl (by kernel_rfl)) (some 10) rfl 4 _ rfl g 0 (by kernel_rfl) (.bool true) (fun _ => by kernel_rfl) (fun w M => M.cell 0 rfl (by decide) rfl) ?_
 refine pl_val (want_on 2 false rfl 6 rfl (by kernel_rfl)) (some 11) rfl (.bool false) (fun _ => by kernel_rfl) ?_
 refine pV 12 (.bool false) <| nT ?_
 refine cF ?_
 refine wp_skip ?_
 refine au_then ?_
 refine sR <| pV 13 (.pointer (some ⟨g, 0, none⟩)) <| pV 14 (.pointer (some ⟨g, 0, none⟩)) ?_
 refine pA M 15 0 138 (hF true H.ws H.rs H.ct) ?_
 refine pN M 3 (.cells (av 138 (hF false (fun _ => 0) (fun _ => 0) 0)) 125) fun g1 u1 M => ?_
 refine pl_put M (want_no rfl) rfl 125 _ _ rfl 1 g1 0 (by kernel_rfl) 138 125 (hF false (fun _ => 0) (fun _ => 0) 0) rfl 138 (hF true H.ws H.rs H.ct) (hF true H.ws H.rs H.ct) (by kernel_rfl) inz125 (by decide) (hF_one true H.ws H.rs H.ct) (fun j hj => by rw [if_pos (by omega), Nat.sub_zero]) fun u2 M => ?_
 refine nT <| sR ?_
 refine pl_callp M (want_no rfl) (some 16) rfl 101 #[.pointer (some ⟨g1, 0, none⟩)] (.tuple #[]) 1 g1 (.cells (av 138 (hF true H.ws H.rs H.ct)) 125) (.cells (av 138 (hF true (tk H (padS H.ct) (padS H.ct).size).ws (tk H (padS H.ct) (padS H.ct).size).rs (tk H (padS H.ct) (padS H.ct).size).ct)) 125) rfl (fun _ => by kernel_rfl) (fun w M => c_end H hH g1 w M.laid (M.get 1 rfl) (M.ne0 1 rfl)) fun u3 M => ?_
 refine nT <| sR <| pV 17 (.pointer (some ⟨g1, 1, none⟩)) <| pV 18 (.slice (some ⟨g1, 1, none⟩) 8 8) ?_
 refine pC M 19 102 #[.slice (some ⟨g1, 1, none⟩) 8 8] (.string (sumV H)) (fun w M => c_high g1 1 8 8 (tk H (padS H.ct) (padS H.ct).size).ws (by decide) w M.laid (fun i hi => M.cell 1 rfl (by omega) (hF_words _ _ _ _ i hi))) fun u4 M => ?_
 refine pV 2 (.string (sumV H)) <| nT ?_
 refine wp_ret ?_
 exact bodyPost_ret (v := .string (sumV H)) (results_tmp1 Tryz.results56 _ _ _ (by kernel_rfl)) (by kernel_rfl) ⟨rfl, below_same M.old hg (M.get 0 rfl)⟩
theorem hs0_ok : hs0.ok := ⟨by decide, by decide⟩
theorem c_of (s : ByteArray) (w : World) (hL : Laid w)  :
  Cs 45 #[.string s] w (.string (ofV s)) := by
 go_enter Tryz.func45, Tryz.ntmps45
 have M := Mem.start hL
 refine sR <| pV 2 (.string ⟨#[]⟩) <| nT <| sR ?_
 refine pl_calln M (want_no rfl) (some 4) rfl 54 #[] (fun g1 => .pointer (some ⟨g1, 0, none⟩)) (.cells (av 138 (hF true hs0.ws hs0.rs hs0.ct)) 125) (fun _ => by kernel_rfl) (fun w M => c_new w M.laid) fun g1 u1 M => ?_
 refine pV 3 (.pointer (some ⟨g1, 0, none⟩)) <| nT <| sR <| pV 5 (.pointer (some ⟨g1, 0, none⟩)) ?_
 refine pV 6 (.string s) ?_
 refine pl_callp M (want_no rfl) (some 7) rfl 96 #[.pointer (some ⟨g1, 0, none⟩), .string s] (.tuple #[]) 0 g1 (.cells (av 138 (hF true hs0.ws hs0.rs hs0.ct)) 125) (.cells (av 138 (hF true (tk hs0 s s.size).ws (tk hs0 s s.size).rs (tk hs0 s s.size).ct)) 125) rfl (fun _ => by kernel_rfl) (fun w M => c_take hs0 hs0_ok g1 s w M.laid (M.get 0 rfl) (M.ne0 0 rfl)) fun u2 M => ?_
 refine nT <| sR <| pV 8 (.pointer (some ⟨g1, 0, none⟩)) ?_
 refine pC M 9 56 #[.pointer (some ⟨g1, 0, none⟩)] (.string (ofV s)) (fun w M => c_sum (tk hs0 s s.size) (tk_ok hs0_ok s _) g1 w M.laid (M.get 0 rfl) (M.ne0 0 rfl)) fun u3 M => ?_
 refine pV 2 (.string (ofV s)) <| nT ?_
 refine wp_ret ?_
 exact bodyPost_ret (v := .string (ofV s)) (results_tmp1 Tryz.results45 _ _ _ (by kernel_rfl)) (by kernel_rfl) ⟨rfl, below_grown M.old⟩
theorem sp1_congr {rs rs' : Nat → Int} : ∀ n, (∀ i, i < n → rs i = rs' i) → sp1 rs n = sp1 rs' n
 | 0, _ => rfl
 | n + 1, h => by
  unfold sp1
  rw [sp1_congr n fun i hi => h i (by omega), h n (by omega)]
theorem sp2_congr {rs rs' : Nat → Int} (h : ∀ i, i < 128 → rs i = rs' i) : ∀ n, sp2 rs n = sp2 rs' n
 | 0 => sp1_congr 128 h
 | n + 1 => by
  unfold sp2
  rw [sp2_congr h n]
theorem rd_congr {x rs rs' : Nat → Int} (h : ∀ i, i < 128 → rs i = rs' i) : ∀ n, rd x rs n = rd x rs' n
 | 0 => rfl
 | n + 1 => by
  unfold rd
  rw [rd_congr h n, sp2_congr h 64]
theorem mixV_congr {x rs rs' : Nat → Int} (h : ∀ i, i < 128 → rs i = rs' i) : mixV x rs = mixV x rs' := by
 unfold mixV
 rw [rd_congr h 80]
theorem st8_congr {x y : Nat → Int} (h : ∀ i, i < 8 → x i = y i) (c : Int) : st8 x c = st8 y c := by
 have h0 := h 0 (by decide)
 have h1 := h 1 (by decide)
 have h2 := h 2 (by decide)
 have h3 := h 3 (by decide)
 have h4 := h 4 (by decide)
 have h5 := h 5 (by decide)
 have h6 := h 6 (by decide)
 have h7 := h 7 (by decide)
 unfold st8 uF vF
 rw [h0, h1, h2, h3, h4, h5, h6, h7]
def lf (l : List Int) : Nat → Int := fun i => l.getD i 0
theorem sp2_cert (rs : Nat → Int) (W : List Int) (h1 : ∀ i, i < 16 → sp1 rs 128 i = lf W i) (h2 : ∀ j, j < 64 → lf W (16 + j) = ua (ua (ua (lf W j) (lS0 (lf W (j + 1)))) (lf W (j + 9))) (lS1 (lf W (j + 14)))) : ∀ n, n ≤ 64 → ∀ i, i < 16 + n → sp2 rs n i = lf W i
 | 0, _, i, hi => h1 i hi
 | n + 1, hn, i, hi => by
  unfold sp2 upd
  have ih := sp2_cert rs W h1 h2 n (by omega)
  by_cases e : i = 16 + n
  ·rw [if_pos e, e, ih n (by omega), ih (n + 1) (by omega), ih (n + 9) (by omega), ih (n + 14) (by omega), h2 n (by omega)]
  ·rw [if_neg e]
   exact ih i (by omega)
theorem rd_cert (x rs : Nat → Int) (W : List Int) (S : List (List Int)) (h0 : ∀ i, i < 8 → x i = lf (S.getD 0 []) i) (hW : ∀ i, i < 80 → sp2 rs 64 i = lf W i) (hS : ∀ j, j < 80 → ∀ i, i < 8 → st8 (lf (S.getD j [])) (ua (KF j) (lf W j)) i = lf (S.getD (j + 1) []) i) : ∀ j, j ≤ 80 → ∀ i, i < 8 → rd x rs j i = lf (S.getD j []) i
 | 0, _, i, hi => h0 i hi
 | j + 1, hj, i, hi => by
  unfold rd
  rw [st8_congr (rd_cert x rs W S h0 hW hS j (by omega)), hW j (by omega), hS j (by omega) i hi]
def chkW (W : List Int) : Bool := (List.range 64).all fun j => lf W (16 + j) == ua (ua (ua (lf W j) (lS0 (lf W (j + 1)))) (lf W (j + 9))) (lS1 (lf W (j + 14)))
def chkS (W : List Int) (S : List (List Int)) : Bool := (List.range 80).all fun j => (List.range 8).all fun i => st8 (lf (S.getD j [])) (ua (KF j) (lf W j)) i == lf (S.getD (j + 1) []) i
def chk1 (B W : List Int) : Bool := (List.range 16).all fun i => sp1 (lf B) 128 i == lf W i
theorem mix_cert (rs : Nat → Int) (B W : List Int) (S : List (List Int)) (hB : ∀ i, i < 128 → rs i = lf B i) (h1 : chk1 B W = true) (h2 : chkW W = true) (h3 : chkS W S = true) (h0 : ∀ i, i < 8 → HB i = lf (S.getD 0 []) i) : ∀ i, i < 8 → mixV HB rs i = ua (HB i) (lf (S.getD 80 []) i) := by
 intro i hi
 rw [mixV_congr hB]
 unfold chk1 at h1
 unfold chkW at h2
 unfold chkS at h3
 simp only [List.all_eq_true, List.mem_range, beq_iff_eq] at h1 h2 h3
 unfold mixV
 rw [rd_cert HB (lf B) W S h0 (sp2_cert (lf B) W h1 h2 64 (by omega)) h3 80 (by omega) i hi]
theorem zs_sb (c : Nat) : sb (zs c) = List.replicate c 0 := by
 unfold sb zs
 simp
theorem pad_sb (ct : Int) : sb (padS ct) = [128] ++ List.replicate ((239 - (ct % 128).toNat) % 128) 0 ++ hI (r2 (sr ct 61) (sl ct 3)) 2 := by
 unfold padS
 rw [sb_append, sb_append, zs_sb, sb_bs _ (hI_nn _ 2)]
 rfl
theorem pad_size (ct : Int) : (padS ct).size = 1 + (239 - (ct % 128).toNat) % 128 + 16 := by
 rw [← sb_length, pad_sb]
 simp [hI_length]
 omega
theorem sum_one (s : ByteArray) (n : Nat) (hn : s.size = n) (h : n < 112) (B : List Int) (hB : sb s ++ sb (padS n) = B) : (tk (tk hs0 s s.size) (padS (tk hs0 s s.size).ct) (padS (tk hs0 s s.size).ct).size).ws = mixV HB (lf B) := by
 have r1 := tk_run hs0 hs0_ok s 0 0 s (fun i => by rw [Nat.zero_add]) rfl n (by omega)
 rw [Nat.zero_add] at r1
 obtain ⟨a1, a2, a3⟩ := r1
 rw [if_neg (by omega)] at a3
 rw [hn]
 have hct : (tk hs0 s n).ct = (n : Int) := by
  rw [a2, ua_eq]
  show (0 + (n : Int)) % _ = _
  omega
 rw [hct]
 have hps : (padS (n : Int)).size = 128 - n := by
  rw [pad_size]
  omega
 have r2 := tk_run (tk hs0 s n) (tk_ok hs0_ok s n) (padS n) 0 n (padS n) (fun i => by rw [Nat.zero_add]) (by show (tk hs0 s n).ct % 128 = _; rw [hct]; omega) (128 - n) (by omega)
 rw [Nat.zero_add] at r2
 obtain ⟨b1, b2, b3⟩ := r2
 rw [if_pos (by omega)] at b3
 rw [hps, b3]
 show mixV (tk hs0 s n).ws (cpy (tk hs0 s n).rs n (128 - n) (padS n)) = _
 rw [a3, a1]
 refine mixV_congr fun i hi => ?_
 unfold cpy lf
 rw [← hB]
 have hl : (sb s).length = n := by rw [sb_length, hn]
 by_cases hi2 : i < n
 ·rw [if_neg (by omega), if_pos (by omega), Nat.sub_zero, bt_of_sb, List.getD_eq_getElem?_getD, List.getD_eq_getElem?_getD, List.getElem?_append_left (by omega)]
 ·rw [if_pos (by omega), bt_of_sb, List.getD_eq_getElem?_getD, List.getD_eq_getElem?_getD, List.getElem?_append_right (by omega), hl]
theorem hI_congr {f g : Nat → Int} : ∀ n, (∀ i, i < n → f i = g i) → hI f n = hI g n
 | 0, _ => rfl
 | n + 1, h => by
  unfold hI
  rw [hI_congr n fun i hi => h i (by omega), h n (by omega)]
theorem ofV_size (s : ByteArray) : (ofV s).size = 64 := by
 unfold ofV sumV
 rw [bs_size, hI_length]
theorem run_strh {P : Program} {a : Act} {o : Oper} (t : TypeId) (hu : P.underlying t = some .string) (x hi : Operand) (ho : o.op = .slice t x none (some hi) none) (s : ByteArray) (hx : a.eval x = .string s) (k : IntKind) (i : Nat) (hh : a.eval hi = .int k (i : Int)) (hle : i ≤ s.size) (v : ByteArray) (hv : s.extract 0 i = v) (w : World) :
  (execOp a.eval o).run P w = .ok (.value (.string v)) w := by
 subst hv
 unfold execOp
 simp [ho, hx, hh, run_sliceAt_string w t (.string s) none (some (.int k i)) none hu, run_slice_string_h w t s hu k i (by omega) (by omega)]
theorem uo_comm (x y : Int) : uo x y = uo y x := by
 unfold uo
 rw [BitVec.or_comm]
theorem ua_assoc (x y z : Int) : ua (ua x y) z = ua x (ua y z) := by
 rw [ua_eq, ua_eq, ua_eq, ua_eq]
 omega
theorem c_turn1 (x : Int) (w : World) (hL : Laid w)  :
  Cs 128 #[.int .u64 x, .int .u64 1] w (.int .u64 (rot x 1)) := by
 go_enter Tryz.func128, Tryz.ntmps128
 have M := Mem.start hL
 refine sR <| pV 4 (.int .u64 0) <| nT <| sR ?_
 refine pV 5 (.int .u64 x) <| pV 6 (.int .u64 1) <| pV 7 (.int .u64 (sr x 1)) <| pV 8 (.int .u64 x) ?_
 refine pV 9 (.int .u64 1) <| pV 10 (.int .u64 63) <| pV 11 (.int .u64 (sl x 63)) <| pV 12 (.int .u64 (uo (sr x 1) (sl x 63))) ?_
 refine pV 4 (.int .u64 (uo (sr x 1) (sl x 63))) <| nT ?_
 refine wp_ret ?_
 refine bodyPost_ret (v := .int .u64 (rot x 1)) (Eq.trans (b := .ok (.int .u64 (uo (sr x 1) (sl x 63))) _) (results_tmp1 Tryz.results128 _ _ _ (by kernel_rfl)) (by unfold rot; rw [uo_comm])) (by kernel_rfl) ⟨rfl, below_grown M.old⟩
theorem c_turn8 (x : Int) (w : World) (hL : Laid w)  :
  Cs 128 #[.int .u64 x, .int .u64 8] w (.int .u64 (rot x 8)) := by
 go_enter Tryz.func128, Tryz.ntmps128
 have M := Mem.start hL
 refine sR <| pV 4 (.int .u64 0) <| nT <| sR ?_
 refine pV 5 (.int .u64 x) <| pV 6 (.int .u64 8) <| pV 7 (.int .u64 (sr x 8)) <| pV 8 (.int .u64 x) ?_
 refine pV 9 (.int .u64 8) <| pV 10 (.int .u64 56) <| pV 11 (.int .u64 (sl x 56)) <| pV 12 (.int .u64 (uo (sr x 8) (sl x 56))) ?_
 refine pV 4 (.int .u64 (uo (sr x 8) (sl x 56))) <| nT ?_
 refine wp_ret ?_
 refine bodyPost_ret (v := .int .u64 (rot x 8)) (Eq.trans (b := .ok (.int .u64 (uo (sr x 8) (sl x 56))) _) (results_tmp1 Tryz.results128 _ _ _ (by kernel_rfl)) (by unfold rot; rw [uo_comm])) (by kernel_rfl) ⟨rfl, below_grown M.old⟩
theorem c_turn19 (x : Int) (w : World) (hL : Laid w)  :
  Cs 128 #[.int .u64 x, .int .u64 19] w (.int .u64 (rot x 19)) := by
 go_enter Tryz.func128, Tryz.ntmps128
 have M := Mem.start hL
 refine sR <| pV 4 (.int .u64 0) <| nT <| sR ?_
 refine pV 5 (.int .u64 x) <| pV 6 (.int .u64 19) <| pV 7 (.int .u64 (sr x 19)) <| pV 8 (.int .u64 x) ?_
 refine pV 9 (.int .u64 19) <| pV 10 (.int .u64 45) <| pV 11 (.int .u64 (sl x 45)) <| pV 12 (.int .u64 (uo (sr x 19) (sl x 45))) ?_
 refine pV 4 (.int .u64 (uo (sr x 19) (sl x 45))) <| nT ?_
 refine wp_ret ?_
 refine bodyPost_ret (v := .int .u64 (rot x 19)) (Eq.trans (b := .ok (.int .u64 (uo (sr x 19) (sl x 45))) _) (results_tmp1 Tryz.results128 _ _ _ (by kernel_rfl)) (by unfold rot; rw [uo_comm])) (by kernel_rfl) ⟨rfl, below_grown M.old⟩
theorem c_turn61 (x : Int) (w : World) (hL : Laid w)  :
  Cs 128 #[.int .u64 x, .int .u64 61] w (.int .u64 (rot x 61)) := by
 go_enter Tryz.func128, Tryz.ntmps128
 have M := Mem.start hL
 refine sR <| pV 4 (.int .u64 0) <| nT <| sR ?_
 refine pV 5 (.int .u64 x) <| pV 6 (.int .u64 61) <| pV 7 (.int .u64 (sr x 61)) <| pV 8 (.int .u64 x) ?_
 refine pV 9 (.int .u64 61) <| pV 10 (.int .u64 3) <| pV 11 (.int .u64 (sl x 3)) <| pV 12 (.int .u64 (uo (sr x 61) (sl x 3))) ?_
 refine pV 4 (.int .u64 (uo (sr x 61) (sl x 3))) <| nT ?_
 refine wp_ret ?_
 refine bodyPost_ret (v := .int .u64 (rot x 61)) (Eq.trans (b := .ok (.int .u64 (uo (sr x 61) (sl x 3))) _) (results_tmp1 Tryz.results128 _ _ _ (by kernel_rfl)) (by unfold rot; rw [uo_comm])) (by kernel_rfl) ⟨rfl, below_grown M.old⟩
theorem c_turn14 (x : Int) (w : World) (hL : Laid w)  :
  Cs 128 #[.int .u64 x, .int .u64 14] w (.int .u64 (rot x 14)) := by
 go_enter Tryz.func128, Tryz.ntmps128
 have M := Mem.start hL
 refine sR <| pV 4 (.int .u64 0) <| nT <| sR ?_
 refine pV 5 (.int .u64 x) <| pV 6 (.int .u64 14) <| pV 7 (.int .u64 (sr x 14)) <| pV 8 (.int .u64 x) ?_
 refine pV 9 (.int .u64 14) <| pV 10 (.int .u64 50) <| pV 11 (.int .u64 (sl x 50)) <| pV 12 (.int .u64 (uo (sr x 14) (sl x 50))) ?_
 refine pV 4 (.int .u64 (uo (sr x 14) (sl x 50))) <| nT ?_
 refine wp_ret ?_
 refine bodyPost_ret (v := .int .u64 (rot x 14)) (Eq.trans (b := .ok (.int .u64 (uo (sr x 14) (sl x 50))) _) (results_tmp1 Tryz.results128 _ _ _ (by kernel_rfl)) (by unfold rot; rw [uo_comm])) (by kernel_rfl) ⟨rfl, below_grown M.old⟩
theorem c_turn18 (x : Int) (w : World) (hL : Laid w)  :
  Cs 128 #[.int .u64 x, .int .u64 18] w (.int .u64 (rot x 18)) := by
 go_enter Tryz.func128, Tryz.ntmps128
 have M := Mem.start hL
 refine sR <| pV 4 (.int .u64 0) <| nT <| sR ?_
 refine pV 5 (.int .u64 x) <| pV 6 (.int .u64 18) <| pV 7 (.int .u64 (sr x 18)) <| pV 8 (.int .u64 x) ?_
 refine pV 9 (.int .u64 18) <| pV 10 (.int .u64 46) <| pV 11 (.int .u64 (sl x 46)) <| pV 12 (.int .u64 (uo (sr x 18) (sl x 46))) ?_
 refine pV 4 (.int .u64 (uo (sr x 18) (sl x 46))) <| nT ?_
 refine wp_ret ?_
 refine bodyPost_ret (v := .int .u64 (rot x 18)) (Eq.trans (b := .ok (.int .u64 (uo (sr x 18) (sl x 46))) _) (results_tmp1 Tryz.results128 _ _ _ (by kernel_rfl)) (by unfold rot; rw [uo_comm])) (by kernel_rfl) ⟨rfl, below_grown M.old⟩
theorem c_turn41 (x : Int) (w : World) (hL : Laid w)  :
  Cs 128 #[.int .u64 x, .int .u64 41] w (.int .u64 (rot x 41)) := by
 go_enter Tryz.func128, Tryz.ntmps128
 have M := Mem.start hL
 refine sR <| pV 4 (.int .u64 0) <| nT <| sR ?_
 refine pV 5 (.int .u64 x) <| pV 6 (.int .u64 41) <| pV 7 (.int .u64 (sr x 41)) <| pV 8 (.int .u64 x) ?_
 refine pV 9 (.int .u64 41) <| pV 10 (.int .u64 23) <| pV 11 (.int .u64 (sl x 23)) <| pV 12 (.int .u64 (uo (sr x 41) (sl x 23))) ?_
 refine pV 4 (.int .u64 (uo (sr x 41) (sl x 23))) <| nT ?_
 refine wp_ret ?_
 refine bodyPost_ret (v := .int .u64 (rot x 41)) (Eq.trans (b := .ok (.int .u64 (uo (sr x 41) (sl x 23))) _) (results_tmp1 Tryz.results128 _ _ _ (by kernel_rfl)) (by unfold rot; rw [uo_comm])) (by kernel_rfl) ⟨rfl, below_grown M.old⟩
theorem c_turn28 (x : Int) (w : World) (hL : Laid w)  :
  Cs 128 #[.int .u64 x, .int .u64 28] w (.int .u64 (rot x 28)) := by
 go_enter Tryz.func128, Tryz.ntmps128
 have M := Mem.start hL
 refine sR <| pV 4 (.int .u64 0) <| nT <| sR ?_
 refine pV 5 (.int .u64 x) <| pV 6 (.int .u64 28) <| pV 7 (.int .u64 (sr x 28)) <| pV 8 (.int .u64 x) ?_
 refine pV 9 (.int .u64 28) <| pV 10 (.int .u64 36) <| pV 11 (.int .u64 (sl x 36)) <| pV 12 (.int .u64 (uo (sr x 28) (sl x 36))) ?_
 refine pV 4 (.int .u64 (uo (sr x 28) (sl x 36))) <| nT ?_
 refine wp_ret ?_
 refine bodyPost_ret (v := .int .u64 (rot x 28)) (Eq.trans (b := .ok (.int .u64 (uo (sr x 28) (sl x 36))) _) (results_tmp1 Tryz.results128 _ _ _ (by kernel_rfl)) (by unfold rot; rw [uo_comm])) (by kernel_rfl) ⟨rfl, below_grown M.old⟩
theorem c_turn34 (x : Int) (w : World) (hL : Laid w)  :
  Cs 128 #[.int .u64 x, .int .u64 34] w (.int .u64 (rot x 34)) := by
 go_enter Tryz.func128, Tryz.ntmps128
 have M := Mem.start hL
 refine sR <| pV 4 (.int .u64 0) <| nT <| sR ?_
 refine pV 5 (.int .u64 x) <| pV 6 (.int .u64 34) <| pV 7 (.int .u64 (sr x 34)) <| pV 8 (.int .u64 x) ?_
 refine pV 9 (.int .u64 34) <| pV 10 (.int .u64 30) <| pV 11 (.int .u64 (sl x 30)) <| pV 12 (.int .u64 (uo (sr x 34) (sl x 30))) ?_
 refine pV 4 (.int .u64 (uo (sr x 34) (sl x 30))) <| nT ?_
 refine wp_ret ?_
 refine bodyPost_ret (v := .int .u64 (rot x 34)) (Eq.trans (b := .ok (.int .u64 (uo (sr x 34) (sl x 30))) _) (results_tmp1 Tryz.results128 _ _ _ (by kernel_rfl)) (by unfold rot; rw [uo_comm])) (by kernel_rfl) ⟨rfl, below_grown M.old⟩
theorem c_turn39 (x : Int) (w : World) (hL : Laid w)  :
  Cs 128 #[.int .u64 x, .int .u64 39] w (.int .u64 (rot x 39)) := by
 go_enter Tryz.func128, Tryz.ntmps128
 have M := Mem.start hL
 refine sR <| pV 4 (.int .u64 0) <| nT <| sR ?_
 refine pV 5 (.int .u64 x) <| pV 6 (.int .u64 39) <| pV 7 (.int .u64 (sr x 39)) <| pV 8 (.int .u64 x) ?_
 refine pV 9 (.int .u64 39) <| pV 10 (.int .u64 25) <| pV 11 (.int .u64 (sl x 25)) <| pV 12 (.int .u64 (uo (sr x 39) (sl x 25))) ?_
 refine pV 4 (.int .u64 (uo (sr x 39) (sl x 25))) <| nT ?_
 refine wp_ret ?_
 refine bodyPost_ret (v := .int .u64 (rot x 39)) (Eq.trans (b := .ok (.int .u64 (uo (sr x 39) (sl x 25))) _) (results_tmp1 Tryz.results128 _ _ _ (by kernel_rfl)) (by unfold rot; rw [uo_comm])) (by kernel_rfl) ⟨rfl, below_grown M.old⟩
theorem c_K  (w : World) (hL : Laid w)  :
  Cs 129 #[] w (.agg (av 80 (w64 KF))) := by
 go_enter Tryz.func129, Tryz.ntmps129
 have M := Mem.start hL
 refine sR ?_
 refine pN M 0 (.cells (av 80 (w64 fun _ => 0)) 155) fun g1 u1 M => ?_
 refine nT <| sR <| pV 1 (.agg (av 80 (w64 KF))) ?_
 refine pl_put M (want_no rfl) rfl 155 _ _ rfl 0 g1 0 (by kernel_rfl) 80 155 (w64 fun _ => 0) rfl 80 (w64 KF) (w64 KF) (by kernel_rfl) inz155 (by decide) (fun _ _ => rfl) (fun j hj => by rw [if_pos (by omega), Nat.sub_zero]) fun u2 M => ?_
 refine nT ?_
 refine wp_ret ?_
 exact bodyPost_ret (v := .agg (av 80 (w64 KF))) (results_cell_row Tryz.results129 _ _ g1 155 (av 80 (w64 KF)) (0, 0) _ (by kernel_rfl) (M.get 0 rfl) Tryz.underlying155 rfl (by rw [av_size]; exact inz155)) (by kernel_rfl) ⟨rfl, below_grown M.old⟩
theorem c_begin  (w : World) (hL : Laid w)  :
  Cs 73 #[] w (.agg (av 8 (w64 HB))) := by
 go_enter Tryz.func73, Tryz.ntmps73
 have M := Mem.start hL
 refine sR ?_
 refine pN M 0 (.cells (av 8 (w64 fun _ => 0)) 95) fun g1 u1 M => ?_
 refine nT <| sR <| pV 1 (.agg (av 8 (w64 HB))) ?_
 refine pl_put M (want_no rfl) rfl 95 _ _ rfl 0 g1 0 (by kernel_rfl) 8 95 (w64 fun _ => 0) rfl 8 (w64 HB) (w64 HB) (by kernel_rfl) inz95 (by decide) (fun _ _ => rfl) (fun j hj => by rw [if_pos (by omega), Nat.sub_zero]) fun u2 M => ?_
 refine nT ?_
 refine wp_ret ?_
 exact bodyPost_ret (v := .agg (av 8 (w64 HB))) (results_cell_row Tryz.results73 _ _ g1 95 (av 8 (w64 HB)) (0, 0) _ (by kernel_rfl) (M.get 0 rfl) Tryz.underlying95 rfl (by rw [av_size]; exact inz95)) (by kernel_rfl) ⟨rfl, below_grown M.old⟩
theorem c_piece (h rs : Nat → Int) (g off cap : Nat) (w : World) (hL : Laid w) (hc : ∀ i, i < 128 → w.cell? ⟨g, off + i, none⟩ = some (.int .u8 (rs i))) :
  Cs 74 #[.agg (av 8 (w64 h)), .slice (some ⟨g, off, none⟩) 128 cap] w (.agg (av 8 (w64 (mixV h rs)))) := by
 go_enter Tryz.func74, Tryz.ntmps74
 have M := Mem.start hL
 refine sR ?_
 refine pN M 2 (.cells (av 8 (w64 h)) 95) fun g1 u1 M => ?_
 refine pN M 4 (.cells (av 8 (w64 fun _ => 0)) 95) fun g2 u2 M => ?_
 refine nT <| sR ?_
 refine pN M 5 (.cells (av 80 (w64 fun _ => 0)) 155) fun g3 u3 M => ?_
 refine nT ?_
 refine wp_seq ?_
 refine sR <| pV 6 (.int .i64 0) <| nT ?_
 refine wp_block ?_
 refine au_loop (fun j a w' => ∃ v1 : Nat → Value, a = ⟨#[.agg (av 8 (w64 h)), .slice (some ⟨g, off, none⟩) 128 cap, .pointer (some ⟨g1, 0, none⟩), undef, .pointer (some ⟨g2, 0, none⟩), .pointer (some ⟨g3, 0, none⟩), .int .i64 (j : Int), undef, undef, undef, undef, undef, undef, undef, undef, undef, undef, undef, v1 18, v1 19, v1 20, v1 21, v1 22, v1 23, v1 24, v1 25, v1 26, v1 27, v1 28, v1 29, v1 30, v1 31, v1 32, v1 33, v1 34, v1 35, undef, undef, undef, undef, undef, undef, undef, undef, undef, undef, undef, undef, undef, undef, undef, undef, undef, undef, undef, undef, undef, undef, undef, undef, undef, undef, undef, undef, undef, undef, undef, undef, undef, undef, undef, undef, undef, undef, undef, undef, undef, undef, undef, undef, undef, undef, undef, undef, undef, undef, undef, undef, undef, undef, undef, undef, undef, undef, undef, undef, undef, undef, undef, undef, undef, undef, undef, undef, undef, undef, undef, undef, undef, undef, undef, undef, undef, undef, undef, undef, undef, undef, undef, undef, undef, undef, undef, undef, undef, undef, undef, undef, undef, undef, undef, undef, undef, undef, undef, undef, undef, undef, undef, undef, undef, undef, undef, undef, undef, undef, undef, undef, undef, undef, undef, undef, undef, undef, undef, undef, undef, undef, undef, undef, undef, undef, undef, undef, undef, undef, undef, undef, undef, undef, undef, undef, undef, undef, undef], []⟩ ∧ Mem ⟨w, []⟩ [⟨g1, .cells (av 8 (w64 h)) 95⟩, ⟨g2, .cells (av 8 (w64 fun _ => 0)) 95⟩, ⟨g3, .cells (av 80 (w64 (sp1 rs j))) 155⟩] w') 128 ⟨fun k_ => ([undef, undef, undef, undef, undef, undef, undef, undef, undef, undef, undef, undef, undef, undef, undef, undef, undef, undef] : List Value).getD (k_ - 18) undef, by kernel_rfl, M⟩ ?_ ?_
 ·intro j a u0 hj hI
  obtain ⟨v1, rfl, M⟩ := hI
  refine wp_seq ?_
  refine sR <| pV 18 (.int .i64 (j : Int)) <| pH 19 (.bool true) (dT ((j : Int) < 128) (by omega)) <| nT ?_
  refine cT ?_
  refine wp_skip ?_
  refine au_then ?_
  refine wp_seq ?_
  refine wp_block ?_
  refine rg_tail M 14 (by kernel_rfl) (by kernel_rfl) ?_
  simp only [List.take_succ_cons, List.take_zero]
  refine kV 22 (.int .i64 (j : Int)) <| kH 23 (.int .i64 ((j / 8 : Nat) : Int)) (fun w => Eq.trans (b := .ok (.value (.int .i64 (IntKind.wrap .i64 ((j : Int).tdiv 8)))) w) (by kernel_rfl) (by rw [quo8 j (by omega)])) <| kV 24 (.int .i64 (j : Int)) <| kH 25 (.int .i64 ((j / 8 : Nat) : Int)) (fun w => Eq.trans (b := .ok (.value (.int .i64 (IntKind.wrap .i64 ((j : Int).tdiv 8)))) w) (by kernel_rfl) (by rw [quo8 j (by omega)])) ?_
  refine kH 26 (.pointer (some ⟨g3, ((j / 8 : Nat)), none⟩)) (run_ix1 155 80 34 Tryz.underlying155 inz34 _ _ rfl g3 (by kernel_rfl) .i64 ((j / 8 : Nat)) (by kernel_rfl) (by omega)) ?_
  refine kE M 27 g3 ((j / 8 : Nat)) (.int .u64 ((sp1 rs j) ((j / 8 : Nat)))) (fun w M => M.cell 2 rfl (by omega) rfl) ?_
  refine kV 28 (.int .u64 (sl ((sp1 rs j) ((j / 8 : Nat))) 8)) <| kV 29 (.slice (some ⟨g, off, none⟩) 128 cap) <| kV 30 (.int .i64 (j : Int)) <| kH 31 (.pointer (some ⟨g, off + j, none⟩)) (run_ixL 32 5 Tryz.underlying32 inz5 _ _ rfl g off 128 cap (by kernel_rfl) .i64 j (by kernel_rfl) hj) ?_
  refine kE M 32 g (off + j) (.int .u8 (rs j)) (fun w M => M.oldc (hc j hj) (by simp)) ?_
  refine kV 33 (.int .u64 (cv .u64 (rs j))) <| kV 34 (.int .u64 (uo (sl ((sp1 rs j) ((j / 8 : Nat))) 8) (cv .u64 (rs j)))) <| kH 35 (.pointer (some ⟨g3, ((j / 8 : Nat)), none⟩)) (run_ix1 155 80 34 Tryz.underlying155 inz34 _ _ rfl g3 (by kernel_rfl) .i64 ((j / 8 : Nat)) (by kernel_rfl) (by omega)) ?_
  refine kl_nil fun u4 M => ?_
  refine pP M 2 rfl ((j / 8 : Nat)) (.int .u64 (uo (sl ((sp1 rs j) ((j / 8 : Nat))) 8) (cv .u64 (rs j)))) (w64 (upd (sp1 rs j) ((j / 8 : Nat)) (uo (sl ((sp1 rs j) ((j / 8 : Nat))) 8) (cv .u64 (rs j))))) (by omega) (fun j _ => put_w64 _ _ _ j) fun u5 M => ?_
  refine pl_nil ?_
  refine au_block ?_
  refine au_then ?_
  refine rg_lit ?_
  refine pV 20 (.int .i64 (j : Int)) <| pH 21 (.int .i64 ((j + 1 : Nat) : Int)) (iV ((j : Int) + 1) (by omega) (by omega) (by omega)) <| pV 6 (.int .i64 ((j + 1 : Nat) : Int)) <| nT ?_
  exact ⟨fun k_ => ([.int .i64 (j : Int), .bool true, .int .i64 (j : Int), .int .i64 ((j + 1 : Nat) : Int), .int .i64 (j : Int), .int .i64 ((j / 8 : Nat) : Int), .int .i64 (j : Int), .int .i64 ((j / 8 : Nat) : Int), .pointer (some ⟨g3, ((j / 8 : Nat)), none⟩), .int .u64 ((sp1 rs j) ((j / 8 : Nat))), .int .u64 (sl ((sp1 rs j) ((j / 8 : Nat))) 8), .slice (some ⟨g, off, none⟩) 128 cap, .int .i64 (j : Int), .pointer (some ⟨g, off + j, none⟩), .int .u8 (rs j), .int .u64 (cv .u64 (rs j)), .int .u64 (uo (sl ((sp1 rs j) ((j / 8 : Nat))) 8) (cv .u64 (rs j))), .pointer (some ⟨g3, ((j / 8 : Nat)), none⟩)] : List Value).getD (k_ - 18) undef, by kernel_rfl, M⟩
 ·intro a u0 hI
  obtain ⟨v1, rfl, M⟩ := hI
  refine wp_seq ?_
  refine sR <| pV 18 (.int .i64 (128 : Int)) <| pH 19 (.bool false) (dF (128 < 128) (by omega)) <| nT ?_
  refine cF ?_
  refine wp_exit ?_
  refine au_then_exit ?_
  refine au_then_exit ?_
  refine au_block_exit ?_
  refine au_then ?_
  refine wp_seq ?_
  refine sR <| pV 7 (.int .i64 16) <| nT ?_
  refine wp_block ?_
  refine au_loop (fun j a w' => ∃ v2 : Nat → Value, a = ⟨#[.agg (av 8 (w64 h)), .slice (some ⟨g, off, none⟩) 128 cap, .pointer (some ⟨g1, 0, none⟩), undef, .pointer (some ⟨g2, 0, none⟩), .pointer (some ⟨g3, 0, none⟩), .int .i64 (128 : Int), .int .i64 ((16 + j : Nat) : Int), v2 8, v2 9, undef, undef, undef, undef, undef, undef, undef, undef, .int .i64 (128 : Int), .bool false, v1 20, v1 21, v1 22, v1 23, v1 24, v1 25, v1 26, v1 27, v1 28, v1 29, v1 30, v1 31, v1 32, v1 33, v1 34, v1 35, v2 36, v2 37, v2 38, v2 39, v2 40, v2 41, v2 42, v2 43, v2 44, v2 45, v2 46, v2 47, v2 48, v2 49, v2 50, v2 51, v2 52, v2 53, v2 54, v2 55, v2 56, v2 57, v2 58, v2 59, v2 60, v2 61, v2 62, v2 63, v2 64, v2 65, v2 66, v2 67, v2 68, v2 69, v2 70, v2 71, v2 72, v2 73, v2 74, v2 75, v2 76, undef, undef, undef, undef, undef, undef, undef, undef, undef, undef, undef, undef, undef, undef, undef, undef, undef, undef, undef, undef, undef, undef, undef, undef, undef, undef, undef, undef, undef, undef, undef, undef, undef, undef, undef, undef, undef, undef, undef, undef, undef, undef, undef, undef, undef, undef, undef, undef, undef, undef, undef, undef, undef, undef, undef, undef, undef, undef, undef, undef, undef, undef, undef, undef, undef, undef, undef, undef, undef, undef, undef, undef, undef, undef, undef, undef, undef, undef, undef, undef, undef, undef, undef, undef, undef, undef, undef, undef, undef, undef, undef, undef, undef, undef, undef, undef, undef, undef], []⟩ ∧ Mem ⟨w, []⟩ [⟨g1, .cells (av 8 (w64 h)) 95⟩, ⟨g2, .cells (av 8 (w64 fun _ => 0)) 95⟩, ⟨g3, .cells (av 80 (w64 (sp2 rs j))) 155⟩] w') 64 ⟨fun k_ => ([undef, undef, undef, undef, undef, undef, undef, undef, undef, undef, undef, undef, undef, undef, undef, undef, undef, undef, undef, undef, undef, undef, undef, undef, undef, undef, undef, undef, undef, undef, undef, undef, undef, undef, undef, undef, undef, undef, undef, undef, undef, undef, undef, undef, undef, undef, undef, undef, undef, undef, undef, undef, undef, undef, undef, undef, undef, undef, undef, undef, undef, undef, undef, undef, undef, undef, undef, undef, undef] : List Value).getD (k_ - 8) undef, by kernel_rfl, M⟩ ?_ ?_
  ·intro j a u0 hj hI
   obtain ⟨v2, rfl, M⟩ := hI
   refine wp_seq ?_
   refine sR <| pV 36 (.int .i64 ((16 + j : Nat) : Int)) <| pH 37 (.bool true) (dT (((16 + j : Nat) : Int) < 80) (by omega)) <| nT ?_
   refine cT ?_
   refine wp_skip ?_
   refine au_then ?_
   refine wp_seq ?_
   refine wp_block ?_
   refine sR <| pV 40 (.int .i64 ((16 + j : Nat) : Int)) <| pH 41 (.int .i64 ((j + 1 : Nat) : Int)) (iV (((16 + j : Nat) : Int) - 15) (by omega) (by omega) (by omega)) <| pH 42 (.pointer (some ⟨g3, ((j + 1 : Nat)), none⟩)) (run_ix1 155 80 34 Tryz.underlying155 inz34 _ _ rfl g3 (by kernel_rfl) .i64 ((j + 1 : Nat)) (by kernel_rfl) (by omega)) ?_
   refine pE M 43 g3 ((j + 1 : Nat)) (.int .u64 ((sp2 rs j) ((j + 1 : Nat)))) (fun w M => M.cell 2 rfl (by omega) rfl) ?_
   refine pV 8 (.int .u64 ((sp2 rs j) ((j + 1 : Nat)))) <| nT <| sR <| pV 44 (.int .i64 ((16 + j : Nat) : Int)) ?_
   refine pH 45 (.int .i64 ((j + 14 : Nat) : Int)) (iV (((16 + j : Nat) : Int) - 2) (by omega) (by omega) (by omega)) <| pH 46 (.pointer (some ⟨g3, ((j + 14 : Nat)), none⟩)) (run_ix1 155 80 34 Tryz.underlying155 inz34 _ _ rfl g3 (by kernel_rfl) .i64 ((j + 14 : Nat)) (by kernel_rfl) (by omega)) ?_
   refine pE M 47 g3 ((j + 14 : Nat)) (.int .u64 ((sp2 rs j) ((j + 14 : Nat)))) (fun w M => M.cell 2 rfl (by omega) rfl) ?_
   refine pV 9 (.int .u64 ((sp2 rs j) ((j + 14 : Nat)))) <| nT ?_
   refine rg_tail M 29 (by kernel_rfl) (by kernel_rfl) ?_
   simp only [List.take_succ_cons, List.take_zero]
   refine kV 48 (.int .i64 ((16 + j : Nat) : Int)) <| kV 49 (.int .i64 ((16 + j : Nat) : Int)) <| kH 50 (.int .i64 (j : Int)) (iV (((16 + j : Nat) : Int) - 16) (by omega) (by omega) (by omega)) <| kH 51 (.pointer (some ⟨g3, j, none⟩)) (run_ix1 155 80 34 Tryz.underlying155 inz34 _ _ rfl g3 (by kernel_rfl) .i64 (j) (by kernel_rfl) (by omega)) ?_
   refine kE M 52 g3 j (.int .u64 ((sp2 rs j) j)) (fun w M => M.cell 2 rfl (by omega) rfl) ?_
   refine kV 53 (.int .u64 ((sp2 rs j) ((j + 1 : Nat)))) ?_
   refine kC M 54 128 #[.int .u64 ((sp2 rs j) ((j + 1 : Nat))), .int .u64 1] (.int .u64 (rot ((sp2 rs j) ((j + 1 : Nat))) 1)) (fun w M => c_turn1 ((sp2 rs j) ((j + 1 : Nat))) w M.laid) ?_
   refine kV 55 (.int .u64 ((sp2 rs j) ((j + 1 : Nat)))) ?_
   refine kC M 56 128 #[.int .u64 ((sp2 rs j) ((j + 1 : Nat))), .int .u64 8] (.int .u64 (rot ((sp2 rs j) ((j + 1 : Nat))) 8)) (fun w M => c_turn8 ((sp2 rs j) ((j + 1 : Nat))) w M.laid) ?_
   refine kV 57 (.int .u64 (ux (rot ((sp2 rs j) ((j + 1 : Nat))) 1) (rot ((sp2 rs j) ((j + 1 : Nat))) 8))) <| kV 58 (.int .u64 ((sp2 rs j) ((j + 1 : Nat)))) <| kV 59 (.int .u64 (sr ((sp2 rs j) ((j + 1 : Nat))) 7)) <| kV 60 (.int .u64 (ux (ux (rot ((sp2 rs j) ((j + 1 : Nat))) 1) (rot ((sp2 rs j) ((j + 1 : Nat))) 8)) (sr ((sp2 rs j) ((j + 1 : Nat))) 7))) ?_
   refine kV 61 (.int .u64 (ua ((sp2 rs j) j) (ux (ux (rot ((sp2 rs j) ((j + 1 : Nat))) 1) (rot ((sp2 rs j) ((j + 1 : Nat))) 8)) (sr ((sp2 rs j) ((j + 1 : Nat))) 7)))) <| kV 62 (.int .i64 ((16 + j : Nat) : Int)) <| kH 63 (.int .i64 ((j + 9 : Nat) : Int)) (iV (((16 + j : Nat) : Int) - 7) (by omega) (by omega) (by omega)) <| kH 64 (.pointer (some ⟨g3, ((j + 9 : Nat)), none⟩)) (run_ix1 155 80 34 Tryz.underlying155 inz34 _ _ rfl g3 (by kernel_rfl) .i64 ((j + 9 : Nat)) (by kernel_rfl) (by omega)) ?_
   refine kE M 65 g3 ((j + 9 : Nat)) (.int .u64 ((sp2 rs j) ((j + 9 : Nat)))) (fun w M => M.cell 2 rfl (by omega) rfl) ?_
   refine kV 66 (.int .u64 (ua (ua ((sp2 rs j) j) (ux (ux (rot ((sp2 rs j) ((j + 1 : Nat))) 1) (rot ((sp2 rs j) ((j + 1 : Nat))) 8)) (sr ((sp2 rs j) ((j + 1 : Nat))) 7))) ((sp2 rs j) ((j + 9 : Nat))))) <| kV 67 (.int .u64 ((sp2 rs j) ((j + 14 : Nat)))) ?_
   refine kC M 68 128 #[.int .u64 ((sp2 rs j) ((j + 14 : Nat))), .int .u64 19] (.int .u64 (rot ((sp2 rs j) ((j + 14 : Nat))) 19)) (fun w M => c_turn19 ((sp2 rs j) ((j + 14 : Nat))) w M.laid) ?_
   refine kV 69 (.int .u64 ((sp2 rs j) ((j + 14 : Nat)))) ?_
   refine kC M 70 128 #[.int .u64 ((sp2 rs j) ((j + 14 : Nat))), .int .u64 61] (.int .u64 (rot ((sp2 rs j) ((j + 14 : Nat))) 61)) (fun w M => c_turn61 ((sp2 rs j) ((j + 14 : Nat))) w M.laid) ?_
   refine kV 71 (.int .u64 (ux (rot ((sp2 rs j) ((j + 14 : Nat))) 19) (rot ((sp2 rs j) ((j + 14 : Nat))) 61))) <| kV 72 (.int .u64 ((sp2 rs j) ((j + 14 : Nat)))) <| kV 73 (.int .u64 (sr ((sp2 rs j) ((j + 14 : Nat))) 6)) <| kV 74 (.int .u64 (ux (ux (rot ((sp2 rs j) ((j + 14 : Nat))) 19) (rot ((sp2 rs j) ((j + 14 : Nat))) 61)) (sr ((sp2 rs j) ((j + 14 : Nat))) 6))) ?_
   refine kV 75 (.int .u64 (ua (ua (ua ((sp2 rs j) j) (ux (ux (rot ((sp2 rs j) ((j + 1 : Nat))) 1) (rot ((sp2 rs j) ((j + 1 : Nat))) 8)) (sr ((sp2 rs j) ((j + 1 : Nat))) 7))) ((sp2 rs j) ((j + 9 : Nat)))) (ux (ux (rot ((sp2 rs j) ((j + 14 : Nat))) 19) (rot ((sp2 rs j) ((j + 14 : Nat))) 61)) (sr ((sp2 rs j) ((j + 14 : Nat))) 6)))) <| kH 76 (.pointer (some ⟨g3, ((16 + j : Nat)), none⟩)) (run_ix1 155 80 34 Tryz.underlying155 inz34 _ _ rfl g3 (by kernel_rfl) .i64 ((16 + j : Nat)) (by kernel_rfl) (by omega)) ?_
   refine kl_nil fun u6 M => ?_
   refine pP M 2 rfl ((16 + j : Nat)) (.int .u64 (ua (ua (ua ((sp2 rs j) j) (ux (ux (rot ((sp2 rs j) ((j + 1 : Nat))) 1) (rot ((sp2 rs j) ((j + 1 : Nat))) 8)) (sr ((sp2 rs j) ((j + 1 : Nat))) 7))) ((sp2 rs j) ((j + 9 : Nat)))) (ux (ux (rot ((sp2 rs j) ((j + 14 : Nat))) 19) (rot ((sp2 rs j) ((j + 14 : Nat))) 61)) (sr ((sp2 rs j) ((j + 14 : Nat))) 6)))) (w64 (upd (sp2 rs j) ((16 + j : Nat)) (ua (ua (ua ((sp2 rs j) j) (ux (ux (rot ((sp2 rs j) ((j + 1 : Nat))) 1) (rot ((sp2 rs j) ((j + 1 : Nat))) 8)) (sr ((sp2 rs j) ((j + 1 : Nat))) 7))) ((sp2 rs j) ((j + 9 : Nat)))) (ux (ux (rot ((sp2 rs j) ((j + 14 : Nat))) 19) (rot ((sp2 rs j) ((j + 14 : Nat))) 61)) (sr ((sp2 rs j) ((j + 14 : Nat))) 6))))) (by omega) (fun j _ => put_w64 _ _ _ j) fun u7 M => ?_
   refine pl_nil ?_
   refine au_block ?_
   refine au_then ?_
   refine rg_lit ?_
   refine pV 38 (.int .i64 ((16 + j : Nat) : Int)) <| pH 39 (.int .i64 ((16 + (j + 1) : Nat) : Int)) (iV (((16 + j : Nat) : Int) + 1) (by omega) (by omega) (by omega)) <| pV 7 (.int .i64 ((16 + (j + 1) : Nat) : Int)) <| nT ?_
   exact ⟨fun k_ => ([.int .u64 ((sp2 rs j) ((j + 1 : Nat))), .int .u64 ((sp2 rs j) ((j + 14 : Nat))), undef, undef, undef, undef, undef, undef, undef, undef, undef, undef, undef, undef, undef, undef, undef, undef, undef, undef, undef, undef, undef, undef, undef, undef, undef, undef, .int .i64 ((16 + j : Nat) : Int), .bool true, .int .i64 ((16 + j : Nat) : Int), .int .i64 ((16 + (j + 1) : Nat) : Int), .int .i64 ((16 + j : Nat) : Int), .int .i64 ((j + 1 : Nat) : Int), .pointer (some ⟨g3, ((j + 1 : Nat)), none⟩), .int .u64 ((sp2 rs j) ((j + 1 : Nat))), .int .i64 ((16 + j : Nat) : Int), .int .i64 ((j + 14 : Nat) : Int), .pointer (some ⟨g3, ((j + 14 : Nat)), none⟩), .int .u64 ((sp2 rs j) ((j + 14 : Nat))), .int .i64 ((16 + j : Nat) : Int), .int .i64 ((16 + j : Nat) : Int), .int .i64 (j : Int), .pointer (some ⟨g3, j, none⟩), .int .u64 ((sp2 rs j) j), .int .u64 ((sp2 rs j) ((j + 1 : Nat))), .int .u64 (rot ((sp2 rs j) ((j + 1 : Nat))) 1), .int .u64 ((sp2 rs j) ((j + 1 : Nat))), .int .u64 (rot ((sp2 rs j) ((j + 1 : Nat))) 8), .int .u64 (ux (rot ((sp2 rs j) ((j + 1 : Nat))) 1) (rot ((sp2 rs j) ((j + 1 : Nat))) 8)), .int .u64 ((sp2 rs j) ((j + 1 : Nat))), .int .u64 (sr ((sp2 rs j) ((j + 1 : Nat))) 7), .int .u64 (ux (ux (rot ((sp2 rs j) ((j + 1 : Nat))) 1) (rot ((sp2 rs j) ((j + 1 : Nat))) 8)) (sr ((sp2 rs j) ((j + 1 : Nat))) 7)), .int .u64 (ua ((sp2 rs j) j) (ux (ux (rot ((sp2 rs j) ((j + 1 : Nat))) 1) (rot ((sp2 rs j) ((j + 1 : Nat))) 8)) (sr ((sp2 rs j) ((j + 1 : Nat))) 7))), .int .i64 ((16 + j : Nat) : Int), .int .i64 ((j + 9 : Nat) : Int), .pointer (some ⟨g3, ((j + 9 : Nat)), none⟩), .int .u64 ((sp2 rs j) ((j + 9 : Nat))), .int .u64 (ua (ua ((sp2 rs j) j) (ux (ux (rot ((sp2 rs j) ((j + 1 : Nat))) 1) (rot ((sp2 rs j) ((j + 1 : Nat))) 8)) (sr ((sp2 rs j) ((j + 1 : Nat))) 7))) ((sp2 rs j) ((j + 9 : Nat)))), .int .u64 ((sp2 rs j) ((j + 14 : Nat))), .int .u64 (rot ((sp2 rs j) ((j + 14 : Nat))) 19), .int .u64 ((sp2 rs j) ((j + 14 : Nat))), .int .u64 (rot ((sp2 rs j) ((j + 14 : Nat))) 61), .int .u64 (ux (rot ((sp2 rs j) ((j + 14 : Nat))) 19) (rot ((sp2 rs j) ((j + 14 : Nat))) 61)), .int .u64 ((sp2 rs j) ((j + 14 : Nat))), .int .u64 (sr ((sp2 rs j) ((j + 14 : Nat))) 6), .int .u64 (ux (ux (rot ((sp2 rs j) ((j + 14 : Nat))) 19) (rot ((sp2 rs j) ((j + 14 : Nat))) 61)) (sr ((sp2 rs j) ((j + 14 : Nat))) 6)), .int .u64 (ua (ua (ua ((sp2 rs j) j) (ux (ux (rot ((sp2 rs j) ((j + 1 : Nat))) 1) (rot ((sp2 rs j) ((j + 1 : Nat))) 8)) (sr ((sp2 rs j) ((j + 1 : Nat))) 7))) ((sp2 rs j) ((j + 9 : Nat)))) (ux (ux (rot ((sp2 rs j) ((j + 14 : Nat))) 19) (rot ((sp2 rs j) ((j + 14 : Nat))) 61)) (sr ((sp2 rs j) ((j + 14 : Nat))) 6))), .pointer (some ⟨g3, ((16 + j : Nat)), none⟩)] : List Value).getD (k_ - 8) undef, by kernel_rfl, M⟩
  ·intro a u0 hI
   obtain ⟨v2, rfl, M⟩ := hI
   refine wp_seq ?_
   refine sR <| pV 36 (.int .i64 ((16 + 64 : Nat) : Int)) <| pH 37 (.bool false) (dF (((16 + 64 : Nat) : Int) < 80) (by omega)) <| nT ?_
   refine cF ?_
   refine wp_exit ?_
   refine au_then_exit ?_
   refine au_then_exit ?_
   refine au_block_exit ?_
   refine au_then ?_
   refine sR ?_
   refine pC M 77 129 #[] (.agg (av 80 (w64 KF))) (fun w M => c_K w M.laid) fun u8 M => ?_
   refine pN M 10 (.cells (av 80 (w64 fun _ => 0)) 155) fun g4 u9 M => ?_
   refine pl_put M (want_no rfl) rfl 155 _ _ rfl 3 g4 0 (by kernel_rfl) 80 155 (w64 fun _ => 0) rfl 80 (w64 KF) (w64 KF) (by kernel_rfl) inz155 (by decide) (fun _ _ => rfl) (fun j hj => by rw [if_pos (by omega), Nat.sub_zero]) fun u10 M => ?_
   refine nT <| sR ?_
   refine pA M 78 0 8 (w64 h) ?_
   refine pN M 11 (.cells (av 8 (w64 fun _ => 0)) 95) fun g5 u11 M => ?_
   refine pl_put M (want_no rfl) rfl 95 _ _ rfl 4 g5 0 (by kernel_rfl) 8 95 (w64 fun _ => 0) rfl 8 (w64 h) (w64 h) (by kernel_rfl) inz95 (by decide) (fun _ _ => rfl) (fun j hj => by rw [if_pos (by omega), Nat.sub_zero]) fun u12 M => ?_
   refine nT ?_
   refine wp_seq ?_
   refine sR <| pV 12 (.int .i64 0) <| nT ?_
   refine wp_block ?_
   refine au_loop (fun j a w' => ∃ v3 : Nat → Value, a = ⟨#[.agg (av 8 (w64 h)), .slice (some ⟨g, off, none⟩) 128 cap, .pointer (some ⟨g1, 0, none⟩), undef, .pointer (some ⟨g2, 0, none⟩), .pointer (some ⟨g3, 0, none⟩), .int .i64 (128 : Int), .int .i64 ((16 + 64 : Nat) : Int), v2 8, v2 9, .pointer (some ⟨g4, 0, none⟩), .pointer (some ⟨g5, 0, none⟩), .int .i64 (j : Int), v3 13, v3 14, v3 15, v3 16, undef, .int .i64 (128 : Int), .bool false, v1 20, v1 21, v1 22, v1 23, v1 24, v1 25, v1 26, v1 27, v1 28, v1 29, v1 30, v1 31, v1 32, v1 33, v1 34, v1 35, .int .i64 ((16 + 64 : Nat) : Int), .bool false, v2 38, v2 39, v2 40, v2 41, v2 42, v2 43, v2 44, v2 45, v2 46, v2 47, v2 48, v2 49, v2 50, v2 51, v2 52, v2 53, v2 54, v2 55, v2 56, v2 57, v2 58, v2 59, v2 60, v2 61, v2 62, v2 63, v2 64, v2 65, v2 66, v2 67, v2 68, v2 69, v2 70, v2 71, v2 72, v2 73, v2 74, v2 75, v2 76, .agg (av 80 (w64 KF)), .agg (av 8 (w64 h)), v3 79, v3 80, v3 81, v3 82, v3 83, v3 84, v3 85, v3 86, v3 87, v3 88, v3 89, v3 90, v3 91, v3 92, v3 93, v3 94, v3 95, v3 96, v3 97, v3 98, v3 99, v3 100, v3 101, v3 102, v3 103, v3 104, v3 105, v3 106, v3 107, v3 108, v3 109, v3 110, v3 111, v3 112, v3 113, v3 114, v3 115, v3 116, v3 117, v3 118, v3 119, v3 120, v3 121, v3 122, v3 123, v3 124, v3 125, v3 126, v3 127, v3 128, v3 129, v3 130, v3 131, v3 132, v3 133, v3 134, v3 135, v3 136, v3 137, v3 138, v3 139, v3 140, v3 141, v3 142, v3 143, v3 144, v3 145, v3 146, v3 147, v3 148, v3 149, v3 150, v3 151, v3 152, v3 153, v3 154, v3 155, v3 156, v3 157, v3 158, v3 159, v3 160, undef, undef, undef, undef, undef, undef, undef, undef, undef, undef, undef, undef, undef, undef], []⟩ ∧ Mem ⟨w, []⟩ [⟨g1, .cells (av 8 (w64 h)) 95⟩, ⟨g2, .cells (av 8 (w64 fun _ => 0)) 95⟩, ⟨g3, .cells (av 80 (w64 (sp2 rs 64))) 155⟩, ⟨g4, .cells (av 80 (w64 KF)) 155⟩, ⟨g5, .cells (av 8 (w64 (rd h rs j))) 95⟩] w') 80 ⟨fun k_ => ([undef, undef, undef, undef, undef, undef, undef, undef, undef, undef, undef, undef, undef, undef, undef, undef, undef, undef, undef, undef, undef, undef, undef, undef, undef, undef, undef, undef, undef, undef, undef, undef, undef, undef, undef, undef, undef, undef, undef, undef, undef, undef, undef, undef, undef, undef, undef, undef, undef, undef, undef, undef, undef, undef, undef, undef, undef, undef, undef, undef, undef, undef, undef, undef, undef, undef, undef, undef, undef, undef, undef, undef, undef, undef, undef, undef, undef, undef, undef, undef, undef, undef, undef, undef, undef, undef, undef, undef, undef, undef, undef, undef, undef, undef, undef, undef, undef, undef, undef, undef, undef, undef, undef, undef, undef, undef, undef, undef, undef, undef, undef, undef, undef, undef, undef, undef, undef, undef, undef, undef, undef, undef, undef, undef, undef, undef, undef, undef, undef, undef, undef, undef, undef, undef, undef, undef, undef, undef, undef, undef, undef, undef, undef, undef, undef, undef, undef, undef] : List Value).getD (k_ - 13) undef, by kernel_rfl, M⟩ ?_ ?_
   ·intro j a u0 hj hI
    obtain ⟨v3, rfl, M⟩ := hI
    refine wp_seq ?_
    refine sR <| pV 79 (.int .i64 (j : Int)) <| pH 80 (.bool true) (dT ((j : Int) < 80) (by omega)) <| nT ?_
    refine cT ?_
    refine wp_skip ?_
    refine au_then ?_
    refine wp_seq ?_
    refine wp_block ?_
    refine sR <| pV 83 (.pointer (some ⟨g5, 4, none⟩)) ?_
    refine pE M 84 g5 4 (.int .u64 ((rd h rs j) 4)) (fun w M => M.cell 4 rfl (by decide) rfl) ?_
    refine pV 13 (.int .u64 ((rd h rs j) 4)) <| nT ?_
    refine wp_seq ?_
    refine rg_tail M 30 (by kernel_rfl) (by kernel_rfl) ?_
    simp only [List.take_succ_cons, List.take_zero]
    refine kV 85 (.pointer (some ⟨g5, 7, none⟩)) ?_
    refine kE M 86 g5 7 (.int .u64 ((rd h rs j) 7)) (fun w M => M.cell 4 rfl (by decide) rfl) ?_
    refine kV 87 (.int .u64 ((rd h rs j) 4)) ?_
    refine kC M 88 128 #[.int .u64 ((rd h rs j) 4), .int .u64 14] (.int .u64 (rot ((rd h rs j) 4) 14)) (fun w M => c_turn14 ((rd h rs j) 4) w M.laid) ?_
    refine kV 89 (.int .u64 ((rd h rs j) 4)) ?_
    refine kC M 90 128 #[.int .u64 ((rd h rs j) 4), .int .u64 18] (.int .u64 (rot ((rd h rs j) 4) 18)) (fun w M => c_turn18 ((rd h rs j) 4) w M.laid) ?_
    refine kV 91 (.int .u64 (ux (rot ((rd h rs j) 4) 14) (rot ((rd h rs j) 4) 18))) <| kV 92 (.int .u64 ((rd h rs j) 4)) ?_
    refine kC M 93 128 #[.int .u64 ((rd h rs j) 4), .int .u64 41] (.int .u64 (rot ((rd h rs j) 4) 41)) (fun w M => c_turn41 ((rd h rs j) 4) w M.laid) ?_
    refine kV 94 (.int .u64 (ux (ux (rot ((rd h rs j) 4) 14) (rot ((rd h rs j) 4) 18)) (rot ((rd h rs j) 4) 41))) <| kV 95 (.int .u64 (ua ((rd h rs j) 7) (ux (ux (rot ((rd h rs j) 4) 14) (rot ((rd h rs j) 4) 18)) (rot ((rd h rs j) 4) 41)))) <| kV 96 (.int .u64 ((rd h rs j) 4)) <| kV 97 (.pointer (some ⟨g5, 5, none⟩)) ?_
    refine kE M 98 g5 5 (.int .u64 ((rd h rs j) 5)) (fun w M => M.cell 4 rfl (by decide) rfl) ?_
    refine kV 99 (.int .u64 (un ((rd h rs j) 4) ((rd h rs j) 5))) <| kV 100 (.int .u64 ((rd h rs j) 4)) <| kV 101 (.int .u64 (ut ((rd h rs j) 4))) <| kV 102 (.pointer (some ⟨g5, 6, none⟩)) ?_
    refine kE M 103 g5 6 (.int .u64 ((rd h rs j) 6)) (fun w M => M.cell 4 rfl (by decide) rfl) ?_
    refine kV 104 (.int .u64 (un (ut ((rd h rs j) 4)) ((rd h rs j) 6))) <| kV 105 (.int .u64 (ux (un ((rd h rs j) 4) ((rd h rs j) 5)) (un (ut ((rd h rs j) 4)) ((rd h rs j) 6)))) <| kV 106 (.int .u64 (ua (ua ((rd h rs j) 7) (ux (ux (rot ((rd h rs j) 4) 14) (rot ((rd h rs j) 4) 18)) (rot ((rd h rs j) 4) 41))) (ux (un ((rd h rs j) 4) ((rd h rs j) 5)) (un (ut ((rd h rs j) 4)) ((rd h rs j) 6))))) <| kV 107 (.int .i64 (j : Int)) ?_
    refine kH 108 (.pointer (some ⟨g4, j, none⟩)) (run_ix1 155 80 34 Tryz.underlying155 inz34 _ _ rfl g4 (by kernel_rfl) .i64 (j) (by kernel_rfl) (by omega)) ?_
    refine kE M 109 g4 j (.int .u64 (KF j)) (fun w M => M.cell 3 rfl (by omega) rfl) ?_
    refine kV 110 (.int .u64 (ua (ua (ua ((rd h rs j) 7) (ux (ux (rot ((rd h rs j) 4) 14) (rot ((rd h rs j) 4) 18)) (rot ((rd h rs j) 4) 41))) (ux (un ((rd h rs j) 4) ((rd h rs j) 5)) (un (ut ((rd h rs j) 4)) ((rd h rs j) 6)))) (KF j))) <| kV 111 (.int .i64 (j : Int)) <| kH 112 (.pointer (some ⟨g3, j, none⟩)) (run_ix1 155 80 34 Tryz.underlying155 inz34 _ _ rfl g3 (by kernel_rfl) .i64 (j) (by kernel_rfl) (by omega)) ?_
    refine kE M 113 g3 j (.int .u64 ((sp2 rs 64) j)) (fun w M => M.cell 2 rfl (by omega) rfl) ?_
    refine kV 114 (.int .u64 (ua (ua (ua (ua ((rd h rs j) 7) (ux (ux (rot ((rd h rs j) 4) 14) (rot ((rd h rs j) 4) 18)) (rot ((rd h rs j) 4) 41))) (ux (un ((rd h rs j) 4) ((rd h rs j) 5)) (un (ut ((rd h rs j) 4)) ((rd h rs j) 6)))) (KF j)) ((sp2 rs 64) j))) ?_
    refine kl_nil fun u13 M => ?_
    refine pH 14 (.int .u64 (uF (rd h rs j) (ua (KF j) (sp2 rs 64 j)))) (fun w => Eq.trans (b := .ok (.value (.int .u64 (ua (ua (ua (ua ((rd h rs j) 7) (bS1 ((rd h rs j) 4))) (chF ((rd h rs j) 4) ((rd h rs j) 5) ((rd h rs j) 6))) (KF j)) (sp2 rs 64 j)))) w) (by kernel_rfl) (by rw [ua_assoc]; rfl)) <| nT <| sR <| pV 115 (.pointer (some ⟨g5, 0, none⟩)) ?_
    refine pE M 116 g5 0 (.int .u64 ((rd h rs j) 0)) (fun w M => M.cell 4 rfl (by decide) rfl) ?_
    refine pV 15 (.int .u64 ((rd h rs j) 0)) <| nT ?_
    refine wp_seq ?_
    refine rg_tail M 24 (by kernel_rfl) (by kernel_rfl) ?_
    simp only [List.take_succ_cons, List.take_zero]
    refine kV 117 (.int .u64 ((rd h rs j) 0)) ?_
    refine kC M 118 128 #[.int .u64 ((rd h rs j) 0), .int .u64 28] (.int .u64 (rot ((rd h rs j) 0) 28)) (fun w M => c_turn28 ((rd h rs j) 0) w M.laid) ?_
    refine kV 119 (.int .u64 ((rd h rs j) 0)) ?_
    refine kC M 120 128 #[.int .u64 ((rd h rs j) 0), .int .u64 34] (.int .u64 (rot ((rd h rs j) 0) 34)) (fun w M => c_turn34 ((rd h rs j) 0) w M.laid) ?_
    refine kV 121 (.int .u64 (ux (rot ((rd h rs j) 0) 28) (rot ((rd h rs j) 0) 34))) <| kV 122 (.int .u64 ((rd h rs j) 0)) ?_
    refine kC M 123 128 #[.int .u64 ((rd h rs j) 0), .int .u64 39] (.int .u64 (rot ((rd h rs j) 0) 39)) (fun w M => c_turn39 ((rd h rs j) 0) w M.laid) ?_
    refine kV 124 (.int .u64 (ux (ux (rot ((rd h rs j) 0) 28) (rot ((rd h rs j) 0) 34)) (rot ((rd h rs j) 0) 39))) <| kV 125 (.int .u64 ((rd h rs j) 0)) <| kV 126 (.pointer (some ⟨g5, 1, none⟩)) ?_
    refine kE M 127 g5 1 (.int .u64 ((rd h rs j) 1)) (fun w M => M.cell 4 rfl (by decide) rfl) ?_
    refine kV 128 (.int .u64 (un ((rd h rs j) 0) ((rd h rs j) 1))) <| kV 129 (.int .u64 ((rd h rs j) 0)) <| kV 130 (.pointer (some ⟨g5, 2, none⟩)) ?_
    refine kE M 131 g5 2 (.int .u64 ((rd h rs j) 2)) (fun w M => M.cell 4 rfl (by decide) rfl) ?_
    refine kV 132 (.int .u64 (un ((rd h rs j) 0) ((rd h rs j) 2))) <| kV 133 (.int .u64 (ux (un ((rd h rs j) 0) ((rd h rs j) 1)) (un ((rd h rs j) 0) ((rd h rs j) 2)))) <| kV 134 (.pointer (some ⟨g5, 1, none⟩)) ?_
    refine kE M 135 g5 1 (.int .u64 ((rd h rs j) 1)) (fun w M => M.cell 4 rfl (by decide) rfl) ?_
    refine kV 136 (.pointer (some ⟨g5, 2, none⟩)) ?_
    refine kE M 137 g5 2 (.int .u64 ((rd h rs j) 2)) (fun w M => M.cell 4 rfl (by decide) rfl) ?_
    refine kV 138 (.int .u64 (un ((rd h rs j) 1) ((rd h rs j) 2))) <| kV 139 (.int .u64 (ux (ux (un ((rd h rs j) 0) ((rd h rs j) 1)) (un ((rd h rs j) 0) ((rd h rs j) 2))) (un ((rd h rs j) 1) ((rd h rs j) 2)))) <| kV 140 (.int .u64 (ua (ux (ux (rot ((rd h rs j) 0) 28) (rot ((rd h rs j) 0) 34)) (rot ((rd h rs j) 0) 39)) (ux (ux (un ((rd h rs j) 0) ((rd h rs j) 1)) (un ((rd h rs j) 0) ((rd h rs j) 2))) (un ((rd h rs j) 1) ((rd h rs j) 2))))) ?_
    refine kl_nil fun u14 M => ?_
    refine pV 16 (.int .u64 (vF (rd h rs j))) <| nT ?_
    refine rg_lit ?_
    refine pV 141 (.int .u64 (uF (rd h rs j) (ua (KF j) (sp2 rs 64 j)))) <| pV 142 (.int .u64 (vF (rd h rs j))) <| pV 143 (.int .u64 (ua (uF (rd h rs j) (ua (KF j) (sp2 rs 64 j))) (vF (rd h rs j)))) <| pV 144 (.pointer (some ⟨g5, 0, none⟩)) ?_
    refine pE M 145 g5 0 (.int .u64 ((rd h rs j) 0)) (fun w M => M.cell 4 rfl (by decide) rfl) ?_
    refine pV 146 (.pointer (some ⟨g5, 1, none⟩)) ?_
    refine pE M 147 g5 1 (.int .u64 ((rd h rs j) 1)) (fun w M => M.cell 4 rfl (by decide) rfl) ?_
    refine pV 148 (.pointer (some ⟨g5, 2, none⟩)) ?_
    refine pE M 149 g5 2 (.int .u64 ((rd h rs j) 2)) (fun w M => M.cell 4 rfl (by decide) rfl) ?_
    refine pV 150 (.pointer (some ⟨g5, 3, none⟩)) ?_
    refine pE M 151 g5 3 (.int .u64 ((rd h rs j) 3)) (fun w M => M.cell 4 rfl (by decide) rfl) ?_
    refine pV 152 (.int .u64 (uF (rd h rs j) (ua (KF j) (sp2 rs 64 j)))) <| pV 153 (.int .u64 (ua ((rd h rs j) 3) (uF (rd h rs j) (ua (KF j) (sp2 rs 64 j))))) <| pV 154 (.pointer (some ⟨g5, 4, none⟩)) ?_
    refine pE M 155 g5 4 (.int .u64 ((rd h rs j) 4)) (fun w M => M.cell 4 rfl (by decide) rfl) ?_
    refine pV 156 (.pointer (some ⟨g5, 5, none⟩)) ?_
    refine pE M 157 g5 5 (.int .u64 ((rd h rs j) 5)) (fun w M => M.cell 4 rfl (by decide) rfl) ?_
    refine pV 158 (.pointer (some ⟨g5, 6, none⟩)) ?_
    refine pE M 159 g5 6 (.int .u64 ((rd h rs j) 6)) (fun w M => M.cell 4 rfl (by decide) rfl) ?_
    refine pV 160 (.agg (av 8 (w64 (r8 (ua (uF (rd h rs j) (ua (KF j) (sp2 rs 64 j))) (vF (rd h rs j))) ((rd h rs j) 0) ((rd h rs j) 1) ((rd h rs j) 2) (ua ((rd h rs j) 3) (uF (rd h rs j) (ua (KF j) (sp2 rs 64 j)))) ((rd h rs j) 4) ((rd h rs j) 5) ((rd h rs j) 6))))) ?_
    refine pl_put M (want_no rfl) rfl 95 _ _ rfl 4 g5 0 (by kernel_rfl) 8 95 (w64 (rd h rs j)) rfl 8 (w64 (r8 (ua (uF (rd h rs j) (ua (KF j) (sp2 rs 64 j))) (vF (rd h rs j))) ((rd h rs j) 0) ((rd h rs j) 1) ((rd h rs j) 2) (ua ((rd h rs j) 3) (uF (rd h rs j) (ua (KF j) (sp2 rs 64 j)))) ((rd h rs j) 4) ((rd h rs j) 5) ((rd h rs j) 6))) (w64 (r8 (ua (uF (rd h rs j) (ua (KF j) (sp2 rs 64 j))) (vF (rd h rs j))) ((rd h rs j) 0) ((rd h rs j) 1) ((rd h rs j) 2) (ua ((rd h rs j) 3) (uF (rd h rs j) (ua (KF j) (sp2 rs 64 j)))) ((rd h rs j) 4) ((rd h rs j) 5) ((rd h rs j) 6))) (by kernel_rfl) inz95 (by decide) (fun _ _ => rfl) (fun j hj => by rw [if_pos (by omega), Nat.sub_zero]) fun u15 M => ?_
    refine pl_nil ?_
    refine au_block ?_
    refine au_then ?_
    refine rg_lit ?_
    refine pV 81 (.int .i64 (j : Int)) <| pH 82 (.int .i64 ((j + 1 : Nat) : Int)) (iV ((j : Int) + 1) (by omega) (by omega) (by omega)) <| pV 12 (.int .i64 ((j + 1 : Nat) : Int)) <| nT ?_
    exact ⟨fun k_ => ([.int .u64 ((rd h rs j) 4), .int .u64 (uF (rd h rs j) (ua (KF j) (sp2 rs 64 j))), .int .u64 ((rd h rs j) 0), .int .u64 (vF (rd h rs j)), undef, undef, undef, undef, undef, undef, undef, undef, undef, undef, undef, undef, undef, undef, undef, undef, undef, undef, undef, undef, undef, undef, undef, undef, undef, undef, undef, undef, undef, undef, undef, undef, undef, undef, undef, undef, undef, undef, undef, undef, undef, undef, undef, undef, undef, undef, undef, undef, undef, undef, undef, undef, undef, undef, undef, undef, undef, undef, undef, undef, undef, undef, .int .i64 (j : Int), .bool true, .int .i64 (j : Int), .int .i64 ((j + 1 : Nat) : Int), .pointer (some ⟨g5, 4, none⟩), .int .u64 ((rd h rs j) 4), .pointer (some ⟨g5, 7, none⟩), .int .u64 ((rd h rs j) 7), .int .u64 ((rd h rs j) 4), .int .u64 (rot ((rd h rs j) 4) 14), .int .u64 ((rd h rs j) 4), .int .u64 (rot ((rd h rs j) 4) 18), .int .u64 (ux (rot ((rd h rs j) 4) 14) (rot ((rd h rs j) 4) 18)), .int .u64 ((rd h rs j) 4), .int .u64 (rot ((rd h rs j) 4) 41), .int .u64 (ux (ux (rot ((rd h rs j) 4) 14) (rot ((rd h rs j) 4) 18)) (rot ((rd h rs j) 4) 41)), .int .u64 (ua ((rd h rs j) 7) (ux (ux (rot ((rd h rs j) 4) 14) (rot ((rd h rs j) 4) 18)) (rot ((rd h rs j) 4) 41))), .int .u64 ((rd h rs j) 4), .pointer (some ⟨g5, 5, none⟩), .int .u64 ((rd h rs j) 5), .int .u64 (un ((rd h rs j) 4) ((rd h rs j) 5)), .int .u64 ((rd h rs j) 4), .int .u64 (ut ((rd h rs j) 4)), .pointer (some ⟨g5, 6, none⟩), .int .u64 ((rd h rs j) 6), .int .u64 (un (ut ((rd h rs j) 4)) ((rd h rs j) 6)), .int .u64 (ux (un ((rd h rs j) 4) ((rd h rs j) 5)) (un (ut ((rd h rs j) 4)) ((rd h rs j) 6))), .int .u64 (ua (ua ((rd h rs j) 7) (ux (ux (rot ((rd h rs j) 4) 14) (rot ((rd h rs j) 4) 18)) (rot ((rd h rs j) 4) 41))) (ux (un ((rd h rs j) 4) ((rd h rs j) 5)) (un (ut ((rd h rs j) 4)) ((rd h rs j) 6)))), .int .i64 (j : Int), .pointer (some ⟨g4, j, none⟩), .int .u64 (KF j), .int .u64 (ua (ua (ua ((rd h rs j) 7) (ux (ux (rot ((rd h rs j) 4) 14) (rot ((rd h rs j) 4) 18)) (rot ((rd h rs j) 4) 41))) (ux (un ((rd h rs j) 4) ((rd h rs j) 5)) (un (ut ((rd h rs j) 4)) ((rd h rs j) 6)))) (KF j)), .int .i64 (j : Int), .pointer (some ⟨g3, j, none⟩), .int .u64 ((sp2 rs 64) j), .int .u64 (ua (ua (ua (ua ((rd h rs j) 7) (ux (ux (rot ((rd h rs j) 4) 14) (rot ((rd h rs j) 4) 18)) (rot ((rd h rs j) 4) 41))) (ux (un ((rd h rs j) 4) ((rd h rs j) 5)) (un (ut ((rd h rs j) 4)) ((rd h rs j) 6)))) (KF j)) ((sp2 rs 64) j)), .pointer (some ⟨g5, 0, none⟩), .int .u64 ((rd h rs j) 0), .int .u64 ((rd h rs j) 0), .int .u64 (rot ((rd h rs j) 0) 28), .int .u64 ((rd h rs j) 0), .int .u64 (rot ((rd h rs j) 0) 34), .int .u64 (ux (rot ((rd h rs j) 0) 28) (rot ((rd h rs j) 0) 34)), .int .u64 ((rd h rs j) 0), .int .u64 (rot ((rd h rs j) 0) 39), .int .u64 (ux (ux (rot ((rd h rs j) 0) 28) (rot ((rd h rs j) 0) 34)) (rot ((rd h rs j) 0) 39)), .int .u64 ((rd h rs j) 0), .pointer (some ⟨g5, 1, none⟩), .int .u64 ((rd h rs j) 1), .int .u64 (un ((rd h rs j) 0) ((rd h rs j) 1)), .int .u64 ((rd h rs j) 0), .pointer (some ⟨g5, 2, none⟩), .int .u64 ((rd h rs j) 2), .int .u64 (un ((rd h rs j) 0) ((rd h rs j) 2)), .int .u64 (ux (un ((rd h rs j) 0) ((rd h rs j) 1)) (un ((rd h rs j) 0) ((rd h rs j) 2))), .pointer (some ⟨g5, 1, none⟩), .int .u64 ((rd h rs j) 1), .pointer (some ⟨g5, 2, none⟩), .int .u64 ((rd h rs j) 2), .int .u64 (un ((rd h rs j) 1) ((rd h rs j) 2)), .int .u64 (ux (ux (un ((rd h rs j) 0) ((rd h rs j) 1)) (un ((rd h rs j) 0) ((rd h rs j) 2))) (un ((rd h rs j) 1) ((rd h rs j) 2))), .int .u64 (ua (ux (ux (rot ((rd h rs j) 0) 28) (rot ((rd h rs j) 0) 34)) (rot ((rd h rs j) 0) 39)) (ux (ux (un ((rd h rs j) 0) ((rd h rs j) 1)) (un ((rd h rs j) 0) ((rd h rs j) 2))) (un ((rd h rs j) 1) ((rd h rs j) 2)))), .int .u64 (uF (rd h rs j) (ua (KF j) (sp2 rs 64 j))), .int .u64 (vF (rd h rs j)), .int .u64 (ua (uF (rd h rs j) (ua (KF j) (sp2 rs 64 j))) (vF (rd h rs j))), .pointer (some ⟨g5, 0, none⟩), .int .u64 ((rd h rs j) 0), .pointer (some ⟨g5, 1, none⟩), .int .u64 ((rd h rs j) 1), .pointer (some ⟨g5, 2, none⟩), .int .u64 ((rd h rs j) 2), .pointer (some ⟨g5, 3, none⟩), .int .u64 ((rd h rs j) 3), .int .u64 (uF (rd h rs j) (ua (KF j) (sp2 rs 64 j))), .int .u64 (ua ((rd h rs j) 3) (uF (rd h rs j) (ua (KF j) (sp2 rs 64 j)))), .pointer (some ⟨g5, 4, none⟩), .int .u64 ((rd h rs j) 4), .pointer (some ⟨g5, 5, none⟩), .int .u64 ((rd h rs j) 5), .pointer (some ⟨g5, 6, none⟩), .int .u64 ((rd h rs j) 6), .agg (av 8 (w64 (r8 (ua (uF (rd h rs j) (ua (KF j) (sp2 rs 64 j))) (vF (rd h rs j))) ((rd h rs j) 0) ((rd h rs j) 1) ((rd h rs j) 2) (ua ((rd h rs j) 3) (uF (rd h rs j) (ua (KF j) (sp2 rs 64 j)))) ((rd h rs j) 4) ((rd h rs j) 5) ((rd h rs j) 6))))] : List Value).getD (k_ - 13) undef, by kernel_rfl, M⟩
   ·intro a u0 hI
    obtain ⟨v3, rfl, M⟩ := hI
    refine wp_seq ?_
    refine sR <| pV 79 (.int .i64 (80 : Int)) <| pH 80 (.bool false) (dF (80 < 80) (by omega)) <| nT ?_
    refine cF ?_
    refine wp_exit ?_
    refine au_then_exit ?_
    refine au_then_exit ?_
    refine au_block_exit ?_
    refine au_then ?_
    refine wp_seq ?_
    refine sR <| pV 17 (.int .i64 0) <| nT ?_
    refine wp_block ?_
    refine au_loop (fun j a w' => ∃ v4 : Nat → Value, a = ⟨#[.agg (av 8 (w64 h)), .slice (some ⟨g, off, none⟩) 128 cap, .pointer (some ⟨g1, 0, none⟩), undef, .pointer (some ⟨g2, 0, none⟩), .pointer (some ⟨g3, 0, none⟩), .int .i64 (128 : Int), .int .i64 ((16 + 64 : Nat) : Int), v2 8, v2 9, .pointer (some ⟨g4, 0, none⟩), .pointer (some ⟨g5, 0, none⟩), .int .i64 (80 : Int), v3 13, v3 14, v3 15, v3 16, .int .i64 (j : Int), .int .i64 (128 : Int), .bool false, v1 20, v1 21, v1 22, v1 23, v1 24, v1 25, v1 26, v1 27, v1 28, v1 29, v1 30, v1 31, v1 32, v1 33, v1 34, v1 35, .int .i64 ((16 + 64 : Nat) : Int), .bool false, v2 38, v2 39, v2 40, v2 41, v2 42, v2 43, v2 44, v2 45, v2 46, v2 47, v2 48, v2 49, v2 50, v2 51, v2 52, v2 53, v2 54, v2 55, v2 56, v2 57, v2 58, v2 59, v2 60, v2 61, v2 62, v2 63, v2 64, v2 65, v2 66, v2 67, v2 68, v2 69, v2 70, v2 71, v2 72, v2 73, v2 74, v2 75, v2 76, .agg (av 80 (w64 KF)), .agg (av 8 (w64 h)), .int .i64 (80 : Int), .bool false, v3 81, v3 82, v3 83, v3 84, v3 85, v3 86, v3 87, v3 88, v3 89, v3 90, v3 91, v3 92, v3 93, v3 94, v3 95, v3 96, v3 97, v3 98, v3 99, v3 100, v3 101, v3 102, v3 103, v3 104, v3 105, v3 106, v3 107, v3 108, v3 109, v3 110, v3 111, v3 112, v3 113, v3 114, v3 115, v3 116, v3 117, v3 118, v3 119, v3 120, v3 121, v3 122, v3 123, v3 124, v3 125, v3 126, v3 127, v3 128, v3 129, v3 130, v3 131, v3 132, v3 133, v3 134, v3 135, v3 136, v3 137, v3 138, v3 139, v3 140, v3 141, v3 142, v3 143, v3 144, v3 145, v3 146, v3 147, v3 148, v3 149, v3 150, v3 151, v3 152, v3 153, v3 154, v3 155, v3 156, v3 157, v3 158, v3 159, v3 160, v4 161, v4 162, v4 163, v4 164, v4 165, v4 166, v4 167, v4 168, v4 169, v4 170, v4 171, v4 172, v4 173, undef], []⟩ ∧ Mem ⟨w, []⟩ [⟨g1, .cells (av 8 (w64 (ad h (rd h rs 80) j))) 95⟩, ⟨g2, .cells (av 8 (w64 fun _ => 0)) 95⟩, ⟨g3, .cells (av 80 (w64 (sp2 rs 64))) 155⟩, ⟨g4, .cells (av 80 (w64 KF)) 155⟩, ⟨g5, .cells (av 8 (w64 (rd h rs 80))) 95⟩] w') 8 ⟨fun k_ => ([undef, undef, undef, undef, undef, undef, undef, undef, undef, undef, undef, undef, undef] : List Value).getD (k_ - 161) undef, by kernel_rfl, M⟩ ?_ ?_
    ·intro j a u0 hj hI
     obtain ⟨v4, rfl, M⟩ := hI
     refine wp_seq ?_
     refine sR <| pV 161 (.int .i64 (j : Int)) <| pH 162 (.bool true) (dT ((j : Int) < 8) (by omega)) <| nT ?_
     refine cT ?_
     refine wp_skip ?_
     refine au_then ?_
     refine wp_seq ?_
     refine wp_block ?_
     refine rg_tail M 9 (by kernel_rfl) (by kernel_rfl) ?_
     simp only [List.take_succ_cons, List.take_zero]
     refine kV 165 (.int .i64 (j : Int)) <| kV 166 (.int .i64 (j : Int)) <| kH 167 (.pointer (some ⟨g1, j, none⟩)) (run_ix1 95 8 34 Tryz.underlying95 inz34 _ _ rfl g1 (by kernel_rfl) .i64 (j) (by kernel_rfl) (by omega)) ?_
     refine kE M 168 g1 j (.int .u64 ((ad h (rd h rs 80) j) j)) (fun w M => M.cell 0 rfl (by omega) rfl) ?_
     refine kV 169 (.int .i64 (j : Int)) <| kH 170 (.pointer (some ⟨g5, j, none⟩)) (run_ix1 95 8 34 Tryz.underlying95 inz34 _ _ rfl g5 (by kernel_rfl) .i64 (j) (by kernel_rfl) (by omega)) ?_
     refine kE M 171 g5 j (.int .u64 ((rd h rs 80) j)) (fun w M => M.cell 4 rfl (by omega) rfl) ?_
     refine kV 172 (.int .u64 (ua ((ad h (rd h rs 80) j) j) ((rd h rs 80) j))) <| kH 173 (.pointer (some ⟨g1, j, none⟩)) (run_ix1 95 8 34 Tryz.underlying95 inz34 _ _ rfl g1 (by kernel_rfl) .i64 (j) (by kernel_rfl) (by omega)) ?_
     refine kl_nil fun u16 M => ?_
     refine pP M 0 rfl j (.int .u64 (ua ((ad h (rd h rs 80) j) j) ((rd h rs 80) j))) (w64 (upd (ad h (rd h rs 80) j) j (ua ((ad h (rd h rs 80) j) j) ((rd h rs 80) j)))) (by omega) (fun j _ => put_w64 _ _ _ j) fun u17 M => ?_
     refine pl_nil ?_
     refine au_block ?_
     refine au_then ?_
     refine rg_lit ?_
     refine pV 163 (.int .i64 (j : Int)) <| pH 164 (.int .i64 ((j + 1 : Nat) : Int)) (iV ((j : Int) + 1) (by omega) (by omega) (by omega)) <| pV 17 (.int .i64 ((j + 1 : Nat) : Int)) <| nT ?_
     exact ⟨fun k_ => ([.int .i64 (j : Int), .bool true, .int .i64 (j : Int), .int .i64 ((j + 1 : Nat) : Int), .int .i64 (j : Int), .int .i64 (j : Int), .pointer (some ⟨g1, j, none⟩), .int .u64 ((ad h (rd h rs 80) j) j), .int .i64 (j : Int), .pointer (some ⟨g5, j, none⟩), .int .u64 ((rd h rs 80) j), .int .u64 (ua ((ad h (rd h rs 80) j) j) ((rd h rs 80) j)), .pointer (some ⟨g1, j, none⟩)] : List Value).getD (k_ - 161) undef, by kernel_rfl, M⟩
    ·intro a u0 hI
     obtain ⟨v4, rfl, M⟩ := hI
     refine wp_seq ?_
     refine sR <| pV 161 (.int .i64 (8 : Int)) <| pH 162 (.bool false) (dF (8 < 8) (by omega)) <| nT ?_
     refine cF ?_
     refine wp_exit ?_
     refine au_then_exit ?_
     refine au_then_exit ?_
     refine au_block_exit ?_
     refine au_then ?_
     refine sR ?_
     refine pA M 174 0 8 (w64 (ad h (rd h rs 80) 8)) ?_
     refine pl_put M (want_no rfl) rfl 95 _ _ rfl 1 g2 0 (by kernel_rfl) 8 95 (w64 fun _ => 0) rfl 8 (w64 (ad h (rd h rs 80) 8)) (w64 (ad h (rd h rs 80) 8)) (by kernel_rfl) inz95 (by decide) (fun _ _ => rfl) (fun j hj => by rw [if_pos (by omega), Nat.sub_zero]) fun u18 M => ?_
     refine nT ?_
     refine wp_ret ?_
     refine bodyPost_ret (v := .agg (av 8 (w64 (mixV h rs)))) (Eq.trans (b := .ok (.agg (av 8 (w64 (ad h (rd h rs 80) 8)))) _) (results_cell_row Tryz.results74 _ _ g2 95 (av 8 (w64 (ad h (rd h rs 80) 8))) (0, 0) _ (by kernel_rfl) (M.get 1 rfl) Tryz.underlying95 rfl (by rw [av_size]; exact inz95)) (by rw [ad_av]; rfl)) (by kernel_rfl) ⟨rfl, below_grown M.old⟩
def LenB (n : Nat) : List Int := [0, 0, 0, 0, 0, 0, 0, 0, cv .u8 (sr (um 8 (cv .u64 (n : Int))) 56), cv .u8 (sr (um 8 (cv .u64 (n : Int))) 48), cv .u8 (sr (um 8 (cv .u64 (n : Int))) 40), cv .u8 (sr (um 8 (cv .u64 (n : Int))) 32), cv .u8 (sr (um 8 (cv .u64 (n : Int))) 24), cv .u8 (sr (um 8 (cv .u64 (n : Int))) 16), cv .u8 (sr (um 8 (cv .u64 (n : Int))) 8), cv .u8 (sr (um 8 (cv .u64 (n : Int))) 0)]
def dl (s : ByteArray) : List Int := sb s ++ [128] ++ List.replicate ((239 - s.size % 128) % 128) 0 ++ LenB s.size
def pcs (l : List Int) : Nat → (Nat → Int)
 | 0 => HB
 | j + 1 => mixV (pcs l j) (fun i => l.getD (128 * j + i) 0)
def outL (h : Nat → Int) : Nat → List Int
 | 0 => []
 | j + 1 => outL h j ++ [cv .u8 (sr (h (j / 8)) (56 - 8 * (j % 8)))]
theorem outL_length (h : Nat → Int) : ∀ j, (outL h j).length = j
 | 0 => rfl
 | j + 1 => by
  unfold outL
  rw [List.length_append, outL_length h j]
  rfl
theorem outL_nn (h : Nat → Int) : ∀ j, ∀ x ∈ outL h j, 0 ≤ x ∧ x < 256
 | 0, x, hx => by simp [outL] at hx
 | j + 1, x, hx => by
  unfold outL at hx
  rcases List.mem_append.1 hx with hx | hx
  ·exact outL_nn h j x hx
  ·rw [List.mem_singleton.1 hx]
   exact cv8_nn _
theorem outL_step (h : Nat → Int) (j k : Nat) (hk : k < 8) : outL h (8 * j + k + 1) = outL h (8 * j + k) ++ [cv .u8 (sr (h j) (56 - 8 * k))] := by
 show outL h (8 * j + k) ++ _ = _
 rw [show (8 * j + k) / 8 = j by omega, show (8 * j + k) % 8 = k by omega]
theorem outL_hI (h : Nat → Int) : ∀ j, outL h (8 * j) = hI h j
 | 0 => rfl
 | j + 1 => by
  show outL h (8 * j + 7 + 1) = _
  rw [outL_step h j 7 (by omega), show 8 * j + 7 = 8 * j + 6 + 1 by rfl, outL_step h j 6 (by omega), show 8 * j + 6 = 8 * j + 5 + 1 by rfl, outL_step h j 5 (by omega), show 8 * j + 5 = 8 * j + 4 + 1 by rfl, outL_step h j 4 (by omega), show 8 * j + 4 = 8 * j + 3 + 1 by rfl, outL_step h j 3 (by omega), show 8 * j + 3 = 8 * j + 2 + 1 by rfl, outL_step h j 2 (by omega), show 8 * j + 2 = 8 * j + 1 + 1 by rfl, outL_step h j 1 (by omega), show 8 * j + 1 = 8 * j + 0 + 1 by rfl, outL_step h j 0 (by omega), Nat.add_zero, outL_hI h j]
  simp [hI]
def docV (s : ByteArray) : ByteArray := bs (outL (pcs (dl s) ((dl s).length / 128)) 64)
theorem vs8_app (l : List Int) (x : Int) : vs8 l ++ [.int .u8 x] = vs8 (l ++ [x]) := by simp [vs8]
theorem run_shrV {P : Program} {a : Act} {o : Oper} (t rt : TypeId) (x y : Operand) (ho : o.op = .binOp .shr t x y rt) (k : Int) (ky : IntKind) (m : Nat) (hx : a.eval x = .int .u64 k) (hy : a.eval y = .int ky (m : Int)) (_hm : m ≤ 64) (w : World) :
  (execOp a.eval o).run P w = .ok (.value (.int .u64 (sr k m))) w := by
 have hp : (0 : Int) ≤ 2 ^ m := Int.le_of_lt (Int.pow_pos (by decide))
 unfold execOp sr
 rw [Int.fdiv_eq_ediv_of_nonneg k hp]
 simp [ho, hx, hy, eqGuard, binOp]
theorem run_slS {P : Program} {a : Act} {o : Oper} (t elem : TypeId) (hu : P.underlying t = some (.slice elem)) (hs : (P.info? elem).map (·.size) = some 1) (x lo hi : Operand) (ho : o.op = .slice t x (some lo) (some hi) none) (g n cap : Nat) (hx : a.eval x = .slice (some ⟨g, 0, none⟩) n cap) (k k' : IntKind) (i j : Nat) (hl : a.eval lo = .int k (i : Int)) (hh : a.eval hi = .int k' (j : Int)) (hij : i < j) (hjc : j ≤ cap) (w : World) :
  (execOp a.eval o).run P w = .ok (.value (.slice (some ⟨g, i, none⟩) (j - i) (cap - i))) w := by
 cases hq : P.info? elem with
 | none => simp [hq] at hs
 | some u =>
  have hsz : u.size = 1 := by simpa [hq] using hs
  have hne : ¬ cap = i := by omega
  have h2 : (i : Int) ≤ (j : Int) := by omega
  have h3 : (j : Int) ≤ (cap : Int) := by omega
  unfold execOp
  simp [ho, hx, hl, hh, Instr.sliceAt, Instr.slice, run_underlying hu, Instr.sliceBounds, run_sliceBound, sizeOf, typeInfo, hq, hsz, add_at, hne, h2, h3]
def lb (n : Nat) : Nat → List Int
 | 0 => []
 | j + 1 => lb n j ++ [if j < 8 then 0 else cv .u8 (sr (um 8 (cv .u64 (n : Int))) (8 * (15 - j)))]
theorem lb_length (n : Nat) : ∀ j, (lb n j).length = j
 | 0 => rfl
 | j + 1 => by
  unfold lb
  rw [List.length_append, lb_length n j]
  rfl
theorem lb_16 (n : Nat) : lb n 16 = LenB n := rfl
theorem lb_lo {n j : Nat} (h : j < 8) : lb n j ++ [0] = lb n (j + 1) := by
 show _ = lb n j ++ [if j < 8 then 0 else _]
 rw [if_pos h]
theorem lb_hi {n j : Nat} (h : ¬ j < 8) : lb n j ++ [cv .u8 (sr (um 8 (cv .u64 (n : Int))) (8 * (15 - j)))] = lb n (j + 1) := by
 show _ = lb n j ++ [if j < 8 then 0 else _]
 rw [if_neg h]
theorem dl_length (s : ByteArray) : (dl s).length = s.size + 1 + (239 - s.size % 128) % 128 + 16 := by
 unfold dl LenB
 simp [sb_length]
 omega
theorem dl_len (s : ByteArray) : (dl s).length % 128 = 0 := by
 rw [dl_length]
 omega
theorem rem8 (n : Nat) : Int.tmod (n : Int) 8 = ((n % 8 : Nat) : Int) := by
 rw [Int.tmod_eq_emod_of_nonneg (by omega)]
 omega
theorem c_doc (s : ByteArray) (hs : s.size < 100000) (w : World) (hL : Laid w)  :
  Cs 31 #[.string s] w (.string (docV s)) := by
 go_enter Tryz.func31, Tryz.ntmps31
 have M := Mem.start hL
 refine sR <| pV 2 (.string ⟨#[]⟩) <| nT <| sR ?_
 refine pV 10 (.string s) ?_
 refine pl_conv M (want_no rfl) (some 11) rfl _ rfl s (by kernel_rfl) ?_
 intro e0 c0 Y0 u1 hY0 M
 refine pl_mk M (want_no rfl) (some 12) rfl (fun g1 => .slice (some ⟨g1, 0, none⟩) 1 1) (.cells (av 1 (fun _ => .int .u8 128)) 5) (fun _ => by kernel_rfl) fun g1 u2 M => ?_
 refine pl_app M (want_no rfl) (some 13) rfl 32 32 5 _ (.int .u8 0) Tryz.underlying32 info5_eq info5_z (by kernel_rfl) (by decide +kernel) rfl 0 e0 (s.size) c0 Y0 (vs8 (sb s)) rfl hY0 (by rw [vs8_length, sb_length]) (by omega) 1 g1 5 (.int .u8 128) rfl rfl (fun _ => by kernel_rfl) ?_
 intro e1 c1 Y1 u3 hY1 M
 rw [vs8_app] at hY1
 refine pV 3 (.slice (some ⟨e1, 0, none⟩) (s.size + 1) c1) <| nT ?_
 refine wp_seq ?_
 refine wp_block ?_
 replace M := M.drop (L' := [⟨e1, Y1⟩]) (.cons _ (.cons_cons _ (.slnil)))
 refine au_loop (fun j a w' => ∃ (v1 : Nat → Value) (g cap : Nat) (Z : Obj), a = ⟨#[.string s, undef, .string ⟨#[]⟩, .slice (some ⟨g, 0, none⟩) (s.size + 1 + j) cap, undef, undef, undef, undef, undef, undef, .string s, .slice (some ⟨e0, 0, none⟩) s.size c0, .slice (some ⟨g1, 0, none⟩) 1 1, .slice (some ⟨e1, 0, none⟩) (s.size + 1) c1, v1 14, v1 15, v1 16, v1 17, v1 18, v1 19, v1 20, undef, undef, undef, undef, undef, undef, undef, undef, undef, undef, undef, undef, undef, undef, undef, undef, undef, undef, undef, undef, undef, undef, undef, undef, undef, undef, undef, undef, undef, undef, undef, undef, undef, undef, undef, undef, undef, undef, undef, undef, undef, undef, undef, undef, undef, undef, undef, undef, undef, undef, undef, undef, undef], []⟩ ∧ SB Z cap (vs8 (sb s ++ [128] ++ List.replicate j 0)) ∧ Mem ⟨w, []⟩ [⟨g, Z⟩] w') ((239 - s.size % 128) % 128) ⟨fun k_ => ([undef, undef, undef, undef, undef, undef, undef] : List Value).getD (k_ - 14) undef, e1, c1, Y1, by kernel_rfl, by rw [List.replicate_zero, List.append_nil]; exact hY1, M⟩ ?_ ?_
 ·intro j a u0 hj hI
  obtain ⟨v1, g, cap, Z, rfl, hZ, M⟩ := hI
  refine wp_seq ?_
  refine sR <| pV 14 (.slice (some ⟨g, 0, none⟩) (s.size + 1 + j) cap) <| pV 15 (.int .i64 (((s.size + 1 + j) : Nat) : Int)) <| pH 16 (.int .i64 (((s.size + 1 + j) % 128 : Nat) : Int)) (fun w => Eq.trans (b := .ok (.value (.int .i64 (Int.tmod ((s.size + 1 + j : Nat) : Int) 128))) w) (by kernel_rfl) (by rw [rem64])) ?_
  refine pH 17 (.bool true) (nU ((((s.size + 1 + j) % 128 : Nat) : Int) = 112) (by omega)) <| nT ?_
  refine cT ?_
  refine wp_skip ?_
  refine au_then ?_
  refine wp_block ?_
  refine rg_lit ?_
  refine pV 18 (.slice (some ⟨g, 0, none⟩) (s.size + 1 + j) cap) ?_
  refine pl_mk M (want_no rfl) (some 19) rfl (fun g2 => .slice (some ⟨g2, 0, none⟩) 1 1) (.cells (av 1 (fun _ => .int .u8 0)) 5) (fun _ => by kernel_rfl) fun g2 u4 M => ?_
  refine pl_app M (want_no rfl) (some 20) rfl 32 32 5 _ (.int .u8 0) Tryz.underlying32 info5_eq info5_z (by kernel_rfl) (by decide +kernel) rfl 0 g ((s.size + 1 + j)) cap Z (vs8 (sb s ++ [128] ++ List.replicate j 0)) rfl hZ (by rw [vs8_length]; simp [sb_length]; omega) (by omega) 1 g2 5 (.int .u8 0) rfl rfl (fun _ => by kernel_rfl) ?_
  intro e2 c2 Y2 u5 hY2 M
  rw [vs8_app] at hY2
  refine pV 3 (.slice (some ⟨e2, 0, none⟩) ((s.size + 1 + j) + 1) c2) ?_
  refine pl_nil ?_
  refine au_block ?_
  refine au_then ?_
  replace hY2 : SB Y2 c2 (vs8 (sb s ++ [128] ++ List.replicate (j + 1) 0)) := by rw [List.replicate_succ', ← List.append_assoc]; exact hY2
  exact ⟨fun k_ => ([.slice (some ⟨g, 0, none⟩) (s.size + 1 + j) cap, .int .i64 (((s.size + 1 + j) : Nat) : Int), .int .i64 (((s.size + 1 + j) % 128 : Nat) : Int), .bool true, .slice (some ⟨g, 0, none⟩) (s.size + 1 + j) cap, .slice (some ⟨g2, 0, none⟩) 1 1, .slice (some ⟨e2, 0, none⟩) ((s.size + 1 + j) + 1) c2] : List Value).getD (k_ - 14) undef, e2, c2, Y2, by kernel_rfl, hY2, M.drop (.cons _ (.cons_cons _ .slnil))⟩
 ·intro a u0 hI
  obtain ⟨v1, g, cap, Z, rfl, hZ, M⟩ := hI
  refine wp_seq ?_
  refine sR <| pV 14 (.slice (some ⟨g, 0, none⟩) (s.size + 1 + ((239 - s.size % 128) % 128)) cap) <| pV 15 (.int .i64 (((s.size + 1 + ((239 - s.size % 128) % 128)) : Nat) : Int)) <| pH 16 (.int .i64 (((s.size + 1 + ((239 - s.size % 128) % 128)) % 128 : Nat) : Int)) (fun w => Eq.trans (b := .ok (.value (.int .i64 (Int.tmod ((s.size + 1 + ((239 - s.size % 128) % 128) : Nat) : Int) 128))) w) (by kernel_rfl) (by rw [rem64])) ?_
  refine pH 17 (.bool false) (nF ((((s.size + 1 + ((239 - s.size % 128) % 128)) % 128 : Nat) : Int) = 112) (by omega)) <| nT ?_
  refine cF ?_
  refine wp_exit ?_
  refine au_then_exit ?_
  refine au_then_exit ?_
  refine au_block_exit ?_
  refine au_then ?_
  refine wp_seq ?_
  refine sR <| pV 4 (.int .i64 15) <| nT ?_
  refine wp_block ?_
  replace M := M.drop (L' := [⟨g, Z⟩]) (.cons_cons _ (.slnil))
  refine au_loop (fun j a w' => ∃ (v2 : Nat → Value) (gx capx : Nat) (Zx : Obj), a = ⟨#[.string s, undef, .string ⟨#[]⟩, .slice (some ⟨gx, 0, none⟩) (s.size + 1 + ((239 - s.size % 128) % 128) + j) capx, .int .i64 ((15 : Int) - (j : Int)), v2 5, undef, undef, undef, undef, .string s, .slice (some ⟨e0, 0, none⟩) s.size c0, .slice (some ⟨g1, 0, none⟩) 1 1, .slice (some ⟨e1, 0, none⟩) (s.size + 1) c1, .slice (some ⟨g, 0, none⟩) (s.size + 1 + ((239 - s.size % 128) % 128)) cap, .int .i64 (((s.size + 1 + ((239 - s.size % 128) % 128)) : Nat) : Int), .int .i64 (((s.size + 1 + ((239 - s.size % 128) % 128)) % 128 : Nat) : Int), .bool false, v1 18, v1 19, v1 20, v2 21, v2 22, v2 23, v2 24, v2 25, v2 26, v2 27, v2 28, v2 29, v2 30, v2 31, v2 32, v2 33, v2 34, v2 35, v2 36, v2 37, v2 38, v2 39, undef, undef, undef, undef, undef, undef, undef, undef, undef, undef, undef, undef, undef, undef, undef, undef, undef, undef, undef, undef, undef, undef, undef, undef, undef, undef, undef, undef, undef, undef, undef, undef, undef, undef], []⟩ ∧ SB Zx capx (vs8 (sb s ++ [128] ++ List.replicate ((239 - s.size % 128) % 128) 0 ++ lb s.size j)) ∧ Mem ⟨w, []⟩ [⟨gx, Zx⟩] w') 16 ⟨fun k_ => ([undef, undef, undef, undef, undef, undef, undef, undef, undef, undef, undef, undef, undef, undef, undef, undef, undef, undef, undef, undef, undef, undef, undef, undef, undef, undef, undef, undef, undef, undef, undef, undef, undef, undef, undef] : List Value).getD (k_ - 5) undef, g, cap, Z, by kernel_rfl, by rw [show lb s.size 0 = [] from rfl, List.append_nil]; exact hZ, M⟩ ?_ ?_
  ·intro j a u0 hj hI
   obtain ⟨v2, gx, capx, Zx, rfl, hZx, M⟩ := hI
   by_cases h8 : j < 8
   ·skip
    refine wp_seq ?_
    refine sR <| pV 21 (.int .i64 ((15 : Int) - (j : Int))) <| pH 22 (.bool true) (dT ((0 : Int) ≤ (15 : Int) - (j : Int)) (by omega)) <| nT ?_
    refine cT ?_
    refine wp_skip ?_
    refine au_then ?_
    refine wp_seq ?_
    refine wp_block ?_
    refine sR <| pV 5 (.int .u64 0) <| nT ?_
    refine wp_seq ?_
    refine sR <| pV 25 (.int .i64 ((15 : Int) - (j : Int))) <| pH 26 (.bool false) (dF ((15 : Int) - (j : Int) < 8) (by omega)) <| nT ?_
    refine cF ?_
    refine wp_skip ?_
    refine au_then ?_
    refine rg_lit ?_
    refine pV 35 (.slice (some ⟨gx, 0, none⟩) (s.size + 1 + ((239 - s.size % 128) % 128) + j) capx) <| pV 36 (.int .u64 0) <| pV 37 (.int .u8 0) ?_
    refine pl_mk M (want_no rfl) (some 38) rfl (fun g3 => .slice (some ⟨g3, 0, none⟩) 1 1) (.cells (av 1 (fun _ => .int .u8 0)) 5) (fun _ => by kernel_rfl) fun g3 u6 M => ?_
    refine pl_app M (want_no rfl) (some 39) rfl 32 32 5 _ (.int .u8 0) Tryz.underlying32 info5_eq info5_z (by kernel_rfl) (by decide +kernel) rfl 0 gx ((s.size + 1 + ((239 - s.size % 128) % 128) + j)) capx Zx (vs8 (sb s ++ [128] ++ List.replicate ((239 - s.size % 128) % 128) 0 ++ lb s.size j)) rfl hZx (by rw [vs8_length]; simp [sb_length, lb_length]; omega) (by omega) 1 g3 5 (.int .u8 0) rfl rfl (fun _ => by kernel_rfl) ?_
    intro e3 c3 Y3 u7 hY3 M
    rw [vs8_app] at hY3
    refine pV 3 (.slice (some ⟨e3, 0, none⟩) ((s.size + 1 + ((239 - s.size % 128) % 128) + j) + 1) c3) ?_
    refine pl_nil ?_
    refine au_block ?_
    refine au_then ?_
    refine rg_lit ?_
    refine pV 23 (.int .i64 ((15 : Int) - (j : Int))) <| pH 24 (.int .i64 ((15 : Int) - ((j + 1 : Nat) : Int))) (iV (((15 : Int) - (j : Int)) - 1) (by omega) (by omega) (by omega)) <| pV 4 (.int .i64 ((15 : Int) - ((j + 1 : Nat) : Int))) <| nT ?_
    rw [List.append_assoc _ (lb s.size j), lb_lo h8] at hY3
    exact ⟨fun k_ => ([.int .u64 0, undef, undef, undef, undef, undef, undef, undef, undef, undef, undef, undef, undef, undef, undef, undef, .int .i64 ((15 : Int) - (j : Int)), .bool true, .int .i64 ((15 : Int) - (j : Int)), .int .i64 ((15 : Int) - ((j + 1 : Nat) : Int)), .int .i64 ((15 : Int) - (j : Int)), .bool false, v2 27, v2 28, v2 29, v2 30, v2 31, v2 32, v2 33, v2 34, .slice (some ⟨gx, 0, none⟩) (s.size + 1 + ((239 - s.size % 128) % 128) + j) capx, .int .u64 0, .int .u8 0, .slice (some ⟨g3, 0, none⟩) 1 1, .slice (some ⟨e3, 0, none⟩) ((s.size + 1 + ((239 - s.size % 128) % 128) + j) + 1) c3] : List Value).getD (k_ - 5) undef, e3, c3, Y3, by kernel_rfl, hY3, M.drop (.cons _ (.cons_cons _ .slnil))⟩
   ·skip
    refine wp_seq ?_
    refine sR <| pV 21 (.int .i64 ((15 : Int) - (j : Int))) <| pH 22 (.bool true) (dT ((0 : Int) ≤ (15 : Int) - (j : Int)) (by omega)) <| nT ?_
    refine cT ?_
    refine wp_skip ?_
    refine au_then ?_
    refine wp_seq ?_
    refine wp_block ?_
    refine sR <| pV 5 (.int .u64 0) <| nT ?_
    refine wp_seq ?_
    refine sR <| pV 25 (.int .i64 ((15 : Int) - (j : Int))) <| pH 26 (.bool true) (dT ((15 : Int) - (j : Int) < 8) (by omega)) <| nT ?_
    refine cT ?_
    refine rg_lit ?_
    refine pV 27 (.string s) <| pV 28 (.int .i64 (s.size : Int)) <| pV 29 (.int .u64 (cv .u64 (s.size : Int))) <| pV 30 (.int .u64 (um 8 (cv .u64 (s.size : Int)))) ?_
    refine pV 31 (.int .i64 ((15 : Int) - (j : Int))) <| pH 32 (.int .i64 ((8 * (15 - j) : Nat) : Int)) (iV (8 * ((15 : Int) - (j : Int))) (by omega) (by omega) (by omega)) <| pH 33 (.int .u64 ((8 * (15 - j) : Nat) : Int)) (fun w => Eq.trans (b := .ok (.value (.int .u64 (cv .u64 ((8 * (15 - j) : Nat) : Int)))) w) (by kernel_rfl) (by rw [cv_u64 _ (by omega)])) <| pH 34 (.int .u64 (sr (um 8 (cv .u64 (s.size : Int))) (8 * (15 - j)))) (run_shrV 34 39 _ _ rfl _ .u64 (8 * (15 - j)) (by kernel_rfl) (by kernel_rfl) (by omega)) ?_
    refine pV 5 (.int .u64 (sr (um 8 (cv .u64 (s.size : Int))) (8 * (15 - j)))) <| nT ?_
    refine rg_lit ?_
    refine pV 35 (.slice (some ⟨gx, 0, none⟩) (s.size + 1 + ((239 - s.size % 128) % 128) + j) capx) <| pV 36 (.int .u64 (sr (um 8 (cv .u64 (s.size : Int))) (8 * (15 - j)))) <| pV 37 (.int .u8 (cv .u8 (sr (um 8 (cv .u64 (s.size : Int))) (8 * (15 - j))))) ?_
    refine pl_mk M (want_no rfl) (some 38) rfl (fun g4 => .slice (some ⟨g4, 0, none⟩) 1 1) (.cells (av 1 (fun _ => .int .u8 (cv .u8 (sr (um 8 (cv .u64 (s.size : Int))) (8 * (15 - j)))))) 5) (fun _ => by kernel_rfl) fun g4 u8 M => ?_
    refine pl_app M (want_no rfl) (some 39) rfl 32 32 5 _ (.int .u8 0) Tryz.underlying32 info5_eq info5_z (by kernel_rfl) (by decide +kernel) rfl 0 gx ((s.size + 1 + ((239 - s.size % 128) % 128) + j)) capx Zx (vs8 (sb s ++ [128] ++ List.replicate ((239 - s.size % 128) % 128) 0 ++ lb s.size j)) rfl hZx (by rw [vs8_length]; simp [sb_length, lb_length]; omega) (by omega) 1 g4 5 (.int .u8 (cv .u8 (sr (um 8 (cv .u64 (s.size : Int))) (8 * (15 - j))))) rfl rfl (fun _ => by kernel_rfl) ?_
    intro e4 c4 Y4 u9 hY4 M
    rw [vs8_app] at hY4
    refine pV 3 (.slice (some ⟨e4, 0, none⟩) ((s.size + 1 + ((239 - s.size % 128) % 128) + j) + 1) c4) ?_
    refine pl_nil ?_
    refine au_block ?_
    refine au_then ?_
    refine rg_lit ?_
    refine pV 23 (.int .i64 ((15 : Int) - (j : Int))) <| pH 24 (.int .i64 ((15 : Int) - ((j + 1 : Nat) : Int))) (iV (((15 : Int) - (j : Int)) - 1) (by omega) (by omega) (by omega)) <| pV 4 (.int .i64 ((15 : Int) - ((j + 1 : Nat) : Int))) <| nT ?_
    rw [List.append_assoc _ (lb s.size j), lb_hi h8] at hY4
    exact ⟨fun k_ => ([.int .u64 (sr (um 8 (cv .u64 (s.size : Int))) (8 * (15 - j))), undef, undef, undef, undef, undef, undef, undef, undef, undef, undef, undef, undef, undef, undef, undef, .int .i64 ((15 : Int) - (j : Int)), .bool true, .int .i64 ((15 : Int) - (j : Int)), .int .i64 ((15 : Int) - ((j + 1 : Nat) : Int)), .int .i64 ((15 : Int) - (j : Int)), .bool true, .string s, .int .i64 (s.size : Int), .int .u64 (cv .u64 (s.size : Int)), .int .u64 (um 8 (cv .u64 (s.size : Int))), .int .i64 ((15 : Int) - (j : Int)), .int .i64 ((8 * (15 - j) : Nat) : Int), .int .u64 ((8 * (15 - j) : Nat) : Int), .int .u64 (sr (um 8 (cv .u64 (s.size : Int))) (8 * (15 - j))), .slice (some ⟨gx, 0, none⟩) (s.size + 1 + ((239 - s.size % 128) % 128) + j) capx, .int .u64 (sr (um 8 (cv .u64 (s.size : Int))) (8 * (15 - j))), .int .u8 (cv .u8 (sr (um 8 (cv .u64 (s.size : Int))) (8 * (15 - j)))), .slice (some ⟨g4, 0, none⟩) 1 1, .slice (some ⟨e4, 0, none⟩) ((s.size + 1 + ((239 - s.size % 128) % 128) + j) + 1) c4] : List Value).getD (k_ - 5) undef, e4, c4, Y4, by kernel_rfl, hY4, M.drop (.cons _ (.cons_cons _ .slnil))⟩
  ·intro a u0 hI
   obtain ⟨v2, gx, capx, Zx, rfl, hZx, M⟩ := hI
   rw [lb_16] at hZx
   refine wp_seq ?_
   refine sR <| pV 21 (.int .i64 ((15 : Int) - ((16 : Nat) : Int))) <| pH 22 (.bool false) (dF ((0 : Int) ≤ (15 : Int) - ((16 : Nat) : Int)) (by decide)) <| nT ?_
   refine cF ?_
   refine wp_exit ?_
   refine au_then_exit ?_
   refine au_then_exit ?_
   refine au_block_exit ?_
   refine au_then ?_
   refine sR ?_
   refine pC M 40 73 #[] (.agg (av 8 (w64 HB))) (fun w M => c_begin w M.laid) fun u10 M => ?_
   refine pN M 6 (.cells (av 8 (w64 (fun _ => 0))) 95) fun g5 u11 M => ?_
   refine pl_put M (want_no rfl) rfl 95 _ _ rfl 1 g5 0 (by kernel_rfl) 8 95 (w64 (fun _ => 0)) rfl 8 (w64 HB) (w64 HB) (by kernel_rfl) inz95 (by decide) (fun _ _ => rfl) (fun j hj => by rw [if_pos (by omega), Nat.sub_zero]) fun u12 M => ?_
   refine nT ?_
   refine wp_seq ?_
   refine sR <| pV 7 (.int .i64 0) <| nT ?_
   refine wp_block ?_
   replace M := M.drop (L' := [⟨gx, Zx⟩, ⟨g5, .cells (av 8 (w64 HB)) 95⟩]) (.cons_cons _ (.cons_cons _ (.slnil)))
   rw [show sb s ++ [128] ++ List.replicate ((239 - s.size % 128) % 128) 0 ++ LenB s.size = dl s from rfl] at hZx
   obtain ⟨NB, hNB⟩ : ∃ NB, NB = (dl s).length / 128 := ⟨_, rfl⟩
   have hlen : (dl s).length = 128 * NB := by have := dl_len s; omega
   have hlen2 : (s.size + 1 + ((239 - s.size % 128) % 128) + 16) = 128 * NB := by have h := dl_length s; omega
   have hcap := hZx.le
   rw [vs8_length, hlen] at hcap
   have hsz : 128 * NB < 1000000 := by rw [← hlen, dl_length]; omega
   refine au_loop (fun j a w' => ∃ (v3 : Nat → Value), a = ⟨#[.string s, undef, .string ⟨#[]⟩, .slice (some ⟨gx, 0, none⟩) (s.size + 1 + ((239 - s.size % 128) % 128) + 16) capx, .int .i64 ((15 : Int) - ((16 : Nat) : Int)), v2 5, .pointer (some ⟨g5, 0, none⟩), .int .i64 ((128 * j : Nat) : Int), undef, undef, .string s, .slice (some ⟨e0, 0, none⟩) s.size c0, .slice (some ⟨g1, 0, none⟩) 1 1, .slice (some ⟨e1, 0, none⟩) (s.size + 1) c1, .slice (some ⟨g, 0, none⟩) (s.size + 1 + ((239 - s.size % 128) % 128)) cap, .int .i64 (((s.size + 1 + ((239 - s.size % 128) % 128)) : Nat) : Int), .int .i64 (((s.size + 1 + ((239 - s.size % 128) % 128)) % 128 : Nat) : Int), .bool false, v1 18, v1 19, v1 20, .int .i64 ((15 : Int) - ((16 : Nat) : Int)), .bool false, v2 23, v2 24, v2 25, v2 26, v2 27, v2 28, v2 29, v2 30, v2 31, v2 32, v2 33, v2 34, v2 35, v2 36, v2 37, v2 38, v2 39, .agg (av 8 (w64 HB)), v3 41, v3 42, v3 43, v3 44, v3 45, v3 46, v3 47, v3 48, v3 49, v3 50, v3 51, v3 52, v3 53, undef, undef, undef, undef, undef, undef, undef, undef, undef, undef, undef, undef, undef, undef, undef, undef, undef, undef, undef, undef], []⟩ ∧ Mem ⟨w, []⟩ [⟨gx, Zx⟩, ⟨g5, .cells (av 8 (w64 (pcs (dl s) j))) 95⟩] w') NB ⟨fun k_ => ([undef, undef, undef, undef, undef, undef, undef, undef, undef, undef, undef, undef, undef] : List Value).getD (k_ - 41) undef, by kernel_rfl, M⟩ ?_ ?_
   ·intro j a u0 hj hI
    obtain ⟨v3, rfl, M⟩ := hI
    refine wp_seq ?_
    refine sR <| pV 41 (.int .i64 ((128 * j : Nat) : Int)) <| pV 42 (.slice (some ⟨gx, 0, none⟩) (s.size + 1 + ((239 - s.size % 128) % 128) + 16) capx) <| pV 43 (.int .i64 (((s.size + 1 + ((239 - s.size % 128) % 128) + 16) : Nat) : Int)) ?_
    refine pH 44 (.bool true) (dT (((128 * j : Nat) : Int) < (((s.size + 1 + ((239 - s.size % 128) % 128) + 16) : Nat) : Int)) (by omega)) <| nT ?_
    refine cT ?_
    refine wp_skip ?_
    refine au_then ?_
    refine wp_seq ?_
    refine wp_block ?_
    refine rg_tail M 7 (by kernel_rfl) (by kernel_rfl) ?_
    simp only [List.take_succ_cons, List.take_zero]
    refine kA M 47 1 8 (w64 (pcs (dl s) j)) ?_
    refine kV 48 (.slice (some ⟨gx, 0, none⟩) (s.size + 1 + ((239 - s.size % 128) % 128) + 16) capx) <| kV 49 (.int .i64 ((128 * j : Nat) : Int)) <| kV 50 (.int .i64 ((128 * j : Nat) : Int)) <| kH 51 (.int .i64 ((128 * j + 128 : Nat) : Int)) (iV (((128 * j : Nat) : Int) + 128) (by omega) (by omega) (by omega)) ?_
    refine kH 52 (.slice (some ⟨gx, (128 * j), none⟩) 128 (capx - 128 * j)) (fun w => Eq.trans (run_slS 32 5 Tryz.underlying32 inz5 _ _ _ rfl gx ((s.size + 1 + ((239 - s.size % 128) % 128) + 16)) capx (by kernel_rfl) .i64 .i64 (128 * j) (128 * j + 128) (by kernel_rfl) (by kernel_rfl) (by omega) (by omega) w) (by rw [show 128 * j + 128 - 128 * j = 128 by omega])) ?_
    refine kC M 53 74 #[.agg (av 8 (w64 (pcs (dl s) j))), .slice (some ⟨gx, (128 * j), none⟩) 128 (capx - 128 * j)] (.agg (av 8 (w64 (pcs (dl s) (j + 1))))) (fun w M => c_piece (pcs (dl s) j) (fun i => (dl s).getD (128 * j + i) 0) gx (128 * j) _ w M.laid (fun i hi => hZx.cell (M.get 0 rfl) (by unfold vs8; rw [List.getElem?_map, List.getD_eq_getElem?_getD, List.getElem?_eq_getElem (by omega)]; rfl))) ?_
    refine kl_nil fun u13 M => ?_
    refine pl_put M (want_no rfl) rfl 95 _ _ rfl 1 g5 0 (by kernel_rfl) 8 95 (w64 (pcs (dl s) j)) rfl 8 (w64 (pcs (dl s) (j + 1))) (w64 (pcs (dl s) (j + 1))) (by kernel_rfl) inz95 (by decide) (fun _ _ => rfl) (fun j hj => by rw [if_pos (by omega), Nat.sub_zero]) fun u14 M => ?_
    refine pl_nil ?_
    refine au_block ?_
    refine au_then ?_
    refine rg_lit ?_
    refine pV 45 (.int .i64 ((128 * j : Nat) : Int)) <| pH 46 (.int .i64 ((128 * (j + 1) : Nat) : Int)) (iV (((128 * j : Nat) : Int) + 128) (by omega) (by omega) (by omega)) <| pV 7 (.int .i64 ((128 * (j + 1) : Nat) : Int)) <| nT ?_
    exact ⟨fun k_ => ([.int .i64 ((128 * j : Nat) : Int), .slice (some ⟨gx, 0, none⟩) (s.size + 1 + ((239 - s.size % 128) % 128) + 16) capx, .int .i64 (((s.size + 1 + ((239 - s.size % 128) % 128) + 16) : Nat) : Int), .bool true, .int .i64 ((128 * j : Nat) : Int), .int .i64 ((128 * (j + 1) : Nat) : Int), .agg (av 8 (w64 (pcs (dl s) j))), .slice (some ⟨gx, 0, none⟩) (s.size + 1 + ((239 - s.size % 128) % 128) + 16) capx, .int .i64 ((128 * j : Nat) : Int), .int .i64 ((128 * j : Nat) : Int), .int .i64 ((128 * j + 128 : Nat) : Int), .slice (some ⟨gx, (128 * j), none⟩) 128 (capx - 128 * j), .agg (av 8 (w64 (pcs (dl s) (j + 1))))] : List Value).getD (k_ - 41) undef, by kernel_rfl, M⟩
   ·intro a u0 hI
    obtain ⟨v3, rfl, M⟩ := hI
    refine wp_seq ?_
    refine sR <| pV 41 (.int .i64 ((128 * NB : Nat) : Int)) <| pV 42 (.slice (some ⟨gx, 0, none⟩) (s.size + 1 + ((239 - s.size % 128) % 128) + 16) capx) <| pV 43 (.int .i64 (((s.size + 1 + ((239 - s.size % 128) % 128) + 16) : Nat) : Int)) ?_
    refine pH 44 (.bool false) (dF (((128 * NB : Nat) : Int) < (((s.size + 1 + ((239 - s.size % 128) % 128) + 16) : Nat) : Int)) (by omega)) <| nT ?_
    refine cF ?_
    refine wp_exit ?_
    refine au_then_exit ?_
    refine au_then_exit ?_
    refine au_block_exit ?_
    refine au_then ?_
    refine sR <| pV 8 (.slice none 0 0) <| nT ?_
    refine wp_seq ?_
    refine sR <| pV 9 (.int .i64 0) <| nT ?_
    refine wp_block ?_
    replace M := M.drop (L' := [⟨g5, .cells (av 8 (w64 (pcs (dl s) NB))) 95⟩]) (.cons _ (.cons_cons _ (.slnil)))
    refine au_loop (fun j a w' => ∃ (v4 : Nat → Value) (sl : Value), a = ⟨#[.string s, undef, .string ⟨#[]⟩, .slice (some ⟨gx, 0, none⟩) (s.size + 1 + ((239 - s.size % 128) % 128) + 16) capx, .int .i64 ((15 : Int) - ((16 : Nat) : Int)), v2 5, .pointer (some ⟨g5, 0, none⟩), .int .i64 ((128 * NB : Nat) : Int), sl, .int .i64 (j : Int), .string s, .slice (some ⟨e0, 0, none⟩) s.size c0, .slice (some ⟨g1, 0, none⟩) 1 1, .slice (some ⟨e1, 0, none⟩) (s.size + 1) c1, .slice (some ⟨g, 0, none⟩) (s.size + 1 + ((239 - s.size % 128) % 128)) cap, .int .i64 (((s.size + 1 + ((239 - s.size % 128) % 128)) : Nat) : Int), .int .i64 (((s.size + 1 + ((239 - s.size % 128) % 128)) % 128 : Nat) : Int), .bool false, v1 18, v1 19, v1 20, .int .i64 ((15 : Int) - ((16 : Nat) : Int)), .bool false, v2 23, v2 24, v2 25, v2 26, v2 27, v2 28, v2 29, v2 30, v2 31, v2 32, v2 33, v2 34, v2 35, v2 36, v2 37, v2 38, v2 39, .agg (av 8 (w64 HB)), .int .i64 ((128 * NB : Nat) : Int), .slice (some ⟨gx, 0, none⟩) (s.size + 1 + ((239 - s.size % 128) % 128) + 16) capx, .int .i64 (((s.size + 1 + ((239 - s.size % 128) % 128) + 16) : Nat) : Int), .bool false, v3 45, v3 46, v3 47, v3 48, v3 49, v3 50, v3 51, v3 52, v3 53, v4 54, v4 55, v4 56, v4 57, v4 58, v4 59, v4 60, v4 61, v4 62, v4 63, v4 64, v4 65, v4 66, v4 67, v4 68, v4 69, v4 70, v4 71, undef, undef], []⟩ ∧ ((j = 0 ∧ sl = .slice none 0 0 ∧ Mem ⟨w, []⟩ [⟨g5, .cells (av 8 (w64 (pcs (dl s) NB))) 95⟩] w') ∨ (∃ (g cap : Nat) (Z : Obj), sl = .slice (some ⟨g, 0, none⟩) j cap ∧ SB Z cap (vs8 (outL (pcs (dl s) NB) j)) ∧ Mem ⟨w, []⟩ [⟨g5, .cells (av 8 (w64 (pcs (dl s) NB))) 95⟩, ⟨g, Z⟩] w'))) 64 ⟨fun k_ => ([undef, undef, undef, undef, undef, undef, undef, undef, undef, undef, undef, undef, undef, undef, undef, undef, undef, undef] : List Value).getD (k_ - 54) undef, .slice none 0 0, by kernel_rfl, .inl ⟨rfl, rfl, M⟩⟩ ?_ ?_
    ·intro j a u0 hj hI
     obtain ⟨v4, sl, rfl, hI⟩ := hI
     rcases hI with ⟨rfl, rfl, M⟩ | ⟨g, cap, Z, rfl, hZ, M⟩
     ·skip
      refine wp_seq ?_
      refine sR <| pV 54 (.int .i64 0) <| pV 55 (.bool true) <| nT ?_
      refine cT ?_
      refine wp_skip ?_
      refine au_then ?_
      refine wp_seq ?_
      refine wp_block ?_
      refine rg_lit ?_
      refine pV 58 (.slice none 0 0) <| pV 59 (.int .i64 0) <| pV 60 (.int .i64 0) <| pV 61 (.pointer (some ⟨g5, 0, none⟩)) ?_
      refine pE M 62 g5 0 (.int .u64 ((pcs (dl s) NB) 0)) (fun w M => M.cell 0 rfl (by decide) rfl) ?_
      refine pV 63 (.int .i64 0) <| pV 64 (.int .i64 0) <| pV 65 (.int .i64 0) <| pV 66 (.int .i64 56) ?_
      refine pV 67 (.int .u64 56) <| pV 68 (.int .u64 (sr ((pcs (dl s) NB) 0) 56)) <| pV 69 (.int .u8 (cv .u8 (sr ((pcs (dl s) NB) 0) 56))) ?_
      refine pl_mk M (want_no rfl) (some 70) rfl (fun g6 => .slice (some ⟨g6, 0, none⟩) 1 1) (.cells (av 1 (fun _ => .int .u8 (cv .u8 (sr ((pcs (dl s) NB) 0) 56)))) 5) (fun _ => by kernel_rfl) fun g6 u15 M => ?_
      refine pl_app0 M (want_no rfl) (some 71) rfl 32 32 5 _ (.int .u8 0) Tryz.underlying32 info5_eq info5_z (by kernel_rfl) (by decide +kernel) rfl 1 g6 5 (.int .u8 (cv .u8 (sr ((pcs (dl s) NB) 0) 56))) rfl (fun _ => by kernel_rfl) ?_
      intro e5 c5 Y5 u16 hY5 M
      refine pV 8 (.slice (some ⟨e5, 0, none⟩) 1 c5) ?_
      refine pl_nil ?_
      refine au_block ?_
      refine au_then ?_
      refine rg_lit ?_
      refine pV 56 (.int .i64 0) <| pV 57 (.int .i64 1) <| pV 9 (.int .i64 1) <| nT ?_
      exact ⟨fun k_ => ([.int .i64 0, .bool true, .int .i64 0, .int .i64 1, .slice none 0 0, .int .i64 0, .int .i64 0, .pointer (some ⟨g5, 0, none⟩), .int .u64 ((pcs (dl s) NB) 0), .int .i64 0, .int .i64 0, .int .i64 0, .int .i64 56, .int .u64 56, .int .u64 (sr ((pcs (dl s) NB) 0) 56), .int .u8 (cv .u8 (sr ((pcs (dl s) NB) 0) 56)), .slice (some ⟨g6, 0, none⟩) 1 1, .slice (some ⟨e5, 0, none⟩) 1 c5] : List Value).getD (k_ - 54) undef, _, by kernel_rfl, .inr ⟨e5, c5, Y5, rfl, hY5, M.drop (.cons_cons _ (.cons _ (.cons_cons _ (.slnil))))⟩⟩
     ·skip
      refine wp_seq ?_
      refine sR <| pV 54 (.int .i64 (j : Int)) <| pH 55 (.bool true) (dT ((j : Int) < 64) (by omega)) <| nT ?_
      refine cT ?_
      refine wp_skip ?_
      refine au_then ?_
      refine wp_seq ?_
      refine wp_block ?_
      refine rg_lit ?_
      refine pV 58 (.slice (some ⟨g, 0, none⟩) j cap) <| pV 59 (.int .i64 (j : Int)) <| pH 60 (.int .i64 ((j / 8 : Nat) : Int)) (fun w => Eq.trans (b := .ok (.value (.int .i64 (IntKind.wrap .i64 ((j : Int).tdiv 8)))) w) (by kernel_rfl) (by rw [quo8 j (by omega)])) <| pH 61 (.pointer (some ⟨g5, ((j / 8 : Nat)), none⟩)) (run_ix1 95 8 34 Tryz.underlying95 inz34 _ _ rfl g5 (by kernel_rfl) .i64 ((j / 8 : Nat)) (by kernel_rfl) (by omega)) ?_
      refine pE M 62 g5 ((j / 8 : Nat)) (.int .u64 ((pcs (dl s) NB) ((j / 8 : Nat)))) (fun w M => M.cell 0 rfl (by omega) rfl) ?_
      refine pV 63 (.int .i64 (j : Int)) <| pH 64 (.int .i64 ((j % 8 : Nat) : Int)) (fun w => Eq.trans (b := .ok (.value (.int .i64 (Int.tmod (j : Int) 8))) w) (by kernel_rfl) (by rw [rem8])) <| pH 65 (.int .i64 ((8 * (j % 8) : Nat) : Int)) (iV (8 * ((j % 8 : Nat) : Int)) (by omega) (by omega) (by omega)) <| pH 66 (.int .i64 ((56 - 8 * (j % 8) : Nat) : Int)) (iV (56 - ((8 * (j % 8) : Nat) : Int)) (by omega) (by omega) (by omega)) ?_
      refine pH 67 (.int .u64 ((56 - 8 * (j % 8) : Nat) : Int)) (fun w => Eq.trans (b := .ok (.value (.int .u64 (cv .u64 ((56 - 8 * (j % 8) : Nat) : Int)))) w) (by kernel_rfl) (by rw [cv_u64 _ (by omega)])) <| pH 68 (.int .u64 (sr ((pcs (dl s) NB) (j / 8)) (56 - 8 * (j % 8)))) (run_shrV 34 39 _ _ rfl _ .u64 (56 - 8 * (j % 8)) (by kernel_rfl) (by kernel_rfl) (by omega)) <| pV 69 (.int .u8 (cv .u8 (sr ((pcs (dl s) NB) (j / 8)) (56 - 8 * (j % 8))))) ?_
      refine pl_mk M (want_no rfl) (some 70) rfl (fun g7 => .slice (some ⟨g7, 0, none⟩) 1 1) (.cells (av 1 (fun _ => .int .u8 (cv .u8 (sr ((pcs (dl s) NB) (j / 8)) (56 - 8 * (j % 8)))))) 5) (fun _ => by kernel_rfl) fun g7 u17 M => ?_
      refine pl_app M (want_no rfl) (some 71) rfl 32 32 5 _ (.int .u8 0) Tryz.underlying32 info5_eq info5_z (by kernel_rfl) (by decide +kernel) rfl 1 g (j) cap Z (vs8 (outL (pcs (dl s) NB) j)) rfl hZ (by rw [vs8_length, outL_length]) (by omega) 2 g7 5 (.int .u8 (cv .u8 (sr ((pcs (dl s) NB) (j / 8)) (56 - 8 * (j % 8))))) rfl rfl (fun _ => by kernel_rfl) ?_
      intro e6 c6 Y6 u18 hY6 M
      rw [vs8_app] at hY6
      refine pV 8 (.slice (some ⟨e6, 0, none⟩) (j + 1) c6) ?_
      refine pl_nil ?_
      refine au_block ?_
      refine au_then ?_
      refine rg_lit ?_
      refine pV 56 (.int .i64 (j : Int)) <| pH 57 (.int .i64 ((j + 1 : Nat) : Int)) (iV ((j : Int) + 1) (by omega) (by omega) (by omega)) <| pV 9 (.int .i64 ((j + 1 : Nat) : Int)) <| nT ?_
      exact ⟨fun k_ => ([.int .i64 (j : Int), .bool true, .int .i64 (j : Int), .int .i64 ((j + 1 : Nat) : Int), .slice (some ⟨g, 0, none⟩) j cap, .int .i64 (j : Int), .int .i64 ((j / 8 : Nat) : Int), .pointer (some ⟨g5, ((j / 8 : Nat)), none⟩), .int .u64 ((pcs (dl s) NB) ((j / 8 : Nat))), .int .i64 (j : Int), .int .i64 ((j % 8 : Nat) : Int), .int .i64 ((8 * (j % 8) : Nat) : Int), .int .i64 ((56 - 8 * (j % 8) : Nat) : Int), .int .u64 ((56 - 8 * (j % 8) : Nat) : Int), .int .u64 (sr ((pcs (dl s) NB) (j / 8)) (56 - 8 * (j % 8))), .int .u8 (cv .u8 (sr ((pcs (dl s) NB) (j / 8)) (56 - 8 * (j % 8)))), .slice (some ⟨g7, 0, none⟩) 1 1, .slice (some ⟨e6, 0, none⟩) (j + 1) c6] : List Value).getD (k_ - 54) undef, _, by kernel_rfl, .inr ⟨e6, c6, Y6, rfl, hY6, M.drop (.cons_cons _ (.cons _ (.cons_cons _ (.slnil))))⟩⟩
    ·intro a u0 hI
     obtain ⟨v4, sl, rfl, hI⟩ := hI
     rcases hI with ⟨h, _⟩ | ⟨g, cap, Z, rfl, hZ, M⟩
     ·cases h
     ·skip
      refine wp_seq ?_
      refine sR <| pV 54 (.int .i64 64) <| pV 55 (.bool false) <| nT ?_
      refine cF ?_
      refine wp_exit ?_
      refine au_then_exit ?_
      refine au_then_exit ?_
      refine au_block_exit ?_
      refine au_then ?_
      refine sR <| pV 72 (.slice (some ⟨g, 0, none⟩) 64 cap) ?_
      refine pl_back M (want_no rfl) (some 73) rfl _ rfl 1 g 64 cap (by kernel_rfl) Z rfl (outL (pcs (dl s) NB) 64) cap hZ (outL_length _ _) (outL_nn _ _) ?_
      rw [hNB]
      refine pV 2 (.string (docV s)) <| nT ?_
      refine wp_ret ?_
      exact bodyPost_ret (v := .string (docV s)) (results_tmp1 Tryz.results31 _ _ _ (by kernel_rfl)) (by kernel_rfl) ⟨rfl, below_grown M.old⟩
theorem bt_app_l (s p : ByteArray) (i : Nat) (h : i < s.size) : bt (s ++ p) i = bt s i := by
 rw [bt_of_sb, bt_of_sb, sb_append, List.getD_eq_getElem?_getD, List.getD_eq_getElem?_getD, List.getElem?_append_left (by rw [sb_length]; exact h)]
theorem bt_app_r (s p : ByteArray) (i : Nat) : bt (s ++ p) (s.size + i) = bt p i := by
 rw [bt_of_sb, bt_of_sb, sb_append, List.getD_eq_getElem?_getD, List.getD_eq_getElem?_getD, List.getElem?_append_right (by rw [sb_length]; omega), sb_length, Nat.add_sub_cancel_left]
theorem tk_app_l (H : HS) (s p : ByteArray) : ∀ k, k ≤ s.size → tk H (s ++ p) k = tk H s k
 | 0, _ => rfl
 | k + 1, h => by
  unfold tk
  rw [tk_app_l H s p k (by omega), bt_app_l s p k (by omega)]
theorem tk_app (H : HS) (s p : ByteArray) : ∀ k, tk H (s ++ p) (s.size + k) = tk (tk H s s.size) p k
 | 0 => tk_app_l H s p s.size (Nat.le_refl _)
 | k + 1 => by
  show ab (tk H (s ++ p) (s.size + k)) (bt (s ++ p) (s.size + k)) = ab (tk (tk H s s.size) p k) (bt p k)
  rw [tk_app H s p k, bt_app_r]
theorem tk_all (H : HS) (s p : ByteArray) : tk H (s ++ p) (s ++ p).size = tk (tk H s s.size) p p.size := by
 rw [ByteArray.size_append]
 exact tk_app H s p p.size
theorem tk_ct (s : ByteArray) : ∀ k, k < 1000000 → (tk hs0 s k).ct = (k : Int)
 | 0, _ => rfl
 | k + 1, h => by
  show ua (tk hs0 s k).ct 1 = _
  rw [tk_ct s k (by omega), ua_eq]
  omega
theorem blocks (D : ByteArray) : ∀ j, 128 * j < 1000000 → (tk hs0 D (128 * j)).ws = pcs (sb D) j
 | 0, _ => rfl
 | j + 1, h => by
  have hct : (tk hs0 D (128 * j)).ct % 128 = ((0 : Nat) : Int) := by
   rw [tk_ct D _ (by omega)]
   omega
  obtain ⟨_, _, h3⟩ := tk_run hs0 hs0_ok D (128 * j) 0 (D.extract (128 * j) D.size) (fun i => bt_extract D (128 * j) i) hct 128 (by omega)
  rw [if_pos (by omega)] at h3
  show (tk hs0 D (128 * j + 128)).ws = _
  rw [h3, blocks D j (by omega)]
  show _ = mixV (pcs (sb D) j) (fun i => (sb D).getD (128 * j + i) 0)
  refine mixV_congr fun i hi => ?_
  unfold cpy
  rw [if_pos (by omega), Nat.sub_zero, bt_extract, bt_of_sb]
theorem sr61 (n : Nat) (h : n < 1000000) : sr (n : Int) 61 = 0 := by
 unfold sr
 rw [Int.fdiv_eq_ediv_of_nonneg _ (by decide)]
 show (n : Int) / 2305843009213693952 = 0
 omega
theorem sl3 (n : Nat) (h : n < 1000000) : sl (n : Int) 3 = um 8 (cv .u64 (n : Int)) := by
 rw [cv_u64 n (by omega)]
 unfold sl um
 rw [Int.mul_comm]
 rfl
theorem hI_two (y : Int) : hI (r2 0 y) 2 = [0, 0, 0, 0, 0, 0, 0, 0, cv .u8 (sr y 56), cv .u8 (sr y 48), cv .u8 (sr y 40), cv .u8 (sr y 32), cv .u8 (sr y 24), cv .u8 (sr y 16), cv .u8 (sr y 8), cv .u8 (sr y 0)] := rfl
theorem lenB_eq (n : Nat) (h : n < 1000000) : hI (r2 (sr (n : Int) 61) (sl (n : Int) 3)) 2 = LenB n := by
 rw [sr61 n h, sl3 n h, hI_two]
 rfl
theorem dl_sb (s : ByteArray) (hs : s.size < 1000000) : sb (s ++ padS (s.size : Int)) = dl s := by
 rw [sb_append, pad_sb, lenB_eq _ hs]
 unfold dl
 rw [show (((s.size : Int) % 128).toNat) = s.size % 128 by omega]
 simp
theorem doc_eq (s : ByteArray) (hs : s.size < 100000) : docV s = ofV s := by
 have hD := dl_sb s (by omega)
 have hct := tk_ct s s.size (by omega)
 have hl := dl_length s
 have hm := dl_len s
 unfold docV ofV sumV
 rw [hct, ← tk_all, show (64 : Nat) = 8 * 8 from rfl, outL_hI, ← hD]
 have hsz : (s ++ padS (s.size : Int)).size = 128 * ((dl s).length / 128) := by
  rw [← sb_length, hD]
  omega
 rw [hsz, blocks _ _ (by omega), hD]
end Go.Proofs.YtmhfmhmpoobmlaaGreatDoor.Sha

namespace Go.Proofs.YtmhfmhmpoobmlaaGreatDoor
open Go.RowKit
structure EAt (W : World) (g : Nat) (x : E5) : Prop where
 size : g < W.heap.size
 free : ∀ o, W.frozen? ⟨g, o, none⟩ = false
 c0 : W.cell? ⟨g, 0, none⟩ = some (.int .u64 x.a)
 c1 : W.cell? ⟨g, 1, none⟩ = some (.int .u64 x.b)
 c2 : W.cell? ⟨g, 2, none⟩ = some (.int .u64 x.c)
 c3 : W.cell? ⟨g, 3, none⟩ = some (.int .u64 x.d)
 c4 : W.cell? ⟨g, 4, none⟩ = some (.int .u64 x.e)
theorem EAt.keep {W W' : World} {g : Nat} {x : E5} (h : EAt W g x) (hb : Below W.heap.size W W') : EAt W' g x :=
 ⟨Nat.lt_of_lt_of_le h.size hb.size, fun o => (hb.frozen (p := ⟨g, o, none⟩) h.size).trans (h.free o), (hb.cell (p := ⟨g, 0, none⟩) h.size).trans h.c0, (hb.cell (p := ⟨g, 1, none⟩) h.size).trans h.c1, (hb.cell (p := ⟨g, 2, none⟩) h.size).trans h.c2, (hb.cell (p := ⟨g, 3, none⟩) h.size).trans h.c3, (hb.cell (p := ⟨g, 4, none⟩) h.size).trans h.c4⟩
theorem EAt.new (W : World) (x : E5) (T : TypeId) : EAt (W.alloc (.cells #[.int .u64 x.a, .int .u64 x.b, .int .u64 x.c, .int .u64 x.d, .int .u64 x.e] T)) W.heap.size x := by
 refine ⟨by simp, ?_, ?_, ?_, ?_, ?_, ?_⟩ <;> simp [go_sem]
theorem new_below (W : World) (o : Obj) : Below W.heap.size W (W.alloc o) := (Below.refl _ _).alloc (Nat.le_refl _) _
theorem EAt.alloc {W : World} {g : Nat} {x : E5} (h : EAt W g x) (o : Obj) : EAt (W.alloc o) g x := h.keep (new_below W o)
theorem EAt.k0 {W : World} {g : Nat} {x : E5} (h : EAt W g x) (s : KW W) : s.w.cell? ⟨g, 0, none⟩ = some (.int .u64 x.a) := (h.keep s.keep).c0
theorem EAt.k1 {W : World} {g : Nat} {x : E5} (h : EAt W g x) (s : KW W) : s.w.cell? ⟨g, 1, none⟩ = some (.int .u64 x.b) := (h.keep s.keep).c1
theorem EAt.k2 {W : World} {g : Nat} {x : E5} (h : EAt W g x) (s : KW W) : s.w.cell? ⟨g, 2, none⟩ = some (.int .u64 x.c) := (h.keep s.keep).c2
theorem EAt.k3 {W : World} {g : Nat} {x : E5} (h : EAt W g x) (s : KW W) : s.w.cell? ⟨g, 3, none⟩ = some (.int .u64 x.d) := (h.keep s.keep).c3
theorem EAt.k4 {W : World} {g : Nat} {x : E5} (h : EAt W g x) (s : KW W) : s.w.cell? ⟨g, 4, none⟩ = some (.int .u64 x.e) := (h.keep s.keep).c4
theorem KW.some (W : World) : Nonempty (KW W) := ⟨⟨W, Below.refl _ _⟩⟩
structure Out (w W : World) (g : Nat) : Prop where
 old : Below w.heap.size w W
 ge : w.heap.size ≤ g
 lie : EAt W g zeroE
theorem Out.keep {w W W' : World} {g : Nat} (h : Out w W g) (hb : Below W.heap.size W W') : Out w W' g := ⟨h.old.trans (hb.mono h.old.size), h.ge, h.lie.keep hb⟩
theorem Out.start0 (w : World) : Out w (w.alloc (.cells #[.int .u64 0, .int .u64 0, .int .u64 0, .int .u64 0, .int .u64 0] 58)) w.heap.size := ⟨new_below w _, Nat.le_refl _, EAt.new w zeroE 58⟩
theorem Out.start1 (w : World) (o : Obj) : Out w ((w.alloc o).alloc (.cells #[.int .u64 0, .int .u64 0, .int .u64 0, .int .u64 0, .int .u64 0] 58)) (w.heap.size + 1) := by
 refine ⟨(new_below w o).trans ((new_below (w.alloc o) _).mono (by simp)), by omega, ?_⟩
 have h := EAt.new (w.alloc o) zeroE 58
 rwa [World.size_alloc] at h
theorem EAt.new1 (w : World) (x : E5) (o : Obj) : EAt ((w.alloc (.cells #[.int .u64 x.a, .int .u64 x.b, .int .u64 x.c, .int .u64 x.d, .int .u64 x.e] 58)).alloc o) w.heap.size x := (EAt.new w x 58).alloc o
theorem five {B g : Nat} {w w1 : World} (h : Below B w w1) (hg : B ≤ g) {u0 u1 u2 u3 u4 : Value} :
  Below B w (((((w1.setCell ⟨g, 0, none⟩ u0).setCell ⟨g, 1, none⟩ u1).setCell ⟨g, 2, none⟩ u2).setCell ⟨g, 3, none⟩ u3).setCell ⟨g, 4, none⟩ u4) :=
 ((((h.setCell (p := ⟨g, 0, none⟩) hg u0).setCell (p := ⟨g, 1, none⟩) hg u1).setCell (p := ⟨g, 2, none⟩) hg u2).setCell (p := ⟨g, 3, none⟩) hg u3).setCell (p := ⟨g, 4, none⟩) hg u4
theorem EAt.of_zero {W : World} {g : Nat} (h : W.heap[g]? = some (.cells #[.int .u64 0, .int .u64 0, .int .u64 0, .int .u64 0, .int .u64 0] 58)) : EAt W g zeroE := by
 have hlt : g < W.heap.size := by
  by_cases hlt : g < W.heap.size
  ·exact hlt
  ·have hn : W.heap[g]? = none := by simp; omega
   rw [hn] at h
   cases h
 refine ⟨hlt, fun o => by simp [World.frozen?, h], ?_, ?_, ?_, ?_, ?_⟩ <;> simp [World.cell?, h, zeroE]
abbrev put5 (W : World) (g : Nat) (z : E5) : World := ((((W.setCell ⟨g, 0, none⟩ (.int .u64 z.a)).setCell ⟨g, 1, none⟩ (.int .u64 z.b)).setCell ⟨g, 2, none⟩ (.int .u64 z.c)).setCell ⟨g, 3, none⟩ (.int .u64 z.d)).setCell ⟨g, 4, none⟩ (.int .u64 z.e)
theorem EAt.put {W : World} {g : Nat} {x : E5} (h : EAt W g x) (z : E5) : EAt (put5 W g z) g z := by
 obtain ⟨hs, hf, c0, c1, c2, c3, c4⟩ := h
 refine ⟨?_, ?_, ?_, ?_, ?_, ?_, ?_⟩ <;> simp [go_sem, hs, hf, c0, c1, c2, c3, c4]
theorem EAt.other {W : World} {g k : Nat} {x : E5} (h : EAt W g x) (hk : g ≠ k) (z : E5) : EAt (put5 W k z) g x := by
 obtain ⟨hs, hf, c0, c1, c2, c3, c4⟩ := h
 refine ⟨?_, ?_, ?_, ?_, ?_, ?_, ?_⟩ <;> simp [go_sem, hs, hf, c0, c1, c2, c3, c4]
theorem Out.other {w W : World} {g k : Nat} (h : Out w W g) (hk : g ≠ k) (hle : w.heap.size ≤ k) (z : E5) : Out w (put5 W k z) g := ⟨five h.old hle, h.ge, h.lie.other hk z⟩
end Go.Proofs.YtmhfmhmpoobmlaaGreatDoor
