/- Part 11 of the walks and facts. -/
import Derived.Test.YtffimigpbcilbaaGreatDoorCpDef
import Derived.Test.YtffimigpbcilbaaGreatDoorCp10
import Derived.ScopeJumps
set_option maxHeartbeats 16000000
set_option maxRecDepth 100000
namespace Go.Proofs.YtffimigpbcilbaaGreatDoor.Bla
open Go.RowKit
def wd (rs : NI) : Nat → (Nat → Int)
 | 0 => fun _ => 0
 | j + 1 => upd (wd rs j) ((63 - j) / 4) (vo (vl (wd rs j ((63 - j) / 4)) 8) (cv .u32 (rs (63 - j))))
def vi (h : NI) : Nat → (Nat → Int)
 | 0 => fun _ => 0
 | j + 1 => upd (upd (vi h j) j (h j)) (8 + j) (HB j)
theorem vi_at (h : NI) : ∀ n, n ≤ 8 → ∀ i, i < 16 → vi h n i = if i < n then h i else if 8 ≤ i ∧ i < 8 + n then HB (i - 8) else 0
 | 0, _, i, _ => by
  rw [if_neg (by omega), if_neg (by omega)]
  rfl
 | n + 1, hn, i, hi => by
  unfold vi upd
  rw [vi_at h n (by omega) i hi]
  by_cases e : i = 8 + n
  ·rw [if_pos e, if_neg (by omega), if_pos (by omega), e, show 8 + n - 8 = n by omega]
  ·rw [if_neg e]
   by_cases e2 : i = n
   ·rw [if_pos e2, if_pos (by omega), e2]
   ·rw [if_neg e2]
    by_cases h1 : i < n
    ·rw [if_pos h1, if_pos (by omega)]
    ·rw [if_neg h1, if_neg (show ¬ i < n + 1 by omega)]
     by_cases h2 : 8 ≤ i ∧ i < 8 + n
     ·rw [if_pos h2, if_pos (by omega)]
     ·rw [if_neg h2, if_neg (by omega)]
theorem vi_av (h : NI) : av 16 (w32 (vi h 8)) = av 16 (w32 (spB h)) := av_congr fun i hi => by
 unfold w32 spB
 rw [vi_at h 8 (by omega) i hi]
 by_cases e : i < 8
 ·rw [if_pos e, if_pos e]
 ·rw [if_neg e, if_neg e, if_pos (by omega)]
def adD (x y : NI) : Nat → (Nat → Int)
 | 0 => x
 | j + 1 => upd (adD x y j) j (vx (vx (adD x y j j) (y j)) (y (8 + j)))
theorem adD_av (x y : NI) : av 8 (w32 (adD x y 8)) = av 8 (w32 fun i => vx (x i) (vx (y i) (y (8 + i)))) := by
 refine av_congr fun i hi => ?_
 unfold w32
 congr 1
 revert i
 exact lt8 ⟨by simp [adD, upd, vx_assoc], by simp [adD, upd, vx_assoc], by simp [adD, upd, vx_assoc], by simp [adD, upd, vx_assoc], by simp [adD, upd, vx_assoc], by simp [adD, upd, vx_assoc], by simp [adD, upd, vx_assoc], by simp [adD, upd, vx_assoc]⟩
def mixW (x m : NI) (ct : Int) (last : Bool) : Nat → Int := fun i => vx (x i) (vx (rd m (spr x ct last) 10 i) (rd m (spr x ct last) 10 (8 + i)))
theorem mixV_W (x rs : NI) (n : Nat) (ct : Int) (last : Bool) : mixV x rs n ct last = mixW x (wo rs n) ct last := rfl
theorem cut_b {P : Program} {Q : Exit → Act → World → Prop} {x : Code} {I K : Act → World → Prop} {a : Act} {w : World} (h1 : x.wp P (Exit.then I Q) a w) (h2 : ∀ a w, I a w → K a w) : x.wp P (Exit.then K Q) a w :=
 wp_mono h1 fun e a w h => by
  cases e <;> first | exact h2 _ _ h | exact h
theorem d_piece (h : NI) (p : Yb) (hp : p.size = 64) (ct : Int) (last : Bool) (w : World) (hL : Laid w)  : Cs 107 #[.agg (av 8 (w32 h)), .string p, .int .u64 ct, .bool last] w (.agg (av 8 (w32 (mixW h (wd (bt p) 64) ct last)))) := by
 go_enter Tryz.func107, Tryz.ntmps107
 have M := Mem.start hL
 refine sR <| pN M 4 (.cells (av 8 (w32 h)) 155) fun g1 u1 M => pN M 8 (.cells (av 8 (w32 (fun _ => 0))) 155) fun g2 u2 M => nT <| sR <| pN M 9 (.cells (av 16 (w32 (fun _ => 0))) 148) fun g3 u3 M => nT <| wp_seq <| sq <| wp_block ?_
 refine au_loop (fun j a w' => ∃ (v0 : NV) (m : Int), m = 63 - (j : Int) ∧ a = (fm ([.agg (av 8 (w32 h)), .string p, .int .u64 ct, .bool last, pJ g1] ++ und 3 ++ [pJ g2, pJ g3, .int .i64 m] ++ und 6 ++ vr v0 17 17 ++ und 139)) ∧ Mem ⟨w, []⟩ [⟨g1, .cells (av 8 (w32 h)) 155⟩, ⟨g2, .cells (av 8 (w32 (fun _ => 0))) 155⟩, ⟨g3, .cells (av 16 (w32 (wd (bt p) j))) 148⟩] w') 64 (exS3 63 M) ?_ ?_
 ·intro j a u0 hj hI
  obtain ⟨v0, m, hm, rfl, M⟩ := hI
  obtain ⟨n, rfl⟩ : ∃ n : Nat, m = (n : Int) := ⟨63 - j, by omega⟩
  have hn : n = 63 - j := by omega
  refine wp_seq <| sR <| rV 1 <| ZT 18 ((0 : Int) ≤ (n : Int)) <| nT <| cT <| wp_skip <| au_then <| wp_seq <| wp_block <| rg_tail M 13 (by kernel_rfl) (by kernel_rfl) ?_
  simp only [List.take_succ_cons, List.take_zero]
  refine kR 1 <| eQ 22 .i64 (IntKind.wrap .i64 ((n : Int).tdiv 4)) (quo4 n (by omega)) <| kR 1 <| eQ 24 .i64 (IntKind.wrap .i64 ((n : Int).tdiv 4)) (quo4 n (by omega)) <| eX 25 .i64 g3 ((n / 4 : Nat)) 16 <| eE M 26 2 ((n / 4 : Nat)) <| kR 3 <| kH 30 (.int .u8 (bt p n)) (run_ixS 9 Tryz.underlying9 _ _ rfl p (by kernel_rfl) .i64 n (by kernel_rfl) (by omega)) <| kR 2 <| eX 33 .i64 g3 ((n / 4 : Nat)) 16 <| kl_nil fun u4 M => ZP32 M 2 ((n / 4 : Nat)) (vo (vl ((wd (bt p) j) ((n / 4 : Nat))) 8) (cv .u32 (bt p n))) fun u5 M => pl_nil <| au_block <| au_then <| rg_lit ?_
  refine rV 1 <| zW 20 ((n : Int) - 1) <| rV 1 <| nT ?_
  have E : upd (wd (bt p) j) (n / 4) (vo (vl ((wd (bt p) j) (n / 4)) 8) (cv .u32 (bt p n))) = wd (bt p) (j + 1) := by rw [hn]; rfl
  rw [E] at M
  exact exS3 ((n : Int) - 1) M
 ·intro a u0 hI
  obtain ⟨v0, m, hm, rfl, M⟩ := hI
  refine wp_seq <| sR <| rV 1 <| ZF 18 ((0 : Int) ≤ m) <| nT <| cF <| wp_exit <| au_then_exit <| au_then_exit <| au_block_exit <| au_then <| sR <| pN M 11 (.cells (av 16 (w32 (fun _ => 0))) 148) fun g4 u6 M => nT <| sR <| ZC M 34 (fun w M => d_begin w M.laid) fun u7 M => ?_
  refine pN M 12 (.cells (av 8 (w32 (fun _ => 0))) 155) fun g5 u8 M => ZG M 4 8 (w32 HB) fun u9 M => nT <| wp_seq <| sq <| wp_block ?_
  refine au_loop (fun j a w' => ∃ v1 : NV, a = (fm ([.agg (av 8 (w32 h)), .string p, .int .u64 ct, .bool last, pJ g1] ++ vr v1 5 3 ++ [pJ g2, pJ g3, .int .i64 m, pJ g4, pJ g5, .int .i64 (j : Int)] ++ vr v1 14 159)) ∧ Mem ⟨w, []⟩ [⟨g1, .cells (av 8 (w32 h)) 155⟩, ⟨g2, .cells (av 8 (w32 (fun _ => 0))) 155⟩, ⟨g3, .cells (av 16 (w32 (wd (bt p) 64))) 148⟩, ⟨g4, .cells (av 16 (w32 (vi h j))) 148⟩, ⟨g5, .cells (av 8 (w32 HB)) 155⟩] w') 8 (exS M) ?_ ?_
  ·intro j a u0 hj hI
   obtain ⟨v1, rfl, M⟩ := hI
   refine wp_seq <| sR <| rV 1 <| ZT 36 ((j : Int) < 8) <| nT <| cT <| wp_skip <| au_then <| wp_seq <| wp_block <| sR <| rV 2 <| ZX 41 .i64 g1 (j) 8 <| ZE M 42 0 j <| ZX 43 .i64 g4 (j) 16 <| ZP32 M 3 j (h j) fun u10 M => ?_
   refine nT <| rg_lit <| rV 1 <| ZI 45 (8 + (j : Int)) ((8 + j : Nat) : Int) <| rV 1 <| ZX 47 .i64 g5 (j) 8 <| ZE M 48 4 j <| ZX 49 .i64 g4 ((8 + j : Nat)) 16 <| ZP32 M 3 ((8 + j : Nat)) (HB j) fun u11 M => pl_nil <| au_block <| au_then <| rg_lit <| rV 1 <| ZI 38 ((j : Int) + 1) ((j + 1 : Nat) : Int) <| rV 1 ?_
   refine nT ?_
   exact exS M
  ·intro a u0 hI
   obtain ⟨v1, rfl, M⟩ := hI
   rw [vi_av] at M
   refine wp_seq <| sR <| rV 1 <| ZF 36 (8 < 8) <| nT <| cF <| wp_exit <| au_then_exit <| au_then_exit <| au_block_exit <| au_then <| sR <| rV 1 <| ZE M 51 3 12 <| rV 4 <| ZP32 M 3 12 (vx ((spB h) 12) (cv .u32 ct)) fun u12 M => ?_
   refine nT <| sR <| rV 1 <| ZE M 57 3 13 <| rV 5 <| ZP32 M 3 13 (vx ((upd (spB h) 12 (vx ((spB h) 12) (cv .u32 ct))) 13) (cv .u32 (sr ct 32))) fun u13 M => nT <| wp_seq <| sq ?_
   refine cut_b (I := fun a w' => ∃ v : NV, a = (fm ([.agg (av 8 (w32 h)), .string p, .int .u64 ct, .bool last, pJ g1] ++ vr v 5 3 ++ [pJ g2, pJ g3, .int .i64 m, pJ g4, pJ g5, .int .i64 (8 : Int)] ++ vr v 14 159)) ∧ Mem ⟨w, []⟩ [⟨g1, .cells (av 8 (w32 h)) 155⟩, ⟨g2, .cells (av 8 (w32 (fun _ => 0))) 155⟩, ⟨g3, .cells (av 16 (w32 (wd (bt p) 64))) 148⟩, ⟨g4, .cells (av 16 (w32 (spr h ct last))) 148⟩, ⟨g5, .cells (av 8 (w32 HB)) 155⟩] w') ?_ ?_
   ·cases last
    ·refine cF <| wp_skip <| au_then ?_
     exact exS M
    ·refine cT <| rg_lit <| rV 1 <| ZE M 65 3 14 <| rV 2 <| ZP32 M 3 14 (vt ((upd (upd (spB h) 12 (vx ((spB h) 12) (cv .u32 ct))) 13 (vx ((upd (spB h) 12 (vx ((spB h) 12) (cv .u32 ct))) 13) (cv .u32 (sr ct 32)))) 14)) fun u14 M => nT ?_
     exact exS M
   ·intro a u0 hI
    obtain ⟨v, rfl, M⟩ := hI
    refine wp_seq <| sq <| wp_block ?_
    refine au_loop (fun j a w' => ∃ v2 : NV, a = (fm ([.agg (av 8 (w32 h)), .string p, .int .u64 ct, .bool last, pJ g1] ++ vr v2 5 3 ++ [pJ g2, pJ g3, .int .i64 m, pJ g4, pJ g5, .int .i64 (8 : Int), .int .i64 (j : Int)] ++ vr v2 15 158)) ∧ Mem ⟨w, []⟩ [⟨g1, .cells (av 8 (w32 h)) 155⟩, ⟨g2, .cells (av 8 (w32 (fun _ => 0))) 155⟩, ⟨g3, .cells (av 16 (w32 (wd (bt p) 64))) 148⟩, ⟨g4, .cells (av 16 (w32 (rd (wd (bt p) 64) (spr h ct last) j))) 148⟩, ⟨g5, .cells (av 8 (w32 HB)) 155⟩] w') 10 (exS M) ?_ ?_
    ·intro j a u0 hj hI
     obtain ⟨v2, rfl, M⟩ := hI
     refine wp_seq <| sR <| rV 1 <| ZT 69 ((j : Int) < 10) <| nT <| cT <| wp_skip <| au_then <| wp_seq <| wp_block <| sR <| rV 1 <| ZC M 73 (fun w M => d_order j (by omega) w M.laid) fun u15 M => pN M 15 (.cells (av 16 (wi (fun _ => 0))) 198) fun g6 u16 M => ZG M 5 16 (oi j) fun u17 M => nT ?_
     refine wp_seq <| rg_tail M 10 (by kernel_rfl) (by kernel_rfl) ?_
     simp only [List.take_succ_cons, List.take_zero]
     refine kA M 74 3 16 (w32 (rd (wd (bt p) 64) (spr h ct last) j)) <| kR 1 <| eE M 76 5 0 ?_
     refine eX 77 .i64 g3 (OF (j * 16 + 0)) 16 ?_ (hlt := OF_lt _)
     refine eE M 78 2 (OF (j * 16 + 0)) ?_ (hk := OF_lt _)
     refine kR 1 <| eE M 80 5 1 ?_
     refine eX 81 .i64 g3 (OF (j * 16 + 1)) 16 ?_ (hlt := OF_lt _)
     refine eE M 82 2 (OF (j * 16 + 1)) ?_ (hk := OF_lt _)
     refine kC M 83 145 #[.agg (av 16 (w32 (rd (wd (bt p) 64) (spr h ct last) j))), .int .i64 0, .int .i64 4, .int .i64 8, .int .i64 12, .int .u32 ((wd (bt p) 64) (OF (j * 16 + 0))), .int .u32 ((wd (bt p) 64) (OF (j * 16 + 1)))] (.agg (av 16 (w32 (rn1 (wd (bt p) 64) (rd (wd (bt p) 64) (spr h ct last) j) j)))) (fun w M => d_mix (rd (wd (bt p) 64) (spr h ct last) j) _ _ 0 4 8 12 (by decide) (by decide) (by decide) (by decide) (by decide) (by decide) (by decide) (by decide) (by decide) (by decide) w M.laid) <| kl_nil fun u18 M => ZG M 3 16 (w32 (rn1 (wd (bt p) 64) (rd (wd (bt p) 64) (spr h ct last) j) j)) fun u19 M => nT <| wp_seq <| rg_tail M 10 (by kernel_rfl) (by kernel_rfl) ?_
     simp only [List.take_succ_cons, List.take_zero]
     refine kA M 84 3 16 (w32 (rn1 (wd (bt p) 64) (rd (wd (bt p) 64) (spr h ct last) j) j)) <| kR 1 <| eE M 86 5 2 ?_
     refine eX 87 .i64 g3 (OF (j * 16 + 2)) 16 ?_ (hlt := OF_lt _)
     refine eE M 88 2 (OF (j * 16 + 2)) ?_ (hk := OF_lt _)
     refine kR 1 <| eE M 90 5 3 ?_
     refine eX 91 .i64 g3 (OF (j * 16 + 3)) 16 ?_ (hlt := OF_lt _)
     refine eE M 92 2 (OF (j * 16 + 3)) ?_ (hk := OF_lt _)
     refine kC M 93 145 #[.agg (av 16 (w32 (rn1 (wd (bt p) 64) (rd (wd (bt p) 64) (spr h ct last) j) j))), .int .i64 1, .int .i64 5, .int .i64 9, .int .i64 13, .int .u32 ((wd (bt p) 64) (OF (j * 16 + 2))), .int .u32 ((wd (bt p) 64) (OF (j * 16 + 3)))] (.agg (av 16 (w32 (rn2 (wd (bt p) 64) (rd (wd (bt p) 64) (spr h ct last) j) j)))) (fun w M => d_mix (rn1 (wd (bt p) 64) (rd (wd (bt p) 64) (spr h ct last) j) j) _ _ 1 5 9 13 (by decide) (by decide) (by decide) (by decide) (by decide) (by decide) (by decide) (by decide) (by decide) (by decide) w M.laid) <| kl_nil fun u20 M => ZG M 3 16 (w32 (rn2 (wd (bt p) 64) (rd (wd (bt p) 64) (spr h ct last) j) j)) fun u21 M => nT <| wp_seq <| rg_tail M 10 (by kernel_rfl) (by kernel_rfl) ?_
     simp only [List.take_succ_cons, List.take_zero]
     refine kA M 94 3 16 (w32 (rn2 (wd (bt p) 64) (rd (wd (bt p) 64) (spr h ct last) j) j)) <| kR 1 <| eE M 96 5 4 ?_
     refine eX 97 .i64 g3 (OF (j * 16 + 4)) 16 ?_ (hlt := OF_lt _)
     refine eE M 98 2 (OF (j * 16 + 4)) ?_ (hk := OF_lt _)
     refine kR 1 <| eE M 100 5 5 ?_
     refine eX 101 .i64 g3 (OF (j * 16 + 5)) 16 ?_ (hlt := OF_lt _)
     refine eE M 102 2 (OF (j * 16 + 5)) ?_ (hk := OF_lt _)
     refine kC M 103 145 #[.agg (av 16 (w32 (rn2 (wd (bt p) 64) (rd (wd (bt p) 64) (spr h ct last) j) j))), .int .i64 2, .int .i64 6, .int .i64 10, .int .i64 14, .int .u32 ((wd (bt p) 64) (OF (j * 16 + 4))), .int .u32 ((wd (bt p) 64) (OF (j * 16 + 5)))] (.agg (av 16 (w32 (rn3 (wd (bt p) 64) (rd (wd (bt p) 64) (spr h ct last) j) j)))) (fun w M => d_mix (rn2 (wd (bt p) 64) (rd (wd (bt p) 64) (spr h ct last) j) j) _ _ 2 6 10 14 (by decide) (by decide) (by decide) (by decide) (by decide) (by decide) (by decide) (by decide) (by decide) (by decide) w M.laid) <| kl_nil fun u22 M => ZG M 3 16 (w32 (rn3 (wd (bt p) 64) (rd (wd (bt p) 64) (spr h ct last) j) j)) fun u23 M => nT <| wp_seq <| rg_tail M 10 (by kernel_rfl) (by kernel_rfl) ?_
     simp only [List.take_succ_cons, List.take_zero]
     refine kA M 104 3 16 (w32 (rn3 (wd (bt p) 64) (rd (wd (bt p) 64) (spr h ct last) j) j)) <| kR 1 <| eE M 106 5 6 ?_
     refine eX 107 .i64 g3 (OF (j * 16 + 6)) 16 ?_ (hlt := OF_lt _)
     refine eE M 108 2 (OF (j * 16 + 6)) ?_ (hk := OF_lt _)
     refine kR 1 <| eE M 110 5 7 ?_
     refine eX 111 .i64 g3 (OF (j * 16 + 7)) 16 ?_ (hlt := OF_lt _)
     refine eE M 112 2 (OF (j * 16 + 7)) ?_ (hk := OF_lt _)
     refine kC M 113 145 #[.agg (av 16 (w32 (rn3 (wd (bt p) 64) (rd (wd (bt p) 64) (spr h ct last) j) j))), .int .i64 3, .int .i64 7, .int .i64 11, .int .i64 15, .int .u32 ((wd (bt p) 64) (OF (j * 16 + 6))), .int .u32 ((wd (bt p) 64) (OF (j * 16 + 7)))] (.agg (av 16 (w32 (rn4 (wd (bt p) 64) (rd (wd (bt p) 64) (spr h ct last) j) j)))) (fun w M => d_mix (rn3 (wd (bt p) 64) (rd (wd (bt p) 64) (spr h ct last) j) j) _ _ 3 7 11 15 (by decide) (by decide) (by decide) (by decide) (by decide) (by decide) (by decide) (by decide) (by decide) (by decide) w M.laid) <| kl_nil fun u24 M => ZG M 3 16 (w32 (rn4 (wd (bt p) 64) (rd (wd (bt p) 64) (spr h ct last) j) j)) fun u25 M => nT <| wp_seq <| rg_tail M 10 (by kernel_rfl) (by kernel_rfl) ?_
     simp only [List.take_succ_cons, List.take_zero]
     refine kA M 114 3 16 (w32 (rn4 (wd (bt p) 64) (rd (wd (bt p) 64) (spr h ct last) j) j)) <| kR 1 <| eE M 116 5 8 ?_
     refine eX 117 .i64 g3 (OF (j * 16 + 8)) 16 ?_ (hlt := OF_lt _)
     refine eE M 118 2 (OF (j * 16 + 8)) ?_ (hk := OF_lt _)
     refine kR 1 <| eE M 120 5 9 ?_
     refine eX 121 .i64 g3 (OF (j * 16 + 9)) 16 ?_ (hlt := OF_lt _)
     refine eE M 122 2 (OF (j * 16 + 9)) ?_ (hk := OF_lt _)
     refine kC M 123 145 #[.agg (av 16 (w32 (rn4 (wd (bt p) 64) (rd (wd (bt p) 64) (spr h ct last) j) j))), .int .i64 0, .int .i64 5, .int .i64 10, .int .i64 15, .int .u32 ((wd (bt p) 64) (OF (j * 16 + 8))), .int .u32 ((wd (bt p) 64) (OF (j * 16 + 9)))] (.agg (av 16 (w32 (rn5 (wd (bt p) 64) (rd (wd (bt p) 64) (spr h ct last) j) j)))) (fun w M => d_mix (rn4 (wd (bt p) 64) (rd (wd (bt p) 64) (spr h ct last) j) j) _ _ 0 5 10 15 (by decide) (by decide) (by decide) (by decide) (by decide) (by decide) (by decide) (by decide) (by decide) (by decide) w M.laid) <| kl_nil fun u26 M => ZG M 3 16 (w32 (rn5 (wd (bt p) 64) (rd (wd (bt p) 64) (spr h ct last) j) j)) fun u27 M => nT <| wp_seq <| rg_tail M 10 (by kernel_rfl) (by kernel_rfl) ?_
     simp only [List.take_succ_cons, List.take_zero]
     refine kA M 124 3 16 (w32 (rn5 (wd (bt p) 64) (rd (wd (bt p) 64) (spr h ct last) j) j)) <| kR 1 <| eE M 126 5 10 ?_
     refine eX 127 .i64 g3 (OF (j * 16 + 10)) 16 ?_ (hlt := OF_lt _)
     refine eE M 128 2 (OF (j * 16 + 10)) ?_ (hk := OF_lt _)
     refine kR 1 <| eE M 130 5 11 ?_
     refine eX 131 .i64 g3 (OF (j * 16 + 11)) 16 ?_ (hlt := OF_lt _)
     refine eE M 132 2 (OF (j * 16 + 11)) ?_ (hk := OF_lt _)
     refine kC M 133 145 #[.agg (av 16 (w32 (rn5 (wd (bt p) 64) (rd (wd (bt p) 64) (spr h ct last) j) j))), .int .i64 1, .int .i64 6, .int .i64 11, .int .i64 12, .int .u32 ((wd (bt p) 64) (OF (j * 16 + 10))), .int .u32 ((wd (bt p) 64) (OF (j * 16 + 11)))] (.agg (av 16 (w32 (rn6 (wd (bt p) 64) (rd (wd (bt p) 64) (spr h ct last) j) j)))) (fun w M => d_mix (rn5 (wd (bt p) 64) (rd (wd (bt p) 64) (spr h ct last) j) j) _ _ 1 6 11 12 (by decide) (by decide) (by decide) (by decide) (by decide) (by decide) (by decide) (by decide) (by decide) (by decide) w M.laid) <| kl_nil fun u28 M => ZG M 3 16 (w32 (rn6 (wd (bt p) 64) (rd (wd (bt p) 64) (spr h ct last) j) j)) fun u29 M => nT <| wp_seq <| rg_tail M 10 (by kernel_rfl) (by kernel_rfl) ?_
     simp only [List.take_succ_cons, List.take_zero]
     refine kA M 134 3 16 (w32 (rn6 (wd (bt p) 64) (rd (wd (bt p) 64) (spr h ct last) j) j)) <| kR 1 <| eE M 136 5 12 ?_
     refine eX 137 .i64 g3 (OF (j * 16 + 12)) 16 ?_ (hlt := OF_lt _)
     refine eE M 138 2 (OF (j * 16 + 12)) ?_ (hk := OF_lt _)
     refine kR 1 <| eE M 140 5 13 ?_
     refine eX 141 .i64 g3 (OF (j * 16 + 13)) 16 ?_ (hlt := OF_lt _)
     refine eE M 142 2 (OF (j * 16 + 13)) ?_ (hk := OF_lt _)
     refine kC M 143 145 #[.agg (av 16 (w32 (rn6 (wd (bt p) 64) (rd (wd (bt p) 64) (spr h ct last) j) j))), .int .i64 2, .int .i64 7, .int .i64 8, .int .i64 13, .int .u32 ((wd (bt p) 64) (OF (j * 16 + 12))), .int .u32 ((wd (bt p) 64) (OF (j * 16 + 13)))] (.agg (av 16 (w32 (rn7 (wd (bt p) 64) (rd (wd (bt p) 64) (spr h ct last) j) j)))) (fun w M => d_mix (rn6 (wd (bt p) 64) (rd (wd (bt p) 64) (spr h ct last) j) j) _ _ 2 7 8 13 (by decide) (by decide) (by decide) (by decide) (by decide) (by decide) (by decide) (by decide) (by decide) (by decide) w M.laid) <| kl_nil fun u30 M => ZG M 3 16 (w32 (rn7 (wd (bt p) 64) (rd (wd (bt p) 64) (spr h ct last) j) j)) fun u31 M => nT <| rg_tail M 10 (by kernel_rfl) (by kernel_rfl) ?_
     simp only [List.take_succ_cons, List.take_zero]
     refine kA M 144 3 16 (w32 (rn7 (wd (bt p) 64) (rd (wd (bt p) 64) (spr h ct last) j) j)) <| kR 1 <| eE M 146 5 14 ?_
     refine eX 147 .i64 g3 (OF (j * 16 + 14)) 16 ?_ (hlt := OF_lt _)
     refine eE M 148 2 (OF (j * 16 + 14)) ?_ (hk := OF_lt _)
     refine kR 1 <| eE M 150 5 15 ?_
     refine eX 151 .i64 g3 (OF (j * 16 + 15)) 16 ?_ (hlt := OF_lt _)
     refine eE M 152 2 (OF (j * 16 + 15)) ?_ (hk := OF_lt _)
     refine kC M 153 145 #[.agg (av 16 (w32 (rn7 (wd (bt p) 64) (rd (wd (bt p) 64) (spr h ct last) j) j))), .int .i64 3, .int .i64 4, .int .i64 9, .int .i64 14, .int .u32 ((wd (bt p) 64) (OF (j * 16 + 14))), .int .u32 ((wd (bt p) 64) (OF (j * 16 + 15)))] (.agg (av 16 (w32 (rn8 (wd (bt p) 64) (rd (wd (bt p) 64) (spr h ct last) j) j)))) (fun w M => d_mix (rn7 (wd (bt p) 64) (rd (wd (bt p) 64) (spr h ct last) j) j) _ _ 3 4 9 14 (by decide) (by decide) (by decide) (by decide) (by decide) (by decide) (by decide) (by decide) (by decide) (by decide) w M.laid) <| kl_nil fun u32 M => ZG M 3 16 (w32 (rn8 (wd (bt p) 64) (rd (wd (bt p) 64) (spr h ct last) j) j)) fun u33 M => pl_nil <| au_block <| au_then <| rg_lit <| rV 1 <| ZI 71 ((j : Int) + 1) ((j + 1 : Nat) : Int) <| rV 1 <| nT ?_
     exact exS (M.drop (.cons_cons _ (.cons_cons _ (.cons_cons _ (.cons_cons _ (.cons_cons _ (.cons _ (.slnil))))))))
    ·intro a u0 hI
     obtain ⟨v2, rfl, M⟩ := hI
     refine wp_seq <| sR <| rV 1 <| ZF 69 (10 < 10) <| nT <| cF <| wp_exit <| au_then_exit <| au_then_exit <| au_block_exit <| au_then <| wp_seq <| sq <| wp_block ?_
     refine au_loop (fun j a w' => ∃ v3 : NV, a = (fm ([.agg (av 8 (w32 h)), .string p, .int .u64 ct, .bool last, pJ g1] ++ vr v3 5 3 ++ [pJ g2, pJ g3, .int .i64 m, pJ g4, pJ g5, .int .i64 (8 : Int), .int .i64 (10 : Int), v3 15, .int .i64 (j : Int)] ++ vr v3 17 156)) ∧ Mem ⟨w, []⟩ [⟨g1, .cells (av 8 (w32 (adD h (rd (wd (bt p) 64) (spr h ct last) 10) j))) 155⟩, ⟨g2, .cells (av 8 (w32 (fun _ => 0))) 155⟩, ⟨g3, .cells (av 16 (w32 (wd (bt p) 64))) 148⟩, ⟨g4, .cells (av 16 (w32 (rd (wd (bt p) 64) (spr h ct last) 10))) 148⟩, ⟨g5, .cells (av 8 (w32 HB)) 155⟩] w') 8 (exS M) ?_ ?_
     ·intro j a u0 hj hI
      obtain ⟨v3, rfl, M⟩ := hI
      refine wp_seq <| sR <| rV 1 <| ZT 155 ((j : Int) < 8) <| nT <| cT <| wp_skip <| au_then <| wp_seq <| wp_block <| rg_tail M 14 (by kernel_rfl) (by kernel_rfl) ?_
      simp only [List.take_succ_cons, List.take_zero]
      refine kR 2 <| eX 160 .i64 g1 (j) 8 <| eE M 161 0 j <| kR 1 <| eX 163 .i64 g4 (j) 16 <| eE M 164 3 j <| kR 2 <| eI 167 (8 + (j : Int)) ((8 + j : Nat) : Int) <| eX 168 .i64 g4 ((8 + j : Nat)) 16 <| eE M 169 3 ((8 + j : Nat)) <| kR 1 <| eX 171 .i64 g1 (j) 8 <| kl_nil fun u34 M => ZP32 M 0 j (vx (vx ((adD h (rd (wd (bt p) 64) (spr h ct last) 10) j) j) ((rd (wd (bt p) 64) (spr h ct last) 10) j)) ((rd (wd (bt p) 64) (spr h ct last) 10) ((8 + j : Nat)))) fun u35 M => pl_nil <| au_block ?_
      refine au_then <| rg_lit <| rV 1 <| ZI 157 ((j : Int) + 1) ((j + 1 : Nat) : Int) <| rV 1 <| nT ?_
      exact exS M
     ·intro a u0 hI
      obtain ⟨v3, rfl, M⟩ := hI
      refine wp_seq <| sR <| rV 1 <| ZF 155 (8 < 8) <| nT <| cF <| wp_exit <| au_then_exit <| au_then_exit <| au_block_exit <| au_then <| sR <| pA M 172 0 8 (w32 (adD h (rd (wd (bt p) 64) (spr h ct last) 10) 8)) <| ZG M 1 8 (w32 (adD h (rd (wd (bt p) 64) (spr h ct last) 10) 8)) fun u36 M => nT <| wp_ret ?_
      refine bodyPost_ret (v := .agg (av 8 (w32 (mixW h (wd (bt p) 64) ct last)))) (Eq.trans (b := .ok (.agg (av 8 (w32 (adD h (rd (wd (bt p) 64) (spr h ct last) 10) 8)))) _) (results_cell_row Tryz.results107 _ _ g2 155 (av 8 (w32 (adD h (rd (wd (bt p) 64) (spr h ct last) 10) 8))) (0, 0) _ (by kernel_rfl) (M.get 1 rfl) Tryz.underlying155 rfl (by rw [av_size]; exact inz155)) (by rw [adD_av]; rfl)) (by kernel_rfl) ⟨rfl, below_grown M.old⟩
open Go.RowKit
theorem hd0_eq (z kl : Nat) : upd HB 0 (vx (vx (vx (HB 0) 16842752) (vl (cv .u32 (kl : Int)) 8)) (cv .u32 (z : Int))) = (hs0 z kl).ws := by
 unfold hs0
 simp only [vx_assoc]
theorem bs_zero (n : Nat) : bs (List.replicate n 0) = zs n := by
 unfold bs zs
 rw [List.map_replicate]
 rfl
def pcs (A : Yb) (x : NI) : Nat → (Nat → Int)
 | 0 => x
 | j + 1 => mixW (pcs A x j) (wd (bt (A.extract (64 * j) (64 * j + 64))) 64) (cv .u64 ((64 * j + 64 : Nat) : Int)) false
def nbl (A : Yb) : Nat := (A.size - 1) / 64
def rst (A : Yb) : ByteArray := A.extract (64 * nbl A) A.size
def dfin (A : Yb) (x : NI) : Nat → Int := mixW (pcs A x (nbl A)) (wd (bt (rst A ++ zs (64 - (rst A).size))) 64) (cv .u64 (A.size : Int)) true
def outL (h : NI) : Nat → List Int
 | 0 => []
 | j + 1 => outL h j ++ [cv .u8 (sr (h (j / 4)) (8 * (j % 4)))]
theorem outL_length (h : NI) : ∀ j, (outL h j).length = j
 | 0 => rfl
 | j + 1 => by
  unfold outL
  rw [List.length_append, outL_length h j]
  rfl
theorem outL_nn (h : NI) : ∀ j, ∀ x ∈ outL h j, 0 ≤ x ∧ x < 256
 | 0, x, hx => by simp [outL] at hx
 | j + 1, x, hx => by
  unfold outL at hx
  rcases List.mem_append.1 hx with hx | hx
  ·exact outL_nn h j x hx
  ·rw [List.mem_singleton.1 hx]
   exact cv8_nn _
def docV (z : Nat) (A : Yb) (x : NI) : ByteArray := bs (outL (dfin A x) z)
theorem vs8_app (l : List Int) (x : Int) : vs8 l ++ [.int .u8 x] = vs8 (l ++ [x]) := by simp [vs8]
theorem d_sum0 (z : Nat) (h1 : 1 ≤ z) (h2 : z ≤ 32) (key s : Yb) (hs : s.size < 100000) (hz : key.size = 0) (w : World) (hL : Laid w)  : Cs 76 #[.int .i64 (z : Int), .string key, .string s] w (.string (docV z s (hs0 z key.size).ws)) := by
 go_enter Tryz.func76, Tryz.ntmps76
 have M := Mem.start hL
 refine sq <| sR <| ZC M 13 (fun w M => d_begin w M.laid) fun u1 M => pN M 7 (.cells (av 8 (w32 (fun _ => 0))) 155) fun g1 u2 M => ZG M 0 8 (w32 HB) fun u3 M => nT <| sR <| rV 1 <| ZE M 15 0 0 <| rV 10 <| ZP32 M 0 0 (vx (vx (vx (HB 0) 16842752) (vl (cv .u32 (key.size : Int)) 8)) (cv .u32 (z : Int))) fun u4 M => pl_nil ?_
 rw [hd0_eq] at M
 refine au_then <| sq <| wp_seq <| sR <| rV 1 <| zJ 28 (.bool false) (.bool (!(key.toList == (⟨#[]⟩ : Yb).toList))) (by rw [key_e key hz, beq_self_eq_true]; rfl) <| nT <| cF <| wp_skip <| au_then <| sq <| wp_seq <| wp_block ?_
 obtain ⟨NB, hNB⟩ : ∃ NB, NB = nbl s := ⟨_, rfl⟩
 have hNB2 : NB = (s.size - 1) / 64 := hNB
 refine au_loop (fun j a w' => ∃ v1 : NV, a = (fm ([.int .i64 (z : Int), .string key, .string s] ++ und 3 ++ [.string ⟨#[]⟩, pJ g1, .string s, .int .i64 ((64 * j : Nat) : Int)] ++ und 3 ++ [.agg (av 8 (w32 HB)), pJ g1, .int .u32 (HB 0), .int .u32 (vx (HB 0) 16842752), .string key, .int .i64 (key.size : Int), .int .u32 (cv .u32 (key.size : Int)), .int .u32 (vl (cv .u32 (key.size : Int)) 8), .int .u32 (vx (vx (HB 0) 16842752) (vl (cv .u32 (key.size : Int)) 8)), .int .i64 (z : Int), .int .u32 (cv .u32 (z : Int)), .int .u32 (vx (vx (vx (HB 0) 16842752) (vl (cv .u32 (key.size : Int)) 8)) (cv .u32 (z : Int))), pJ g1, .string s, .string key, .bool false] ++ und 9 ++ vr v1 38 17 ++ und 35)) ∧ Mem ⟨w, []⟩ [⟨g1, .cells (av 8 (w32 (pcs s (hs0 z key.size).ws j))) 155⟩] w') NB (exS M) ?_ ?_
 ·intro j a u0 hj hI
  obtain ⟨v1, rfl, M⟩ := hI
  refine wp_seq <| sR <| rV 3 <| ZI 41 ((s.size : Int) - ((64 * j : Nat) : Int)) ((s.size - 64 * j : Nat) : Int) <| ZT 42 ((64 : Int) < ((s.size - 64 * j : Nat) : Int)) <| nT <| cT <| wp_skip <| au_then <| wp_block <| wp_seq <| rg_tail M 10 (by kernel_rfl) (by kernel_rfl) ?_
  simp only [List.take_succ_cons, List.take_zero]
  refine kA M 43 0 8 (w32 (pcs s (hs0 z key.size).ws j)) <| kR 3 <| eI 47 (((64 * j : Nat) : Int) + 64) ((64 * j + 64 : Nat) : Int) <| kH 48 (.string (s.extract (64 * j) (64 * j + 64))) (run_strlh 9 Tryz.underlying9 _ _ _ rfl s (by kernel_rfl) .i64 .i64 (64 * j) (64 * j + 64) (by kernel_rfl) (by kernel_rfl) (by omega) (by omega)) <| kR 1 <| eI 50 (((64 * j : Nat) : Int) + 64) ((64 * j + 64 : Nat) : Int) <| kR 1 <| kC M 52 107 #[.agg (av 8 (w32 (pcs s (hs0 z key.size).ws j))), .string (s.extract (64 * j) (64 * j + 64)), .int .u64 (cv .u64 ((64 * j + 64 : Nat) : Int)), .bool false] (.agg (av 8 (w32 (pcs s (hs0 z key.size).ws (j + 1))))) (fun w M => d_piece (pcs s (hs0 z key.size).ws j) _ (by rw [ByteArray.size_extract]; omega) _ _ w M.laid) <| kl_nil fun u5 M => ZG M 0 8 (w32 (pcs s (hs0 z key.size).ws (j + 1))) fun u6 M => nT <| rg_lit <| rV 1 <| ZI 54 (((64 * j : Nat) : Int) + 64) ((64 * (j + 1) : Nat) : Int) <| rV 1 <| pl_nil ?_
  refine au_block <| au_then ?_
  exact exS M
 ·intro a u0 hI
  obtain ⟨v1, rfl, M⟩ := hI
  have hr1 : s.extract (64 * NB) s.size = rst s := by unfold rst; rw [hNB]
  have hr2 : (rst s).size = s.size - 64 * NB := by rw [← hr1, size_extract]
  have hdf : mixW (pcs s (hs0 z key.size).ws NB) (wd (bt (rst s ++ zs (64 - (rst s).size))) 64) (cv .u64 (s.size : Int)) true = dfin s (hs0 z key.size).ws := by unfold dfin; rw [hNB]
  refine wp_seq <| sR <| rV 3 <| ZI 41 ((s.size : Int) - ((64 * NB : Nat) : Int)) ((s.size - 64 * NB : Nat) : Int) <| ZF 42 ((64 : Int) < ((s.size - 64 * NB : Nat) : Int)) <| nT <| cF <| wp_exit <| au_then_exit <| au_then_exit <| au_block_exit <| au_then <| sR <| rV 2 <| pH 57 (.string (rst s)) (run_strl 9 Tryz.underlying9 _ _ rfl s (by kernel_rfl) .i64 (64 * NB) (by kernel_rfl) (by omega) _ hr1) <| rV 1 ?_
  refine nT <| wp_seq <| rgh M [⟨g1, .cells (av 8 (w32 (pcs s (hs0 z key.size).ws NB))) 155⟩] 12 fun u7 M => hl_load M 0 rfl (by decide) (by kernel_rfl) (by kernel_rfl) (want_no rfl) (some 58) rfl 155 _ rfl 0 g1 0 (by kernel_rfl) 8 155 (w32 (pcs s (hs0 z key.size).ws NB)) rfl 8 (w32 (pcs s (hs0 z key.size).ws NB)) (fun j _ => by rw [Nat.zero_add]) (by decide) _ Tryz.underlying155 rfl inz155 <| qV M 1 59 (.string (rst s)) <| qV M 2 60 (.string (rst s)) <| qV M 3 61 (.int .i64 ((rst s).size : Int)) ?_
  refine qH M 4 62 (.int .i64 ((64 - (rst s).size : Nat) : Int)) (fun w _ => (fun w => Eq.trans (b := .ok (.value (.int .i64 (IntKind.wrap .i64 (64 - ((rst s).size : Int))))) w) (by kernel_rfl) (by rw [wrap64 (by omega) (by omega)]; congr 3 <;> omega)) w) ?_
  refine qV M 8 66 (.string s) <| qV M 9 67 (.int .i64 (s.size : Int)) <| qV M 10 68 (.int .u64 (cv .u64 (s.size : Int))) <| qO 5 ?_
  refine pl_makeZ M (want_no rfl) (some 63) rfl 61 5 _ Tryz.underlying61 info5_eq info5_z (by kernel_rfl) (by decide +kernel) _ _ rfl .i64 .i64 (64 - (rst s).size) (by kernel_rfl) (by kernel_rfl) (by omega) ?_
  intro g2 Zg2 u8 hZg2 M
  refine nT ?_
  refine ⟨(M.drop (.cons_cons _ (.cons _ (.slnil)))), ?_⟩
  refine qO 6 ?_
  refine pl_back M (want_no rfl) (some 64) rfl _ rfl 1 g2 (64 - (rst s).size) (64 - (rst s).size) (by kernel_rfl) Zg2 rfl (List.replicate (64 - (rst s).size) 0) (64 - (rst s).size) hZg2 (List.length_replicate ..) (fun x hx => by rw [(List.mem_replicate.1 hx).2]; decide) ?_
  rw [bs_zero]
  refine nT ?_
  refine ⟨(M.drop (.cons_cons _ (.cons _ (.slnil)))), ?_⟩
  refine qH (M.drop (.cons_cons _ (.cons _ (.slnil)))) 7 65 (.string (rst s ++ zs (64 - (rst s).size))) (fun w _ => (run_cat 9 9 _ _ rfl (rst s) (zs (64 - (rst s).size)) (by kernel_rfl) (by kernel_rfl) (by rw [zs_size]; omega)) w) <| qO 11 ?_
  refine pC M 69 107 #[.agg (av 8 (w32 (pcs s (hs0 z key.size).ws NB))), .string (rst s ++ zs (64 - (rst s).size)), .int .u64 (cv .u64 (s.size : Int)), .bool true] (.agg (av 8 (w32 (dfin s (hs0 z key.size).ws)))) (fun w M => (by rw [← hdf]; exact d_piece (pcs s (hs0 z key.size).ws NB) _ (by rw [ByteArray.size_append, zs_size]; omega) _ _ w M.laid)) fun u9 M => ?_
  refine nT ?_
  refine ⟨(M.drop (.cons_cons _ (.cons _ (.slnil)))), ?_⟩
  refine qZ ?_
  refine ZG M 0 8 (w32 (dfin s (hs0 z key.size).ws)) fun u10 M => nT <| au_then <| sq <| wp_seq <| sq <| wp_block ?_
  replace M := M.drop (L' := [⟨g1, .cells (av 8 (w32 (dfin s (hs0 z key.size).ws))) 155⟩]) (.cons_cons _ (.cons _ (.slnil)))
  refine au_loop (fun j a w' => ∃ (v9 : NV) (sl : Value), a = (fm ([.int .i64 (z : Int), .string key, .string s] ++ und 3 ++ [.string ⟨#[]⟩, pJ g1, .string s, .int .i64 ((64 * NB : Nat) : Int), .string (rst s), sl, .int .i64 (j : Int), .agg (av 8 (w32 HB)), pJ g1, .int .u32 (HB 0), .int .u32 (vx (HB 0) 16842752), .string key, .int .i64 (key.size : Int), .int .u32 (cv .u32 (key.size : Int)), .int .u32 (vl (cv .u32 (key.size : Int)) 8), .int .u32 (vx (vx (HB 0) 16842752) (vl (cv .u32 (key.size : Int)) 8)), .int .i64 (z : Int), .int .u32 (cv .u32 (z : Int)), .int .u32 (vx (vx (vx (HB 0) 16842752) (vl (cv .u32 (key.size : Int)) 8)) (cv .u32 (z : Int))), pJ g1, .string s, .string key, .bool false] ++ und 9 ++ [.string s, .int .i64 (s.size : Int), .int .i64 ((64 * NB : Nat) : Int), .int .i64 ((s.size - 64 * NB : Nat) : Int), .bool false] ++ vr v1 43 12 ++ [.string s, .int .i64 ((64 * NB : Nat) : Int), .string (rst s), .agg (av 8 (w32 (pcs s (hs0 z key.size).ws NB))), .string (rst s), .string (rst s), .int .i64 ((rst s).size : Int), .int .i64 ((64 - (rst s).size : Nat) : Int), .slice (some ⟨g2, 0, none⟩) (64 - (rst s).size) (64 - (rst s).size), .string (zs (64 - (rst s).size)), .string (rst s ++ zs (64 - (rst s).size)), .string s, .int .i64 (s.size : Int), .int .u64 (cv .u64 (s.size : Int)), .agg (av 8 (w32 (dfin s (hs0 z key.size).ws)))] ++ vr v9 70 18 ++ [undef, undef])) ∧ ((j = 0 ∧ sl = .slice none 0 0 ∧ Mem ⟨w, []⟩ [⟨g1, .cells (av 8 (w32 (dfin s (hs0 z key.size).ws))) 155⟩] w') ∨ (∃ (gq capq : Nat) (Zq : Obj), sl = .slice (some ⟨gq, 0, none⟩) j capq ∧ SB Zq capq (vs8 (outL (dfin s (hs0 z key.size).ws) j)) ∧ Mem ⟨w, []⟩ [⟨g1, .cells (av 8 (w32 (dfin s (hs0 z key.size).ws))) 155⟩, ⟨gq, Zq⟩] w'))) z (exS2 (.slice none 0 0) (.inl ⟨rfl, rfl, M⟩)) ?_ ?_
  ·intro j a u0 hj hI
   obtain ⟨v9, sl, rfl, hI⟩ := hI
   rcases hI with ⟨rfl, rfl, M⟩ | ⟨gq, capq, Zq, rfl, hZq, M⟩
   ·refine wp_seq <| sR <| rV 2 <| ZT 72 ((0 : Int) < (z : Int)) <| nT <| cT <| wp_skip <| au_then <| wp_seq <| wp_block <| rg_lit <| rV 4 <| ZE M 79 0 0 <| rV 6 <| ZM M 86 (fun g3 => .slice (some ⟨g3, 0, none⟩) 1 1) (.cells (av 1 (fun _ => .int .u8 (cv .u8 (sr ((dfin s (hs0 z key.size).ws) 0) 0)))) 5) fun g3 u11 M => pl_app0 M (want_no rfl) (some 87) rfl 61 61 5 _ (.int .u8 0) Tryz.underlying61 info5_eq info5_z (by kernel_rfl) (by decide +kernel) rfl 1 g3 5 (.int .u8 (cv .u8 (sr ((dfin s (hs0 z key.size).ws) 0) 0))) rfl (fun _ => by kernel_rfl) ?_
    intro e1 c1 Y1 u12 hY1 M
    refine rV 1 <| pl_nil <| au_block <| au_then <| rg_lit <| rV 3 <| nT ?_
    exact exS2 _ (.inr ⟨e1, c1, Y1, rfl, hY1, M.drop (.cons_cons _ (.cons _ (.cons_cons _ (.slnil))))⟩)
   ·refine wp_seq <| sR <| rV 2 <| ZT 72 ((j : Int) < (z : Int)) <| nT <| cT <| wp_skip <| au_then <| wp_seq <| wp_block <| rg_lit <| rV 2 <| ZQ 77 .i64 (IntKind.wrap .i64 ((j : Int).tdiv 4)) (quo4 j (by omega)) <| ZX 78 .i64 g1 ((j / 4 : Nat)) 8 <| ZE M 79 0 ((j / 4 : Nat)) <| rV 1 ?_
    refine ZQ 81 .i64 (Int.tmod (j : Int) 4) (rem4 j) <| ZI 82 (8 * ((j % 4 : Nat) : Int)) ((8 * (j % 4) : Nat) : Int) <| ZQ 83 .u64 (cv .u64 ((8 * (j % 4) : Nat) : Int)) (cv_u64 _ (by omega)) <| pH 84 (.int .u32 (sr ((dfin s (hs0 z key.size).ws) (j / 4)) (8 * (j % 4)))) (run_shrV 91 92 _ _ rfl _ .u64 (8 * (j % 4)) (by kernel_rfl) (by kernel_rfl) (by omega)) <| rV 1 <| ZM M 86 (fun g4 => .slice (some ⟨g4, 0, none⟩) 1 1) (.cells (av 1 (fun _ => .int .u8 (cv .u8 (sr ((dfin s (hs0 z key.size).ws) (j / 4)) (8 * (j % 4)))))) 5) fun g4 u13 M => pl_app M (want_no rfl) (some 87) rfl 61 61 5 _ (.int .u8 0) Tryz.underlying61 info5_eq info5_z (by kernel_rfl) (by decide +kernel) rfl 1 gq (j) capq Zq (vs8 (outL (dfin s (hs0 z key.size).ws) j)) rfl hZq (by rw [vs8_length, outL_length]) (by omega) 2 g4 5 (.int .u8 (cv .u8 (sr ((dfin s (hs0 z key.size).ws) (j / 4)) (8 * (j % 4))))) rfl rfl (fun _ => by kernel_rfl) ?_
    intro e2 c2 Y2 u14 hY2 M
    rw [vs8_app] at hY2
    refine rV 1 <| pl_nil <| au_block <| au_then <| rg_lit <| rV 1 <| ZI 74 ((j : Int) + 1) ((j + 1 : Nat) : Int) <| rV 1 <| nT ?_
    exact exS2 _ (.inr ⟨e2, c2, Y2, rfl, hY2, M.drop (.cons_cons _ (.cons _ (.cons_cons _ (.slnil))))⟩)
  ·intro a u0 hI
   obtain ⟨v9, sl, rfl, hI⟩ := hI
   rcases hI with ⟨h, _⟩ | ⟨gq, capq, Zq, rfl, hZq, M⟩
   ·omega
   ·refine wp_seq <| sR <| rV 2 <| ZF 72 ((z : Int) < (z : Int)) <| nT <| cF <| wp_exit <| au_then_exit <| au_then_exit <| au_block_exit <| au_then <| sR <| rV 1 <| pl_back M (want_no rfl) (some 89) rfl _ rfl 1 gq z capq (by kernel_rfl) Zq rfl (outL (dfin s (hs0 z key.size).ws) z) capq hZq (outL_length _ _) (outL_nn _ _) <| rV 1 <| nT ?_
    refine wp_ret ?_
    exact b1 M
theorem d_sum1 (z : Nat) (h1 : 1 ≤ z) (h2 : z ≤ 32) (key s : Yb) (hs : s.size < 100000) (hz : ¬ key.size = 0) (h3 : key.size ≤ 32) (A : Yb) (hA : key ++ zs (64 - key.size) ++ s = A) (w : World) (hL : Laid w)  : Cs 76 #[.int .i64 (z : Int), .string key, .string s] w (.string (docV z A (hs0 z key.size).ws)) := by
 go_enter Tryz.func76, Tryz.ntmps76
 have M := Mem.start hL
 have hAs : A.size = 64 + s.size := by rw [← hA, ByteArray.size_append, ByteArray.size_append, zs_size]; omega
 refine sq <| sR <| ZC M 13 (fun w M => d_begin w M.laid) fun u1 M => pN M 7 (.cells (av 8 (w32 (fun _ => 0))) 155) fun g1 u2 M => ZG M 0 8 (w32 HB) fun u3 M => nT <| sR <| rV 1 <| ZE M 15 0 0 <| rV 10 <| ZP32 M 0 0 (vx (vx (vx (HB 0) 16842752) (vl (cv .u32 (key.size : Int)) 8)) (cv .u32 (z : Int))) fun u4 M => pl_nil ?_
 rw [hd0_eq] at M
 refine au_then <| sq <| wp_seq <| sR <| rV 1 <| zJ 28 (.bool true) (.bool (!(key.toList == (⟨#[]⟩ : Yb).toList))) (by rw [key_ne key hz]; rfl) <| nT <| cT <| rg_lit <| rV 3 <| ZI 32 (64 - (key.size : Int)) ((64 - key.size : Nat) : Int) <| pl_makeZ M (want_no rfl) (some 33) rfl 61 5 _ Tryz.underlying61 info5_eq info5_z (by kernel_rfl) (by decide +kernel) _ _ rfl .i64 .i64 (64 - key.size) (by kernel_rfl) (by kernel_rfl) (by omega) ?_
 intro g2 Zg2 u5 hZg2 M
 refine pl_back M (want_no rfl) (some 34) rfl _ rfl 1 g2 (64 - key.size) (64 - key.size) (by kernel_rfl) Zg2 rfl (List.replicate (64 - key.size) 0) (64 - key.size) hZg2 (List.length_replicate ..) (fun x hx => by rw [(List.mem_replicate.1 hx).2]; decide) ?_
 rw [bs_zero]
 refine pH 35 (.string (key ++ zs (64 - key.size))) (run_cat 9 9 _ _ rfl key (zs (64 - key.size)) (by kernel_rfl) (by kernel_rfl) (by rw [zs_size]; omega)) <| rV 1 <| pH 37 (.string A) (fun w => Eq.trans (run_cat 9 9 _ _ rfl (key ++ zs (64 - key.size)) s (by kernel_rfl) (by kernel_rfl) (by rw [ByteArray.size_append, zs_size]; omega) w) (by rw [hA])) <| rV 1 <| nT <| sq <| wp_seq <| wp_block ?_
 obtain ⟨NB, hNB⟩ : ∃ NB, NB = nbl A := ⟨_, rfl⟩
 have hNB2 : NB = (A.size - 1) / 64 := hNB
 refine au_loop (fun j a w' => ∃ v1 : NV, a = (fm ([.int .i64 (z : Int), .string key, .string s] ++ und 3 ++ [.string ⟨#[]⟩, pJ g1, .string A, .int .i64 ((64 * j : Nat) : Int)] ++ und 3 ++ [.agg (av 8 (w32 HB)), pJ g1, .int .u32 (HB 0), .int .u32 (vx (HB 0) 16842752), .string key, .int .i64 (key.size : Int), .int .u32 (cv .u32 (key.size : Int)), .int .u32 (vl (cv .u32 (key.size : Int)) 8), .int .u32 (vx (vx (HB 0) 16842752) (vl (cv .u32 (key.size : Int)) 8)), .int .i64 (z : Int), .int .u32 (cv .u32 (z : Int)), .int .u32 (vx (vx (vx (HB 0) 16842752) (vl (cv .u32 (key.size : Int)) 8)) (cv .u32 (z : Int))), pJ g1, .string s, .string key, .bool true, .string key, .string key, .int .i64 (key.size : Int), .int .i64 ((64 - key.size : Nat) : Int), .slice (some ⟨g2, 0, none⟩) (64 - key.size) (64 - key.size), .string (zs (64 - key.size)), .string (key ++ zs (64 - key.size)), .string s, .string A] ++ vr v1 38 17 ++ und 35)) ∧ Mem ⟨w, []⟩ [⟨g1, .cells (av 8 (w32 (pcs A (hs0 z key.size).ws j))) 155⟩, ⟨g2, Zg2⟩] w') NB (exS M) ?_ ?_
 ·intro j a u0 hj hI
  obtain ⟨v1, rfl, M⟩ := hI
  refine wp_seq <| sR <| rV 3 <| ZI 41 ((A.size : Int) - ((64 * j : Nat) : Int)) ((A.size - 64 * j : Nat) : Int) <| ZT 42 ((64 : Int) < ((A.size - 64 * j : Nat) : Int)) <| nT <| cT <| wp_skip <| au_then <| wp_block <| wp_seq <| rg_tail M 10 (by kernel_rfl) (by kernel_rfl) ?_
  simp only [List.take_succ_cons, List.take_zero]
  refine kA M 43 0 8 (w32 (pcs A (hs0 z key.size).ws j)) <| kR 3 <| eI 47 (((64 * j : Nat) : Int) + 64) ((64 * j + 64 : Nat) : Int) <| kH 48 (.string (A.extract (64 * j) (64 * j + 64))) (run_strlh 9 Tryz.underlying9 _ _ _ rfl A (by kernel_rfl) .i64 .i64 (64 * j) (64 * j + 64) (by kernel_rfl) (by kernel_rfl) (by omega) (by omega)) <| kR 1 <| eI 50 (((64 * j : Nat) : Int) + 64) ((64 * j + 64 : Nat) : Int) <| kR 1 <| kC M 52 107 #[.agg (av 8 (w32 (pcs A (hs0 z key.size).ws j))), .string (A.extract (64 * j) (64 * j + 64)), .int .u64 (cv .u64 ((64 * j + 64 : Nat) : Int)), .bool false] (.agg (av 8 (w32 (pcs A (hs0 z key.size).ws (j + 1))))) (fun w M => d_piece (pcs A (hs0 z key.size).ws j) _ (by rw [ByteArray.size_extract]; omega) _ _ w M.laid) <| kl_nil fun u6 M => ZG M 0 8 (w32 (pcs A (hs0 z key.size).ws (j + 1))) fun u7 M => nT <| rg_lit <| rV 1 <| ZI 54 (((64 * j : Nat) : Int) + 64) ((64 * (j + 1) : Nat) : Int) <| rV 1 <| pl_nil ?_
  refine au_block <| au_then ?_
  exact exS M
 ·intro a u0 hI
  obtain ⟨v1, rfl, M⟩ := hI
  have hr1 : A.extract (64 * NB) A.size = rst A := by unfold rst; rw [hNB]
  have hr2 : (rst A).size = A.size - 64 * NB := by rw [← hr1, size_extract]
  have hdf : mixW (pcs A (hs0 z key.size).ws NB) (wd (bt (rst A ++ zs (64 - (rst A).size))) 64) (cv .u64 (A.size : Int)) true = dfin A (hs0 z key.size).ws := by unfold dfin; rw [hNB]
  refine wp_seq <| sR <| rV 3 <| ZI 41 ((A.size : Int) - ((64 * NB : Nat) : Int)) ((A.size - 64 * NB : Nat) : Int) <| ZF 42 ((64 : Int) < ((A.size - 64 * NB : Nat) : Int)) <| nT <| cF <| wp_exit <| au_then_exit <| au_then_exit <| au_block_exit <| au_then <| sR <| rV 2 <| pH 57 (.string (rst A)) (run_strl 9 Tryz.underlying9 _ _ rfl A (by kernel_rfl) .i64 (64 * NB) (by kernel_rfl) (by omega) _ hr1) <| rV 1 ?_
  refine nT <| wp_seq <| rgh M [⟨g1, .cells (av 8 (w32 (pcs A (hs0 z key.size).ws NB))) 155⟩, ⟨g2, Zg2⟩] 12 fun u8 M => hl_load M 0 rfl (by decide) (by kernel_rfl) (by kernel_rfl) (want_no rfl) (some 58) rfl 155 _ rfl 0 g1 0 (by kernel_rfl) 8 155 (w32 (pcs A (hs0 z key.size).ws NB)) rfl 8 (w32 (pcs A (hs0 z key.size).ws NB)) (fun j _ => by rw [Nat.zero_add]) (by decide) _ Tryz.underlying155 rfl inz155 <| qV M 1 59 (.string (rst A)) <| qV M 2 60 (.string (rst A)) <| qV M 3 61 (.int .i64 ((rst A).size : Int)) ?_
  refine qH M 4 62 (.int .i64 ((64 - (rst A).size : Nat) : Int)) (fun w _ => (fun w => Eq.trans (b := .ok (.value (.int .i64 (IntKind.wrap .i64 (64 - ((rst A).size : Int))))) w) (by kernel_rfl) (by rw [wrap64 (by omega) (by omega)]; congr 3 <;> omega)) w) ?_
  refine qV M 8 66 (.string A) <| qV M 9 67 (.int .i64 (A.size : Int)) <| qV M 10 68 (.int .u64 (cv .u64 (A.size : Int))) <| qO 5 ?_
  refine pl_makeZ M (want_no rfl) (some 63) rfl 61 5 _ Tryz.underlying61 info5_eq info5_z (by kernel_rfl) (by decide +kernel) _ _ rfl .i64 .i64 (64 - (rst A).size) (by kernel_rfl) (by kernel_rfl) (by omega) ?_
  intro g3 Zg3 u9 hZg3 M
  refine nT ?_
  refine ⟨(M.drop (.cons_cons _ (.cons_cons _ (.cons _ (.slnil))))), ?_⟩
  refine qO 6 ?_
  refine pl_back M (want_no rfl) (some 64) rfl _ rfl 2 g3 (64 - (rst A).size) (64 - (rst A).size) (by kernel_rfl) Zg3 rfl (List.replicate (64 - (rst A).size) 0) (64 - (rst A).size) hZg3 (List.length_replicate ..) (fun x hx => by rw [(List.mem_replicate.1 hx).2]; decide) ?_
  rw [bs_zero]
  refine nT ?_
  refine ⟨(M.drop (.cons_cons _ (.cons_cons _ (.cons _ (.slnil))))), ?_⟩
  refine qH (M.drop (.cons_cons _ (.cons_cons _ (.cons _ (.slnil))))) 7 65 (.string (rst A ++ zs (64 - (rst A).size))) (fun w _ => (run_cat 9 9 _ _ rfl (rst A) (zs (64 - (rst A).size)) (by kernel_rfl) (by kernel_rfl) (by rw [zs_size]; omega)) w) <| qO 11 ?_
  refine pC M 69 107 #[.agg (av 8 (w32 (pcs A (hs0 z key.size).ws NB))), .string (rst A ++ zs (64 - (rst A).size)), .int .u64 (cv .u64 (A.size : Int)), .bool true] (.agg (av 8 (w32 (dfin A (hs0 z key.size).ws)))) (fun w M => (by rw [← hdf]; exact d_piece (pcs A (hs0 z key.size).ws NB) _ (by rw [ByteArray.size_append, zs_size]; omega) _ _ w M.laid)) fun u10 M => ?_
  refine nT ?_
  refine ⟨(M.drop (.cons_cons _ (.cons_cons _ (.cons _ (.slnil))))), ?_⟩
  refine qZ ?_
  refine ZG M 0 8 (w32 (dfin A (hs0 z key.size).ws)) fun u11 M => nT <| au_then <| sq <| wp_seq <| sq <| wp_block ?_
  replace M := M.drop (L' := [⟨g1, .cells (av 8 (w32 (dfin A (hs0 z key.size).ws))) 155⟩]) (.cons_cons _ (.cons _ (.cons _ (.slnil))))
  refine au_loop (fun j a w' => ∃ (v9 : NV) (sl : Value), a = (fm ([.int .i64 (z : Int), .string key, .string s] ++ und 3 ++ [.string ⟨#[]⟩, pJ g1, .string A, .int .i64 ((64 * NB : Nat) : Int), .string (rst A), sl, .int .i64 (j : Int), .agg (av 8 (w32 HB)), pJ g1, .int .u32 (HB 0), .int .u32 (vx (HB 0) 16842752), .string key, .int .i64 (key.size : Int), .int .u32 (cv .u32 (key.size : Int)), .int .u32 (vl (cv .u32 (key.size : Int)) 8), .int .u32 (vx (vx (HB 0) 16842752) (vl (cv .u32 (key.size : Int)) 8)), .int .i64 (z : Int), .int .u32 (cv .u32 (z : Int)), .int .u32 (vx (vx (vx (HB 0) 16842752) (vl (cv .u32 (key.size : Int)) 8)) (cv .u32 (z : Int))), pJ g1, .string s, .string key, .bool true, .string key, .string key, .int .i64 (key.size : Int), .int .i64 ((64 - key.size : Nat) : Int), .slice (some ⟨g2, 0, none⟩) (64 - key.size) (64 - key.size), .string (zs (64 - key.size)), .string (key ++ zs (64 - key.size)), .string s, .string A, .string A, .int .i64 (A.size : Int), .int .i64 ((64 * NB : Nat) : Int), .int .i64 ((A.size - 64 * NB : Nat) : Int), .bool false] ++ vr v1 43 12 ++ [.string A, .int .i64 ((64 * NB : Nat) : Int), .string (rst A), .agg (av 8 (w32 (pcs A (hs0 z key.size).ws NB))), .string (rst A), .string (rst A), .int .i64 ((rst A).size : Int), .int .i64 ((64 - (rst A).size : Nat) : Int), .slice (some ⟨g3, 0, none⟩) (64 - (rst A).size) (64 - (rst A).size), .string (zs (64 - (rst A).size)), .string (rst A ++ zs (64 - (rst A).size)), .string A, .int .i64 (A.size : Int), .int .u64 (cv .u64 (A.size : Int)), .agg (av 8 (w32 (dfin A (hs0 z key.size).ws)))] ++ vr v9 70 18 ++ [undef, undef])) ∧ ((j = 0 ∧ sl = .slice none 0 0 ∧ Mem ⟨w, []⟩ [⟨g1, .cells (av 8 (w32 (dfin A (hs0 z key.size).ws))) 155⟩] w') ∨ (∃ (gq capq : Nat) (Zq : Obj), sl = .slice (some ⟨gq, 0, none⟩) j capq ∧ SB Zq capq (vs8 (outL (dfin A (hs0 z key.size).ws) j)) ∧ Mem ⟨w, []⟩ [⟨g1, .cells (av 8 (w32 (dfin A (hs0 z key.size).ws))) 155⟩, ⟨gq, Zq⟩] w'))) z (exS2 (.slice none 0 0) (.inl ⟨rfl, rfl, M⟩)) ?_ ?_
  ·intro j a u0 hj hI
   obtain ⟨v9, sl, rfl, hI⟩ := hI
   rcases hI with ⟨rfl, rfl, M⟩ | ⟨gq, capq, Zq, rfl, hZq, M⟩
   ·refine wp_seq <| sR <| rV 2 <| ZT 72 ((0 : Int) < (z : Int)) <| nT <| cT <| wp_skip <| au_then <| wp_seq <| wp_block <| rg_lit <| rV 4 <| ZE M 79 0 0 <| rV 6 <| ZM M 86 (fun g4 => .slice (some ⟨g4, 0, none⟩) 1 1) (.cells (av 1 (fun _ => .int .u8 (cv .u8 (sr ((dfin A (hs0 z key.size).ws) 0) 0)))) 5) fun g4 u12 M => pl_app0 M (want_no rfl) (some 87) rfl 61 61 5 _ (.int .u8 0) Tryz.underlying61 info5_eq info5_z (by kernel_rfl) (by decide +kernel) rfl 1 g4 5 (.int .u8 (cv .u8 (sr ((dfin A (hs0 z key.size).ws) 0) 0))) rfl (fun _ => by kernel_rfl) ?_
    intro e1 c1 Y1 u13 hY1 M
    refine rV 1 <| pl_nil <| au_block <| au_then <| rg_lit <| rV 3 <| nT ?_
    exact exS2 _ (.inr ⟨e1, c1, Y1, rfl, hY1, M.drop (.cons_cons _ (.cons _ (.cons_cons _ (.slnil))))⟩)
   ·refine wp_seq <| sR <| rV 2 <| ZT 72 ((j : Int) < (z : Int)) <| nT <| cT <| wp_skip <| au_then <| wp_seq <| wp_block <| rg_lit <| rV 2 <| ZQ 77 .i64 (IntKind.wrap .i64 ((j : Int).tdiv 4)) (quo4 j (by omega)) <| ZX 78 .i64 g1 ((j / 4 : Nat)) 8 <| ZE M 79 0 ((j / 4 : Nat)) <| rV 1 ?_
    refine ZQ 81 .i64 (Int.tmod (j : Int) 4) (rem4 j) <| ZI 82 (8 * ((j % 4 : Nat) : Int)) ((8 * (j % 4) : Nat) : Int) <| ZQ 83 .u64 (cv .u64 ((8 * (j % 4) : Nat) : Int)) (cv_u64 _ (by omega)) <| pH 84 (.int .u32 (sr ((dfin A (hs0 z key.size).ws) (j / 4)) (8 * (j % 4)))) (run_shrV 91 92 _ _ rfl _ .u64 (8 * (j % 4)) (by kernel_rfl) (by kernel_rfl) (by omega)) <| rV 1 <| ZM M 86 (fun g5 => .slice (some ⟨g5, 0, none⟩) 1 1) (.cells (av 1 (fun _ => .int .u8 (cv .u8 (sr ((dfin A (hs0 z key.size).ws) (j / 4)) (8 * (j % 4)))))) 5) fun g5 u14 M => pl_app M (want_no rfl) (some 87) rfl 61 61 5 _ (.int .u8 0) Tryz.underlying61 info5_eq info5_z (by kernel_rfl) (by decide +kernel) rfl 1 gq (j) capq Zq (vs8 (outL (dfin A (hs0 z key.size).ws) j)) rfl hZq (by rw [vs8_length, outL_length]) (by omega) 2 g5 5 (.int .u8 (cv .u8 (sr ((dfin A (hs0 z key.size).ws) (j / 4)) (8 * (j % 4))))) rfl rfl (fun _ => by kernel_rfl) ?_
    intro e2 c2 Y2 u15 hY2 M
    rw [vs8_app] at hY2
    refine rV 1 <| pl_nil <| au_block <| au_then <| rg_lit <| rV 1 <| ZI 74 ((j : Int) + 1) ((j + 1 : Nat) : Int) <| rV 1 <| nT ?_
    exact exS2 _ (.inr ⟨e2, c2, Y2, rfl, hY2, M.drop (.cons_cons _ (.cons _ (.cons_cons _ (.slnil))))⟩)
  ·intro a u0 hI
   obtain ⟨v9, sl, rfl, hI⟩ := hI
   rcases hI with ⟨h, _⟩ | ⟨gq, capq, Zq, rfl, hZq, M⟩
   ·omega
   ·refine wp_seq <| sR <| rV 2 <| ZF 72 ((z : Int) < (z : Int)) <| nT <| cF <| wp_exit <| au_then_exit <| au_then_exit <| au_block_exit <| au_then <| sR <| rV 1 <| pl_back M (want_no rfl) (some 89) rfl _ rfl 1 gq z capq (by kernel_rfl) Zq rfl (outL (dfin A (hs0 z key.size).ws) z) capq hZq (outL_length _ _) (outL_nn _ _) <| rV 1 <| nT ?_
    refine wp_ret ?_
    exact b1 M
def allV (key s : Yb) : ByteArray := if key.size = 0 then s else key ++ zs (64 - key.size) ++ s
def docS (z : Nat) (key s : Yb) : ByteArray := docV z (allV key s) (hs0 z key.size).ws
theorem d_sum (z : Nat) (h1 : 1 ≤ z) (h2 : z ≤ 32) (key s : Yb) (hs : s.size < 100000) (h3 : key.size ≤ 32) (w : World) (hL : Laid w) : Cs 76 #[.int .i64 (z : Int), .string key, .string s] w (.string (docS z key s)) := by
 unfold docS allV
 by_cases hz : key.size = 0
 ·rw [if_pos hz]
  exact d_sum0 z h1 h2 key s hs hz w hL
 ·rw [if_neg hz]
  exact d_sum1 z h1 h2 key s hs hz h3 _ rfl w hL
theorem d_of (s : Yb) (hs : s.size < 100000) (w : World) (hL : Laid w)  : Cs 50 #[.string s] w (.string (docS 32 strE s)) := by
 go_enter Tryz.func50, Tryz.ntmps50
 have M := Mem.start hL
 refine sq <| sR <| rV 1 <| ZC M 4 (fun w M => d_sum 32 (by decide) (by decide) strE s hs (by decide) w M.laid) fun u1 M => rV 1 <| nT <| wp_ret ?_
 exact b1 M
open Go.RowKit
theorem upd_congr {f g : NI} {k : Nat} {a b : Int} {t : Nat} (h : f t = g t) (e : a = b) : upd f k a t = upd g k b t := by
 unfold upd
 rw [h, e]
theorem mxF_congr {v u : NI} (h : ∀ t, t < 16 → v t = u t) (x y : Int) {i j k l : Nat} (hi : i < 16) (hj : j < 16) (hk : k < 16) (hl : l < 16) : ∀ t, t < 16 → mxF v x y i j k l t = mxF u x y i j k l t := by
 intro t ht
 have e1 : mA2 v x y i j k l = mA2 u x y i j k l := by simp only [mA2, mA1, mB1, mC1, mD1, h i hi, h j hj, h k hk, h l hl]
 have e2 : mB2 v x y i j k l = mB2 u x y i j k l := by simp only [mB2, mC2, mD2, mA2, mA1, mB1, mC1, mD1, h i hi, h j hj, h k hk, h l hl]
 have e3 : mC2 v x y i j k l = mC2 u x y i j k l := by simp only [mC2, mD2, mA2, mA1, mB1, mC1, mD1, h i hi, h j hj, h k hk, h l hl]
 have e4 : mD2 v x y i j k l = mD2 u x y i j k l := by simp only [mD2, mA2, mA1, mB1, mC1, mD1, h i hi, h j hj, h k hk, h l hl]
 unfold mxF
 exact upd_congr (upd_congr (upd_congr (upd_congr (h t ht) e1) e2) e3) e4
theorem rn_congr {m m' : NI} (hm : ∀ t, t < 16 → m t = m' t) {v u : NI} (h : ∀ t, t < 16 → v t = u t) (j : Nat) : ∀ t, t < 16 → rn8 m v j t = rn8 m' u j t := by
 have h1 : ∀ t, t < 16 → rn1 m v j t = rn1 m' u j t := by
  unfold rn1
  rw [hm _ (OF_lt _), hm _ (OF_lt _)]
  exact mxF_congr h _ _ (by decide) (by decide) (by decide) (by decide)
 have h2 : ∀ t, t < 16 → rn2 m v j t = rn2 m' u j t := by
  unfold rn2
  rw [hm _ (OF_lt _), hm _ (OF_lt _)]
  exact mxF_congr h1 _ _ (by decide) (by decide) (by decide) (by decide)
 have h3 : ∀ t, t < 16 → rn3 m v j t = rn3 m' u j t := by
  unfold rn3
  rw [hm _ (OF_lt _), hm _ (OF_lt _)]
  exact mxF_congr h2 _ _ (by decide) (by decide) (by decide) (by decide)
 have h4 : ∀ t, t < 16 → rn4 m v j t = rn4 m' u j t := by
  unfold rn4
  rw [hm _ (OF_lt _), hm _ (OF_lt _)]
  exact mxF_congr h3 _ _ (by decide) (by decide) (by decide) (by decide)
 have h5 : ∀ t, t < 16 → rn5 m v j t = rn5 m' u j t := by
  unfold rn5
  rw [hm _ (OF_lt _), hm _ (OF_lt _)]
  exact mxF_congr h4 _ _ (by decide) (by decide) (by decide) (by decide)
 have h6 : ∀ t, t < 16 → rn6 m v j t = rn6 m' u j t := by
  unfold rn6
  rw [hm _ (OF_lt _), hm _ (OF_lt _)]
  exact mxF_congr h5 _ _ (by decide) (by decide) (by decide) (by decide)
 have h7 : ∀ t, t < 16 → rn7 m v j t = rn7 m' u j t := by
  unfold rn7
  rw [hm _ (OF_lt _), hm _ (OF_lt _)]
  exact mxF_congr h6 _ _ (by decide) (by decide) (by decide) (by decide)
 have h8 : ∀ t, t < 16 → rn8 m v j t = rn8 m' u j t := by
  unfold rn8
  rw [hm _ (OF_lt _), hm _ (OF_lt _)]
  exact mxF_congr h7 _ _ (by decide) (by decide) (by decide) (by decide)
 exact h8
theorem rd_congr {m m' : NI} (hm : ∀ t, t < 16 → m t = m' t) {v u : NI} (h : ∀ t, t < 16 → v t = u t) : ∀ j, ∀ t, t < 16 → rd m v j t = rd m' u j t
 | 0 => h
 | j + 1 => rn_congr hm (rd_congr hm h j) j
theorem bs_ext (l : List Int) (n : Nat) : (bs l).extract 0 n = bs (l.take n) := by
 apply ByteArray.ext
 rw [ByteArray.data_extract]
 unfold bs
 apply Array.ext_getElem?
 intro i
 simp only [Array.getElem?_extract, List.getElem?_toArray, List.getElem?_map, List.getElem?_take]
 by_cases h : i < n
 ·simp [h]
  intro h2
  rw [List.getElem?_eq_none (by omega)]
  rfl
 ·simp [h]
  omega
theorem loI_congr {f g : NI} : ∀ n, (∀ i, i < n → f i = g i) → loI f n = loI g n
 | 0, _ => rfl
 | n + 1, h => by
  unfold loI
  rw [loI_congr n fun i hi => h i (by omega), h n (by omega)]
theorem sumV_eq (z : Nat) (H : HS) : sumV z H = bs ((loI (sumW H) 8).take z) := bs_ext _ _
def p4 (f : NI) (t : Nat) : Int := f (4 * t) + 256 * f (4 * t + 1) + 65536 * f (4 * t + 2) + 16777216 * f (4 * t + 3)
def cut (n : Nat) (f : NI) : Nat → Int := fun i => if i < n then f i else 0
theorem vo_sh (x c : Int) (hx0 : 0 ≤ x) (hx : x < 16777216) (hc0 : 0 ≤ c) (hc : c < 256) : vo (vl x 8) (cv .u32 c) = x * 256 + c := by
 rw [cv32 c hc0 hc]
 obtain ⟨a, rfl⟩ : ∃ a : Nat, x = (a : Int) := ⟨x.toNat, by omega⟩
 obtain ⟨b, rfl⟩ : ∃ b : Nat, c = (b : Int) := ⟨c.toNat, by omega⟩
 rw [vl_nat a 8 (by omega), vo_comm, show a * 2 ^ 8 = 2 ^ 8 * a by omega, vo_add 8 b a (by omega) (by omega)]
 omega
theorem wo_p4 (rs : NI) (hr : ∀ i, 0 ≤ rs i ∧ rs i < 256) : ∀ n, n ≤ 64 → ∀ t, wo rs n t = p4 (cut n rs) t
 | 0, _, t => by simp [p4, cut, wo]
 | n + 1, hn, t => by
  have ih := wo_p4 rs hr n (by omega)
  show upd (wo rs n) (n / 4) (vo (wo rs n (n / 4)) (vl (cv .u32 (rs n)) (n % 4 * 8))) t = _
  unfold upd
  by_cases e : t = n / 4
  ·rw [if_pos e, ← e, ih t]
   have c0 := hr (4 * t)
   have c1 := hr (4 * t + 1)
   have c2 := hr (4 * t + 2)
   have c3 := hr (4 * t + 3)
   rcases (show n % 4 = 0 ∨ n % 4 = 1 ∨ n % 4 = 2 ∨ n % 4 = 3 by omega) with h | h | h | h
   ·have hN : n = 4 * t := by omega
    subst hN
    have e1 : p4 (cut (4 * t) rs) t = 0 := by unfold p4 cut; split <;> split <;> split <;> split <;> omega
    have e2 : p4 (cut (4 * t + 1) rs) t = rs (4 * t) := by unfold p4 cut; split <;> split <;> split <;> split <;> omega
    rw [e1, e2, h, vo_vl0 _ _ (by omega) (by omega) c0.1 c0.2]
    omega
   ·have hN : n = 4 * t + 1 := by omega
    subst hN
    have e1 : p4 (cut (4 * t + 1) rs) t = rs (4 * t) := by unfold p4 cut; split <;> split <;> split <;> split <;> omega
    have e2 : p4 (cut (4 * t + 1 + 1) rs) t = rs (4 * t) + 256 * rs (4 * t + 1) := by unfold p4 cut; split <;> split <;> split <;> split <;> omega
    rw [e1, e2, h, vo_vl1 _ _ (by omega) (by omega) c1.1 c1.2]
   ·have hN : n = 4 * t + 2 := by omega
    subst hN
    have e1 : p4 (cut (4 * t + 2) rs) t = rs (4 * t) + 256 * rs (4 * t + 1) := by unfold p4 cut; split <;> split <;> split <;> split <;> omega
    have e2 : p4 (cut (4 * t + 2 + 1) rs) t = rs (4 * t) + 256 * rs (4 * t + 1) + 65536 * rs (4 * t + 2) := by unfold p4 cut; split <;> split <;> split <;> split <;> omega
    rw [e1, e2, h, vo_vl2 _ _ (by omega) (by omega) c2.1 c2.2]
   ·have hN : n = 4 * t + 3 := by omega
    subst hN
    have e1 : p4 (cut (4 * t + 3) rs) t = rs (4 * t) + 256 * rs (4 * t + 1) + 65536 * rs (4 * t + 2) := by unfold p4 cut; split <;> split <;> split <;> split <;> omega
    have e2 : p4 (cut (4 * t + 3 + 1) rs) t = rs (4 * t) + 256 * rs (4 * t + 1) + 65536 * rs (4 * t + 2) + 16777216 * rs (4 * t + 3) := by unfold p4 cut; split <;> split <;> split <;> split <;> omega
    rw [e1, e2, h, vo_vl3 _ _ (by omega) (by omega) c3.1 c3.2]
  ·rw [if_neg e, ih t]
   have hc : ∀ i, i ≠ n → cut n rs i = cut (n + 1) rs i := fun i hi => by
    unfold cut
    by_cases h1 : i < n
    ·rw [if_pos h1, if_pos (by omega)]
    ·rw [if_neg h1, if_neg (by omega)]
   unfold p4
   rw [hc _ (by omega), hc _ (by omega), hc _ (by omega), hc _ (by omega)]
theorem upd4 (f : NI) (k : Nat) (a b c d : Int) : upd (upd (upd (upd f k a) k b) k c) k d = upd f k d := by
 funext t
 unfold upd
 by_cases e : t = k
 ·rw [if_pos e, if_pos e]
 ·simp [e]
theorem wd_step (rs : NI) (hr : ∀ i, 0 ≤ rs i ∧ rs i < 256) (q : Nat) (hq : q < 16) (h0 : wd rs (4 * q) (15 - q) = 0) : wd rs (4 * q + 4) = upd (wd rs (4 * q)) (15 - q) (p4 rs (15 - q)) := by
 have i0 : (63 - 4 * q) / 4 = 15 - q := by omega
 have i1 : (63 - (4 * q + 1)) / 4 = 15 - q := by omega
 have i2 : (63 - (4 * q + 2)) / 4 = 15 - q := by omega
 have i3 : (63 - (4 * q + 3)) / 4 = 15 - q := by omega
 have j0 : 63 - 4 * q = 4 * (15 - q) + 3 := by omega
 have j1 : 63 - (4 * q + 1) = 4 * (15 - q) + 2 := by omega
 have j2 : 63 - (4 * q + 2) = 4 * (15 - q) + 1 := by omega
 have j3 : 63 - (4 * q + 3) = 4 * (15 - q) := by omega
 obtain ⟨u, hu⟩ : ∃ u, u = 15 - q := ⟨_, rfl⟩
 rw [← hu] at i0 i1 i2 i3 j0 j1 j2 j3 h0 ⊢
 have c0 := hr (4 * u)
 have c1 := hr (4 * u + 1)
 have c2 := hr (4 * u + 2)
 have c3 := hr (4 * u + 3)
 have w1 : wd rs (4 * q + 1) = upd (wd rs (4 * q)) u (rs (4 * u + 3)) := by
  show upd (wd rs (4 * q)) ((63 - 4 * q) / 4) (vo (vl (wd rs (4 * q) ((63 - 4 * q) / 4)) 8) (cv .u32 (rs (63 - 4 * q)))) = _
  rw [i0, j0, h0, vo_sh _ _ (by omega) (by omega) c3.1 c3.2]
  congr 1
  omega
 have w2 : wd rs (4 * q + 2) = upd (upd (wd rs (4 * q)) u (rs (4 * u + 3))) u (rs (4 * u + 2) + 256 * rs (4 * u + 3)) := by
  show upd (wd rs (4 * q + 1)) ((63 - (4 * q + 1)) / 4) (vo (vl (wd rs (4 * q + 1) ((63 - (4 * q + 1)) / 4)) 8) (cv .u32 (rs (63 - (4 * q + 1))))) = _
  have e : upd (wd rs (4 * q)) u (rs (4 * u + 3)) u = rs (4 * u + 3) := by simp [upd]
  rw [i1, j1, w1, e, vo_sh _ _ (by omega) (by omega) c2.1 c2.2]
  congr 1
  omega
 have w3 : wd rs (4 * q + 3) = upd (upd (upd (wd rs (4 * q)) u (rs (4 * u + 3))) u (rs (4 * u + 2) + 256 * rs (4 * u + 3))) u (rs (4 * u + 1) + 256 * rs (4 * u + 2) + 65536 * rs (4 * u + 3)) := by
  show upd (wd rs (4 * q + 2)) ((63 - (4 * q + 2)) / 4) (vo (vl (wd rs (4 * q + 2) ((63 - (4 * q + 2)) / 4)) 8) (cv .u32 (rs (63 - (4 * q + 2))))) = _
  have e : upd (upd (wd rs (4 * q)) u (rs (4 * u + 3))) u (rs (4 * u + 2) + 256 * rs (4 * u + 3)) u = rs (4 * u + 2) + 256 * rs (4 * u + 3) := by simp [upd]
  rw [i2, j2, w2, e, vo_sh _ _ (by omega) (by omega) c1.1 c1.2]
  congr 1
  omega
 show upd (wd rs (4 * q + 3)) ((63 - (4 * q + 3)) / 4) (vo (vl (wd rs (4 * q + 3) ((63 - (4 * q + 3)) / 4)) 8) (cv .u32 (rs (63 - (4 * q + 3))))) = _
 have e : upd (upd (upd (wd rs (4 * q)) u (rs (4 * u + 3))) u (rs (4 * u + 2) + 256 * rs (4 * u + 3))) u (rs (4 * u + 1) + 256 * rs (4 * u + 2) + 65536 * rs (4 * u + 3)) u = rs (4 * u + 1) + 256 * rs (4 * u + 2) + 65536 * rs (4 * u + 3) := by simp [upd]
 rw [i3, j3, w3, e, vo_sh _ _ (by omega) (by omega) c0.1 c0.2, upd4]
 congr 1
 unfold p4
 omega
theorem wd_at (rs : NI) (hr : ∀ i, 0 ≤ rs i ∧ rs i < 256) : ∀ q, q ≤ 16 → ∀ t, t < 16 → wd rs (4 * q) t = if 16 - q ≤ t then p4 rs t else 0
 | 0, _, t, ht => by rw [if_neg (by omega)]; rfl
 | q + 1, hq, t, ht => by
  have ih := wd_at rs hr q (by omega)
  have h0 := ih (15 - q) (by omega)
  rw [if_neg (by omega)] at h0
  show wd rs (4 * q + 4) t = _
  rw [wd_step rs hr q (by omega) h0]
  unfold upd
  by_cases e : t = 15 - q
  ·rw [if_pos e, if_pos (by omega), e]
  ·rw [if_neg e, ih t ht]
   by_cases h : 16 - q ≤ t
   ·rw [if_pos h, if_pos (by omega)]
   ·rw [if_neg h, if_neg (by omega)]
theorem wd_p4 (rs : NI) (hr : ∀ i, 0 ≤ rs i ∧ rs i < 256) (t : Nat) (ht : t < 16) : wd rs 64 t = p4 rs t := by
 have h := wd_at rs hr 16 (by omega) t ht
 rw [if_pos (by omega)] at h
 exact h
theorem spr_congr {x x' : NI} (h : ∀ i, i < 8 → x i = x' i) (ct : Int) (last : Bool) : ∀ t, t < 16 → spr x ct last t = spr x' ct last t := by
 have hB : ∀ t, spB x t = spB x' t := fun t => by
  unfold spB
  by_cases e : t < 8
  ·rw [if_pos e, if_pos e, h t e]
  ·rw [if_neg e, if_neg e]
 have hB2 : spB x = spB x' := funext hB
 intro t _
 unfold spr spC
 rw [hB2]
theorem mixW_congr {x x' m m' : NI} (h : ∀ i, i < 8 → x i = x' i) (hm : ∀ t, t < 16 → m t = m' t) (ct : Int) (last : Bool) : ∀ i, i < 8 → mixW x m ct last i = mixW x' m' ct last i := by
 intro i hi
 unfold mixW
 have hr := rd_congr hm (spr_congr h ct last) 10
 rw [h i hi, hr i (by omega), hr (8 + i) (by omega)]
theorem bt_ext (A : Yb) (a b i : Nat) (hb : b ≤ A.size) (hi : i < b - a) : bt (A.extract a b) i = bt A (a + i) := by
 unfold bt
 congr 2
 have hs : A.data.size = A.size := rfl
 rw [ByteArray.data_extract, Array.getElem?_extract, if_pos (by omega)]
theorem bt_out (A : Yb) (i : Nat) (h : A.size ≤ i) : bt A i = 0 := by
 have hs : A.data.size = A.size := rfl
 unfold bt
 rw [Array.getElem?_eq_none (by omega)]
 rfl
theorem bt_app (r s : Yb) (i : Nat) : bt (r ++ s) i = if i < r.size then bt r i else bt s (i - r.size) := by
 rw [bt_of_sb, sb_append, List.getD_eq_getElem?_getD]
 by_cases h : i < r.size
 ·rw [if_pos h, List.getElem?_append_left (by rw [sb_length]; exact h), ← List.getD_eq_getElem?_getD, ← bt_of_sb]
 ·rw [if_neg h, List.getElem?_append_right (by rw [sb_length]; omega), sb_length, ← List.getD_eq_getElem?_getD, ← bt_of_sb]
theorem bt_zs (c i : Nat) : bt (zs c) i = 0 := by
 unfold bt zs
 by_cases h : i < c
 ·simp [h]
 ·simp [h]
def seg (A : Yb) (a r : Nat) : List Int := (List.range r).map fun i => bt A (a + i)
theorem seg_length (A : Yb) (a r : Nat) : (seg A a r).length = r := by simp [seg]
theorem lf_seg (A : Yb) (a r i : Nat) : lf (seg A a r) i = if i < r then bt A (a + i) else 0 := by
 unfold lf seg
 rw [List.getD_eq_getElem?_getD, List.getElem?_map]
 by_cases h : i < r
 ·rw [if_pos h, List.getElem?_range h]
  rfl
 ·rw [if_neg h, List.getElem?_eq_none (by simp; omega)]
  rfl
theorem lf_seg_nn (A : Yb) (a r : Nat) : ∀ i, 0 ≤ lf (seg A a r) i ∧ lf (seg A a r) i < 256 := fun i => by
 rw [lf_seg]
 split
 ·exact bt_nn _ _
 ·omega
def PP (A : Yb) (x : NI) : Nat → (Nat → Int)
 | 0 => x
 | j + 1 => mixW (PP A x j) (wo (lf (seg A (64 * j) 64)) 64) ((64 * j + 64 : Nat) : Int) false
theorem ua_nat (a b : Nat) (h : a + b < 18446744073709551616) : ua (a : Int) (b : Int) = ((a + b : Nat) : Int) := by
 rw [ua_eq]
 omega
theorem tk_at (z kl : Nat) (A : Yb) : ∀ j, 64 * j < 1000000 → ∀ r, 0 < r → r ≤ 64 → tk (hs0 z kl) A (64 * j + r) = ⟨PP A (hs0 z kl).ws j, seg A (64 * j) r, ((64 * j : Nat) : Int)⟩
 | 0, _, r, h0, h1 => by
  have h := tk_run (hs0 z kl) A 0 r h0 (by
   rw [fl_id (H := tk (hs0 z kl) A 0) (show (hs0 z kl).wl.length < 64 by simp [hs0])]
   show (hs0 z kl).wl.length + r ≤ 64
   simpa [hs0] using h1)
  rw [fl_id (H := tk (hs0 z kl) A 0) (show (hs0 z kl).wl.length < 64 by simp [hs0])] at h
  rw [Nat.mul_zero, h]
  rfl
 | j + 1, hj, r, h0, h1 => by
  have ih := tk_at z kl A j (by omega) 64 (by omega) (by omega)
  have hf : fl (tk (hs0 z kl) A (64 * j + 64)) = ⟨PP A (hs0 z kl).ws (j + 1), [], ((64 * (j + 1) : Nat) : Int)⟩ := by
   rw [ih]
   unfold fl
   rw [if_pos (seg_length _ _ _)]
   simp only [seg_length, mixV_W]
   have e : ua ((64 * j : Nat) : Int) 64 = ((64 * j + 64 : Nat) : Int) := ua_nat (64 * j) 64 (by omega)
   rw [e]
   rfl
  have h := tk_run (hs0 z kl) A (64 * j + 64) r h0 (by rw [hf]; simpa using h1)
  rw [hf] at h
  rw [show 64 * (j + 1) + r = 64 * j + 64 + r by omega, h]
  rfl
theorem cut_seg (A : Yb) (a r : Nat) : cut r (lf (seg A a r)) = lf (seg A a r) := by
 funext i
 unfold cut
 split
 ·rfl
 ·rw [lf_seg, if_neg (by omega)]
theorem PP_pcs (A : Yb) (x : NI) : ∀ j, 64 * j ≤ A.size → A.size < 1000000 → ∀ i, i < 8 → PP A x j i = pcs A x j i
 | 0, _, _, _, _ => rfl
 | j + 1, hj, hA, i, hi => by
  have ih := PP_pcs A x j (by omega) hA
  unfold PP pcs
  rw [cv_u64 _ (by omega)]
  refine mixW_congr ih (fun t ht => ?_) _ _ i hi
  rw [wo_p4 _ (lf_seg_nn _ _ _) 64 (by omega) t, cut_seg, wd_p4 _ (bt_nn _) t ht]
  have hb : ∀ k, k < 64 → lf (seg A (64 * j) 64) k = bt (A.extract (64 * j) (64 * j + 64)) k := fun k hk => by
   rw [lf_seg, if_pos hk, bt_ext _ _ _ _ (by omega) (by omega)]
  unfold p4
  rw [hb _ (by omega), hb _ (by omega), hb _ (by omega), hb _ (by omega)]
theorem tk_app (H : HS) (s p : Yb) : ∀ k, tk (tk H s s.size) p k = tk H (s ++ p) (s.size + k)
 | 0 => by
  have h : ∀ k, k ≤ s.size → tk H (s ++ p) k = tk H s k := by
   intro k
   induction k with
   | zero => intro _; rfl
   | succ k ih =>
    intro hk
    show ab (tk H (s ++ p) k) (bt (s ++ p) k) = ab (tk H s k) (bt s k)
    rw [ih (by omega), bt_app, if_pos (by omega)]
  exact (h s.size (Nat.le_refl _)).symm
 | k + 1 => by
  show ab (tk (tk H s s.size) p k) (bt p k) = ab (tk H (s ++ p) (s.size + k)) (bt (s ++ p) (s.size + k))
  rw [tk_app H s p k, bt_app, if_neg (by omega), show s.size + k - s.size = k by omega]
theorem tk_all (H : HS) (s p : Yb) : tk H (s ++ p) (s ++ p).size = tk (tk H s s.size) p p.size := by
 rw [ByteArray.size_append, tk_app]
theorem tk_nw (z : Nat) (key s : Yb) : tk (nw z key) s s.size = tk (hs0 z key.size) (allV key s) (allV key s).size := by
 unfold nw allV
 split
 ·rfl
 ·exact (tk_all _ _ _).symm
theorem tk_end (z kl : Nat) (A : Yb) (hA : A.size < 1000000) : tk (hs0 z kl) A A.size = ⟨PP A (hs0 z kl).ws (nbl A), seg A (64 * nbl A) (A.size - 64 * nbl A), ((64 * nbl A : Nat) : Int)⟩ := by
 have hn : nbl A = (A.size - 1) / 64 := rfl
 by_cases h : A.size = 0
 ·have h0 : nbl A = 0 := by omega
  rw [h, h0]
  rfl
 ·have h1 := tk_at z kl A (nbl A) (by omega) (A.size - 64 * nbl A) (by omega) (by omega)
  rw [show 64 * nbl A + (A.size - 64 * nbl A) = A.size by omega] at h1
  exact h1
theorem sum_dfin (z kl : Nat) (A : Yb) (hA : A.size < 1000000) : ∀ i, i < 8 → sumW (tk (hs0 z kl) A A.size) i = dfin A (hs0 z kl).ws i := by
 intro i hi
 have hn : nbl A = (A.size - 1) / 64 := rfl
 rw [tk_end z kl A hA]
 unfold sumW dfin
 simp only [seg_length, mixV_W]
 rw [cv_u64 _ (by omega), cv_u64 _ (by omega), ua_nat _ _ (by omega), show 64 * nbl A + (A.size - 64 * nbl A) = A.size by omega]
 refine mixW_congr (PP_pcs A _ _ (by omega) hA) (fun t ht => ?_) _ _ i hi
 have hrs : (rst A).size = A.size - 64 * nbl A := by
  unfold rst
  rw [size_extract]
 rw [wo_p4 _ (lf_seg_nn _ _ _) _ (by omega) t, cut_seg, wd_p4 _ (bt_nn _) t ht]
 have hb : ∀ k, lf (seg A (64 * nbl A) (A.size - 64 * nbl A)) k = bt (rst A ++ zs (64 - (rst A).size)) k := fun k => by
  rw [lf_seg, bt_app, hrs]
  by_cases h : k < A.size - 64 * nbl A
  ·rw [if_pos h, if_pos h]
   unfold rst
   rw [bt_ext _ _ _ _ (by omega) h]
  ·rw [if_neg h, if_neg h, bt_zs]
 unfold p4
 rw [hb, hb, hb, hb]
theorem outL_step (h : NI) (j k : Nat) (hk : k < 4) : outL h (4 * j + k + 1) = outL h (4 * j + k) ++ [cv .u8 (sr (h j) (8 * k))] := by
 show outL h (4 * j + k) ++ _ = _
 rw [show (4 * j + k) / 4 = j by omega, show (4 * j + k) % 4 = k by omega]
theorem sr0 (x : Int) : sr x 0 = x := by
 unfold sr
 simp
theorem outL_loI (h : NI) : ∀ j, outL h (4 * j) = loI h j
 | 0 => rfl
 | j + 1 => by
  show outL h (4 * j + 3 + 1) = _
  rw [outL_step h j 3 (by omega), show 4 * j + 3 = 4 * j + 2 + 1 by rfl, outL_step h j 2 (by omega), show 4 * j + 2 = 4 * j + 1 + 1 by rfl, outL_step h j 1 (by omega), show 4 * j + 1 = 4 * j + 0 + 1 by rfl, outL_step h j 0 (by omega), Nat.add_zero, outL_loI h j]
  simp [loI, lo4, sr0]
theorem outL_take (h : NI) (z : Nat) : ∀ k, (outL h (z + k)).take z = outL h z
 | 0 => by rw [Nat.add_zero, List.take_of_length_le (by rw [outL_length]; exact Nat.le_refl _)]
 | k + 1 => by
  show (outL h (z + k) ++ _).take z = _
  rw [List.take_append_of_le_length (by rw [outL_length]; omega), outL_take h z k]
theorem doc_eq (z : Nat) (hz : z ≤ 32) (key s : Yb) (hs : s.size < 100000) (hk : key.size ≤ 32) : docS z key s = blV z key s := by
 have hA : (allV key s).size < 1000000 := by
  unfold allV
  split
  ·omega
  ·rw [ByteArray.size_append, ByteArray.size_append, zs_size]
   omega
 unfold docS docV blV
 rw [sumV_eq, tk_nw, loI_congr 8 (sum_dfin z key.size (allV key s) hA), ← outL_loI]
 congr 1
 have h := outL_take (dfin (allV key s) (hs0 z key.size).ws) z (32 - z)
 rw [show z + (32 - z) = 4 * 8 by omega] at h
 exact h.symm
open Go.RowKit
theorem xb_nn (x y : Int) : 0 ≤ xb x y ∧ xb x y < 256 := cv8_nn _
def mkF (f : NI) (m : Int) : Nat → (Nat → Int)
 | 0 => f
 | j + 1 => upd (mkF f m j) j (xb (mkF f m j j) m)
theorem mkF_eq (f : NI) (m : Int) : ∀ j i, mkF f m j i = if i < j then xb (f i) m else f i
 | 0, i => by rw [if_neg (by omega)]; rfl
 | j + 1, i => by
  unfold mkF upd
  by_cases e : i = j
  ·subst e
   rw [if_pos rfl, if_pos (by omega), mkF_eq f m i i, if_neg (by omega)]
  ·rw [if_neg e, mkF_eq f m j i]
   by_cases h : i < j
   ·rw [if_pos h, if_pos (by omega)]
   ·rw [if_neg h, if_neg (by omega)]
def mk (f : NI) (m : Int) : ByteArray := bs ((List.range 64).map fun i => xb (f i) m)
theorem mk_size (f : NI) (m : Int) : (mk f m).size = 64 := by rw [mk, bs_size]; simp
theorem bl_size (s : Yb) : (blV 32 strE s).size = 32 := by
 unfold blV
 rw [sumV_eq, bs_size, List.length_take, loI_length]
 rfl
def keyV (key : Yb) : ByteArray := if 64 < key.size then blV 32 strE key else key
def tagV (f : NI) (s : Yb) : ByteArray := blV 32 strE (mk f 92 ++ blV 32 strE (mk f 54 ++ s))
theorem tagV_size (f : NI) (s : Yb) : (tagV f s).size = 32 := bl_size _
def hmV (key s : Yb) : ByteArray := tagV (bt (keyV key)) s
theorem hmV_size (key s : Yb) : (hmV key s).size = 32 := bl_size _
theorem bt_cp (s : Yb) (hs : s.size ≤ 64) : ∀ j, j < 64 → (if 0 ≤ j ∧ j < 0 + Nat.min s.size 64 then w8 (bt s) (j - 0) else w8 (fun _ => 0) j) = w8 (bt s) j := fun j _ => by
 have e : Nat.min s.size 64 = s.size := Nat.min_eq_left hs
 rw [e, Nat.sub_zero]
 unfold w8
 by_cases h : j < s.size
 ·rw [if_pos (by omega)]
 ·rw [if_neg (by omega), bt_out s j (by omega)]
theorem mk_back (f : NI) (m : Int) : bs ((List.range 64).map (mkF f m 64)) = mk f m := by
 unfold mk
 refine congrArg bs <| List.map_congr_left fun i hi => ?_
 rw [mkF_eq, if_pos (List.mem_range.1 hi)]
theorem mk_nn (f : NI) (m : Int) : ∀ x ∈ (List.range 64).map (mkF f m 64), 0 ≤ x ∧ x < 256 := fun x hx => by
 obtain ⟨i, hi, rfl⟩ := List.mem_map.1 hx
 rw [mkF_eq, if_pos (List.mem_range.1 hi)]
 exact xb_nn _ _
theorem c_masked (f : NI) (m : Int) (w : World) (hL : Laid w)  : Cs 169 #[.agg (av 64 (w8 f)), .int .u8 m] w (.string (mk f m)) := by
 go_enter Tryz.func169, Tryz.ntmps169
 have M := Mem.start hL
 refine sR <| pN M 2 (.cells (av 64 (w8 f)) 160) fun g1 u1 M => rV 1 <| nT <| wp_seq <| sq <| wp_block ?_
 refine au_loop (fun j a w' => ∃ v1 : NV, a = (fm ([.agg (av 64 (w8 f)), .int .u8 m, pJ g1, v1 3, .string ⟨#[]⟩, v1 5, .int .i64 (j : Int)] ++ vr v1 7 11)) ∧ Mem ⟨w, []⟩ [⟨g1, .cells (av 64 (w8 (mkF f m j))) 160⟩] w') 64 (exS M) ?_ ?_
 ·intro j a u0 hj hI
  obtain ⟨v1, rfl, M⟩ := hI
  refine sR <| ZT 7 ((j : Int) < 64) <| nT <| wp_seq <| cT <| wp_skip <| au_then <| wp_seq <| wp_block <| sq <| rg_lit <| rV 1 <| ZX 10 .i64 g1 (j) 64 <| ZE M 11 0 j <| rV 2 <| ZX 14 .i64 g1 (j) 64 ?_
  refine ZP8 M 0 j (xb (mkF f m j j) m) fun u2 M => pl_nil <| au_block <| au_then <| rg_lit <| ZI 15 ((j : Int) + 1) ((j + 1 : Nat) : Int) <| rV 1 <| nT ?_
  exact exS M
 ·intro a u0 hI
  obtain ⟨v1, rfl, M⟩ := hI
  refine sR <| ZF 7 ((64 : Int) < 64) <| nT <| wp_seq <| cF <| wp_exit <| au_then_exit <| au_then_exit <| au_block_exit <| au_then <| sR <| rV 1 <| pl_back M (want_no rfl) (some 17) rfl _ rfl 0 g1 64 64 (by kernel_rfl) _ rfl ((List.range 64).map (mkF f m 64)) 64 (sb_av 64 _ _) (by simp) (mk_nn f m) ?_
  rw [mk_back]
  refine rV 1 <| nT <| wp_ret ?_
  exact b1 M
theorem c_blockA (key : Yb) (hk : 64 < key.size) (w : World) (hL : Laid w)  : Cs 111 #[.string key] w (.agg (av 64 (w8 (bt (keyV key))))) := by
 go_enter Tryz.func111, Tryz.ntmps111
 have M := Mem.start hL
 obtain ⟨K, hK⟩ : ∃ K, blV 32 strE key = K := ⟨_, rfl⟩
 have hs : K.size ≤ 64 := by rw [← hK, bl_size]; decide
 refine sR <| pN M 2 (.cells (av 64 (w8 (fun _ => 0))) 160) fun g1 u1 M => nT <| wp_seq <| sR <| rV 2 <| ZT 6 ((64 : Int) < (key.size : Int)) <| nT <| cT <| rg_lit <| rV 1 <| pC M 8 45 #[.string key] (.string K) (fun w M => (by rw [← hK]; exact c_of key w M.laid)) fun u2 M => rV 1 <| nT <| sR <| pN M 3 (.cells (av 64 (w8 (fun _ => 0))) 160) fun g2 u3 M => ?_
 refine nT <| sR <| rV 2 <| pl_copyS M (want_no rfl) (some 11) rfl 61 9 3 5 Tryz.underlying61 inz5 1 g2 64 160 (w8 (fun _ => 0)) rfl 0 64 64 K (Nat.min K.size 64) rfl (by rw [Nat.zero_add]; exact Nat.min_le_right _ _) (w8 (bt K)) (bt_cp K hs) (fun _ => by kernel_rfl) fun u4 M => nT <| sR <| pA M 12 1 64 (w8 (bt K)) <| ZG M 0 64 (w8 (bt K)) fun u5 M => nT <| wp_ret ?_
 have e : keyV key = K := by unfold keyV; rw [if_pos hk, hK]
 rw [e]
 exact bc Tryz.results111 M 0 64 (w8 (bt K)) ⟨rfl, below_grown M.old⟩
theorem c_blockB (key : Yb) (hs : ¬ 64 < key.size) (w : World) (hL : Laid w)  : Cs 111 #[.string key] w (.agg (av 64 (w8 (bt (keyV key))))) := by
 go_enter Tryz.func111, Tryz.ntmps111
 have M := Mem.start hL
 have hs : key.size ≤ 64 := by omega
 refine sR <| pN M 2 (.cells (av 64 (w8 (fun _ => 0))) 160) fun g1 u1 M => nT <| wp_seq <| sR <| rV 2 <| ZF 6 ((64 : Int) < (key.size : Int)) <| nT <| cF <| wp_skip <| au_then <| sR <| pN M 3 (.cells (av 64 (w8 (fun _ => 0))) 160) fun g2 u2 M => nT <| sR <| rV 2 ?_
 refine pl_copyS M (want_no rfl) (some 11) rfl 61 9 3 5 Tryz.underlying61 inz5 1 g2 64 160 (w8 (fun _ => 0)) rfl 0 64 64 key (Nat.min key.size 64) rfl (by rw [Nat.zero_add]; exact Nat.min_le_right _ _) (w8 (bt key)) (bt_cp key hs) (fun _ => by kernel_rfl) fun u3 M => nT <| sR <| pA M 12 1 64 (w8 (bt key)) <| ZG M 0 64 (w8 (bt key)) fun u4 M => nT <| wp_ret ?_
 have e : keyV key = key := by unfold keyV; rw [if_neg (by omega)]
 rw [e]
 exact bc Tryz.results111 M 0 64 (w8 (bt key)) ⟨rfl, below_grown M.old⟩
theorem c_block (key : Yb) (w : World) (hL : Laid w) : Cs 111 #[.string key] w (.agg (av 64 (w8 (bt (keyV key))))) := by
 by_cases h : 64 < key.size
 ·exact c_blockA key h w hL
 ·exact c_blockB key h w hL
theorem c_tag (f : NI) (s : Yb) (hs : s.size < 100000) (w : World) (hL : Laid w)  : Cs 151 #[.agg (av 64 (w8 f)), .string s] w (.string (tagV f s)) := by
 go_enter Tryz.func151, Tryz.ntmps151
 have M := Mem.start hL
 refine sR <| pN M 2 (.cells (av 64 (w8 f)) 160) fun g1 u1 M => rV 1 <| nT <| wp_seq <| rg_tail M 9 (by kernel_rfl) (by kernel_rfl) ?_
 simp only [List.take_succ_cons, List.take_zero]
 refine kA M 5 0 64 (w8 f) <| eC M 6 (fun w M => c_masked f 92 w M.laid) <| kA M 7 0 64 (w8 f) <| eC M 8 (fun w M => c_masked f 54 w M.laid) <| kR 1 <| kH 10 (.string ((mk f 54) ++ s)) (run_cat 9 9 _ _ rfl (mk f 54) s (by kernel_rfl) (by kernel_rfl) (by rw [mk_size]; omega)) <| kC M 11 45 #[.string ((mk f 54) ++ s)] (.string (blV 32 strE ((mk f 54) ++ s))) (fun w M => c_of _ w M.laid) <| kH 12 (.string ((mk f 92) ++ (blV 32 strE (mk f 54 ++ s)))) (run_cat 9 9 _ _ rfl (mk f 92) (blV 32 strE (mk f 54 ++ s)) (by kernel_rfl) (by kernel_rfl) (by rw [mk_size, bl_size]; decide)) <| kC M 13 45 #[.string ((mk f 92) ++ (blV 32 strE (mk f 54 ++ s)))] (.string (blV 32 strE ((mk f 92) ++ (blV 32 strE (mk f 54 ++ s))))) (fun w M => c_of _ w M.laid) <| kl_nil fun u2 M => rV 1 <| nT <| wp_ret ?_
 exact b1 M
theorem c_hmac (key s : Yb) (hs : s.size < 100000) (w : World) (hL : Laid w)  : Cs 113 #[.string key, .string s] w (.string (hmV key s)) := by
 go_enter Tryz.func113, Tryz.ntmps113
 have M := Mem.start hL
 refine sq <| sR <| rV 1 <| ZC M 6 (fun w M => c_block key w M.laid) fun u1 M => rV 1 <| ZC M 8 (fun w M => c_tag (bt (keyV key)) s hs w M.laid) fun u2 M => rV 1 <| nT <| wp_ret ?_
 exact b1 M
theorem c_extract (key s : Yb) (hs : s.size < 100000) (w : World) (hL : Laid w)  : Cs 83 #[.string key, .string s] w (.string (hmV key s)) := by
 go_enter Tryz.func83, Tryz.ntmps83
 have M := Mem.start hL
 refine sq <| sR <| rV 2 <| ZC M 7 (fun w M => c_hmac key s hs w M.laid) fun u1 M => rV 1 <| nT <| wp_ret ?_
 exact b1 M
open Go.RowKit
open Go.Shelf
section
variable {P : Program} {ops : Array Oper} {rest : List Oper} {o : Oper} {a : Act} {w : World} {c : Ctx} {L : List Blk} {Q : Exit → Act → World → Prop} {K : Act → World → Prop} {J : Act → World → Prop}
theorem au_then_goto {i : Nat} (h : Q (.goto i) a w) : Exit.then K Q (.goto i) a w := h
theorem au_scope_ret {i : Nat} (h : Q .ret a w) : Exit.jump i J Q .ret a w := h
end
structure BU (w : World) (f : NI) (g k : Nat) (l : List UInt8) (u : World) : Prop where
 bel : Below w.heap.size w u
 ge : w.heap.size ≤ g
 lt : g < k
 blk : u.heap[g]? = some (.cells (av 64 (w8 f)) 160)
 isb : Lib.IsBuilder 177 5 k k (Lib.byteCells l) u
theorem BU.ne {w u : World} {f : NI} {g k : Nat} {l : List UInt8} (h : BU w f g k l u) (hL : Laid w) : 2 < g := by have := hL.lt; have := h.ge; omega
theorem BU.mem {w u : World} {f : NI} {g k : Nat} {l : List UInt8} (h : BU w f g k l u) (hL : Laid w) : Mem ⟨u, [g]⟩ [⟨g, .cells (av 64 (w8 f)) 160⟩] u := Mem.startp (below_laid h.bel hL) h.blk (h.ne hL)
theorem BU.keep {w u : World} {f : NI} {g k : Nat} {l : List UInt8} (h : BU w f g k l u) {L : List Blk} {u' : World} (M : Mem ⟨u, [g]⟩ (⟨g, .cells (av 64 (w8 f)) 160⟩ :: L) u') : BU w f g k l u' :=
 have hb := same1 M.old h.blk (M.get 0 rfl)
 ⟨h.bel.trans (hb.mono h.bel.size), h.ge, h.lt, M.get 0 rfl, isb_keep h.isb hb⟩
theorem BU.start {w u : World} {f : NI} {g k : Nat} (M : Mem ⟨w, []⟩ [⟨g, .cells (av 64 (w8 f)) 160⟩, ⟨k, .cells (av 2 bF0) 177⟩] u) (hlt : g < k) : BU w f g k [] u :=
 ⟨below_grown M.old, (M.ge _ (List.mem_of_getElem? (i := 0) rfl)).elim id (fun h => by cases h), hlt, M.get 0 rfl, .inl ⟨Nat.le_refl _, .slice none 0 0, M.get 1 rfl, World.ownsRow_nil _ _ _ _, by simp [Value.ownBlock]⟩⟩
theorem c_len {w u : World} {f : NI} {g k : Nat} {l : List UInt8} (h : BU w f g k l u) : Cs 143 #[pJ k] u (.int .i64 (l.length : Int)) := by
 refine (Any.Builder_Len (P := Tryz.prog) (ρ := repRen) { repLays with } k k (Lib.byteCells l) u h.isb).mono ?_
 rintro r w' ⟨rfl, rfl⟩
 exact ⟨by rw [Lib.byteCells_length], Below.refl _ _⟩
theorem c_write {w u : World} {f : NI} {g k : Nat} {l : List UInt8} (h : BU w f g k l u) (s : Yb) (hl : l.length + s.size < 1000000) : Calls Tryz.prog 142 #[pJ k, .string s] u fun r w' => r = .returned (.tuple #[.int .i64 s.size, .nilIface]) ∧ BU w f g k (l ++ s.data.toList) w' := by
 have hk := isb_lt h.isb
 refine (Any.Builder_WriteString (P := Tryz.prog) (ρ := repRen) { repLays with } repExtra k k (Lib.byteCells l) s u h.isb (by rw [Lib.byteCells_length]; omega) (by omega)).mono ?_
 rintro r w' ⟨rfl, h1, h2⟩
 exact ⟨rfl, h.bel.trans (h2.mono (by have := h.ge; have := h.lt; omega)), h.ge, h.lt, by rw [h2.block g h.lt]; exact h.blk, .inr (by rw [Lib.byteCells_append]; exact h1)⟩
theorem c_string {w u : World} {f : NI} {g k : Nat} {l : List UInt8} (h : BU w f g k l u) (s : Yb) (hs : s.data.toList = l) : Calls Tryz.prog 131 #[pJ k] u fun r w' => r = .returned (.string s) ∧ Below w.heap.size w w' := by
 have hk := isb_lt h.isb
 refine (Any.Builder_String_any (P := Tryz.prog) (ρ := repRen) { repLays with } repExtra k k l u h.isb (by omega)).mono ?_
 rintro r w' ⟨rfl, h2⟩
 refine ⟨?_, h.bel.trans (h2.mono (by have := h.ge; have := h.lt; omega))⟩
 rw [← hs]
def tg (f : NI) (info : Yb) : Nat → ByteArray
 | 0 => strE
 | i + 1 => tagV f (tg f info i ++ info ++ bs [((i + 1 : Nat) : Int)])
def al (f : NI) (info : Yb) : Nat → ByteArray
 | 0 => strE
 | i + 1 => al f info i ++ tg f info (i + 1)
theorem tg_size (f : NI) (info : Yb) (i : Nat) : (tg f info (i + 1)).size = 32 := tagV_size _ _
theorem tg_le (f : NI) (info : Yb) : ∀ i, (tg f info i).size ≤ 32
 | 0 => by show 0 ≤ 32; decide
 | i + 1 => by rw [tg_size]; decide
theorem al_size (f : NI) (info : Yb) : ∀ i, (al f info i).size = 32 * i
 | 0 => rfl
 | i + 1 => by
  unfold al
  rw [ByteArray.size_append, al_size f info i, tg_size]
  omega
theorem al_len (f : NI) (info : Yb) (i : Nat) : (al f info i).data.toList.length = 32 * i := by
 rw [← al_size f info i]
 rfl
theorem al_next (f : NI) (info : Yb) (i : Nat) : (al f info i).data.toList ++ (tg f info (i + 1)).data.toList = (al f info (i + 1)).data.toList := by
 show _ = (al f info i ++ tg f info (i + 1)).data.toList
 rw [ByteArray.data_append, Array.toList_append]
theorem sb_one (x : Int) (T : TypeId) : SB (.cells (av 1 (fun _ => .int .u8 x)) T) 1 (vs8 [x]) := ⟨_, T, (0, 0), rfl, by simp [vs8], by rw [av_size]; exact Nat.le_refl _, fun i hi => by
 simp [vs8] at hi
 subst hi
 rfl, fun i _ => by simp⟩
def numOf : Value → Int
 | .int _ x => x
 | _ => 0
def mu9 (N : Nat) (a : Act) : Nat := N - (numOf (a.tmps.getD 9 undef)).toNat
theorem mu9_lt {N : Nat} {a a' : Act} (x y : Nat) (h1 : a'.tmps.getD 9 undef = .int .u8 (y : Int)) (h2 : a.tmps.getD 9 undef = .int .u8 (x : Int)) (hxy : x < y) (hy : y ≤ N) : mu9 N a' < mu9 N a := by
 unfold mu9
 rw [h1, h2]
 show N - (y : Int).toNat < N - (x : Int).toNat
 omega
theorem add8 (j : Nat) (h : j < 255) : IntKind.wrap .u8 ((j : Int) + 1) = ((j + 1 : Nat) : Int) := by
 show ((j : Int) + 1) % 256 = _
 omega
theorem c_tags (f : NI) (info : Yb) (hi : info.size < 10000) (n : Nat) (hn : n ≤ 8160) (w : World) (hL : Laid w)  : Cs 112 #[.agg (av 64 (w8 f)), .string info, .int .i64 (n : Int)] w (.string (al f info ((n + 31) / 32))) := by
 go_enter Tryz.func112, Tryz.ntmps112
 have M := Mem.start hL
 obtain ⟨N, hN⟩ : ∃ N, N = (n + 31) / 32 := ⟨_, rfl⟩
 refine sR <| pN M 3 (.cells (av 64 (w8 f)) 160) fun g1 u1 M => rV 1 <| nT ?_
 refine wp_scope_jumps 0 (fun a u => ∃ (j gk : Nat) (v : NV), j ≤ N ∧ a = (fm ([.agg (av 64 (w8 f)), .string info, .int .i64 (n : Int), pJ g1, undef, undef, v 6, pJ gk, .string (tg f info j), .int .u8 (j : Int)] ++ vr v 10 17)) ∧ BU w f g1 gk (al f info j).data.toList u) (fun a _ => mu9 N a) rfl ?_ ?_
 ·refine sR <| pl_newB M (want_no rfl) (some 7) rfl (.cells (av 2 bF0) 177) (fun _ => by kernel_rfl) ?_
  intro g2 u2 hlt M
  replace hlt : g1 < g2 := hlt _ (List.mem_of_getElem? (i := 0) rfl)
  refine nT <| sq <| wp_seq <| wp_label <| au_then ?_
  have hB : BU w f g1 g2 (al f info 0).data.toList u2 := BU.start M hlt
  generalize g2 = gk at hB
  clear M hlt
  by_cases hj : 0 < N
  ··skip
    have M := hB.mem hL
    refine wp_seq <| sR <| ZC M 10 (fun w M => c_len (hB.keep M)) fun u3 M => rV 1 <| zJ 12 (.bool true) (.bool (decide (((al f info 0).data.toList.length : Int) < (n : Int)))) (by rw [al_len, decide_eq_true (by omega)]) <| nT <| cT <| sR <| rV 1 <| ZQ 14 .u8 (IntKind.wrap .u8 ((0 : Nat) + 1 : Int)) (add8 0 (by omega)) <| rV 1 <| nT <| sR <| pA M 15 0 64 (w8 f) <| rV 2 <| pH 18 (.string ((tg f info 0) ++ info)) (run_cat 9 9 _ _ rfl (tg f info 0) info (by kernel_rfl) (by kernel_rfl) (by have := tg_le f info 0; omega)) ?_
    refine rV 1 <| ZM M 20 (fun g3 => .slice (some ⟨g3, 0, none⟩) 1 1) (.cells (av 1 (fun _ => .int .u8 ((0 + 1 : Nat) : Int))) 5) fun g3 u4 M => pl_back M (want_no rfl) (some 21) rfl _ rfl 1 g3 1 1 (by kernel_rfl) _ rfl [((0 + 1 : Nat) : Int)] 1 (sb_one _ _) rfl (by intro x hx; rw [List.mem_singleton.1 hx]; omega) <| pH 22 (.string ((tg f info 0 ++ info) ++ (bs [((0 + 1 : Nat) : Int)]))) (run_cat 9 9 _ _ rfl (tg f info 0 ++ info) (bs [((0 + 1 : Nat) : Int)]) (by kernel_rfl) (by kernel_rfl) (by rw [ByteArray.size_append, bs_size]; have := tg_le f info 0; simp; omega)) <| pC M 23 151 #[.agg (av 64 (w8 f)), .string ((tg f info 0 ++ info) ++ (bs [((0 + 1 : Nat) : Int)]))] (.string (tg f info (0 + 1))) (fun w M => c_tag f _ (by simp only [ByteArray.size_append, bs_size]; have := tg_le f info 0; simp; omega) w M.laid) fun u5 M => rV 1 <| nT <| sR <| rV 1 <| pl_callr (want_no rfl) (some 25) rfl 142 #[pJ gk, .string (tg f info (0 + 1))] (.tuple #[.int .i64 (tg f info (0 + 1)).size, .nilIface]) _ (fun _ => by kernel_rfl) (c_write (hB.keep M) (tg f info (0 + 1)) (by rw [al_len, tg_size]; omega)) ?_
    intro u6 hB2
    rw [al_next] at hB2
    refine nT <| wp_goto <| au_then_goto ?_
    exact ⟨rfl, 0 + 1, gk, fun k_ => ([.string ⟨#[]⟩, undef, undef, undef, .int .i64 ((al f info 0).data.toList.length : Int), .int .i64 (n : Int), .bool true, .int .u8 ((0 : Nat) : Int), .int .u8 ((0 + 1 : Nat) : Int), .agg (av 64 (w8 f)), .string (tg f info 0), .string info, .string ((tg f info 0) ++ info), .int .u8 ((0 + 1 : Nat) : Int), .slice (some ⟨g3, 0, none⟩) 1 1, .string (bs [((0 + 1 : Nat) : Int)]), .string ((tg f info 0 ++ info) ++ (bs [((0 + 1 : Nat) : Int)])), .string (tg f info (0 + 1)), .string (tg f info (0 + 1)), .tuple #[.int .i64 (tg f info (0 + 1)).size, .nilIface], undef] : List Value).getD (k_ - 6) undef, by omega, by kernel_rfl, hB2⟩
  ·have hjN : N = 0 := by omega
   ·have M := hB.mem hL
    refine wp_seq <| sR <| ZC M 10 (fun w M => c_len (hB.keep M)) fun u7 M => rV 1 <| zJ 12 (.bool false) (.bool (decide (((al f info 0).data.toList.length : Int) < (n : Int)))) (by rw [al_len, decide_eq_false (by omega)]) <| nT <| cF <| wp_skip <| au_then <| sR <| pl_callr (want_no rfl) (some 26) rfl 131 #[pJ gk] (.string (al f info N)) _ (fun _ => by kernel_rfl) (c_string (hB.keep M) (al f info N) (by rw [hjN])) ?_
    intro u8 hB2
    refine rV 1 <| nT <| wp_ret <| au_scope_ret ?_
    rw [← hN]
    exact bX (.string (al f info N)) ⟨rfl, hB2⟩
 ·intro a u0 hJ
  obtain ⟨j, gk, v, hjn, rfl, hB⟩ := hJ
  refine wp_seq <| wp_skip <| au_then ?_
  by_cases hj : j < N
  ··skip
    have M := hB.mem hL
    refine wp_seq <| sR <| ZC M 10 (fun w M => c_len (hB.keep M)) fun u9 M => rV 1 <| zJ 12 (.bool true) (.bool (decide (((al f info j).data.toList.length : Int) < (n : Int)))) (by rw [al_len, decide_eq_true (by omega)]) <| nT <| cT <| sR <| rV 1 <| ZQ 14 .u8 (IntKind.wrap .u8 ((j : Nat) + 1 : Int)) (add8 j (by omega)) <| rV 1 <| nT <| sR <| pA M 15 0 64 (w8 f) <| rV 2 <| pH 18 (.string ((tg f info j) ++ info)) (run_cat 9 9 _ _ rfl (tg f info j) info (by kernel_rfl) (by kernel_rfl) (by have := tg_le f info j; omega)) ?_
    refine rV 1 <| ZM M 20 (fun g4 => .slice (some ⟨g4, 0, none⟩) 1 1) (.cells (av 1 (fun _ => .int .u8 ((j + 1 : Nat) : Int))) 5) fun g4 u10 M => pl_back M (want_no rfl) (some 21) rfl _ rfl 1 g4 1 1 (by kernel_rfl) _ rfl [((j + 1 : Nat) : Int)] 1 (sb_one _ _) rfl (by intro x hx; rw [List.mem_singleton.1 hx]; omega) <| pH 22 (.string ((tg f info j ++ info) ++ (bs [((j + 1 : Nat) : Int)]))) (run_cat 9 9 _ _ rfl (tg f info j ++ info) (bs [((j + 1 : Nat) : Int)]) (by kernel_rfl) (by kernel_rfl) (by rw [ByteArray.size_append, bs_size]; have := tg_le f info j; simp; omega)) <| pC M 23 151 #[.agg (av 64 (w8 f)), .string ((tg f info j ++ info) ++ (bs [((j + 1 : Nat) : Int)]))] (.string (tg f info (j + 1))) (fun w M => c_tag f _ (by simp only [ByteArray.size_append, bs_size]; have := tg_le f info j; simp; omega) w M.laid) fun u11 M => rV 1 <| nT <| sR <| rV 1 <| pl_callr (want_no rfl) (some 25) rfl 142 #[pJ gk, .string (tg f info (j + 1))] (.tuple #[.int .i64 (tg f info (j + 1)).size, .nilIface]) _ (fun _ => by kernel_rfl) (c_write (hB.keep M) (tg f info (j + 1)) (by rw [al_len, tg_size]; omega)) ?_
    intro u12 hB2
    rw [al_next] at hB2
    refine nT <| wp_goto <| au_then_goto ?_
    exact ⟨rfl, ⟨j + 1, gk, fun k_ => ([v 6, undef, undef, undef, .int .i64 ((al f info j).data.toList.length : Int), .int .i64 (n : Int), .bool true, .int .u8 (j : Int), .int .u8 ((j + 1 : Nat) : Int), .agg (av 64 (w8 f)), .string (tg f info j), .string info, .string ((tg f info j) ++ info), .int .u8 ((j + 1 : Nat) : Int), .slice (some ⟨g4, 0, none⟩) 1 1, .string (bs [((j + 1 : Nat) : Int)]), .string ((tg f info j ++ info) ++ (bs [((j + 1 : Nat) : Int)])), .string (tg f info (j + 1)), .string (tg f info (j + 1)), .tuple #[.int .i64 (tg f info (j + 1)).size, .nilIface], v 26] : List Value).getD (k_ - 6) undef, by omega, by kernel_rfl, hB2⟩, mu9_lt j (j + 1) (by kernel_rfl) (by kernel_rfl) (by omega) (by omega)⟩
  ·have hjN : N = j := by omega
   ·have M := hB.mem hL
    refine wp_seq <| sR <| ZC M 10 (fun w M => c_len (hB.keep M)) fun u13 M => rV 1 <| zJ 12 (.bool false) (.bool (decide (((al f info j).data.toList.length : Int) < (n : Int)))) (by rw [al_len, decide_eq_false (by omega)]) <| nT <| cF <| wp_skip <| au_then <| sR <| pl_callr (want_no rfl) (some 26) rfl 131 #[pJ gk] (.string (al f info N)) _ (fun _ => by kernel_rfl) (c_string (hB.keep M) (al f info N) (by rw [hjN])) ?_
    intro u14 hB2
    refine rV 1 <| nT <| wp_ret <| au_scope_ret ?_
    rw [← hN]
    exact bX (.string (al f info N)) ⟨rfl, hB2⟩
open Go.RowKit
def ws (f : Nat → ByteArray) : Nat → Value := fun i => .string (f i)
theorem put_ws (f : Nat → ByteArray) (k : Nat) (v : Yb) (j : Nat) : (if j = k then .string v else ws f j) = ws (upd f k v) j := by
 unfold ws upd
 split <;> rfl
theorem info9_ex : (Tryz.prog.info? 9).isSome = true := by kernel_rfl
theorem info9_eq : Tryz.prog.info? 9 = some ((Tryz.prog.info? 9).get info9_ex) := (Option.some_get info9_ex).symm
theorem info9_z : ((Tryz.prog.info? 9).get info9_ex).zero = some (.string ⟨#[]⟩) := by kernel_rfl
theorem pl_makeS {ops : Array Oper} {rest : List Oper} {o : Oper} {a : Act} {w : World} {c : Ctx} {L : List Blk} {Q : Exit → Act → World → Prop} (M : Mem c L w) (hw : Region.wanted o (yielded ops a.tmps) = true) (d : Option Tmp) (hd : o.dst = d) (x y : Operand) (ho : o.op = .makeSlice 83 x y) (cap : Nat) (hx : a.eval x = .int .i64 (cap : Int)) (hy : a.eval y = .int .i64 (cap : Int)) (hc : cap < 1000000)
  (h : ∀ g w', Mem c (L ++ [⟨g, .cells (av cap (ws fun _ => ⟨#[]⟩)) 9⟩]) w' → PL Tryz.prog ops Q rest (a.put d (.slice (some ⟨g, 0, none⟩) cap cap)) w') : PL Tryz.prog ops Q (o :: rest) a w := by
 have hby : ((Tryz.prog.info? 9).get info9_ex).bytes ≤ 16 := by decide +kernel
 have hsz : ((Tryz.prog.info? 9).get info9_ex).size = 1 := by kernel_rfl
 have hr := run_make (P := Tryz.prog) w 83 9 _ (.string ⟨#[]⟩) Tryz.underlying83 info9_eq info9_z .i64 .i64 (cap : Int) (cap : Int) (by omega) (by omega) (by
  have := Int.mul_le_mul (show (((Tryz.prog.info? 9).get info9_ex).bytes : Int) ≤ 16 by omega) (show (cap : Int) ≤ 1000000 by omega) (by omega) (by omega)
  omega) (by omega)
 simp only [Int.toNat_natCast, hsz, Nat.mul_one] at hr
 have e : madeCells #[.string ⟨#[]⟩] cap = av cap (ws fun _ => ⟨#[]⟩) := by
  unfold madeCells av ws
  apply Array.ext_getElem?
  intro i
  by_cases hi : i < cap
  ·simp [hi, Nat.mod_one]
  ·simp [hi]
 refine pl_to hw d hd (.slice (some ⟨w.heap.size, 0, none⟩) cap cap) _ ?_ (h w.heap.size (w.alloc (.cells (av cap (ws fun _ => ⟨#[]⟩)) 9)) (M.new _ _ (new_below w _) (heap_alloc_new w _) (Nat.le_refl _)))
 unfold execOp
 simp only [ho, hx, hy, Sem.run_bind, Sem.run_pure]
 rw [hr, ← e]
 rfl
def exV (key info : Yb) (n : Nat) : ByteArray := (al (bt (keyV key)) info ((n + 31) / 32)).extract 0 n
theorem exV_size (key info : Yb) (n : Nat) : (exV key info n).size = n := by
 unfold exV
 rw [ByteArray.size_extract, al_size]
 omega
def txt (key s : Yb) (i : Nat) : ByteArray := tg (bt (keyV (hmV key s))) strE (i + 1)
theorem ba_app {A B : Yb} {i j : Nat} : (A ++ B).extract i j = A.extract i j ++ B.extract (i - A.size) (j - A.size) := by
 apply ByteArray.ext
 rw [ByteArray.data_extract, ByteArray.data_append, ByteArray.data_append, ByteArray.data_extract, ByteArray.data_extract, Array.extract_append]
 rfl
theorem ba_ext2 {A : Yb} {i j k l : Nat} : (A.extract i j).extract k l = A.extract (i + k) (min (i + l) j) := by
 apply ByteArray.ext
 rw [ByteArray.data_extract, ByteArray.data_extract, ByteArray.data_extract, Array.extract_extract]
theorem ba_none {A : Yb} {i j : Nat} (h : min j A.size ≤ i) : A.extract i j = ⟨#[]⟩ := by
 apply ByteArray.ext
 rw [ByteArray.data_extract]
 apply Array.eq_empty_of_size_eq_zero
 rw [Array.size_extract]
 have hs : A.data.size = A.size := rfl
 omega
theorem ba_whole {A : Yb} {j : Nat} (h : A.size ≤ j) : A.extract 0 j = A := by
 apply ByteArray.ext
 rw [ByteArray.data_extract]
 exact Array.extract_eq_self_of_le h
theorem al_cut (f : NI) (info : Yb) (j : Nat) : ∀ n, j < n → (al f info n).extract (j * 32) ((j + 1) * 32) = tg f info (j + 1)
 | 0, h => by omega
 | n + 1, h => by
  show (al f info n ++ tg f info (n + 1)).extract _ _ = _
  rw [ba_app, al_size]
  by_cases e : j = n
  ·subst e
   rw [ba_none (A := al f info j) (by rw [al_size]; omega), show j * 32 - 32 * j = 0 by omega, ba_whole (by rw [tg_size]; omega)]
   exact ByteArray.empty_append
  ·rw [al_cut f info j n (by omega), ba_none (A := tg f info (n + 1)) (by omega)]
   exact ByteArray.append_empty
theorem ex_cut (key s : Yb) (n j : Nat) (h : j < n) : (exV (hmV key s) strE (n * 32)).extract (j * 32) ((j + 1) * 32) = txt key s j := by
 unfold exV txt
 have h2 := Nat.mul_le_mul_right 32 (show j + 1 ≤ n by omega)
 rw [show (n * 32 + 31) / 32 = n by omega, ba_ext2, Nat.zero_add, Nat.zero_add, Nat.min_eq_left h2, al_cut _ _ j n h]
def chF (X : Yb) : Nat → (Nat → ByteArray)
 | 0 => fun _ => ⟨#[]⟩
 | j + 1 => upd (chF X j) j (X.extract (j * 32) ((j + 1) * 32))
theorem chF_eq (X : Yb) : ∀ n i, i < n → chF X n i = X.extract (i * 32) ((i + 1) * 32)
 | 0, i, h => by omega
 | n + 1, i, h => by
  unfold chF upd
  by_cases e : i = n
  ·subst e
   rw [if_pos rfl]
  ·rw [if_neg e, chF_eq X n i (by omega)]
theorem ch_av (key s : Yb) (n : Nat) : av n (ws (chF (exV (hmV key s) strE (n * 32)) n)) = av n (ws (txt key s)) := av_congr fun i hi => by
 unfold ws
 rw [chF_eq _ n i hi, ex_cut key s n i hi]
theorem c_exp (key info : Yb) (hi : info.size < 10000) (n : Nat) (hn : n ≤ 8160) (w : World) (hL : Laid w)  : Cs 82 #[.string key, .string info, .int .i64 (n : Int)] w (.tuple #[.string (exV key info n), .int .i64 0]) := by
 go_enter Tryz.func82, Tryz.ntmps82
 have M := Mem.start hL
 refine sq <| wp_seq <| sR <| rV 1 <| ZF 9 ((n : Int) < 0) <| rV 2 <| ZF 12 ((8160 : Int) < (n : Int)) <| rV 1 <| nT <| cF <| wp_skip <| au_then <| sR <| rV 1 <| ZC M 15 (fun w M => c_block key w M.laid) fun u1 M => rV 2 ?_
 refine pC M 18 112 #[.agg (av 64 (w8 (bt (keyV key)))), .string info, .int .i64 (n : Int)] (.string (al (bt (keyV key)) info ((n + 31) / 32))) (fun w M => c_tags _ info hi n hn w M.laid) fun u2 M => rV 1 <| pH 20 (.string (exV key info n)) (run_strh 9 Tryz.underlying9 _ _ rfl (al (bt (keyV key)) info ((n + 31) / 32)) (by kernel_rfl) .i64 n (by kernel_rfl) (by rw [al_size]; omega) _ rfl) <| rV 2 <| nT <| wp_ret ?_
 exact b1 M
theorem c_ch (key s : Yb) (hs : s.size < 10000) (n : Nat) (h1 : 1 ≤ n) (h3 : n ≤ 3) (w : World) (hL : Laid w) : Calls Tryz.prog 56 #[.string key, .string s, .int .i64 (n : Int)] w fun r w' => ∃ g, r = .returned (.tuple #[.slice (some ⟨g, 0, none⟩) n n, .int .i64 0]) ∧ w.heap.size ≤ g ∧ w'.heap[g]? = some (.cells (av n (ws (txt key s))) 9) ∧ Below w.heap.size w w' := by
 go_enter Tryz.func56, Tryz.ntmps56
 have M := Mem.start hL
 refine sq <| wp_seq <| sR <| rV 1 <| ZF 13 ((n : Int) < 1) <| rV 2 <| ZF 16 ((3 : Int) < (n : Int)) <| rV 1 <| nT <| cF <| wp_skip <| au_then <| sR <| rV 2 <| ZC M 21 (fun w M => c_extract key s (by omega) w M.laid) fun u1 M => rV 1 ?_
 refine ZI 23 ((n : Int) * 32) ((n * 32 : Nat) : Int) <| ZC M 24 (fun w M => c_exp (hmV key s) strE (by decide) (n * 32) (by omega) w M.laid) fun u2 M => rV 5 <| nT <| wp_seq <| sq <| cF <| wp_skip <| au_then <| sR <| rV 1 <| pl_makeS M (want_no rfl) (some 31) rfl _ _ rfl n (by kernel_rfl) (by kernel_rfl) (by omega) fun g1 u3 M => rV 1 <| nT <| wp_seq <| sq ?_
 refine wp_block ?_
 refine au_loop (fun j a w' => ∃ v1 : NV, a = (fm ([.string key, .string s, .int .i64 (n : Int)] ++ vr v1 3 3 ++ [.slice none 0 0, .int .i64 0, .string (exV (hmV key s) strE (n * 32)), .int .i64 0, .slice (some ⟨g1, 0, none⟩) n n] ++ vr v1 11 22 ++ [.int .i64 (n : Int), .int .i64 (j : Int)] ++ vr v1 35 14)) ∧ Mem ⟨w, []⟩ [⟨g1, .cells (av n (ws (chF (exV (hmV key s) strE (n * 32)) j))) 9⟩] w') n (exS M) ?_ ?_
 ·intro j a u0 hj hI
  obtain ⟨v1, rfl, M⟩ := hI
  refine sR <| ZT 35 ((j : Int) < (n : Int)) <| nT <| wp_seq <| cT <| wp_skip <| au_then <| wp_seq <| wp_block <| sq <| rg_lit <| rV 4 <| ZI 41 ((j : Int) * 32) ((j * 32 : Nat) : Int) <| rV 1 <| ZI 43 ((j : Int) + 1) ((j + 1 : Nat) : Int) <| ZI 44 (((j + 1 : Nat) : Int) * 32) (((j + 1) * 32 : Nat) : Int) ?_
  refine pH 45 (.string ((exV (hmV key s) strE (n * 32)).extract (j * 32) ((j + 1) * 32))) (run_strlh 9 Tryz.underlying9 _ _ _ rfl (exV (hmV key s) strE (n * 32)) (by kernel_rfl) .i64 .i64 (j * 32) ((j + 1) * 32) (by kernel_rfl) (by kernel_rfl) (by omega) (by rw [exV_size]; omega)) <| pH 46 (pJ g1 j) (run_ix0 83 9 Tryz.underlying83 inz9 _ _ rfl g1 n n (by kernel_rfl) .i64 j (by kernel_rfl) (by omega)) <| pP M 0 rfl j (.string ((exV (hmV key s) strE (n * 32)).extract (j * 32) ((j + 1) * 32))) (ws (upd (chF (exV (hmV key s) strE (n * 32)) j) j ((exV (hmV key s) strE (n * 32)).extract (j * 32) ((j + 1) * 32)))) (by omega) (fun j _ => put_ws _ _ _ j) fun u4 M => pl_nil <| au_block <| au_then <| rg_lit <| ZI 47 ((j : Int) + 1) ((j + 1 : Nat) : Int) <| rV 1 <| nT ?_
  exact exS M
 ·intro a u0 hI
  obtain ⟨v1, rfl, M⟩ := hI
  refine sR <| ZF 35 ((n : Int) < (n : Int)) <| nT <| wp_seq <| cF <| wp_exit <| au_then_exit <| au_then_exit <| au_block_exit <| au_then <| sq <| wp_ret ?_
  exact bX (.tuple #[.slice (some ⟨g1, 0, none⟩) n n, .int .i64 0]) ⟨g1, rfl, (M.ge _ (List.mem_of_getElem? (i := 0) rfl)).elim id (fun h => by cases h), by rw [← ch_av]; exact M.get 0 rfl, below_grown M.old⟩
open Go.RowKit
theorem d_ofb (s : Yb) (hs : s.size < 100000) (w : World) (hL : Laid w) : Cs 50 #[.string s] w (.string (blV 32 strE s)) := by
 rw [← doc_eq 32 (by decide) strE s hs (by decide)]
 exact d_of s hs w hL
def inF (K : Yb) (m : Int) : Nat → (Nat → Int)
 | 0 => fun _ => 0
 | j + 1 => upd (inF K m j) j (xb (bt K j) m)
theorem inF_eq (K : Yb) (m : Int) : ∀ j i, i < j → inF K m j i = xb (bt K i) m
 | 0, i, h => by omega
 | j + 1, i, h => by
  unfold inF upd
  by_cases e : i = j
  ·subst e
   rw [if_pos rfl]
  ·rw [if_neg e, inF_eq K m j i (by omega)]
theorem in_back (K : Yb) (m : Int) : bs ((List.range 64).map (inF K m 64)) = mk (bt K) m := by
 unfold mk
 refine congrArg bs <| List.map_congr_left fun i hi => ?_
 rw [inF_eq K m 64 i (List.mem_range.1 hi)]
theorem in_nn (K : Yb) (m : Int) : ∀ x ∈ (List.range 64).map (inF K m 64), 0 ≤ x ∧ x < 256 := fun x hx => by
 obtain ⟨i, hi, rfl⟩ := List.mem_map.1 hx
 rw [inF_eq K m 64 i (List.mem_range.1 hi)]
 exact xb_nn _ _
section
variable {ops : Array Oper} {rest : List Oper} {o : Oper} {a : Act} {w : World} {c : Ctx} {L : List Blk}
theorem run_back (M : Mem c L w) (x : Operand) (ho : o.op = .convert 61 9 x) (i g n cap : Nat) (hx : a.eval x = .slice (some ⟨g, 0, none⟩) n cap) (Z : Obj) (hi : L[i]? = some ⟨g, Z⟩) (l : List Int) (cp : Nat) (hs : SB Z cp (vs8 l)) (hn : l.length = n) (hf : ∀ x ∈ l, 0 ≤ x ∧ x < 256) : (execOp a.eval o).run Tryz.prog w = .ok (.value (.string (bs l))) w := by
 subst hn
 have hl : (l.map fun n => UInt8.ofNat n.toNat).length = l.length := by simp
 have h2 := run_convert_bytes_back (P := Tryz.prog) w 61 9 5 ⟨g, 0, none⟩ cap (l.map fun n => UInt8.ofNat n.toNat) Tryz.underlying61 Tryz.underlying5 Tryz.underlying9 (fun j hj => by
  rw [hl] at hj
  have hv : (vs8 l)[j]? = some (.int .u8 (l[j]'hj)) := by
   unfold vs8
   rw [List.getElem?_map, List.getElem?_eq_getElem hj]
   rfl
  rw [add_at, Nat.zero_add, hs.cell (M.get i hi) hv]
  have := hf _ (List.getElem_mem hj)
  simp
  omega)
 rw [hl] at h2
 unfold execOp
 simp only [ho, hx, Sem.run_bind, h2, Result.andThen_ok, Sem.run_pure]
 rfl
theorem k_back {W : World} {Q : Act → Prop} (M : Mem c L W) (hw : Region.wanted o (yielded ops a.tmps) = true) (d : Option Tmp) (hd : o.dst = d) (x : Operand) (ho : o.op = .convert 61 9 x) (i g n cap : Nat) (hx : a.eval x = .slice (some ⟨g, 0, none⟩) n cap) (Z : Obj) (hi : L[i]? = some ⟨g, Z⟩) (l : List Int) (cp : Nat) (hs : SB Z cp (vs8 l)) (hn : l.length = n) (hf : ∀ x ∈ l, 0 ≤ x ∧ x < 256) (t : Yb) (he : bs l = t)
  (h : KL Tryz.prog ops W Q rest (a.put d (.string t))) : KL Tryz.prog ops W Q (o :: rest) a :=
 k_any hw d hd _ (fun s => he ▸ run_back (M.keep s.keep) x ho i g n cap hx Z hi l cp hs hn hf) h
end
theorem cv8_id (j : Nat) (h : j < 256) : cv .u8 (j : Int) = (j : Int) := by
 show (j : Int) % 256 = _
 omega
def vtx (f : Nat → ByteArray) (n : Nat) : List Value := (List.range n).map fun i => .string (f i)
theorem vtx_length (f : Nat → ByteArray) (n : Nat) : (vtx f n).length = n := by simp [vtx]
theorem vtx_app (f : Nat → ByteArray) (n : Nat) : vtx f n ++ [.string (f n)] = vtx f (n + 1) := by simp [vtx, List.range_succ]
theorem vtx_get (f : Nat → ByteArray) (n i : Nat) (h : i < n) : (vtx f n)[i]? = some (.string (f i)) := by simp [vtx, h]
theorem d_hmacA (key s : Yb) (hs : s.size < 90000) (hkk : key.size < 100000) (hk : 64 < key.size) (w : World) (hL : Laid w)  : Cs 58 #[.string key, .string s] w (.string (hmV key s)) := by
 go_enter Tryz.func58, Tryz.ntmps58
 have M := Mem.start hL
 obtain ⟨K, hK⟩ : ∃ K, blV 32 strE key = K := ⟨_, rfl⟩
 refine sq <| wp_seq <| sR <| rV 2 <| ZT 11 ((64 : Int) < (key.size : Int)) <| nT <| cT <| rg_lit <| rV 1 <| pC M 13 50 #[.string key] (.string K) (fun w M => (by rw [← hK]; exact d_ofb key hkk w M.laid)) fun u1 M => rV 1 <| nT <| sR <| ZM M 14 (fun g1 => .slice (some ⟨g1, 0, none⟩) 64 64) (.cells (av 64 (w8 (fun _ => 0))) 5) fun g1 u2 M => rV 1 <| nT ?_
 refine sR <| ZM M 15 (fun g2 => .slice (some ⟨g2, 0, none⟩) 64 64) (.cells (av 64 (w8 (fun _ => 0))) 5) fun g2 u3 M => rV 1 <| nT <| wp_seq <| sq <| wp_block ?_
 refine au_loop (fun j a w' => ∃ v1 : NV, a = (fm ([.string K, .string s] ++ vr v1 2 2 ++ [.string ⟨#[]⟩, .slice (some ⟨g1, 0, none⟩) 64 64, .slice (some ⟨g2, 0, none⟩) 64 64, .int .i64 (j : Int)] ++ vr v1 8 38)) ∧ Mem ⟨w, []⟩ [⟨g1, .cells (av 64 (w8 (inF K 54 j))) 5⟩, ⟨g2, .cells (av 64 (w8 (inF K 92 j))) 5⟩] w') 64 (exS M) ?_ ?_
 ·intro j a u0 hj hI
  obtain ⟨v1, rfl, M⟩ := hI
  refine wp_seq <| sR <| rV 1 <| ZT 17 ((j : Int) < 64) <| nT <| cT <| wp_skip <| au_then <| wp_seq <| wp_block <| sq <| wp_seq <| wp_seq ?_
  by_cases hk2 : j < K.size
  ·refine rg_lit <| rV 3 <| ZT 23 ((j : Int) < (K.size : Int)) <| nT <| cT <| rg_lit <| rV 2 <| pH 26 (.int .u8 (bt K j)) (run_ixS 9 Tryz.underlying9 _ _ rfl K (by kernel_rfl) .i64 j (by kernel_rfl) hk2) <| rV 1 <| nT <| sR <| rV 4 <| pH 31 (pJ g1 j) (run_ix0 61 5 Tryz.underlying61 inz5 _ _ rfl g1 64 64 (by kernel_rfl) .i64 j (by kernel_rfl) (by omega)) <| ZP8 M 0 j (xb (bt K j) 54) fun u4 M => nT <| rg_lit ?_
   refine rV 4 <| pH 36 (pJ g2 j) (run_ix0 61 5 Tryz.underlying61 inz5 _ _ rfl g2 64 64 (by kernel_rfl) .i64 j (by kernel_rfl) (by omega)) <| ZP8 M 1 j (xb (bt K j) 92) fun u5 M => pl_nil <| au_block <| au_then <| rg_lit <| rV 1 <| ZI 19 ((j : Int) + 1) ((j + 1 : Nat) : Int) <| rV 1 <| nT ?_
   exact exS M
  ·refine rg_lit <| rV 3 <| ZF 23 ((j : Int) < (K.size : Int)) <| nT <| cF <| wp_skip <| au_then <| sR <| rV 3 <| zJ 30 (.int .u8 (xb (bt K j) 54)) (.int .u8 (xb 0 54)) (by rw [bt_out K j (by omega)]) <| pH 31 (pJ g1 j) (run_ix0 61 5 Tryz.underlying61 inz5 _ _ rfl g1 64 64 (by kernel_rfl) .i64 j (by kernel_rfl) (by omega)) <| ZP8 M 0 j (xb (bt K j) 54) fun u6 M => nT <| rg_lit <| rV 3 <| zJ 35 (.int .u8 (xb (bt K j) 92)) (.int .u8 (xb 0 92)) (by rw [bt_out K j (by omega)]) ?_
   refine pH 36 (pJ g2 j) (run_ix0 61 5 Tryz.underlying61 inz5 _ _ rfl g2 64 64 (by kernel_rfl) .i64 j (by kernel_rfl) (by omega)) <| ZP8 M 1 j (xb (bt K j) 92) fun u7 M => pl_nil <| au_block <| au_then <| rg_lit <| rV 1 <| ZI 19 ((j : Int) + 1) ((j + 1 : Nat) : Int) <| rV 1 <| nT ?_
   exact exS M
 ·intro a u0 hI
  obtain ⟨v1, rfl, M⟩ := hI
  refine wp_seq <| sR <| rV 1 <| ZF 17 ((64 : Int) < 64) <| nT <| cF <| wp_exit <| au_then_exit <| au_then_exit <| au_block_exit <| au_then <| wp_seq <| rg_tail M 9 (by kernel_rfl) (by kernel_rfl) ?_
  simp only [List.take_succ_cons, List.take_zero]
  refine kR 1 <| k_back M (want_no rfl) (some 38) rfl _ rfl 1 g2 64 64 (by kernel_rfl) _ rfl ((List.range 64).map (inF K 92 64)) 64 (sb_av 64 _ _) (by simp) (in_nn K 92) (mk (bt K) 92) (in_back K 92) <| kR 1 <| k_back M (want_no rfl) (some 40) rfl _ rfl 0 g1 64 64 (by kernel_rfl) _ rfl ((List.range 64).map (inF K 54 64)) 64 (sb_av 64 _ _) (by simp) (in_nn K 54) (mk (bt K) 54) (in_back K 54) <| kR 1 <| kH 42 (.string ((mk (bt K) 54) ++ s)) (run_cat 9 9 _ _ rfl (mk (bt K) 54) s (by kernel_rfl) (by kernel_rfl) (by rw [mk_size]; omega)) <| kC M 43 50 #[.string ((mk (bt K) 54) ++ s)] (.string (blV 32 strE ((mk (bt K) 54) ++ s))) (fun w M => d_ofb _ (by simp only [ByteArray.size_append, mk_size]; omega) w M.laid) <| kH 44 (.string ((mk (bt K) 92) ++ (blV 32 strE (mk (bt K) 54 ++ s)))) (run_cat 9 9 _ _ rfl (mk (bt K) 92) (blV 32 strE (mk (bt K) 54 ++ s)) (by kernel_rfl) (by kernel_rfl) (by rw [mk_size, bl_size]; omega)) <| kC M 45 50 #[.string ((mk (bt K) 92) ++ (blV 32 strE (mk (bt K) 54 ++ s)))] (.string (blV 32 strE ((mk (bt K) 92) ++ (blV 32 strE (mk (bt K) 54 ++ s))))) (fun w M => d_ofb _ (by simp only [ByteArray.size_append, mk_size, bl_size]; omega) w M.laid) <| kl_nil fun u8 M => rV 1 <| nT <| wp_ret ?_
  have e : hmV key s = (blV 32 strE ((mk (bt K) 92) ++ (blV 32 strE (mk (bt K) 54 ++ s)))) := by
   unfold hmV keyV
   rw [if_pos hk, hK]
   rfl
  rw [e]
  exact b1 M
theorem d_hmacB (key s : Yb) (hs : s.size < 90000) (_hkk : key.size < 100000) (hk : ¬ 64 < key.size) (w : World) (hL : Laid w)  : Cs 58 #[.string key, .string s] w (.string (hmV key s)) := by
 go_enter Tryz.func58, Tryz.ntmps58
 have M := Mem.start hL
 refine sq <| wp_seq <| sR <| rV 2 <| ZF 11 ((64 : Int) < (key.size : Int)) <| nT <| cF <| wp_skip <| au_then <| sR <| ZM M 14 (fun g1 => .slice (some ⟨g1, 0, none⟩) 64 64) (.cells (av 64 (w8 (fun _ => 0))) 5) fun g1 u1 M => rV 1 <| nT <| sR <| ZM M 15 (fun g2 => .slice (some ⟨g2, 0, none⟩) 64 64) (.cells (av 64 (w8 (fun _ => 0))) 5) fun g2 u2 M => rV 1 ?_
 refine nT <| wp_seq <| sq <| wp_block ?_
 refine au_loop (fun j a w' => ∃ v1 : NV, a = (fm ([.string key, .string s] ++ vr v1 2 2 ++ [.string ⟨#[]⟩, .slice (some ⟨g1, 0, none⟩) 64 64, .slice (some ⟨g2, 0, none⟩) 64 64, .int .i64 (j : Int)] ++ vr v1 8 38)) ∧ Mem ⟨w, []⟩ [⟨g1, .cells (av 64 (w8 (inF key 54 j))) 5⟩, ⟨g2, .cells (av 64 (w8 (inF key 92 j))) 5⟩] w') 64 (exS M) ?_ ?_
 ·intro j a u0 hj hI
  obtain ⟨v1, rfl, M⟩ := hI
  refine wp_seq <| sR <| rV 1 <| ZT 17 ((j : Int) < 64) <| nT <| cT <| wp_skip <| au_then <| wp_seq <| wp_block <| sq <| wp_seq <| wp_seq ?_
  by_cases hk2 : j < key.size
  ·refine rg_lit <| rV 3 <| ZT 23 ((j : Int) < (key.size : Int)) <| nT <| cT <| rg_lit <| rV 2 <| pH 26 (.int .u8 (bt key j)) (run_ixS 9 Tryz.underlying9 _ _ rfl key (by kernel_rfl) .i64 j (by kernel_rfl) hk2) <| rV 1 <| nT <| sR <| rV 4 <| pH 31 (pJ g1 j) (run_ix0 61 5 Tryz.underlying61 inz5 _ _ rfl g1 64 64 (by kernel_rfl) .i64 j (by kernel_rfl) (by omega)) <| ZP8 M 0 j (xb (bt key j) 54) fun u3 M => nT <| rg_lit ?_
   refine rV 4 <| pH 36 (pJ g2 j) (run_ix0 61 5 Tryz.underlying61 inz5 _ _ rfl g2 64 64 (by kernel_rfl) .i64 j (by kernel_rfl) (by omega)) <| ZP8 M 1 j (xb (bt key j) 92) fun u4 M => pl_nil <| au_block <| au_then <| rg_lit <| rV 1 <| ZI 19 ((j : Int) + 1) ((j + 1 : Nat) : Int) <| rV 1 <| nT ?_
   exact exS M
  ·refine rg_lit <| rV 3 <| ZF 23 ((j : Int) < (key.size : Int)) <| nT <| cF <| wp_skip <| au_then <| sR <| rV 3 <| zJ 30 (.int .u8 (xb (bt key j) 54)) (.int .u8 (xb 0 54)) (by rw [bt_out key j (by omega)]) <| pH 31 (pJ g1 j) (run_ix0 61 5 Tryz.underlying61 inz5 _ _ rfl g1 64 64 (by kernel_rfl) .i64 j (by kernel_rfl) (by omega)) <| ZP8 M 0 j (xb (bt key j) 54) fun u5 M => nT <| rg_lit <| rV 3 <| zJ 35 (.int .u8 (xb (bt key j) 92)) (.int .u8 (xb 0 92)) (by rw [bt_out key j (by omega)]) ?_
   refine pH 36 (pJ g2 j) (run_ix0 61 5 Tryz.underlying61 inz5 _ _ rfl g2 64 64 (by kernel_rfl) .i64 j (by kernel_rfl) (by omega)) <| ZP8 M 1 j (xb (bt key j) 92) fun u6 M => pl_nil <| au_block <| au_then <| rg_lit <| rV 1 <| ZI 19 ((j : Int) + 1) ((j + 1 : Nat) : Int) <| rV 1 <| nT ?_
   exact exS M
 ·intro a u0 hI
  obtain ⟨v1, rfl, M⟩ := hI
  refine wp_seq <| sR <| rV 1 <| ZF 17 ((64 : Int) < 64) <| nT <| cF <| wp_exit <| au_then_exit <| au_then_exit <| au_block_exit <| au_then <| wp_seq <| rg_tail M 9 (by kernel_rfl) (by kernel_rfl) ?_
  simp only [List.take_succ_cons, List.take_zero]
  refine kR 1 <| k_back M (want_no rfl) (some 38) rfl _ rfl 1 g2 64 64 (by kernel_rfl) _ rfl ((List.range 64).map (inF key 92 64)) 64 (sb_av 64 _ _) (by simp) (in_nn key 92) (mk (bt key) 92) (in_back key 92) <| kR 1 <| k_back M (want_no rfl) (some 40) rfl _ rfl 0 g1 64 64 (by kernel_rfl) _ rfl ((List.range 64).map (inF key 54 64)) 64 (sb_av 64 _ _) (by simp) (in_nn key 54) (mk (bt key) 54) (in_back key 54) <| kR 1 <| kH 42 (.string ((mk (bt key) 54) ++ s)) (run_cat 9 9 _ _ rfl (mk (bt key) 54) s (by kernel_rfl) (by kernel_rfl) (by rw [mk_size]; omega)) <| kC M 43 50 #[.string ((mk (bt key) 54) ++ s)] (.string (blV 32 strE ((mk (bt key) 54) ++ s))) (fun w M => d_ofb _ (by simp only [ByteArray.size_append, mk_size]; omega) w M.laid) <| kH 44 (.string ((mk (bt key) 92) ++ (blV 32 strE (mk (bt key) 54 ++ s)))) (run_cat 9 9 _ _ rfl (mk (bt key) 92) (blV 32 strE (mk (bt key) 54 ++ s)) (by kernel_rfl) (by kernel_rfl) (by rw [mk_size, bl_size]; omega)) <| kC M 45 50 #[.string ((mk (bt key) 92) ++ (blV 32 strE (mk (bt key) 54 ++ s)))] (.string (blV 32 strE ((mk (bt key) 92) ++ (blV 32 strE (mk (bt key) 54 ++ s))))) (fun w M => d_ofb _ (by simp only [ByteArray.size_append, mk_size, bl_size]; omega) w M.laid) <| kl_nil fun u7 M => rV 1 <| nT <| wp_ret ?_
  have e : hmV key s = (blV 32 strE ((mk (bt key) 92) ++ (blV 32 strE (mk (bt key) 54 ++ s)))) := by
   unfold hmV keyV
   rw [if_neg hk]
   rfl
  rw [e]
  exact b1 M
theorem d_hmac (key s : Yb) (hs : s.size < 90000) (hk : key.size < 100000) (w : World) (hL : Laid w) : Cs 58 #[.string key, .string s] w (.string (hmV key s)) := by
 by_cases h : 64 < key.size
 ·exact d_hmacA key s hs hk h w hL
 ·exact d_hmacB key s hs hk h w hL
theorem d_exp (key info : Yb) (hi : info.size < 10000) (hk : key.size < 100000) (n : Nat) (hn : n ≤ 8160) (w : World) (hL : Laid w)  : Cs 57 #[.string key, .string info, .int .i64 (n : Int)] w (.tuple #[.string (exV key info n), .int .i64 0]) := by
 go_enter Tryz.func57, Tryz.ntmps57
 have M := Mem.start hL
 obtain ⟨N, hN⟩ : ∃ N, N = (n + 31) / 32 := ⟨_, rfl⟩
 refine sq <| wp_seq <| sR <| rV 1 <| ZF 12 ((n : Int) < 0) <| rV 2 <| ZF 15 ((8160 : Int) < (n : Int)) <| rV 1 <| nT <| cF <| wp_skip <| au_then <| sq <| sq <| wp_seq <| sq ?_
 refine wp_block ?_
 refine au_loop (fun j a w' => ∃ v1 : NV, a = (fm ([.string key, .string info, .int .i64 (n : Int)] ++ vr v1 3 3 ++ [.string ⟨#[]⟩, .int .i64 0, .string (al (bt (keyV key)) info j), .string (tg (bt (keyV key)) info j), .int .i64 ((j + 1 : Nat) : Int)] ++ vr v1 11 28)) ∧ Mem ⟨w, []⟩ [] w') N (exS M) ?_ ?_
 ·intro j a u0 hj hI
  obtain ⟨v1, rfl, M⟩ := hI
  refine wp_seq <| sR <| rV 3 <| pH 20 (.bool true) (jT (((al (bt (keyV key)) info j).size : Int) < (n : Int)) (by rw [al_size]; omega)) <| nT <| cT <| wp_skip <| au_then <| wp_seq <| wp_block <| sR <| rV 3 ?_
  refine pH 26 (.string ((tg (bt (keyV key)) info j) ++ info)) (run_cat 9 9 _ _ rfl (tg (bt (keyV key)) info j) info (by kernel_rfl) (by kernel_rfl) (by have := tg_le (bt (keyV key)) info j; omega)) ?_
  refine rV 1 <| ZQ 28 .u8 (cv .u8 ((j + 1 : Nat) : Int)) (cv8_id _ (by omega)) <| ZM M 29 (fun g1 => .slice (some ⟨g1, 0, none⟩) 1 1) (.cells (av 1 (fun _ => .int .u8 ((j + 1 : Nat) : Int))) 5) fun g1 u1 M => pl_back M (want_no rfl) (some 30) rfl _ rfl 0 g1 1 1 (by kernel_rfl) _ rfl [((j + 1 : Nat) : Int)] 1 (sb_one _ _) rfl (by intro x hx; rw [List.mem_singleton.1 hx]; omega) ?_
  refine pH 31 (.string (((tg (bt (keyV key)) info j) ++ info) ++ (bs [((j + 1 : Nat) : Int)]))) (run_cat 9 9 _ _ rfl ((tg (bt (keyV key)) info j) ++ info) (bs [((j + 1 : Nat) : Int)]) (by kernel_rfl) (by kernel_rfl) (by rw [ByteArray.size_append, bs_size]; have := tg_le (bt (keyV key)) info j; simp; omega)) ?_
  refine pC M 32 58 #[.string key, .string (((tg (bt (keyV key)) info j) ++ info) ++ (bs [((j + 1 : Nat) : Int)]))] (.string (tg (bt (keyV key)) info (j + 1))) (fun w M => d_hmac key _ (by simp only [ByteArray.size_append, bs_size]; have := tg_le (bt (keyV key)) info j; simp; omega) hk w M.laid) fun u2 M => ?_
  refine rV 1 <| nT <| rg_lit <| rV 2 <| pH 35 (.string (al (bt (keyV key)) info (j + 1))) (run_cat 9 9 _ _ rfl (al (bt (keyV key)) info j) (tg (bt (keyV key)) info (j + 1)) (by kernel_rfl) (by kernel_rfl) (by rw [al_size, tg_size]; omega)) <| rV 1 <| pl_nil <| au_block <| au_then <| rg_lit <| rV 1 <| ZI 22 (((j + 1 : Nat) : Int) + 1) ((j + 1 + 1 : Nat) : Int) <| rV 1 <| nT ?_
  exact exS (M.drop (.cons _ (.slnil)))
 ·intro a u0 hI
  obtain ⟨v1, rfl, M⟩ := hI
  refine wp_seq <| sR <| rV 3 <| pH 20 (.bool false) (jF (((al (bt (keyV key)) info N).size : Int) < (n : Int)) (by rw [al_size]; omega)) <| nT <| cF <| wp_exit <| au_then_exit <| au_then_exit <| au_block_exit <| au_then <| sR <| rV 2 <| pH 38 (.string (exV key info n)) (run_strh 9 Tryz.underlying9 _ _ rfl (al (bt (keyV key)) info N) (by kernel_rfl) .i64 n (by kernel_rfl) (by rw [al_size]; omega) _ (by unfold exV; rw [hN])) <| rV 2 <| nT ?_
  refine wp_ret ?_
  exact b1 M
theorem d_ch (key s : Yb) (hs : s.size < 10000) (hk : key.size < 100000) (n : Nat) (h1 : 1 ≤ n) (h3 : n ≤ 3) (w : World) (hL : Laid w) : Calls Tryz.prog 36 #[.string key, .string s, .int .i64 (n : Int)] w fun r w' => ∃ g cap Y, r = .returned (.tuple #[.slice (some ⟨g, 0, none⟩) n cap, .int .i64 0]) ∧ w.heap.size ≤ g ∧ w'.heap[g]? = some Y ∧ SB Y cap (vtx (txt key s) n) ∧ Below w.heap.size w w' := by
 go_enter Tryz.func36, Tryz.ntmps36
 have M := Mem.start hL
 refine sq <| wp_seq <| sR <| rV 1 <| ZF 13 ((n : Int) < 1) <| rV 2 <| ZF 16 ((3 : Int) < (n : Int)) <| rV 1 <| nT <| cF <| wp_skip <| au_then <| sR <| rV 2 <| ZC M 21 (fun w M => d_hmac key s (by omega) hk w M.laid) fun u1 M => rV 1 ?_
 refine ZI 23 (32 * (n : Int)) ((n * 32 : Nat) : Int) <| ZC M 24 (fun w M => d_exp (hmV key s) strE (by decide) (by rw [hmV_size]; decide) (n * 32) (by omega) w M.laid) fun u2 M => rV 5 <| nT <| sq <| wp_seq <| sq <| wp_block ?_
 refine au_loop (fun j a w' => ∃ (v9 : NV) (sl : Value), a = (fm ([.string key, .string s, .int .i64 (n : Int)] ++ und 3 ++ [.slice none 0 0, .int .i64 0, .string (exV (hmV key s) strE (n * 32)), .int .i64 0, sl, .int .i64 (j : Int), .int .i64 (n : Int), .bool false, .bool false, .int .i64 (n : Int), .bool false, .bool false, .tuple #[.string (exV (hmV key s) strE (n * 32)), .int .i64 0], .string key, .string s, .string (hmV key s), .int .i64 (n : Int), .int .i64 ((n * 32 : Nat) : Int), .tuple #[.string (exV (hmV key s) strE (n * 32)), .int .i64 0], .string (exV (hmV key s) strE (n * 32)), .int .i64 0] ++ vr v9 27 15 ++ [undef])) ∧ ((j = 0 ∧ sl = .slice none 0 0 ∧ Mem ⟨w, []⟩ [] w') ∨ (∃ (gq capq : Nat) (Zq : Obj), sl = .slice (some ⟨gq, 0, none⟩) j capq ∧ SB Zq capq (vtx (txt key s) j) ∧ Mem ⟨w, []⟩ [⟨gq, Zq⟩] w'))) n (exS2 (.slice none 0 0) (.inl ⟨rfl, rfl, M⟩)) ?_ ?_
 ·intro j a u0 hj hI
  obtain ⟨v9, sl, rfl, hI⟩ := hI
  rcases hI with ⟨rfl, rfl, M⟩ | ⟨gq, capq, Zq, rfl, hZq, M⟩
  ·refine wp_seq <| sR <| rV 2 <| ZT 29 ((0 : Int) < (n : Int)) <| nT <| cT <| wp_skip <| au_then <| wp_seq <| wp_block <| rg_lit <| rV 7 <| pH 39 (.string (txt key s 0)) (fun w => Eq.trans (run_strlh 9 Tryz.underlying9 _ _ _ rfl (exV (hmV key s) strE (n * 32)) (by kernel_rfl) .i64 .i64 0 32 (by kernel_rfl) (by kernel_rfl) (by omega) (by rw [exV_size]; omega) w) (congrArg (fun z => Result.ok (Next.value (Value.string z)) w) (ex_cut key s n 0 (by omega)))) <| ZM M 40 (fun g1 => .slice (some ⟨g1, 0, none⟩) 1 1) (.cells (av 1 (fun _ => .string (txt key s 0))) 9) fun g1 u3 M => pl_app0 M (want_no rfl) (some 41) rfl 83 83 9 _ (.string ⟨#[]⟩) Tryz.underlying83 info9_eq info9_z (by kernel_rfl) (by decide +kernel) rfl 0 g1 9 (.string (txt key s 0)) rfl (fun _ => by kernel_rfl) ?_
   intro e1 c1 Y1 u4 hY1 M
   replace hY1 : SB Y1 c1 (vtx (txt key s) (0 + 1)) := hY1
   refine rV 1 <| pl_nil <| au_block <| au_then <| rg_lit <| rV 3 <| nT ?_
   exact exS2 _ (.inr ⟨e1, c1, Y1, rfl, hY1, M.drop (.cons _ (.cons_cons _ (.slnil)))⟩)
  ·refine wp_seq <| sR <| rV 2 <| ZT 29 ((j : Int) < (n : Int)) <| nT <| cT <| wp_skip <| au_then <| wp_seq <| wp_block <| rg_lit <| rV 3 <| ZI 35 (32 * (j : Int)) ((j * 32 : Nat) : Int) <| rV 1 <| ZI 37 (32 * (j : Int)) ((j * 32 : Nat) : Int) <| ZI 38 (((j * 32 : Nat) : Int) + 32) (((j + 1) * 32 : Nat) : Int) ?_
   refine pH 39 (.string (txt key s j)) (fun w => Eq.trans (run_strlh 9 Tryz.underlying9 _ _ _ rfl (exV (hmV key s) strE (n * 32)) (by kernel_rfl) .i64 .i64 (j * 32) ((j + 1) * 32) (by kernel_rfl) (by kernel_rfl) (by omega) (by rw [exV_size]; omega) w) (congrArg (fun z => Result.ok (Next.value (Value.string z)) w) (ex_cut key s n j (by omega)))) <| ZM M 40 (fun g2 => .slice (some ⟨g2, 0, none⟩) 1 1) (.cells (av 1 (fun _ => .string (txt key s j))) 9) fun g2 u5 M => pl_app M (want_no rfl) (some 41) rfl 83 83 9 _ (.string ⟨#[]⟩) Tryz.underlying83 info9_eq info9_z (by kernel_rfl) (by decide +kernel) rfl 0 gq (j) capq Zq (vtx (txt key s) j) rfl hZq (vtx_length _ _) (by omega) 1 g2 9 (.string (txt key s j)) rfl rfl (fun _ => by kernel_rfl) ?_
   intro e2 c2 Y2 u6 hY2 M
   rw [vtx_app] at hY2
   refine rV 1 <| pl_nil <| au_block <| au_then <| rg_lit <| rV 1 <| ZI 31 ((j : Int) + 1) ((j + 1 : Nat) : Int) <| rV 1 <| nT ?_
   exact exS2 _ (.inr ⟨e2, c2, Y2, rfl, hY2, M.drop (.cons _ (.cons_cons _ (.slnil)))⟩)
 ·intro a u0 hI
  obtain ⟨v9, sl, rfl, hI⟩ := hI
  rcases hI with ⟨h, _⟩ | ⟨gq, capq, Zq, rfl, hZq, M⟩
  ·omega
  ·refine wp_seq <| sR <| rV 2 <| ZF 29 ((n : Int) < (n : Int)) <| nT <| cF <| wp_exit <| au_then_exit <| au_then_exit <| au_block_exit <| au_then <| sq <| wp_ret ?_
   exact bX (.tuple #[.slice (some ⟨gq, 0, none⟩) n capq, .int .i64 0]) ⟨gq, capq, Zq, rfl, (M.ge _ (List.mem_of_getElem? (i := 0) rfl)).elim id (fun h => by cases h), M.get 0 rfl, hZq, below_grown M.old⟩
end Go.Proofs.YtffimigpbcilbaaGreatDoor.Bla
