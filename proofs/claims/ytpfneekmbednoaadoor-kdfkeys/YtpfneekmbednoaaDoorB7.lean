/- The document: one piece. -/
import Derived.Test.YtpfneekmbednoaaDoorB6
namespace Go.Proofs.YtpfneekmbednoaaDoor
open Go.RowKit

def wd (rs : Nat → Int) : Nat → (Nat → Int)
  | 0 => fun _ => 0
  | j + 1 => upd (wd rs j) ((63 - j) / 4) (vo (vl (wd rs j ((63 - j) / 4)) 8) (cv .u32 (rs (63 - j))))
def vi (h : Nat → Int) : Nat → (Nat → Int)
  | 0 => fun _ => 0
  | j + 1 => upd (upd (vi h j) j (h j)) (8 + j) (HB j)
theorem vi_at (h : Nat → Int) : ∀ n, n ≤ 8 → ∀ i, i < 16 → vi h n i = if i < n then h i else if 8 ≤ i ∧ i < 8 + n then HB (i - 8) else 0
  | 0, _, i, _ => by
    rw [if_neg (by omega), if_neg (by omega)]
    rfl
  | n + 1, hn, i, hi => by
    unfold vi upd
    rw [vi_at h n (by omega) i hi]
    by_cases e : i = 8 + n
    · rw [if_pos e, if_neg (by omega), if_pos (by omega), e, show 8 + n - 8 = n by omega]
    · rw [if_neg e]
      by_cases e2 : i = n
      · rw [if_pos e2, if_pos (by omega), e2]
      · rw [if_neg e2]
        by_cases h1 : i < n
        · rw [if_pos h1, if_pos (by omega)]
        · rw [if_neg h1, if_neg (show ¬ i < n + 1 by omega)]
          by_cases h2 : 8 ≤ i ∧ i < 8 + n
          · rw [if_pos h2, if_pos (by omega)]
          · rw [if_neg h2, if_neg (by omega)]
theorem vi_av (h : Nat → Int) : av 16 (w32 (vi h 8)) = av 16 (w32 (spB h)) := av_congr fun i hi => by
  unfold w32 spB
  rw [vi_at h 8 (by omega) i hi]
  by_cases e : i < 8
  · rw [if_pos e, if_pos e]
  · rw [if_neg e, if_neg e, if_pos (by omega)]
def adD (x y : Nat → Int) : Nat → (Nat → Int)
  | 0 => x
  | j + 1 => upd (adD x y j) j (vx (vx (adD x y j j) (y j)) (y (8 + j)))
theorem adD_av (x y : Nat → Int) : av 8 (w32 (adD x y 8)) = av 8 (w32 fun i => vx (x i) (vx (y i) (y (8 + i)))) := by
  refine av_congr fun i hi => ?_
  unfold w32
  congr 1
  revert i
  exact lt8 ⟨by simp [adD, upd, vx_assoc], by simp [adD, upd, vx_assoc], by simp [adD, upd, vx_assoc], by simp [adD, upd, vx_assoc], by simp [adD, upd, vx_assoc], by simp [adD, upd, vx_assoc], by simp [adD, upd, vx_assoc], by simp [adD, upd, vx_assoc]⟩
/-- The words behind one more piece, whose words are m. -/
def mixW (x m : Nat → Int) (ct : Int) (last : Bool) : Nat → Int := fun i => vx (x i) (vx (rd m (spr x ct last) 10 i) (rd m (spr x ct last) 10 (8 + i)))
theorem mixV_W (x rs : Nat → Int) (n : Nat) (ct : Int) (last : Bool) : mixV x rs n ct last = mixW x (wo rs n) ct last := rfl

set_option maxRecDepth 100000 in
set_option maxHeartbeats 4000000 in
theorem d_piece_true (h : Nat → Int) (p : ByteArray) (hp : p.size = 64) (ct : Int) (w : World) (hL : Laid w)  :
    Calls Tryd.prog 27 #[.agg (av 8 (w32 h)), .string p, .int .u64 ct, .bool true] w fun r w' => r = .returned (.agg (av 8 (w32 (mixW h (wd (bt p) 64) ct true)))) ∧ Below w.heap.size w w' := by
  go_enter Tryd.func27, Tryd.ntmps27
  have M := Mem.start hL
  refine wp_seq ?_
  refine rg_lit ?_
  refine pl_new M (want_no rfl) (some 4) rfl (.cells (av 8 (w32 h)) 57) (fun _ => by kernel_rfl) ?_
  intro g1 u1 M
  replace M : Mem ⟨w, []⟩ [⟨g1, .cells (av 8 (w32 h)) 57⟩] u1 := M
  refine pl_new M (want_no rfl) (some 8) rfl (.cells (av 8 (w32 (fun _ => 0))) 57) (fun _ => by kernel_rfl) ?_
  intro g2 u2 M
  replace M : Mem ⟨w, []⟩ [⟨g1, .cells (av 8 (w32 h)) 57⟩, ⟨g2, .cells (av 8 (w32 (fun _ => 0))) 57⟩] u2 := M
  refine pl_nil ?_
  refine au_then ?_
  refine wp_seq ?_
  refine rg_lit ?_
  refine pl_new M (want_no rfl) (some 9) rfl (.cells (av 16 (w32 (fun _ => 0))) 67) (fun _ => by kernel_rfl) ?_
  intro g3 u3 M
  replace M : Mem ⟨w, []⟩ [⟨g1, .cells (av 8 (w32 h)) 57⟩, ⟨g2, .cells (av 8 (w32 (fun _ => 0))) 57⟩, ⟨g3, .cells (av 16 (w32 (fun _ => 0))) 67⟩] u3 := M
  refine pl_nil ?_
  refine au_then ?_
  refine wp_seq ?_
  refine wp_seq ?_
  refine rg_lit ?_
  refine pl_val (want_no rfl) (some 10) rfl (.int .i64 63) (fun _ => by kernel_rfl) ?_
  refine pl_nil ?_
  refine au_then ?_
  refine wp_block ?_
  refine au_loop (fun j a w' => ∃ (v0 : Nat → Value) (m : Int), m = 63 - (j : Int) ∧ a = ⟨#[.agg (av 8 (w32 h)), .string p, .int .u64 ct, .bool true, .pointer (some ⟨g1, 0, none⟩), undef, undef, undef, .pointer (some ⟨g2, 0, none⟩), .pointer (some ⟨g3, 0, none⟩), .int .i64 m, undef, undef, undef, undef, undef, undef, v0 17, v0 18, v0 19, v0 20, v0 21, v0 22, v0 23, v0 24, v0 25, v0 26, v0 27, v0 28, v0 29, v0 30, v0 31, v0 32, v0 33, undef, undef, undef, undef, undef, undef, undef, undef, undef, undef, undef, undef, undef, undef, undef, undef, undef, undef, undef, undef, undef, undef, undef, undef, undef, undef, undef, undef, undef, undef, undef, undef, undef, undef, undef, undef, undef, undef, undef, undef, undef, undef, undef, undef, undef, undef, undef, undef, undef, undef, undef, undef, undef, undef, undef, undef, undef, undef, undef, undef, undef, undef, undef, undef, undef, undef, undef, undef, undef, undef, undef, undef, undef, undef, undef, undef, undef, undef, undef, undef, undef, undef, undef, undef, undef, undef, undef, undef, undef, undef, undef, undef, undef, undef, undef, undef, undef, undef, undef, undef, undef, undef, undef, undef, undef, undef, undef, undef, undef, undef, undef, undef, undef, undef, undef, undef, undef, undef, undef, undef, undef, undef, undef, undef, undef, undef, undef, undef, undef, undef, undef, undef, undef, undef, undef, undef, undef, undef, undef], []⟩ ∧ Mem ⟨w, []⟩ [⟨g1, .cells (av 8 (w32 h)) 57⟩, ⟨g2, .cells (av 8 (w32 (fun _ => 0))) 57⟩, ⟨g3, .cells (av 16 (w32 (wd (bt p) j))) 67⟩] w') 64 ⟨fun k_ => ([undef, undef, undef, undef, undef, undef, undef, undef, undef, undef, undef, undef, undef, undef, undef, undef, undef] : List Value).getD (k_ - 17) undef, 63, by omega, by kernel_rfl, M⟩ ?_ ?_
  · intro j a u0 hj hI
    obtain ⟨v0, m, hm, rfl, M⟩ := hI
    obtain ⟨n, rfl⟩ : ∃ n : Nat, m = (n : Int) := ⟨63 - j, by omega⟩
    have hn : n = 63 - j := by omega
    refine wp_seq ?_
    refine wp_seq ?_
    refine rg_lit ?_
    refine pl_val (want_no rfl) (some 17) rfl (.int .i64 (n : Int)) (fun _ => by kernel_rfl) ?_
    refine pl_val (want_no rfl) (some 18) rfl (.bool true) (fun w => Eq.trans (b := .ok (.value (.bool (decide ((0 : Int) ≤ (n : Int))))) w) (by kernel_rfl) (by rw [decide_eq_true (by omega)])) ?_
    refine pl_nil ?_
    refine au_then ?_
    refine wp_cond_true (by kernel_rfl) ?_
    refine wp_skip ?_
    refine au_then ?_
    refine wp_seq ?_
    refine wp_block ?_
    refine rg_tail M 13 (by kernel_rfl) (by kernel_rfl) ?_
    simp only [List.take_succ_cons, List.take_zero]
    refine k_val (want_no rfl) (some 21) rfl (.int .i64 (n : Int)) (fun _ => by kernel_rfl) ?_
    refine k_val (want_no rfl) (some 22) rfl (.int .i64 ((n / 4 : Nat) : Int)) (fun w => Eq.trans (b := .ok (.value (.int .i64 (IntKind.wrap .i64 ((n : Int).tdiv 4)))) w) (by kernel_rfl) (by rw [quo4 n (by omega)])) ?_
    refine k_val (want_no rfl) (some 23) rfl (.int .i64 (n : Int)) (fun _ => by kernel_rfl) ?_
    refine k_val (want_no rfl) (some 24) rfl (.int .i64 ((n / 4 : Nat) : Int)) (fun w => Eq.trans (b := .ok (.value (.int .i64 (IntKind.wrap .i64 ((n : Int).tdiv 4)))) w) (by kernel_rfl) (by rw [quo4 n (by omega)])) ?_
    refine k_val (want_no rfl) (some 25) rfl (.pointer (some ⟨g3, ((n / 4 : Nat)), none⟩)) (run_ix1 67 16 56 Tryd.underlying67 inz56 _ _ rfl g3 (by kernel_rfl) .i64 ((n / 4 : Nat)) (by kernel_rfl) (by omega)) ?_
    refine k_cell M (want_no rfl) (some 26) rfl 56 _ rfl g3 ((n / 4 : Nat)) (by kernel_rfl) (.int .u32 ((wd (bt p) j) ((n / 4 : Nat)))) (fun _ => by kernel_rfl) (fun w M => M.cell 2 rfl (by omega) rfl) ?_
    refine k_val (want_no rfl) (some 27) rfl (.int .u32 (vl ((wd (bt p) j) ((n / 4 : Nat))) 8)) (fun _ => by kernel_rfl) ?_
    refine k_val (want_no rfl) (some 28) rfl (.string p) (fun _ => by kernel_rfl) ?_
    refine k_val (want_no rfl) (some 29) rfl (.int .i64 (n : Int)) (fun _ => by kernel_rfl) ?_
    refine k_val (want_no rfl) (some 30) rfl (.int .u8 (bt p n)) (run_ixS 9 Tryd.underlying9 _ _ rfl p (by kernel_rfl) .i64 n (by kernel_rfl) (by omega)) ?_
    refine k_val (want_no rfl) (some 31) rfl (.int .u32 (cv .u32 (bt p n))) (fun _ => by kernel_rfl) ?_
    refine k_val (want_no rfl) (some 32) rfl (.int .u32 (vo (vl ((wd (bt p) j) ((n / 4 : Nat))) 8) (cv .u32 (bt p n)))) (fun _ => by kernel_rfl) ?_
    refine k_val (want_no rfl) (some 33) rfl (.pointer (some ⟨g3, ((n / 4 : Nat)), none⟩)) (run_ix1 67 16 56 Tryd.underlying67 inz56 _ _ rfl g3 (by kernel_rfl) .i64 ((n / 4 : Nat)) (by kernel_rfl) (by omega)) ?_
    refine kl_nil ?_
    intro u4 M
    replace M : Mem ⟨w, []⟩ [⟨g1, .cells (av 8 (w32 h)) 57⟩, ⟨g2, .cells (av 8 (w32 (fun _ => 0))) 57⟩, ⟨g3, .cells (av 16 (w32 (wd (bt p) j))) 67⟩] u4 := M
    refine pl_put1 M (want_no rfl) rfl 56 _ _ rfl 2 g3 ((n / 4 : Nat)) (by kernel_rfl) 16 67 (w32 (wd (bt p) j)) rfl (.int .u32 (vo (vl ((wd (bt p) j) ((n / 4 : Nat))) 8) (cv .u32 (bt p n)))) (w32 (upd (wd (bt p) j) ((n / 4 : Nat)) (vo (vl ((wd (bt p) j) ((n / 4 : Nat))) 8) (cv .u32 (bt p n))))) (by kernel_rfl) inz56 (by omega) rfl rfl (fun j _ => put_w32 _ _ _ j) ?_
    intro u5 M
    replace M : Mem ⟨w, []⟩ [⟨g1, .cells (av 8 (w32 h)) 57⟩, ⟨g2, .cells (av 8 (w32 (fun _ => 0))) 57⟩, ⟨g3, .cells (av 16 (w32 (upd (wd (bt p) j) ((n / 4 : Nat)) (vo (vl ((wd (bt p) j) ((n / 4 : Nat))) 8) (cv .u32 (bt p n)))))) 67⟩] u5 := M
    refine pl_nil ?_
    refine au_block ?_
    refine au_then ?_
    refine rg_lit ?_
    refine pl_val (want_no rfl) (some 19) rfl (.int .i64 (n : Int)) (fun _ => by kernel_rfl) ?_
    refine pl_val (want_no rfl) (some 20) rfl (.int .i64 ((n : Int) - 1)) (fun w => Eq.trans (b := .ok (.value (.int .i64 (IntKind.wrap .i64 ((n : Int) - 1)))) w) (by kernel_rfl) (by rw [wrap64 (by omega) (by omega)])) ?_
    refine pl_val (want_no rfl) (some 10) rfl (.int .i64 ((n : Int) - 1)) (fun _ => by kernel_rfl) ?_
    refine pl_nil ?_
    refine au_then ?_
    have E : upd (wd (bt p) j) (n / 4) (vo (vl ((wd (bt p) j) (n / 4)) 8) (cv .u32 (bt p n))) = wd (bt p) (j + 1) := by rw [hn]; rfl
    rw [E] at M
    exact ⟨fun k_ => ([.int .i64 (n : Int), .bool true, .int .i64 (n : Int), .int .i64 ((n : Int) - 1), .int .i64 (n : Int), .int .i64 ((n / 4 : Nat) : Int), .int .i64 (n : Int), .int .i64 ((n / 4 : Nat) : Int), .pointer (some ⟨g3, ((n / 4 : Nat)), none⟩), .int .u32 ((wd (bt p) j) ((n / 4 : Nat))), .int .u32 (vl ((wd (bt p) j) ((n / 4 : Nat))) 8), .string p, .int .i64 (n : Int), .int .u8 (bt p n), .int .u32 (cv .u32 (bt p n)), .int .u32 (vo (vl ((wd (bt p) j) ((n / 4 : Nat))) 8) (cv .u32 (bt p n))), .pointer (some ⟨g3, ((n / 4 : Nat)), none⟩)] : List Value).getD (k_ - 17) undef, (n : Int) - 1, by omega, by kernel_rfl, M⟩
  · intro a u0 hI
    obtain ⟨v0, m, hm, rfl, M⟩ := hI
    refine wp_seq ?_
    refine wp_seq ?_
    refine rg_lit ?_
    refine pl_val (want_no rfl) (some 17) rfl (.int .i64 m) (fun _ => by kernel_rfl) ?_
    refine pl_val (want_no rfl) (some 18) rfl (.bool false) (fun w => Eq.trans (b := .ok (.value (.bool (decide ((0 : Int) ≤ m)))) w) (by kernel_rfl) (by rw [decide_eq_false (by omega)])) ?_
    refine pl_nil ?_
    refine au_then ?_
    refine wp_cond_false (by kernel_rfl) ?_
    refine wp_exit ?_
    refine au_then_exit ?_
    refine au_then_exit ?_
    refine au_block_exit ?_
    refine au_then ?_
    refine wp_seq ?_
    refine rg_lit ?_
    refine pl_new M (want_no rfl) (some 11) rfl (.cells (av 16 (w32 (fun _ => 0))) 67) (fun _ => by kernel_rfl) ?_
    intro g4 u6 M
    replace M : Mem ⟨w, []⟩ [⟨g1, .cells (av 8 (w32 h)) 57⟩, ⟨g2, .cells (av 8 (w32 (fun _ => 0))) 57⟩, ⟨g3, .cells (av 16 (w32 (wd (bt p) 64))) 67⟩, ⟨g4, .cells (av 16 (w32 (fun _ => 0))) 67⟩] u6 := M
    refine pl_nil ?_
    refine au_then ?_
    refine wp_seq ?_
    refine rg_lit ?_
    refine pl_call M (want_no rfl) (some 34) rfl 26 #[] (.agg (av 8 (w32 HB))) (fun _ => by kernel_rfl) (fun w M => d_begin w M.laid) ?_
    intro u7 M
    refine pl_new M (want_no rfl) (some 12) rfl (.cells (av 8 (w32 (fun _ => 0))) 57) (fun _ => by kernel_rfl) ?_
    intro g5 u8 M
    replace M : Mem ⟨w, []⟩ [⟨g1, .cells (av 8 (w32 h)) 57⟩, ⟨g2, .cells (av 8 (w32 (fun _ => 0))) 57⟩, ⟨g3, .cells (av 16 (w32 (wd (bt p) 64))) 67⟩, ⟨g4, .cells (av 16 (w32 (fun _ => 0))) 67⟩, ⟨g5, .cells (av 8 (w32 (fun _ => 0))) 57⟩] u8 := M
    refine pl_put M (want_no rfl) rfl 57 _ _ rfl 4 g5 0 (by kernel_rfl) 8 57 (w32 (fun _ => 0)) rfl 8 (w32 HB) (w32 HB) (by kernel_rfl) inz57 (by decide) (fun _ _ => rfl) (fun j hj => by rw [if_pos (by omega), Nat.sub_zero]) ?_
    intro u9 M
    replace M : Mem ⟨w, []⟩ [⟨g1, .cells (av 8 (w32 h)) 57⟩, ⟨g2, .cells (av 8 (w32 (fun _ => 0))) 57⟩, ⟨g3, .cells (av 16 (w32 (wd (bt p) 64))) 67⟩, ⟨g4, .cells (av 16 (w32 (fun _ => 0))) 67⟩, ⟨g5, .cells (av 8 (w32 HB)) 57⟩] u9 := M
    refine pl_nil ?_
    refine au_then ?_
    refine wp_seq ?_
    refine wp_seq ?_
    refine rg_lit ?_
    refine pl_val (want_no rfl) (some 13) rfl (.int .i64 0) (fun _ => by kernel_rfl) ?_
    refine pl_nil ?_
    refine au_then ?_
    refine wp_block ?_
    refine au_loop (fun j a w' => ∃ v1 : Nat → Value, a = ⟨#[.agg (av 8 (w32 h)), .string p, .int .u64 ct, .bool true, .pointer (some ⟨g1, 0, none⟩), undef, undef, undef, .pointer (some ⟨g2, 0, none⟩), .pointer (some ⟨g3, 0, none⟩), .int .i64 m, .pointer (some ⟨g4, 0, none⟩), .pointer (some ⟨g5, 0, none⟩), .int .i64 (j : Int), undef, undef, undef, .int .i64 m, .bool false, v0 19, v0 20, v0 21, v0 22, v0 23, v0 24, v0 25, v0 26, v0 27, v0 28, v0 29, v0 30, v0 31, v0 32, v0 33, .agg (av 8 (w32 HB)), v1 35, v1 36, v1 37, v1 38, v1 39, v1 40, v1 41, v1 42, v1 43, v1 44, v1 45, v1 46, v1 47, v1 48, v1 49, undef, undef, undef, undef, undef, undef, undef, undef, undef, undef, undef, undef, undef, undef, undef, undef, undef, undef, undef, undef, undef, undef, undef, undef, undef, undef, undef, undef, undef, undef, undef, undef, undef, undef, undef, undef, undef, undef, undef, undef, undef, undef, undef, undef, undef, undef, undef, undef, undef, undef, undef, undef, undef, undef, undef, undef, undef, undef, undef, undef, undef, undef, undef, undef, undef, undef, undef, undef, undef, undef, undef, undef, undef, undef, undef, undef, undef, undef, undef, undef, undef, undef, undef, undef, undef, undef, undef, undef, undef, undef, undef, undef, undef, undef, undef, undef, undef, undef, undef, undef, undef, undef, undef, undef, undef, undef, undef, undef, undef, undef, undef, undef, undef, undef, undef, undef, undef, undef, undef, undef, undef, undef, undef], []⟩ ∧ Mem ⟨w, []⟩ [⟨g1, .cells (av 8 (w32 h)) 57⟩, ⟨g2, .cells (av 8 (w32 (fun _ => 0))) 57⟩, ⟨g3, .cells (av 16 (w32 (wd (bt p) 64))) 67⟩, ⟨g4, .cells (av 16 (w32 (vi h j))) 67⟩, ⟨g5, .cells (av 8 (w32 HB)) 57⟩] w') 8 ⟨fun k_ => ([undef, undef, undef, undef, undef, undef, undef, undef, undef, undef, undef, undef, undef, undef, undef] : List Value).getD (k_ - 35) undef, by kernel_rfl, M⟩ ?_ ?_
    · intro j a u0 hj hI
      obtain ⟨v1, rfl, M⟩ := hI
      refine wp_seq ?_
      refine wp_seq ?_
      refine rg_lit ?_
      refine pl_val (want_no rfl) (some 35) rfl (.int .i64 (j : Int)) (fun _ => by kernel_rfl) ?_
      refine pl_val (want_no rfl) (some 36) rfl (.bool true) (fun w => Eq.trans (b := .ok (.value (.bool (decide ((j : Int) < 8)))) w) (by kernel_rfl) (by rw [decide_eq_true (by omega)])) ?_
      refine pl_nil ?_
      refine au_then ?_
      refine wp_cond_true (by kernel_rfl) ?_
      refine wp_skip ?_
      refine au_then ?_
      refine wp_seq ?_
      refine wp_block ?_
      refine wp_seq ?_
      refine rg_lit ?_
      refine pl_val (want_no rfl) (some 39) rfl (.int .i64 (j : Int)) (fun _ => by kernel_rfl) ?_
      refine pl_val (want_no rfl) (some 40) rfl (.int .i64 (j : Int)) (fun _ => by kernel_rfl) ?_
      refine pl_val (want_no rfl) (some 41) rfl (.pointer (some ⟨g1, j, none⟩)) (run_ix1 57 8 56 Tryd.underlying57 inz56 _ _ rfl g1 (by kernel_rfl) .i64 (j) (by kernel_rfl) (by omega)) ?_
      refine pl_cell M (want_no rfl) (some 42) rfl 56 _ rfl g1 j (by kernel_rfl) (.int .u32 (h j)) (fun _ => by kernel_rfl) (fun w M => M.cell 0 rfl (by omega) rfl) ?_
      refine pl_val (want_no rfl) (some 43) rfl (.pointer (some ⟨g4, j, none⟩)) (run_ix1 67 16 56 Tryd.underlying67 inz56 _ _ rfl g4 (by kernel_rfl) .i64 (j) (by kernel_rfl) (by omega)) ?_
      refine pl_put1 M (want_no rfl) rfl 56 _ _ rfl 3 g4 j (by kernel_rfl) 16 67 (w32 (vi h j)) rfl (.int .u32 (h j)) (w32 (upd (vi h j) j (h j))) (by kernel_rfl) inz56 (by omega) rfl rfl (fun j _ => put_w32 _ _ _ j) ?_
      intro u10 M
      replace M : Mem ⟨w, []⟩ [⟨g1, .cells (av 8 (w32 h)) 57⟩, ⟨g2, .cells (av 8 (w32 (fun _ => 0))) 57⟩, ⟨g3, .cells (av 16 (w32 (wd (bt p) 64))) 67⟩, ⟨g4, .cells (av 16 (w32 (upd (vi h j) j (h j)))) 67⟩, ⟨g5, .cells (av 8 (w32 HB)) 57⟩] u10 := M
      refine pl_nil ?_
      refine au_then ?_
      refine rg_lit ?_
      refine pl_val (want_no rfl) (some 44) rfl (.int .i64 (j : Int)) (fun _ => by kernel_rfl) ?_
      refine pl_val (want_no rfl) (some 45) rfl (.int .i64 ((8 + j : Nat) : Int)) (fun w => Eq.trans (b := .ok (.value (.int .i64 (IntKind.wrap .i64 (8 + (j : Int))))) w) (by kernel_rfl) (by rw [wrap64 (by omega) (by omega)]; congr 3)) ?_
      refine pl_val (want_no rfl) (some 46) rfl (.int .i64 (j : Int)) (fun _ => by kernel_rfl) ?_
      refine pl_val (want_no rfl) (some 47) rfl (.pointer (some ⟨g5, j, none⟩)) (run_ix1 57 8 56 Tryd.underlying57 inz56 _ _ rfl g5 (by kernel_rfl) .i64 (j) (by kernel_rfl) (by omega)) ?_
      refine pl_cell M (want_no rfl) (some 48) rfl 56 _ rfl g5 j (by kernel_rfl) (.int .u32 (HB j)) (fun _ => by kernel_rfl) (fun w M => M.cell 4 rfl (by omega) rfl) ?_
      refine pl_val (want_no rfl) (some 49) rfl (.pointer (some ⟨g4, ((8 + j : Nat)), none⟩)) (run_ix1 67 16 56 Tryd.underlying67 inz56 _ _ rfl g4 (by kernel_rfl) .i64 ((8 + j : Nat)) (by kernel_rfl) (by omega)) ?_
      refine pl_put1 M (want_no rfl) rfl 56 _ _ rfl 3 g4 ((8 + j : Nat)) (by kernel_rfl) 16 67 (w32 (upd (vi h j) j (h j))) rfl (.int .u32 (HB j)) (w32 (upd (upd (vi h j) j (h j)) ((8 + j : Nat)) (HB j))) (by kernel_rfl) inz56 (by omega) rfl rfl (fun j _ => put_w32 _ _ _ j) ?_
      intro u11 M
      replace M : Mem ⟨w, []⟩ [⟨g1, .cells (av 8 (w32 h)) 57⟩, ⟨g2, .cells (av 8 (w32 (fun _ => 0))) 57⟩, ⟨g3, .cells (av 16 (w32 (wd (bt p) 64))) 67⟩, ⟨g4, .cells (av 16 (w32 (upd (upd (vi h j) j (h j)) ((8 + j : Nat)) (HB j)))) 67⟩, ⟨g5, .cells (av 8 (w32 HB)) 57⟩] u11 := M
      refine pl_nil ?_
      refine au_block ?_
      refine au_then ?_
      refine rg_lit ?_
      refine pl_val (want_no rfl) (some 37) rfl (.int .i64 (j : Int)) (fun _ => by kernel_rfl) ?_
      refine pl_val (want_no rfl) (some 38) rfl (.int .i64 ((j + 1 : Nat) : Int)) (fun w => Eq.trans (b := .ok (.value (.int .i64 (IntKind.wrap .i64 ((j : Int) + 1)))) w) (by kernel_rfl) (by rw [wrap64 (by omega) (by omega)]; congr 3)) ?_
      refine pl_val (want_no rfl) (some 13) rfl (.int .i64 ((j + 1 : Nat) : Int)) (fun _ => by kernel_rfl) ?_
      refine pl_nil ?_
      refine au_then ?_
      exact ⟨fun k_ => ([.int .i64 (j : Int), .bool true, .int .i64 (j : Int), .int .i64 ((j + 1 : Nat) : Int), .int .i64 (j : Int), .int .i64 (j : Int), .pointer (some ⟨g1, j, none⟩), .int .u32 (h j), .pointer (some ⟨g4, j, none⟩), .int .i64 (j : Int), .int .i64 ((8 + j : Nat) : Int), .int .i64 (j : Int), .pointer (some ⟨g5, j, none⟩), .int .u32 (HB j), .pointer (some ⟨g4, ((8 + j : Nat)), none⟩)] : List Value).getD (k_ - 35) undef, by kernel_rfl, M⟩
    · intro a u0 hI
      obtain ⟨v1, rfl, M⟩ := hI
      rw [vi_av] at M
      replace M : Mem ⟨w, []⟩ [⟨g1, .cells (av 8 (w32 h)) 57⟩, ⟨g2, .cells (av 8 (w32 (fun _ => 0))) 57⟩, ⟨g3, .cells (av 16 (w32 (wd (bt p) 64))) 67⟩, ⟨g4, .cells (av 16 (w32 (spB h))) 67⟩, ⟨g5, .cells (av 8 (w32 HB)) 57⟩] u0 := M
      refine wp_seq ?_
      refine wp_seq ?_
      refine rg_lit ?_
      refine pl_val (want_no rfl) (some 35) rfl (.int .i64 (8 : Int)) (fun _ => by kernel_rfl) ?_
      refine pl_val (want_no rfl) (some 36) rfl (.bool false) (fun w => Eq.trans (b := .ok (.value (.bool (decide (8 < 8)))) w) (by kernel_rfl) (by rw [decide_eq_false (by omega)])) ?_
      refine pl_nil ?_
      refine au_then ?_
      refine wp_cond_false (by kernel_rfl) ?_
      refine wp_exit ?_
      refine au_then_exit ?_
      refine au_then_exit ?_
      refine au_block_exit ?_
      refine au_then ?_
      refine wp_seq ?_
      refine rg_lit ?_
      refine pl_val (want_no rfl) (some 50) rfl (.pointer (some ⟨g4, 12, none⟩)) (fun _ => by kernel_rfl) ?_
      refine pl_cell M (want_no rfl) (some 51) rfl 56 _ rfl g4 12 (by kernel_rfl) (.int .u32 ((spB h) 12)) (fun _ => by kernel_rfl) (fun w M => M.cell 3 rfl (by decide) rfl) ?_
      refine pl_val (want_no rfl) (some 52) rfl (.int .u64 ct) (fun _ => by kernel_rfl) ?_
      refine pl_val (want_no rfl) (some 53) rfl (.int .u32 (cv .u32 ct)) (fun _ => by kernel_rfl) ?_
      refine pl_val (want_no rfl) (some 54) rfl (.int .u32 (vx ((spB h) 12) (cv .u32 ct))) (fun _ => by kernel_rfl) ?_
      refine pl_val (want_no rfl) (some 55) rfl (.pointer (some ⟨g4, 12, none⟩)) (fun _ => by kernel_rfl) ?_
      refine pl_put1 M (want_no rfl) rfl 56 _ _ rfl 3 g4 12 (by kernel_rfl) 16 67 (w32 (spB h)) rfl (.int .u32 (vx ((spB h) 12) (cv .u32 ct))) (w32 (upd (spB h) 12 (vx ((spB h) 12) (cv .u32 ct)))) (by kernel_rfl) inz56 (by decide) rfl rfl (fun j _ => put_w32 _ _ _ j) ?_
      intro u12 M
      replace M : Mem ⟨w, []⟩ [⟨g1, .cells (av 8 (w32 h)) 57⟩, ⟨g2, .cells (av 8 (w32 (fun _ => 0))) 57⟩, ⟨g3, .cells (av 16 (w32 (wd (bt p) 64))) 67⟩, ⟨g4, .cells (av 16 (w32 (upd (spB h) 12 (vx ((spB h) 12) (cv .u32 ct))))) 67⟩, ⟨g5, .cells (av 8 (w32 HB)) 57⟩] u12 := M
      refine pl_nil ?_
      refine au_then ?_
      refine wp_seq ?_
      refine rg_lit ?_
      refine pl_val (want_no rfl) (some 56) rfl (.pointer (some ⟨g4, 13, none⟩)) (fun _ => by kernel_rfl) ?_
      refine pl_cell M (want_no rfl) (some 57) rfl 56 _ rfl g4 13 (by kernel_rfl) (.int .u32 ((upd (spB h) 12 (vx ((spB h) 12) (cv .u32 ct))) 13)) (fun _ => by kernel_rfl) (fun w M => M.cell 3 rfl (by decide) rfl) ?_
      refine pl_val (want_no rfl) (some 58) rfl (.int .u64 ct) (fun _ => by kernel_rfl) ?_
      refine pl_val (want_no rfl) (some 59) rfl (.int .u64 (sr ct 32)) (fun _ => by kernel_rfl) ?_
      refine pl_val (want_no rfl) (some 60) rfl (.int .u32 (cv .u32 (sr ct 32))) (fun _ => by kernel_rfl) ?_
      refine pl_val (want_no rfl) (some 61) rfl (.int .u32 (vx ((upd (spB h) 12 (vx ((spB h) 12) (cv .u32 ct))) 13) (cv .u32 (sr ct 32)))) (fun _ => by kernel_rfl) ?_
      refine pl_val (want_no rfl) (some 62) rfl (.pointer (some ⟨g4, 13, none⟩)) (fun _ => by kernel_rfl) ?_
      refine pl_put1 M (want_no rfl) rfl 56 _ _ rfl 3 g4 13 (by kernel_rfl) 16 67 (w32 (upd (spB h) 12 (vx ((spB h) 12) (cv .u32 ct)))) rfl (.int .u32 (vx ((upd (spB h) 12 (vx ((spB h) 12) (cv .u32 ct))) 13) (cv .u32 (sr ct 32)))) (w32 (upd (upd (spB h) 12 (vx ((spB h) 12) (cv .u32 ct))) 13 (vx ((upd (spB h) 12 (vx ((spB h) 12) (cv .u32 ct))) 13) (cv .u32 (sr ct 32))))) (by kernel_rfl) inz56 (by decide) rfl rfl (fun j _ => put_w32 _ _ _ j) ?_
      intro u13 M
      replace M : Mem ⟨w, []⟩ [⟨g1, .cells (av 8 (w32 h)) 57⟩, ⟨g2, .cells (av 8 (w32 (fun _ => 0))) 57⟩, ⟨g3, .cells (av 16 (w32 (wd (bt p) 64))) 67⟩, ⟨g4, .cells (av 16 (w32 (upd (upd (spB h) 12 (vx ((spB h) 12) (cv .u32 ct))) 13 (vx ((upd (spB h) 12 (vx ((spB h) 12) (cv .u32 ct))) 13) (cv .u32 (sr ct 32)))))) 67⟩, ⟨g5, .cells (av 8 (w32 HB)) 57⟩] u13 := M
      refine pl_nil ?_
      refine au_then ?_
      refine wp_seq ?_
      refine wp_seq ?_
      refine rg_lit ?_
      refine pl_val (want_no rfl) (some 63) rfl (.bool true) (fun _ => by kernel_rfl) ?_
      refine pl_nil ?_
      refine au_then ?_
      refine wp_cond_true (by kernel_rfl) ?_
      refine rg_lit ?_
      refine pl_val (want_no rfl) (some 64) rfl (.pointer (some ⟨g4, 14, none⟩)) (fun _ => by kernel_rfl) ?_
      refine pl_cell M (want_no rfl) (some 65) rfl 56 _ rfl g4 14 (by kernel_rfl) (.int .u32 ((upd (upd (spB h) 12 (vx ((spB h) 12) (cv .u32 ct))) 13 (vx ((upd (spB h) 12 (vx ((spB h) 12) (cv .u32 ct))) 13) (cv .u32 (sr ct 32)))) 14)) (fun _ => by kernel_rfl) (fun w M => M.cell 3 rfl (by decide) rfl) ?_
      refine pl_val (want_no rfl) (some 66) rfl (.int .u32 (vt ((upd (upd (spB h) 12 (vx ((spB h) 12) (cv .u32 ct))) 13 (vx ((upd (spB h) 12 (vx ((spB h) 12) (cv .u32 ct))) 13) (cv .u32 (sr ct 32)))) 14))) (fun _ => by kernel_rfl) ?_
      refine pl_val (want_no rfl) (some 67) rfl (.pointer (some ⟨g4, 14, none⟩)) (fun _ => by kernel_rfl) ?_
      refine pl_put1 M (want_no rfl) rfl 56 _ _ rfl 3 g4 14 (by kernel_rfl) 16 67 (w32 (upd (upd (spB h) 12 (vx ((spB h) 12) (cv .u32 ct))) 13 (vx ((upd (spB h) 12 (vx ((spB h) 12) (cv .u32 ct))) 13) (cv .u32 (sr ct 32))))) rfl (.int .u32 (vt ((upd (upd (spB h) 12 (vx ((spB h) 12) (cv .u32 ct))) 13 (vx ((upd (spB h) 12 (vx ((spB h) 12) (cv .u32 ct))) 13) (cv .u32 (sr ct 32)))) 14))) (w32 (upd (upd (upd (spB h) 12 (vx ((spB h) 12) (cv .u32 ct))) 13 (vx ((upd (spB h) 12 (vx ((spB h) 12) (cv .u32 ct))) 13) (cv .u32 (sr ct 32)))) 14 (vt ((upd (upd (spB h) 12 (vx ((spB h) 12) (cv .u32 ct))) 13 (vx ((upd (spB h) 12 (vx ((spB h) 12) (cv .u32 ct))) 13) (cv .u32 (sr ct 32)))) 14)))) (by kernel_rfl) inz56 (by decide) rfl rfl (fun j _ => put_w32 _ _ _ j) ?_
      intro u14 M
      replace M : Mem ⟨w, []⟩ [⟨g1, .cells (av 8 (w32 h)) 57⟩, ⟨g2, .cells (av 8 (w32 (fun _ => 0))) 57⟩, ⟨g3, .cells (av 16 (w32 (wd (bt p) 64))) 67⟩, ⟨g4, .cells (av 16 (w32 (upd (upd (upd (spB h) 12 (vx ((spB h) 12) (cv .u32 ct))) 13 (vx ((upd (spB h) 12 (vx ((spB h) 12) (cv .u32 ct))) 13) (cv .u32 (sr ct 32)))) 14 (vt ((upd (upd (spB h) 12 (vx ((spB h) 12) (cv .u32 ct))) 13 (vx ((upd (spB h) 12 (vx ((spB h) 12) (cv .u32 ct))) 13) (cv .u32 (sr ct 32)))) 14))))) 67⟩, ⟨g5, .cells (av 8 (w32 HB)) 57⟩] u14 := M
      refine pl_nil ?_
      refine au_then ?_
      refine wp_seq ?_
      refine wp_seq ?_
      refine rg_lit ?_
      refine pl_val (want_no rfl) (some 14) rfl (.int .i64 0) (fun _ => by kernel_rfl) ?_
      refine pl_nil ?_
      refine au_then ?_
      refine wp_block ?_
      replace M : Mem ⟨w, []⟩ [⟨g1, .cells (av 8 (w32 h)) 57⟩, ⟨g2, .cells (av 8 (w32 (fun _ => 0))) 57⟩, ⟨g3, .cells (av 16 (w32 (wd (bt p) 64))) 67⟩, ⟨g4, .cells (av 16 (w32 (spr h ct true))) 67⟩, ⟨g5, .cells (av 8 (w32 HB)) 57⟩] u14 := M
      refine au_loop (fun j a w' => ∃ v2 : Nat → Value, a = ⟨#[.agg (av 8 (w32 h)), .string p, .int .u64 ct, .bool true, .pointer (some ⟨g1, 0, none⟩), undef, undef, undef, .pointer (some ⟨g2, 0, none⟩), .pointer (some ⟨g3, 0, none⟩), .int .i64 m, .pointer (some ⟨g4, 0, none⟩), .pointer (some ⟨g5, 0, none⟩), .int .i64 (8 : Int), .int .i64 (j : Int), v2 15, undef, .int .i64 m, .bool false, v0 19, v0 20, v0 21, v0 22, v0 23, v0 24, v0 25, v0 26, v0 27, v0 28, v0 29, v0 30, v0 31, v0 32, v0 33, .agg (av 8 (w32 HB)), .int .i64 (8 : Int), .bool false, v1 37, v1 38, v1 39, v1 40, v1 41, v1 42, v1 43, v1 44, v1 45, v1 46, v1 47, v1 48, v1 49, .pointer (some ⟨g4, 12, none⟩), .int .u32 ((spB h) 12), .int .u64 ct, .int .u32 (cv .u32 ct), .int .u32 (vx ((spB h) 12) (cv .u32 ct)), .pointer (some ⟨g4, 12, none⟩), .pointer (some ⟨g4, 13, none⟩), .int .u32 ((upd (spB h) 12 (vx ((spB h) 12) (cv .u32 ct))) 13), .int .u64 ct, .int .u64 (sr ct 32), .int .u32 (cv .u32 (sr ct 32)), .int .u32 (vx ((upd (spB h) 12 (vx ((spB h) 12) (cv .u32 ct))) 13) (cv .u32 (sr ct 32))), .pointer (some ⟨g4, 13, none⟩), .bool true, .pointer (some ⟨g4, 14, none⟩), .int .u32 ((upd (upd (spB h) 12 (vx ((spB h) 12) (cv .u32 ct))) 13 (vx ((upd (spB h) 12 (vx ((spB h) 12) (cv .u32 ct))) 13) (cv .u32 (sr ct 32)))) 14), .int .u32 (vt ((upd (upd (spB h) 12 (vx ((spB h) 12) (cv .u32 ct))) 13 (vx ((upd (spB h) 12 (vx ((spB h) 12) (cv .u32 ct))) 13) (cv .u32 (sr ct 32)))) 14)), .pointer (some ⟨g4, 14, none⟩), v2 68, v2 69, v2 70, v2 71, v2 72, v2 73, v2 74, v2 75, v2 76, v2 77, v2 78, v2 79, v2 80, v2 81, v2 82, v2 83, v2 84, v2 85, v2 86, v2 87, v2 88, v2 89, v2 90, v2 91, v2 92, v2 93, v2 94, v2 95, v2 96, v2 97, v2 98, v2 99, v2 100, v2 101, v2 102, v2 103, v2 104, v2 105, v2 106, v2 107, v2 108, v2 109, v2 110, v2 111, v2 112, v2 113, v2 114, v2 115, v2 116, v2 117, v2 118, v2 119, v2 120, v2 121, v2 122, v2 123, v2 124, v2 125, v2 126, v2 127, v2 128, v2 129, v2 130, v2 131, v2 132, v2 133, v2 134, v2 135, v2 136, v2 137, v2 138, v2 139, v2 140, v2 141, v2 142, v2 143, v2 144, v2 145, v2 146, v2 147, v2 148, v2 149, v2 150, v2 151, v2 152, v2 153, undef, undef, undef, undef, undef, undef, undef, undef, undef, undef, undef, undef, undef, undef, undef, undef, undef, undef, undef], []⟩ ∧ Mem ⟨w, []⟩ [⟨g1, .cells (av 8 (w32 h)) 57⟩, ⟨g2, .cells (av 8 (w32 (fun _ => 0))) 57⟩, ⟨g3, .cells (av 16 (w32 (wd (bt p) 64))) 67⟩, ⟨g4, .cells (av 16 (w32 (rd (wd (bt p) 64) (spr h ct true) j))) 67⟩, ⟨g5, .cells (av 8 (w32 HB)) 57⟩] w') 10 ⟨fun k_ => ([undef, undef, undef, undef, undef, undef, undef, undef, undef, undef, undef, undef, undef, undef, undef, undef, undef, undef, undef, undef, undef, undef, undef, undef, undef, undef, undef, undef, undef, undef, undef, undef, undef, undef, undef, undef, undef, undef, undef, undef, undef, undef, undef, undef, undef, undef, undef, undef, undef, undef, undef, undef, undef, undef, undef, undef, undef, undef, undef, undef, undef, undef, undef, undef, undef, undef, undef, undef, undef, undef, undef, undef, undef, undef, undef, undef, undef, undef, undef, undef, undef, undef, undef, undef, undef, undef, undef, undef, undef, undef, undef, undef, undef, undef, undef, undef, undef, undef, undef, undef, undef, undef, undef, undef, undef, undef, undef, undef, undef, undef, undef, undef, undef, undef, undef, undef, undef, undef, undef, undef, undef, undef, undef, undef, undef, undef, undef, undef, undef, undef, undef, undef, undef, undef, undef, undef, undef, undef, undef] : List Value).getD (k_ - 15) undef, by kernel_rfl, M⟩ ?_ ?_
      · intro j a u0 hj hI
        obtain ⟨v2, rfl, M⟩ := hI
        refine wp_seq ?_
        refine wp_seq ?_
        refine rg_lit ?_
        refine pl_val (want_no rfl) (some 68) rfl (.int .i64 (j : Int)) (fun _ => by kernel_rfl) ?_
        refine pl_val (want_no rfl) (some 69) rfl (.bool true) (fun w => Eq.trans (b := .ok (.value (.bool (decide ((j : Int) < 10)))) w) (by kernel_rfl) (by rw [decide_eq_true (by omega)])) ?_
        refine pl_nil ?_
        refine au_then ?_
        refine wp_cond_true (by kernel_rfl) ?_
        refine wp_skip ?_
        refine au_then ?_
        refine wp_seq ?_
        refine wp_block ?_
        refine wp_seq ?_
        refine rg_lit ?_
        refine pl_val (want_no rfl) (some 72) rfl (.int .i64 (j : Int)) (fun _ => by kernel_rfl) ?_
        refine pl_call M (want_no rfl) (some 73) rfl 32 #[.int .i64 (j : Int)] (.agg (av 16 (oi j))) (fun _ => by kernel_rfl) (fun w M => d_order j (by omega) w M.laid) ?_
        intro u15 M
        refine pl_new M (want_no rfl) (some 15) rfl (.cells (av 16 (wi (fun _ => 0))) 68) (fun _ => by kernel_rfl) ?_
        intro g6 u16 M
        replace M : Mem ⟨w, []⟩ [⟨g1, .cells (av 8 (w32 h)) 57⟩, ⟨g2, .cells (av 8 (w32 (fun _ => 0))) 57⟩, ⟨g3, .cells (av 16 (w32 (wd (bt p) 64))) 67⟩, ⟨g4, .cells (av 16 (w32 (rd (wd (bt p) 64) (spr h ct true) j))) 67⟩, ⟨g5, .cells (av 8 (w32 HB)) 57⟩, ⟨g6, .cells (av 16 (wi (fun _ => 0))) 68⟩] u16 := M
        refine pl_put M (want_no rfl) rfl 68 _ _ rfl 5 g6 0 (by kernel_rfl) 16 68 (wi (fun _ => 0)) rfl 16 (oi j) (oi j) (by kernel_rfl) inz68 (by decide) (fun _ _ => rfl) (fun j hj => by rw [if_pos (by omega), Nat.sub_zero]) ?_
        intro u17 M
        replace M : Mem ⟨w, []⟩ [⟨g1, .cells (av 8 (w32 h)) 57⟩, ⟨g2, .cells (av 8 (w32 (fun _ => 0))) 57⟩, ⟨g3, .cells (av 16 (w32 (wd (bt p) 64))) 67⟩, ⟨g4, .cells (av 16 (w32 (rd (wd (bt p) 64) (spr h ct true) j))) 67⟩, ⟨g5, .cells (av 8 (w32 HB)) 57⟩, ⟨g6, .cells (av 16 (oi j)) 68⟩] u17 := M
        refine pl_nil ?_
        refine au_then ?_
        refine wp_seq ?_
        refine rg_tail M 10 (by kernel_rfl) (by kernel_rfl) ?_
        simp only [List.take_succ_cons, List.take_zero]
        refine k_load M (want_no rfl) (some 74) rfl 67 _ rfl 3 g4 0 (by kernel_rfl) 16 67 (w32 (rd (wd (bt p) 64) (spr h ct true) j)) rfl 16 (w32 (rd (wd (bt p) 64) (spr h ct true) j)) (fun j _ => by rw [Nat.zero_add]) (by decide) _ Tryd.underlying67 rfl inz67 ?_
        refine k_val (want_no rfl) (some 75) rfl (.pointer (some ⟨g6, 0, none⟩)) (fun _ => by kernel_rfl) ?_
        refine k_cell M (want_no rfl) (some 76) rfl 3 _ rfl g6 0 (by kernel_rfl) (.int .i64 (OF (j * 16 + 0) : Int)) (fun _ => by kernel_rfl) (fun w M => M.cell 5 rfl (by decide) rfl) ?_
        refine k_val (want_no rfl) (some 77) rfl (.pointer (some ⟨g3, (OF (j * 16 + 0)), none⟩)) (run_ix1 67 16 56 Tryd.underlying67 inz56 _ _ rfl g3 (by kernel_rfl) .i64 (OF (j * 16 + 0)) (by kernel_rfl) (OF_lt _)) ?_
        refine k_cell M (want_no rfl) (some 78) rfl 56 _ rfl g3 (OF (j * 16 + 0)) (by kernel_rfl) (.int .u32 ((wd (bt p) 64) (OF (j * 16 + 0)))) (fun _ => by kernel_rfl) (fun w M => M.cell 2 rfl (OF_lt _) rfl) ?_
        refine k_val (want_no rfl) (some 79) rfl (.pointer (some ⟨g6, 1, none⟩)) (fun _ => by kernel_rfl) ?_
        refine k_cell M (want_no rfl) (some 80) rfl 3 _ rfl g6 1 (by kernel_rfl) (.int .i64 (OF (j * 16 + 1) : Int)) (fun _ => by kernel_rfl) (fun w M => M.cell 5 rfl (by decide) rfl) ?_
        refine k_val (want_no rfl) (some 81) rfl (.pointer (some ⟨g3, (OF (j * 16 + 1)), none⟩)) (run_ix1 67 16 56 Tryd.underlying67 inz56 _ _ rfl g3 (by kernel_rfl) .i64 (OF (j * 16 + 1)) (by kernel_rfl) (OF_lt _)) ?_
        refine k_cell M (want_no rfl) (some 82) rfl 56 _ rfl g3 (OF (j * 16 + 1)) (by kernel_rfl) (.int .u32 ((wd (bt p) 64) (OF (j * 16 + 1)))) (fun _ => by kernel_rfl) (fun w M => M.cell 2 rfl (OF_lt _) rfl) ?_
        refine k_call M (want_no rfl) (some 83) rfl 33 #[.agg (av 16 (w32 (rd (wd (bt p) 64) (spr h ct true) j))), .int .i64 0, .int .i64 4, .int .i64 8, .int .i64 12, .int .u32 ((wd (bt p) 64) (OF (j * 16 + 0))), .int .u32 ((wd (bt p) 64) (OF (j * 16 + 1)))] (.agg (av 16 (w32 (rn1 (wd (bt p) 64) (rd (wd (bt p) 64) (spr h ct true) j) j)))) (fun _ => by kernel_rfl) (fun w M => d_mix (rd (wd (bt p) 64) (spr h ct true) j) _ _ 0 4 8 12 (by decide) (by decide) (by decide) (by decide) (by decide) (by decide) (by decide) (by decide) (by decide) (by decide) w M.laid) ?_
        refine kl_nil ?_
        intro u18 M
        replace M : Mem ⟨w, []⟩ [⟨g1, .cells (av 8 (w32 h)) 57⟩, ⟨g2, .cells (av 8 (w32 (fun _ => 0))) 57⟩, ⟨g3, .cells (av 16 (w32 (wd (bt p) 64))) 67⟩, ⟨g4, .cells (av 16 (w32 (rd (wd (bt p) 64) (spr h ct true) j))) 67⟩, ⟨g5, .cells (av 8 (w32 HB)) 57⟩, ⟨g6, .cells (av 16 (oi j)) 68⟩] u18 := M
        refine pl_put M (want_no rfl) rfl 67 _ _ rfl 3 g4 0 (by kernel_rfl) 16 67 (w32 (rd (wd (bt p) 64) (spr h ct true) j)) rfl 16 (w32 (rn1 (wd (bt p) 64) (rd (wd (bt p) 64) (spr h ct true) j) j)) (w32 (rn1 (wd (bt p) 64) (rd (wd (bt p) 64) (spr h ct true) j) j)) (by kernel_rfl) inz67 (by decide) (fun _ _ => rfl) (fun j hj => by rw [if_pos (by omega), Nat.sub_zero]) ?_
        intro u19 M
        replace M : Mem ⟨w, []⟩ [⟨g1, .cells (av 8 (w32 h)) 57⟩, ⟨g2, .cells (av 8 (w32 (fun _ => 0))) 57⟩, ⟨g3, .cells (av 16 (w32 (wd (bt p) 64))) 67⟩, ⟨g4, .cells (av 16 (w32 (rn1 (wd (bt p) 64) (rd (wd (bt p) 64) (spr h ct true) j) j))) 67⟩, ⟨g5, .cells (av 8 (w32 HB)) 57⟩, ⟨g6, .cells (av 16 (oi j)) 68⟩] u19 := M
        refine pl_nil ?_
        refine au_then ?_
        refine wp_seq ?_
        refine rg_tail M 10 (by kernel_rfl) (by kernel_rfl) ?_
        simp only [List.take_succ_cons, List.take_zero]
        refine k_load M (want_no rfl) (some 84) rfl 67 _ rfl 3 g4 0 (by kernel_rfl) 16 67 (w32 (rn1 (wd (bt p) 64) (rd (wd (bt p) 64) (spr h ct true) j) j)) rfl 16 (w32 (rn1 (wd (bt p) 64) (rd (wd (bt p) 64) (spr h ct true) j) j)) (fun j _ => by rw [Nat.zero_add]) (by decide) _ Tryd.underlying67 rfl inz67 ?_
        refine k_val (want_no rfl) (some 85) rfl (.pointer (some ⟨g6, 2, none⟩)) (fun _ => by kernel_rfl) ?_
        refine k_cell M (want_no rfl) (some 86) rfl 3 _ rfl g6 2 (by kernel_rfl) (.int .i64 (OF (j * 16 + 2) : Int)) (fun _ => by kernel_rfl) (fun w M => M.cell 5 rfl (by decide) rfl) ?_
        refine k_val (want_no rfl) (some 87) rfl (.pointer (some ⟨g3, (OF (j * 16 + 2)), none⟩)) (run_ix1 67 16 56 Tryd.underlying67 inz56 _ _ rfl g3 (by kernel_rfl) .i64 (OF (j * 16 + 2)) (by kernel_rfl) (OF_lt _)) ?_
        refine k_cell M (want_no rfl) (some 88) rfl 56 _ rfl g3 (OF (j * 16 + 2)) (by kernel_rfl) (.int .u32 ((wd (bt p) 64) (OF (j * 16 + 2)))) (fun _ => by kernel_rfl) (fun w M => M.cell 2 rfl (OF_lt _) rfl) ?_
        refine k_val (want_no rfl) (some 89) rfl (.pointer (some ⟨g6, 3, none⟩)) (fun _ => by kernel_rfl) ?_
        refine k_cell M (want_no rfl) (some 90) rfl 3 _ rfl g6 3 (by kernel_rfl) (.int .i64 (OF (j * 16 + 3) : Int)) (fun _ => by kernel_rfl) (fun w M => M.cell 5 rfl (by decide) rfl) ?_
        refine k_val (want_no rfl) (some 91) rfl (.pointer (some ⟨g3, (OF (j * 16 + 3)), none⟩)) (run_ix1 67 16 56 Tryd.underlying67 inz56 _ _ rfl g3 (by kernel_rfl) .i64 (OF (j * 16 + 3)) (by kernel_rfl) (OF_lt _)) ?_
        refine k_cell M (want_no rfl) (some 92) rfl 56 _ rfl g3 (OF (j * 16 + 3)) (by kernel_rfl) (.int .u32 ((wd (bt p) 64) (OF (j * 16 + 3)))) (fun _ => by kernel_rfl) (fun w M => M.cell 2 rfl (OF_lt _) rfl) ?_
        refine k_call M (want_no rfl) (some 93) rfl 33 #[.agg (av 16 (w32 (rn1 (wd (bt p) 64) (rd (wd (bt p) 64) (spr h ct true) j) j))), .int .i64 1, .int .i64 5, .int .i64 9, .int .i64 13, .int .u32 ((wd (bt p) 64) (OF (j * 16 + 2))), .int .u32 ((wd (bt p) 64) (OF (j * 16 + 3)))] (.agg (av 16 (w32 (rn2 (wd (bt p) 64) (rd (wd (bt p) 64) (spr h ct true) j) j)))) (fun _ => by kernel_rfl) (fun w M => d_mix (rn1 (wd (bt p) 64) (rd (wd (bt p) 64) (spr h ct true) j) j) _ _ 1 5 9 13 (by decide) (by decide) (by decide) (by decide) (by decide) (by decide) (by decide) (by decide) (by decide) (by decide) w M.laid) ?_
        refine kl_nil ?_
        intro u20 M
        replace M : Mem ⟨w, []⟩ [⟨g1, .cells (av 8 (w32 h)) 57⟩, ⟨g2, .cells (av 8 (w32 (fun _ => 0))) 57⟩, ⟨g3, .cells (av 16 (w32 (wd (bt p) 64))) 67⟩, ⟨g4, .cells (av 16 (w32 (rn1 (wd (bt p) 64) (rd (wd (bt p) 64) (spr h ct true) j) j))) 67⟩, ⟨g5, .cells (av 8 (w32 HB)) 57⟩, ⟨g6, .cells (av 16 (oi j)) 68⟩] u20 := M
        refine pl_put M (want_no rfl) rfl 67 _ _ rfl 3 g4 0 (by kernel_rfl) 16 67 (w32 (rn1 (wd (bt p) 64) (rd (wd (bt p) 64) (spr h ct true) j) j)) rfl 16 (w32 (rn2 (wd (bt p) 64) (rd (wd (bt p) 64) (spr h ct true) j) j)) (w32 (rn2 (wd (bt p) 64) (rd (wd (bt p) 64) (spr h ct true) j) j)) (by kernel_rfl) inz67 (by decide) (fun _ _ => rfl) (fun j hj => by rw [if_pos (by omega), Nat.sub_zero]) ?_
        intro u21 M
        replace M : Mem ⟨w, []⟩ [⟨g1, .cells (av 8 (w32 h)) 57⟩, ⟨g2, .cells (av 8 (w32 (fun _ => 0))) 57⟩, ⟨g3, .cells (av 16 (w32 (wd (bt p) 64))) 67⟩, ⟨g4, .cells (av 16 (w32 (rn2 (wd (bt p) 64) (rd (wd (bt p) 64) (spr h ct true) j) j))) 67⟩, ⟨g5, .cells (av 8 (w32 HB)) 57⟩, ⟨g6, .cells (av 16 (oi j)) 68⟩] u21 := M
        refine pl_nil ?_
        refine au_then ?_
        refine wp_seq ?_
        refine rg_tail M 10 (by kernel_rfl) (by kernel_rfl) ?_
        simp only [List.take_succ_cons, List.take_zero]
        refine k_load M (want_no rfl) (some 94) rfl 67 _ rfl 3 g4 0 (by kernel_rfl) 16 67 (w32 (rn2 (wd (bt p) 64) (rd (wd (bt p) 64) (spr h ct true) j) j)) rfl 16 (w32 (rn2 (wd (bt p) 64) (rd (wd (bt p) 64) (spr h ct true) j) j)) (fun j _ => by rw [Nat.zero_add]) (by decide) _ Tryd.underlying67 rfl inz67 ?_
        refine k_val (want_no rfl) (some 95) rfl (.pointer (some ⟨g6, 4, none⟩)) (fun _ => by kernel_rfl) ?_
        refine k_cell M (want_no rfl) (some 96) rfl 3 _ rfl g6 4 (by kernel_rfl) (.int .i64 (OF (j * 16 + 4) : Int)) (fun _ => by kernel_rfl) (fun w M => M.cell 5 rfl (by decide) rfl) ?_
        refine k_val (want_no rfl) (some 97) rfl (.pointer (some ⟨g3, (OF (j * 16 + 4)), none⟩)) (run_ix1 67 16 56 Tryd.underlying67 inz56 _ _ rfl g3 (by kernel_rfl) .i64 (OF (j * 16 + 4)) (by kernel_rfl) (OF_lt _)) ?_
        refine k_cell M (want_no rfl) (some 98) rfl 56 _ rfl g3 (OF (j * 16 + 4)) (by kernel_rfl) (.int .u32 ((wd (bt p) 64) (OF (j * 16 + 4)))) (fun _ => by kernel_rfl) (fun w M => M.cell 2 rfl (OF_lt _) rfl) ?_
        refine k_val (want_no rfl) (some 99) rfl (.pointer (some ⟨g6, 5, none⟩)) (fun _ => by kernel_rfl) ?_
        refine k_cell M (want_no rfl) (some 100) rfl 3 _ rfl g6 5 (by kernel_rfl) (.int .i64 (OF (j * 16 + 5) : Int)) (fun _ => by kernel_rfl) (fun w M => M.cell 5 rfl (by decide) rfl) ?_
        refine k_val (want_no rfl) (some 101) rfl (.pointer (some ⟨g3, (OF (j * 16 + 5)), none⟩)) (run_ix1 67 16 56 Tryd.underlying67 inz56 _ _ rfl g3 (by kernel_rfl) .i64 (OF (j * 16 + 5)) (by kernel_rfl) (OF_lt _)) ?_
        refine k_cell M (want_no rfl) (some 102) rfl 56 _ rfl g3 (OF (j * 16 + 5)) (by kernel_rfl) (.int .u32 ((wd (bt p) 64) (OF (j * 16 + 5)))) (fun _ => by kernel_rfl) (fun w M => M.cell 2 rfl (OF_lt _) rfl) ?_
        refine k_call M (want_no rfl) (some 103) rfl 33 #[.agg (av 16 (w32 (rn2 (wd (bt p) 64) (rd (wd (bt p) 64) (spr h ct true) j) j))), .int .i64 2, .int .i64 6, .int .i64 10, .int .i64 14, .int .u32 ((wd (bt p) 64) (OF (j * 16 + 4))), .int .u32 ((wd (bt p) 64) (OF (j * 16 + 5)))] (.agg (av 16 (w32 (rn3 (wd (bt p) 64) (rd (wd (bt p) 64) (spr h ct true) j) j)))) (fun _ => by kernel_rfl) (fun w M => d_mix (rn2 (wd (bt p) 64) (rd (wd (bt p) 64) (spr h ct true) j) j) _ _ 2 6 10 14 (by decide) (by decide) (by decide) (by decide) (by decide) (by decide) (by decide) (by decide) (by decide) (by decide) w M.laid) ?_
        refine kl_nil ?_
        intro u22 M
        replace M : Mem ⟨w, []⟩ [⟨g1, .cells (av 8 (w32 h)) 57⟩, ⟨g2, .cells (av 8 (w32 (fun _ => 0))) 57⟩, ⟨g3, .cells (av 16 (w32 (wd (bt p) 64))) 67⟩, ⟨g4, .cells (av 16 (w32 (rn2 (wd (bt p) 64) (rd (wd (bt p) 64) (spr h ct true) j) j))) 67⟩, ⟨g5, .cells (av 8 (w32 HB)) 57⟩, ⟨g6, .cells (av 16 (oi j)) 68⟩] u22 := M
        refine pl_put M (want_no rfl) rfl 67 _ _ rfl 3 g4 0 (by kernel_rfl) 16 67 (w32 (rn2 (wd (bt p) 64) (rd (wd (bt p) 64) (spr h ct true) j) j)) rfl 16 (w32 (rn3 (wd (bt p) 64) (rd (wd (bt p) 64) (spr h ct true) j) j)) (w32 (rn3 (wd (bt p) 64) (rd (wd (bt p) 64) (spr h ct true) j) j)) (by kernel_rfl) inz67 (by decide) (fun _ _ => rfl) (fun j hj => by rw [if_pos (by omega), Nat.sub_zero]) ?_
        intro u23 M
        replace M : Mem ⟨w, []⟩ [⟨g1, .cells (av 8 (w32 h)) 57⟩, ⟨g2, .cells (av 8 (w32 (fun _ => 0))) 57⟩, ⟨g3, .cells (av 16 (w32 (wd (bt p) 64))) 67⟩, ⟨g4, .cells (av 16 (w32 (rn3 (wd (bt p) 64) (rd (wd (bt p) 64) (spr h ct true) j) j))) 67⟩, ⟨g5, .cells (av 8 (w32 HB)) 57⟩, ⟨g6, .cells (av 16 (oi j)) 68⟩] u23 := M
        refine pl_nil ?_
        refine au_then ?_
        refine wp_seq ?_
        refine rg_tail M 10 (by kernel_rfl) (by kernel_rfl) ?_
        simp only [List.take_succ_cons, List.take_zero]
        refine k_load M (want_no rfl) (some 104) rfl 67 _ rfl 3 g4 0 (by kernel_rfl) 16 67 (w32 (rn3 (wd (bt p) 64) (rd (wd (bt p) 64) (spr h ct true) j) j)) rfl 16 (w32 (rn3 (wd (bt p) 64) (rd (wd (bt p) 64) (spr h ct true) j) j)) (fun j _ => by rw [Nat.zero_add]) (by decide) _ Tryd.underlying67 rfl inz67 ?_
        refine k_val (want_no rfl) (some 105) rfl (.pointer (some ⟨g6, 6, none⟩)) (fun _ => by kernel_rfl) ?_
        refine k_cell M (want_no rfl) (some 106) rfl 3 _ rfl g6 6 (by kernel_rfl) (.int .i64 (OF (j * 16 + 6) : Int)) (fun _ => by kernel_rfl) (fun w M => M.cell 5 rfl (by decide) rfl) ?_
        refine k_val (want_no rfl) (some 107) rfl (.pointer (some ⟨g3, (OF (j * 16 + 6)), none⟩)) (run_ix1 67 16 56 Tryd.underlying67 inz56 _ _ rfl g3 (by kernel_rfl) .i64 (OF (j * 16 + 6)) (by kernel_rfl) (OF_lt _)) ?_
        refine k_cell M (want_no rfl) (some 108) rfl 56 _ rfl g3 (OF (j * 16 + 6)) (by kernel_rfl) (.int .u32 ((wd (bt p) 64) (OF (j * 16 + 6)))) (fun _ => by kernel_rfl) (fun w M => M.cell 2 rfl (OF_lt _) rfl) ?_
        refine k_val (want_no rfl) (some 109) rfl (.pointer (some ⟨g6, 7, none⟩)) (fun _ => by kernel_rfl) ?_
        refine k_cell M (want_no rfl) (some 110) rfl 3 _ rfl g6 7 (by kernel_rfl) (.int .i64 (OF (j * 16 + 7) : Int)) (fun _ => by kernel_rfl) (fun w M => M.cell 5 rfl (by decide) rfl) ?_
        refine k_val (want_no rfl) (some 111) rfl (.pointer (some ⟨g3, (OF (j * 16 + 7)), none⟩)) (run_ix1 67 16 56 Tryd.underlying67 inz56 _ _ rfl g3 (by kernel_rfl) .i64 (OF (j * 16 + 7)) (by kernel_rfl) (OF_lt _)) ?_
        refine k_cell M (want_no rfl) (some 112) rfl 56 _ rfl g3 (OF (j * 16 + 7)) (by kernel_rfl) (.int .u32 ((wd (bt p) 64) (OF (j * 16 + 7)))) (fun _ => by kernel_rfl) (fun w M => M.cell 2 rfl (OF_lt _) rfl) ?_
        refine k_call M (want_no rfl) (some 113) rfl 33 #[.agg (av 16 (w32 (rn3 (wd (bt p) 64) (rd (wd (bt p) 64) (spr h ct true) j) j))), .int .i64 3, .int .i64 7, .int .i64 11, .int .i64 15, .int .u32 ((wd (bt p) 64) (OF (j * 16 + 6))), .int .u32 ((wd (bt p) 64) (OF (j * 16 + 7)))] (.agg (av 16 (w32 (rn4 (wd (bt p) 64) (rd (wd (bt p) 64) (spr h ct true) j) j)))) (fun _ => by kernel_rfl) (fun w M => d_mix (rn3 (wd (bt p) 64) (rd (wd (bt p) 64) (spr h ct true) j) j) _ _ 3 7 11 15 (by decide) (by decide) (by decide) (by decide) (by decide) (by decide) (by decide) (by decide) (by decide) (by decide) w M.laid) ?_
        refine kl_nil ?_
        intro u24 M
        replace M : Mem ⟨w, []⟩ [⟨g1, .cells (av 8 (w32 h)) 57⟩, ⟨g2, .cells (av 8 (w32 (fun _ => 0))) 57⟩, ⟨g3, .cells (av 16 (w32 (wd (bt p) 64))) 67⟩, ⟨g4, .cells (av 16 (w32 (rn3 (wd (bt p) 64) (rd (wd (bt p) 64) (spr h ct true) j) j))) 67⟩, ⟨g5, .cells (av 8 (w32 HB)) 57⟩, ⟨g6, .cells (av 16 (oi j)) 68⟩] u24 := M
        refine pl_put M (want_no rfl) rfl 67 _ _ rfl 3 g4 0 (by kernel_rfl) 16 67 (w32 (rn3 (wd (bt p) 64) (rd (wd (bt p) 64) (spr h ct true) j) j)) rfl 16 (w32 (rn4 (wd (bt p) 64) (rd (wd (bt p) 64) (spr h ct true) j) j)) (w32 (rn4 (wd (bt p) 64) (rd (wd (bt p) 64) (spr h ct true) j) j)) (by kernel_rfl) inz67 (by decide) (fun _ _ => rfl) (fun j hj => by rw [if_pos (by omega), Nat.sub_zero]) ?_
        intro u25 M
        replace M : Mem ⟨w, []⟩ [⟨g1, .cells (av 8 (w32 h)) 57⟩, ⟨g2, .cells (av 8 (w32 (fun _ => 0))) 57⟩, ⟨g3, .cells (av 16 (w32 (wd (bt p) 64))) 67⟩, ⟨g4, .cells (av 16 (w32 (rn4 (wd (bt p) 64) (rd (wd (bt p) 64) (spr h ct true) j) j))) 67⟩, ⟨g5, .cells (av 8 (w32 HB)) 57⟩, ⟨g6, .cells (av 16 (oi j)) 68⟩] u25 := M
        refine pl_nil ?_
        refine au_then ?_
        refine wp_seq ?_
        refine rg_tail M 10 (by kernel_rfl) (by kernel_rfl) ?_
        simp only [List.take_succ_cons, List.take_zero]
        refine k_load M (want_no rfl) (some 114) rfl 67 _ rfl 3 g4 0 (by kernel_rfl) 16 67 (w32 (rn4 (wd (bt p) 64) (rd (wd (bt p) 64) (spr h ct true) j) j)) rfl 16 (w32 (rn4 (wd (bt p) 64) (rd (wd (bt p) 64) (spr h ct true) j) j)) (fun j _ => by rw [Nat.zero_add]) (by decide) _ Tryd.underlying67 rfl inz67 ?_
        refine k_val (want_no rfl) (some 115) rfl (.pointer (some ⟨g6, 8, none⟩)) (fun _ => by kernel_rfl) ?_
        refine k_cell M (want_no rfl) (some 116) rfl 3 _ rfl g6 8 (by kernel_rfl) (.int .i64 (OF (j * 16 + 8) : Int)) (fun _ => by kernel_rfl) (fun w M => M.cell 5 rfl (by decide) rfl) ?_
        refine k_val (want_no rfl) (some 117) rfl (.pointer (some ⟨g3, (OF (j * 16 + 8)), none⟩)) (run_ix1 67 16 56 Tryd.underlying67 inz56 _ _ rfl g3 (by kernel_rfl) .i64 (OF (j * 16 + 8)) (by kernel_rfl) (OF_lt _)) ?_
        refine k_cell M (want_no rfl) (some 118) rfl 56 _ rfl g3 (OF (j * 16 + 8)) (by kernel_rfl) (.int .u32 ((wd (bt p) 64) (OF (j * 16 + 8)))) (fun _ => by kernel_rfl) (fun w M => M.cell 2 rfl (OF_lt _) rfl) ?_
        refine k_val (want_no rfl) (some 119) rfl (.pointer (some ⟨g6, 9, none⟩)) (fun _ => by kernel_rfl) ?_
        refine k_cell M (want_no rfl) (some 120) rfl 3 _ rfl g6 9 (by kernel_rfl) (.int .i64 (OF (j * 16 + 9) : Int)) (fun _ => by kernel_rfl) (fun w M => M.cell 5 rfl (by decide) rfl) ?_
        refine k_val (want_no rfl) (some 121) rfl (.pointer (some ⟨g3, (OF (j * 16 + 9)), none⟩)) (run_ix1 67 16 56 Tryd.underlying67 inz56 _ _ rfl g3 (by kernel_rfl) .i64 (OF (j * 16 + 9)) (by kernel_rfl) (OF_lt _)) ?_
        refine k_cell M (want_no rfl) (some 122) rfl 56 _ rfl g3 (OF (j * 16 + 9)) (by kernel_rfl) (.int .u32 ((wd (bt p) 64) (OF (j * 16 + 9)))) (fun _ => by kernel_rfl) (fun w M => M.cell 2 rfl (OF_lt _) rfl) ?_
        refine k_call M (want_no rfl) (some 123) rfl 33 #[.agg (av 16 (w32 (rn4 (wd (bt p) 64) (rd (wd (bt p) 64) (spr h ct true) j) j))), .int .i64 0, .int .i64 5, .int .i64 10, .int .i64 15, .int .u32 ((wd (bt p) 64) (OF (j * 16 + 8))), .int .u32 ((wd (bt p) 64) (OF (j * 16 + 9)))] (.agg (av 16 (w32 (rn5 (wd (bt p) 64) (rd (wd (bt p) 64) (spr h ct true) j) j)))) (fun _ => by kernel_rfl) (fun w M => d_mix (rn4 (wd (bt p) 64) (rd (wd (bt p) 64) (spr h ct true) j) j) _ _ 0 5 10 15 (by decide) (by decide) (by decide) (by decide) (by decide) (by decide) (by decide) (by decide) (by decide) (by decide) w M.laid) ?_
        refine kl_nil ?_
        intro u26 M
        replace M : Mem ⟨w, []⟩ [⟨g1, .cells (av 8 (w32 h)) 57⟩, ⟨g2, .cells (av 8 (w32 (fun _ => 0))) 57⟩, ⟨g3, .cells (av 16 (w32 (wd (bt p) 64))) 67⟩, ⟨g4, .cells (av 16 (w32 (rn4 (wd (bt p) 64) (rd (wd (bt p) 64) (spr h ct true) j) j))) 67⟩, ⟨g5, .cells (av 8 (w32 HB)) 57⟩, ⟨g6, .cells (av 16 (oi j)) 68⟩] u26 := M
        refine pl_put M (want_no rfl) rfl 67 _ _ rfl 3 g4 0 (by kernel_rfl) 16 67 (w32 (rn4 (wd (bt p) 64) (rd (wd (bt p) 64) (spr h ct true) j) j)) rfl 16 (w32 (rn5 (wd (bt p) 64) (rd (wd (bt p) 64) (spr h ct true) j) j)) (w32 (rn5 (wd (bt p) 64) (rd (wd (bt p) 64) (spr h ct true) j) j)) (by kernel_rfl) inz67 (by decide) (fun _ _ => rfl) (fun j hj => by rw [if_pos (by omega), Nat.sub_zero]) ?_
        intro u27 M
        replace M : Mem ⟨w, []⟩ [⟨g1, .cells (av 8 (w32 h)) 57⟩, ⟨g2, .cells (av 8 (w32 (fun _ => 0))) 57⟩, ⟨g3, .cells (av 16 (w32 (wd (bt p) 64))) 67⟩, ⟨g4, .cells (av 16 (w32 (rn5 (wd (bt p) 64) (rd (wd (bt p) 64) (spr h ct true) j) j))) 67⟩, ⟨g5, .cells (av 8 (w32 HB)) 57⟩, ⟨g6, .cells (av 16 (oi j)) 68⟩] u27 := M
        refine pl_nil ?_
        refine au_then ?_
        refine wp_seq ?_
        refine rg_tail M 10 (by kernel_rfl) (by kernel_rfl) ?_
        simp only [List.take_succ_cons, List.take_zero]
        refine k_load M (want_no rfl) (some 124) rfl 67 _ rfl 3 g4 0 (by kernel_rfl) 16 67 (w32 (rn5 (wd (bt p) 64) (rd (wd (bt p) 64) (spr h ct true) j) j)) rfl 16 (w32 (rn5 (wd (bt p) 64) (rd (wd (bt p) 64) (spr h ct true) j) j)) (fun j _ => by rw [Nat.zero_add]) (by decide) _ Tryd.underlying67 rfl inz67 ?_
        refine k_val (want_no rfl) (some 125) rfl (.pointer (some ⟨g6, 10, none⟩)) (fun _ => by kernel_rfl) ?_
        refine k_cell M (want_no rfl) (some 126) rfl 3 _ rfl g6 10 (by kernel_rfl) (.int .i64 (OF (j * 16 + 10) : Int)) (fun _ => by kernel_rfl) (fun w M => M.cell 5 rfl (by decide) rfl) ?_
        refine k_val (want_no rfl) (some 127) rfl (.pointer (some ⟨g3, (OF (j * 16 + 10)), none⟩)) (run_ix1 67 16 56 Tryd.underlying67 inz56 _ _ rfl g3 (by kernel_rfl) .i64 (OF (j * 16 + 10)) (by kernel_rfl) (OF_lt _)) ?_
        refine k_cell M (want_no rfl) (some 128) rfl 56 _ rfl g3 (OF (j * 16 + 10)) (by kernel_rfl) (.int .u32 ((wd (bt p) 64) (OF (j * 16 + 10)))) (fun _ => by kernel_rfl) (fun w M => M.cell 2 rfl (OF_lt _) rfl) ?_
        refine k_val (want_no rfl) (some 129) rfl (.pointer (some ⟨g6, 11, none⟩)) (fun _ => by kernel_rfl) ?_
        refine k_cell M (want_no rfl) (some 130) rfl 3 _ rfl g6 11 (by kernel_rfl) (.int .i64 (OF (j * 16 + 11) : Int)) (fun _ => by kernel_rfl) (fun w M => M.cell 5 rfl (by decide) rfl) ?_
        refine k_val (want_no rfl) (some 131) rfl (.pointer (some ⟨g3, (OF (j * 16 + 11)), none⟩)) (run_ix1 67 16 56 Tryd.underlying67 inz56 _ _ rfl g3 (by kernel_rfl) .i64 (OF (j * 16 + 11)) (by kernel_rfl) (OF_lt _)) ?_
        refine k_cell M (want_no rfl) (some 132) rfl 56 _ rfl g3 (OF (j * 16 + 11)) (by kernel_rfl) (.int .u32 ((wd (bt p) 64) (OF (j * 16 + 11)))) (fun _ => by kernel_rfl) (fun w M => M.cell 2 rfl (OF_lt _) rfl) ?_
        refine k_call M (want_no rfl) (some 133) rfl 33 #[.agg (av 16 (w32 (rn5 (wd (bt p) 64) (rd (wd (bt p) 64) (spr h ct true) j) j))), .int .i64 1, .int .i64 6, .int .i64 11, .int .i64 12, .int .u32 ((wd (bt p) 64) (OF (j * 16 + 10))), .int .u32 ((wd (bt p) 64) (OF (j * 16 + 11)))] (.agg (av 16 (w32 (rn6 (wd (bt p) 64) (rd (wd (bt p) 64) (spr h ct true) j) j)))) (fun _ => by kernel_rfl) (fun w M => d_mix (rn5 (wd (bt p) 64) (rd (wd (bt p) 64) (spr h ct true) j) j) _ _ 1 6 11 12 (by decide) (by decide) (by decide) (by decide) (by decide) (by decide) (by decide) (by decide) (by decide) (by decide) w M.laid) ?_
        refine kl_nil ?_
        intro u28 M
        replace M : Mem ⟨w, []⟩ [⟨g1, .cells (av 8 (w32 h)) 57⟩, ⟨g2, .cells (av 8 (w32 (fun _ => 0))) 57⟩, ⟨g3, .cells (av 16 (w32 (wd (bt p) 64))) 67⟩, ⟨g4, .cells (av 16 (w32 (rn5 (wd (bt p) 64) (rd (wd (bt p) 64) (spr h ct true) j) j))) 67⟩, ⟨g5, .cells (av 8 (w32 HB)) 57⟩, ⟨g6, .cells (av 16 (oi j)) 68⟩] u28 := M
        refine pl_put M (want_no rfl) rfl 67 _ _ rfl 3 g4 0 (by kernel_rfl) 16 67 (w32 (rn5 (wd (bt p) 64) (rd (wd (bt p) 64) (spr h ct true) j) j)) rfl 16 (w32 (rn6 (wd (bt p) 64) (rd (wd (bt p) 64) (spr h ct true) j) j)) (w32 (rn6 (wd (bt p) 64) (rd (wd (bt p) 64) (spr h ct true) j) j)) (by kernel_rfl) inz67 (by decide) (fun _ _ => rfl) (fun j hj => by rw [if_pos (by omega), Nat.sub_zero]) ?_
        intro u29 M
        replace M : Mem ⟨w, []⟩ [⟨g1, .cells (av 8 (w32 h)) 57⟩, ⟨g2, .cells (av 8 (w32 (fun _ => 0))) 57⟩, ⟨g3, .cells (av 16 (w32 (wd (bt p) 64))) 67⟩, ⟨g4, .cells (av 16 (w32 (rn6 (wd (bt p) 64) (rd (wd (bt p) 64) (spr h ct true) j) j))) 67⟩, ⟨g5, .cells (av 8 (w32 HB)) 57⟩, ⟨g6, .cells (av 16 (oi j)) 68⟩] u29 := M
        refine pl_nil ?_
        refine au_then ?_
        refine wp_seq ?_
        refine rg_tail M 10 (by kernel_rfl) (by kernel_rfl) ?_
        simp only [List.take_succ_cons, List.take_zero]
        refine k_load M (want_no rfl) (some 134) rfl 67 _ rfl 3 g4 0 (by kernel_rfl) 16 67 (w32 (rn6 (wd (bt p) 64) (rd (wd (bt p) 64) (spr h ct true) j) j)) rfl 16 (w32 (rn6 (wd (bt p) 64) (rd (wd (bt p) 64) (spr h ct true) j) j)) (fun j _ => by rw [Nat.zero_add]) (by decide) _ Tryd.underlying67 rfl inz67 ?_
        refine k_val (want_no rfl) (some 135) rfl (.pointer (some ⟨g6, 12, none⟩)) (fun _ => by kernel_rfl) ?_
        refine k_cell M (want_no rfl) (some 136) rfl 3 _ rfl g6 12 (by kernel_rfl) (.int .i64 (OF (j * 16 + 12) : Int)) (fun _ => by kernel_rfl) (fun w M => M.cell 5 rfl (by decide) rfl) ?_
        refine k_val (want_no rfl) (some 137) rfl (.pointer (some ⟨g3, (OF (j * 16 + 12)), none⟩)) (run_ix1 67 16 56 Tryd.underlying67 inz56 _ _ rfl g3 (by kernel_rfl) .i64 (OF (j * 16 + 12)) (by kernel_rfl) (OF_lt _)) ?_
        refine k_cell M (want_no rfl) (some 138) rfl 56 _ rfl g3 (OF (j * 16 + 12)) (by kernel_rfl) (.int .u32 ((wd (bt p) 64) (OF (j * 16 + 12)))) (fun _ => by kernel_rfl) (fun w M => M.cell 2 rfl (OF_lt _) rfl) ?_
        refine k_val (want_no rfl) (some 139) rfl (.pointer (some ⟨g6, 13, none⟩)) (fun _ => by kernel_rfl) ?_
        refine k_cell M (want_no rfl) (some 140) rfl 3 _ rfl g6 13 (by kernel_rfl) (.int .i64 (OF (j * 16 + 13) : Int)) (fun _ => by kernel_rfl) (fun w M => M.cell 5 rfl (by decide) rfl) ?_
        refine k_val (want_no rfl) (some 141) rfl (.pointer (some ⟨g3, (OF (j * 16 + 13)), none⟩)) (run_ix1 67 16 56 Tryd.underlying67 inz56 _ _ rfl g3 (by kernel_rfl) .i64 (OF (j * 16 + 13)) (by kernel_rfl) (OF_lt _)) ?_
        refine k_cell M (want_no rfl) (some 142) rfl 56 _ rfl g3 (OF (j * 16 + 13)) (by kernel_rfl) (.int .u32 ((wd (bt p) 64) (OF (j * 16 + 13)))) (fun _ => by kernel_rfl) (fun w M => M.cell 2 rfl (OF_lt _) rfl) ?_
        refine k_call M (want_no rfl) (some 143) rfl 33 #[.agg (av 16 (w32 (rn6 (wd (bt p) 64) (rd (wd (bt p) 64) (spr h ct true) j) j))), .int .i64 2, .int .i64 7, .int .i64 8, .int .i64 13, .int .u32 ((wd (bt p) 64) (OF (j * 16 + 12))), .int .u32 ((wd (bt p) 64) (OF (j * 16 + 13)))] (.agg (av 16 (w32 (rn7 (wd (bt p) 64) (rd (wd (bt p) 64) (spr h ct true) j) j)))) (fun _ => by kernel_rfl) (fun w M => d_mix (rn6 (wd (bt p) 64) (rd (wd (bt p) 64) (spr h ct true) j) j) _ _ 2 7 8 13 (by decide) (by decide) (by decide) (by decide) (by decide) (by decide) (by decide) (by decide) (by decide) (by decide) w M.laid) ?_
        refine kl_nil ?_
        intro u30 M
        replace M : Mem ⟨w, []⟩ [⟨g1, .cells (av 8 (w32 h)) 57⟩, ⟨g2, .cells (av 8 (w32 (fun _ => 0))) 57⟩, ⟨g3, .cells (av 16 (w32 (wd (bt p) 64))) 67⟩, ⟨g4, .cells (av 16 (w32 (rn6 (wd (bt p) 64) (rd (wd (bt p) 64) (spr h ct true) j) j))) 67⟩, ⟨g5, .cells (av 8 (w32 HB)) 57⟩, ⟨g6, .cells (av 16 (oi j)) 68⟩] u30 := M
        refine pl_put M (want_no rfl) rfl 67 _ _ rfl 3 g4 0 (by kernel_rfl) 16 67 (w32 (rn6 (wd (bt p) 64) (rd (wd (bt p) 64) (spr h ct true) j) j)) rfl 16 (w32 (rn7 (wd (bt p) 64) (rd (wd (bt p) 64) (spr h ct true) j) j)) (w32 (rn7 (wd (bt p) 64) (rd (wd (bt p) 64) (spr h ct true) j) j)) (by kernel_rfl) inz67 (by decide) (fun _ _ => rfl) (fun j hj => by rw [if_pos (by omega), Nat.sub_zero]) ?_
        intro u31 M
        replace M : Mem ⟨w, []⟩ [⟨g1, .cells (av 8 (w32 h)) 57⟩, ⟨g2, .cells (av 8 (w32 (fun _ => 0))) 57⟩, ⟨g3, .cells (av 16 (w32 (wd (bt p) 64))) 67⟩, ⟨g4, .cells (av 16 (w32 (rn7 (wd (bt p) 64) (rd (wd (bt p) 64) (spr h ct true) j) j))) 67⟩, ⟨g5, .cells (av 8 (w32 HB)) 57⟩, ⟨g6, .cells (av 16 (oi j)) 68⟩] u31 := M
        refine pl_nil ?_
        refine au_then ?_
        refine rg_tail M 10 (by kernel_rfl) (by kernel_rfl) ?_
        simp only [List.take_succ_cons, List.take_zero]
        refine k_load M (want_no rfl) (some 144) rfl 67 _ rfl 3 g4 0 (by kernel_rfl) 16 67 (w32 (rn7 (wd (bt p) 64) (rd (wd (bt p) 64) (spr h ct true) j) j)) rfl 16 (w32 (rn7 (wd (bt p) 64) (rd (wd (bt p) 64) (spr h ct true) j) j)) (fun j _ => by rw [Nat.zero_add]) (by decide) _ Tryd.underlying67 rfl inz67 ?_
        refine k_val (want_no rfl) (some 145) rfl (.pointer (some ⟨g6, 14, none⟩)) (fun _ => by kernel_rfl) ?_
        refine k_cell M (want_no rfl) (some 146) rfl 3 _ rfl g6 14 (by kernel_rfl) (.int .i64 (OF (j * 16 + 14) : Int)) (fun _ => by kernel_rfl) (fun w M => M.cell 5 rfl (by decide) rfl) ?_
        refine k_val (want_no rfl) (some 147) rfl (.pointer (some ⟨g3, (OF (j * 16 + 14)), none⟩)) (run_ix1 67 16 56 Tryd.underlying67 inz56 _ _ rfl g3 (by kernel_rfl) .i64 (OF (j * 16 + 14)) (by kernel_rfl) (OF_lt _)) ?_
        refine k_cell M (want_no rfl) (some 148) rfl 56 _ rfl g3 (OF (j * 16 + 14)) (by kernel_rfl) (.int .u32 ((wd (bt p) 64) (OF (j * 16 + 14)))) (fun _ => by kernel_rfl) (fun w M => M.cell 2 rfl (OF_lt _) rfl) ?_
        refine k_val (want_no rfl) (some 149) rfl (.pointer (some ⟨g6, 15, none⟩)) (fun _ => by kernel_rfl) ?_
        refine k_cell M (want_no rfl) (some 150) rfl 3 _ rfl g6 15 (by kernel_rfl) (.int .i64 (OF (j * 16 + 15) : Int)) (fun _ => by kernel_rfl) (fun w M => M.cell 5 rfl (by decide) rfl) ?_
        refine k_val (want_no rfl) (some 151) rfl (.pointer (some ⟨g3, (OF (j * 16 + 15)), none⟩)) (run_ix1 67 16 56 Tryd.underlying67 inz56 _ _ rfl g3 (by kernel_rfl) .i64 (OF (j * 16 + 15)) (by kernel_rfl) (OF_lt _)) ?_
        refine k_cell M (want_no rfl) (some 152) rfl 56 _ rfl g3 (OF (j * 16 + 15)) (by kernel_rfl) (.int .u32 ((wd (bt p) 64) (OF (j * 16 + 15)))) (fun _ => by kernel_rfl) (fun w M => M.cell 2 rfl (OF_lt _) rfl) ?_
        refine k_call M (want_no rfl) (some 153) rfl 33 #[.agg (av 16 (w32 (rn7 (wd (bt p) 64) (rd (wd (bt p) 64) (spr h ct true) j) j))), .int .i64 3, .int .i64 4, .int .i64 9, .int .i64 14, .int .u32 ((wd (bt p) 64) (OF (j * 16 + 14))), .int .u32 ((wd (bt p) 64) (OF (j * 16 + 15)))] (.agg (av 16 (w32 (rn8 (wd (bt p) 64) (rd (wd (bt p) 64) (spr h ct true) j) j)))) (fun _ => by kernel_rfl) (fun w M => d_mix (rn7 (wd (bt p) 64) (rd (wd (bt p) 64) (spr h ct true) j) j) _ _ 3 4 9 14 (by decide) (by decide) (by decide) (by decide) (by decide) (by decide) (by decide) (by decide) (by decide) (by decide) w M.laid) ?_
        refine kl_nil ?_
        intro u32 M
        replace M : Mem ⟨w, []⟩ [⟨g1, .cells (av 8 (w32 h)) 57⟩, ⟨g2, .cells (av 8 (w32 (fun _ => 0))) 57⟩, ⟨g3, .cells (av 16 (w32 (wd (bt p) 64))) 67⟩, ⟨g4, .cells (av 16 (w32 (rn7 (wd (bt p) 64) (rd (wd (bt p) 64) (spr h ct true) j) j))) 67⟩, ⟨g5, .cells (av 8 (w32 HB)) 57⟩, ⟨g6, .cells (av 16 (oi j)) 68⟩] u32 := M
        refine pl_put M (want_no rfl) rfl 67 _ _ rfl 3 g4 0 (by kernel_rfl) 16 67 (w32 (rn7 (wd (bt p) 64) (rd (wd (bt p) 64) (spr h ct true) j) j)) rfl 16 (w32 (rn8 (wd (bt p) 64) (rd (wd (bt p) 64) (spr h ct true) j) j)) (w32 (rn8 (wd (bt p) 64) (rd (wd (bt p) 64) (spr h ct true) j) j)) (by kernel_rfl) inz67 (by decide) (fun _ _ => rfl) (fun j hj => by rw [if_pos (by omega), Nat.sub_zero]) ?_
        intro u33 M
        replace M : Mem ⟨w, []⟩ [⟨g1, .cells (av 8 (w32 h)) 57⟩, ⟨g2, .cells (av 8 (w32 (fun _ => 0))) 57⟩, ⟨g3, .cells (av 16 (w32 (wd (bt p) 64))) 67⟩, ⟨g4, .cells (av 16 (w32 (rn8 (wd (bt p) 64) (rd (wd (bt p) 64) (spr h ct true) j) j))) 67⟩, ⟨g5, .cells (av 8 (w32 HB)) 57⟩, ⟨g6, .cells (av 16 (oi j)) 68⟩] u33 := M
        refine pl_nil ?_
        refine au_block ?_
        refine au_then ?_
        refine rg_lit ?_
        refine pl_val (want_no rfl) (some 70) rfl (.int .i64 (j : Int)) (fun _ => by kernel_rfl) ?_
        refine pl_val (want_no rfl) (some 71) rfl (.int .i64 ((j + 1 : Nat) : Int)) (fun w => Eq.trans (b := .ok (.value (.int .i64 (IntKind.wrap .i64 ((j : Int) + 1)))) w) (by kernel_rfl) (by rw [wrap64 (by omega) (by omega)]; congr 3)) ?_
        refine pl_val (want_no rfl) (some 14) rfl (.int .i64 ((j + 1 : Nat) : Int)) (fun _ => by kernel_rfl) ?_
        refine pl_nil ?_
        refine au_then ?_
        exact ⟨fun k_ => ([.pointer (some ⟨g6, 0, none⟩), undef, undef, undef, undef, undef, undef, undef, undef, undef, undef, undef, undef, undef, undef, undef, undef, undef, undef, undef, undef, undef, undef, undef, undef, undef, undef, undef, undef, undef, undef, undef, undef, undef, undef, undef, undef, undef, undef, undef, undef, undef, undef, undef, undef, undef, undef, undef, undef, undef, undef, undef, undef, .int .i64 (j : Int), .bool true, .int .i64 (j : Int), .int .i64 ((j + 1 : Nat) : Int), .int .i64 (j : Int), .agg (av 16 (oi j)), .agg (av 16 (w32 (rd (wd (bt p) 64) (spr h ct true) j))), .pointer (some ⟨g6, 0, none⟩), .int .i64 (OF (j * 16 + 0) : Int), .pointer (some ⟨g3, (OF (j * 16 + 0)), none⟩), .int .u32 ((wd (bt p) 64) (OF (j * 16 + 0))), .pointer (some ⟨g6, 1, none⟩), .int .i64 (OF (j * 16 + 1) : Int), .pointer (some ⟨g3, (OF (j * 16 + 1)), none⟩), .int .u32 ((wd (bt p) 64) (OF (j * 16 + 1))), .agg (av 16 (w32 (rn1 (wd (bt p) 64) (rd (wd (bt p) 64) (spr h ct true) j) j))), .agg (av 16 (w32 (rn1 (wd (bt p) 64) (rd (wd (bt p) 64) (spr h ct true) j) j))), .pointer (some ⟨g6, 2, none⟩), .int .i64 (OF (j * 16 + 2) : Int), .pointer (some ⟨g3, (OF (j * 16 + 2)), none⟩), .int .u32 ((wd (bt p) 64) (OF (j * 16 + 2))), .pointer (some ⟨g6, 3, none⟩), .int .i64 (OF (j * 16 + 3) : Int), .pointer (some ⟨g3, (OF (j * 16 + 3)), none⟩), .int .u32 ((wd (bt p) 64) (OF (j * 16 + 3))), .agg (av 16 (w32 (rn2 (wd (bt p) 64) (rd (wd (bt p) 64) (spr h ct true) j) j))), .agg (av 16 (w32 (rn2 (wd (bt p) 64) (rd (wd (bt p) 64) (spr h ct true) j) j))), .pointer (some ⟨g6, 4, none⟩), .int .i64 (OF (j * 16 + 4) : Int), .pointer (some ⟨g3, (OF (j * 16 + 4)), none⟩), .int .u32 ((wd (bt p) 64) (OF (j * 16 + 4))), .pointer (some ⟨g6, 5, none⟩), .int .i64 (OF (j * 16 + 5) : Int), .pointer (some ⟨g3, (OF (j * 16 + 5)), none⟩), .int .u32 ((wd (bt p) 64) (OF (j * 16 + 5))), .agg (av 16 (w32 (rn3 (wd (bt p) 64) (rd (wd (bt p) 64) (spr h ct true) j) j))), .agg (av 16 (w32 (rn3 (wd (bt p) 64) (rd (wd (bt p) 64) (spr h ct true) j) j))), .pointer (some ⟨g6, 6, none⟩), .int .i64 (OF (j * 16 + 6) : Int), .pointer (some ⟨g3, (OF (j * 16 + 6)), none⟩), .int .u32 ((wd (bt p) 64) (OF (j * 16 + 6))), .pointer (some ⟨g6, 7, none⟩), .int .i64 (OF (j * 16 + 7) : Int), .pointer (some ⟨g3, (OF (j * 16 + 7)), none⟩), .int .u32 ((wd (bt p) 64) (OF (j * 16 + 7))), .agg (av 16 (w32 (rn4 (wd (bt p) 64) (rd (wd (bt p) 64) (spr h ct true) j) j))), .agg (av 16 (w32 (rn4 (wd (bt p) 64) (rd (wd (bt p) 64) (spr h ct true) j) j))), .pointer (some ⟨g6, 8, none⟩), .int .i64 (OF (j * 16 + 8) : Int), .pointer (some ⟨g3, (OF (j * 16 + 8)), none⟩), .int .u32 ((wd (bt p) 64) (OF (j * 16 + 8))), .pointer (some ⟨g6, 9, none⟩), .int .i64 (OF (j * 16 + 9) : Int), .pointer (some ⟨g3, (OF (j * 16 + 9)), none⟩), .int .u32 ((wd (bt p) 64) (OF (j * 16 + 9))), .agg (av 16 (w32 (rn5 (wd (bt p) 64) (rd (wd (bt p) 64) (spr h ct true) j) j))), .agg (av 16 (w32 (rn5 (wd (bt p) 64) (rd (wd (bt p) 64) (spr h ct true) j) j))), .pointer (some ⟨g6, 10, none⟩), .int .i64 (OF (j * 16 + 10) : Int), .pointer (some ⟨g3, (OF (j * 16 + 10)), none⟩), .int .u32 ((wd (bt p) 64) (OF (j * 16 + 10))), .pointer (some ⟨g6, 11, none⟩), .int .i64 (OF (j * 16 + 11) : Int), .pointer (some ⟨g3, (OF (j * 16 + 11)), none⟩), .int .u32 ((wd (bt p) 64) (OF (j * 16 + 11))), .agg (av 16 (w32 (rn6 (wd (bt p) 64) (rd (wd (bt p) 64) (spr h ct true) j) j))), .agg (av 16 (w32 (rn6 (wd (bt p) 64) (rd (wd (bt p) 64) (spr h ct true) j) j))), .pointer (some ⟨g6, 12, none⟩), .int .i64 (OF (j * 16 + 12) : Int), .pointer (some ⟨g3, (OF (j * 16 + 12)), none⟩), .int .u32 ((wd (bt p) 64) (OF (j * 16 + 12))), .pointer (some ⟨g6, 13, none⟩), .int .i64 (OF (j * 16 + 13) : Int), .pointer (some ⟨g3, (OF (j * 16 + 13)), none⟩), .int .u32 ((wd (bt p) 64) (OF (j * 16 + 13))), .agg (av 16 (w32 (rn7 (wd (bt p) 64) (rd (wd (bt p) 64) (spr h ct true) j) j))), .agg (av 16 (w32 (rn7 (wd (bt p) 64) (rd (wd (bt p) 64) (spr h ct true) j) j))), .pointer (some ⟨g6, 14, none⟩), .int .i64 (OF (j * 16 + 14) : Int), .pointer (some ⟨g3, (OF (j * 16 + 14)), none⟩), .int .u32 ((wd (bt p) 64) (OF (j * 16 + 14))), .pointer (some ⟨g6, 15, none⟩), .int .i64 (OF (j * 16 + 15) : Int), .pointer (some ⟨g3, (OF (j * 16 + 15)), none⟩), .int .u32 ((wd (bt p) 64) (OF (j * 16 + 15))), .agg (av 16 (w32 (rn8 (wd (bt p) 64) (rd (wd (bt p) 64) (spr h ct true) j) j)))] : List Value).getD (k_ - 15) undef, by kernel_rfl, M.drop (.cons_cons _ (.cons_cons _ (.cons_cons _ (.cons_cons _ (.cons_cons _ (.cons _ (.slnil)))))))⟩
      · intro a u0 hI
        obtain ⟨v2, rfl, M⟩ := hI
        refine wp_seq ?_
        refine wp_seq ?_
        refine rg_lit ?_
        refine pl_val (want_no rfl) (some 68) rfl (.int .i64 (10 : Int)) (fun _ => by kernel_rfl) ?_
        refine pl_val (want_no rfl) (some 69) rfl (.bool false) (fun w => Eq.trans (b := .ok (.value (.bool (decide (10 < 10)))) w) (by kernel_rfl) (by rw [decide_eq_false (by omega)])) ?_
        refine pl_nil ?_
        refine au_then ?_
        refine wp_cond_false (by kernel_rfl) ?_
        refine wp_exit ?_
        refine au_then_exit ?_
        refine au_then_exit ?_
        refine au_block_exit ?_
        refine au_then ?_
        refine wp_seq ?_
        refine wp_seq ?_
        refine rg_lit ?_
        refine pl_val (want_no rfl) (some 16) rfl (.int .i64 0) (fun _ => by kernel_rfl) ?_
        refine pl_nil ?_
        refine au_then ?_
        refine wp_block ?_
        refine au_loop (fun j a w' => ∃ v3 : Nat → Value, a = ⟨#[.agg (av 8 (w32 h)), .string p, .int .u64 ct, .bool true, .pointer (some ⟨g1, 0, none⟩), undef, undef, undef, .pointer (some ⟨g2, 0, none⟩), .pointer (some ⟨g3, 0, none⟩), .int .i64 m, .pointer (some ⟨g4, 0, none⟩), .pointer (some ⟨g5, 0, none⟩), .int .i64 (8 : Int), .int .i64 (10 : Int), v2 15, .int .i64 (j : Int), .int .i64 m, .bool false, v0 19, v0 20, v0 21, v0 22, v0 23, v0 24, v0 25, v0 26, v0 27, v0 28, v0 29, v0 30, v0 31, v0 32, v0 33, .agg (av 8 (w32 HB)), .int .i64 (8 : Int), .bool false, v1 37, v1 38, v1 39, v1 40, v1 41, v1 42, v1 43, v1 44, v1 45, v1 46, v1 47, v1 48, v1 49, .pointer (some ⟨g4, 12, none⟩), .int .u32 ((spB h) 12), .int .u64 ct, .int .u32 (cv .u32 ct), .int .u32 (vx ((spB h) 12) (cv .u32 ct)), .pointer (some ⟨g4, 12, none⟩), .pointer (some ⟨g4, 13, none⟩), .int .u32 ((upd (spB h) 12 (vx ((spB h) 12) (cv .u32 ct))) 13), .int .u64 ct, .int .u64 (sr ct 32), .int .u32 (cv .u32 (sr ct 32)), .int .u32 (vx ((upd (spB h) 12 (vx ((spB h) 12) (cv .u32 ct))) 13) (cv .u32 (sr ct 32))), .pointer (some ⟨g4, 13, none⟩), .bool true, .pointer (some ⟨g4, 14, none⟩), .int .u32 ((upd (upd (spB h) 12 (vx ((spB h) 12) (cv .u32 ct))) 13 (vx ((upd (spB h) 12 (vx ((spB h) 12) (cv .u32 ct))) 13) (cv .u32 (sr ct 32)))) 14), .int .u32 (vt ((upd (upd (spB h) 12 (vx ((spB h) 12) (cv .u32 ct))) 13 (vx ((upd (spB h) 12 (vx ((spB h) 12) (cv .u32 ct))) 13) (cv .u32 (sr ct 32)))) 14)), .pointer (some ⟨g4, 14, none⟩), .int .i64 (10 : Int), .bool false, v2 70, v2 71, v2 72, v2 73, v2 74, v2 75, v2 76, v2 77, v2 78, v2 79, v2 80, v2 81, v2 82, v2 83, v2 84, v2 85, v2 86, v2 87, v2 88, v2 89, v2 90, v2 91, v2 92, v2 93, v2 94, v2 95, v2 96, v2 97, v2 98, v2 99, v2 100, v2 101, v2 102, v2 103, v2 104, v2 105, v2 106, v2 107, v2 108, v2 109, v2 110, v2 111, v2 112, v2 113, v2 114, v2 115, v2 116, v2 117, v2 118, v2 119, v2 120, v2 121, v2 122, v2 123, v2 124, v2 125, v2 126, v2 127, v2 128, v2 129, v2 130, v2 131, v2 132, v2 133, v2 134, v2 135, v2 136, v2 137, v2 138, v2 139, v2 140, v2 141, v2 142, v2 143, v2 144, v2 145, v2 146, v2 147, v2 148, v2 149, v2 150, v2 151, v2 152, v2 153, v3 154, v3 155, v3 156, v3 157, v3 158, v3 159, v3 160, v3 161, v3 162, v3 163, v3 164, v3 165, v3 166, v3 167, v3 168, v3 169, v3 170, v3 171, undef], []⟩ ∧ Mem ⟨w, []⟩ [⟨g1, .cells (av 8 (w32 (adD h (rd (wd (bt p) 64) (spr h ct true) 10) j))) 57⟩, ⟨g2, .cells (av 8 (w32 (fun _ => 0))) 57⟩, ⟨g3, .cells (av 16 (w32 (wd (bt p) 64))) 67⟩, ⟨g4, .cells (av 16 (w32 (rd (wd (bt p) 64) (spr h ct true) 10))) 67⟩, ⟨g5, .cells (av 8 (w32 HB)) 57⟩] w') 8 ⟨fun k_ => ([undef, undef, undef, undef, undef, undef, undef, undef, undef, undef, undef, undef, undef, undef, undef, undef, undef, undef] : List Value).getD (k_ - 154) undef, by kernel_rfl, M⟩ ?_ ?_
        · intro j a u0 hj hI
          obtain ⟨v3, rfl, M⟩ := hI
          refine wp_seq ?_
          refine wp_seq ?_
          refine rg_lit ?_
          refine pl_val (want_no rfl) (some 154) rfl (.int .i64 (j : Int)) (fun _ => by kernel_rfl) ?_
          refine pl_val (want_no rfl) (some 155) rfl (.bool true) (fun w => Eq.trans (b := .ok (.value (.bool (decide ((j : Int) < 8)))) w) (by kernel_rfl) (by rw [decide_eq_true (by omega)])) ?_
          refine pl_nil ?_
          refine au_then ?_
          refine wp_cond_true (by kernel_rfl) ?_
          refine wp_skip ?_
          refine au_then ?_
          refine wp_seq ?_
          refine wp_block ?_
          refine rg_tail M 14 (by kernel_rfl) (by kernel_rfl) ?_
          simp only [List.take_succ_cons, List.take_zero]
          refine k_val (want_no rfl) (some 158) rfl (.int .i64 (j : Int)) (fun _ => by kernel_rfl) ?_
          refine k_val (want_no rfl) (some 159) rfl (.int .i64 (j : Int)) (fun _ => by kernel_rfl) ?_
          refine k_val (want_no rfl) (some 160) rfl (.pointer (some ⟨g1, j, none⟩)) (run_ix1 57 8 56 Tryd.underlying57 inz56 _ _ rfl g1 (by kernel_rfl) .i64 (j) (by kernel_rfl) (by omega)) ?_
          refine k_cell M (want_no rfl) (some 161) rfl 56 _ rfl g1 j (by kernel_rfl) (.int .u32 ((adD h (rd (wd (bt p) 64) (spr h ct true) 10) j) j)) (fun _ => by kernel_rfl) (fun w M => M.cell 0 rfl (by omega) rfl) ?_
          refine k_val (want_no rfl) (some 162) rfl (.int .i64 (j : Int)) (fun _ => by kernel_rfl) ?_
          refine k_val (want_no rfl) (some 163) rfl (.pointer (some ⟨g4, j, none⟩)) (run_ix1 67 16 56 Tryd.underlying67 inz56 _ _ rfl g4 (by kernel_rfl) .i64 (j) (by kernel_rfl) (by omega)) ?_
          refine k_cell M (want_no rfl) (some 164) rfl 56 _ rfl g4 j (by kernel_rfl) (.int .u32 ((rd (wd (bt p) 64) (spr h ct true) 10) j)) (fun _ => by kernel_rfl) (fun w M => M.cell 3 rfl (by omega) rfl) ?_
          refine k_val (want_no rfl) (some 165) rfl (.int .u32 (vx ((adD h (rd (wd (bt p) 64) (spr h ct true) 10) j) j) ((rd (wd (bt p) 64) (spr h ct true) 10) j))) (fun _ => by kernel_rfl) ?_
          refine k_val (want_no rfl) (some 166) rfl (.int .i64 (j : Int)) (fun _ => by kernel_rfl) ?_
          refine k_val (want_no rfl) (some 167) rfl (.int .i64 ((8 + j : Nat) : Int)) (fun w => Eq.trans (b := .ok (.value (.int .i64 (IntKind.wrap .i64 (8 + (j : Int))))) w) (by kernel_rfl) (by rw [wrap64 (by omega) (by omega)]; congr 3)) ?_
          refine k_val (want_no rfl) (some 168) rfl (.pointer (some ⟨g4, ((8 + j : Nat)), none⟩)) (run_ix1 67 16 56 Tryd.underlying67 inz56 _ _ rfl g4 (by kernel_rfl) .i64 ((8 + j : Nat)) (by kernel_rfl) (by omega)) ?_
          refine k_cell M (want_no rfl) (some 169) rfl 56 _ rfl g4 ((8 + j : Nat)) (by kernel_rfl) (.int .u32 ((rd (wd (bt p) 64) (spr h ct true) 10) ((8 + j : Nat)))) (fun _ => by kernel_rfl) (fun w M => M.cell 3 rfl (by omega) rfl) ?_
          refine k_val (want_no rfl) (some 170) rfl (.int .u32 (vx (vx ((adD h (rd (wd (bt p) 64) (spr h ct true) 10) j) j) ((rd (wd (bt p) 64) (spr h ct true) 10) j)) ((rd (wd (bt p) 64) (spr h ct true) 10) ((8 + j : Nat))))) (fun _ => by kernel_rfl) ?_
          refine k_val (want_no rfl) (some 171) rfl (.pointer (some ⟨g1, j, none⟩)) (run_ix1 57 8 56 Tryd.underlying57 inz56 _ _ rfl g1 (by kernel_rfl) .i64 (j) (by kernel_rfl) (by omega)) ?_
          refine kl_nil ?_
          intro u34 M
          replace M : Mem ⟨w, []⟩ [⟨g1, .cells (av 8 (w32 (adD h (rd (wd (bt p) 64) (spr h ct true) 10) j))) 57⟩, ⟨g2, .cells (av 8 (w32 (fun _ => 0))) 57⟩, ⟨g3, .cells (av 16 (w32 (wd (bt p) 64))) 67⟩, ⟨g4, .cells (av 16 (w32 (rd (wd (bt p) 64) (spr h ct true) 10))) 67⟩, ⟨g5, .cells (av 8 (w32 HB)) 57⟩] u34 := M
          refine pl_put1 M (want_no rfl) rfl 56 _ _ rfl 0 g1 j (by kernel_rfl) 8 57 (w32 (adD h (rd (wd (bt p) 64) (spr h ct true) 10) j)) rfl (.int .u32 (vx (vx ((adD h (rd (wd (bt p) 64) (spr h ct true) 10) j) j) ((rd (wd (bt p) 64) (spr h ct true) 10) j)) ((rd (wd (bt p) 64) (spr h ct true) 10) ((8 + j : Nat))))) (w32 (upd (adD h (rd (wd (bt p) 64) (spr h ct true) 10) j) j (vx (vx ((adD h (rd (wd (bt p) 64) (spr h ct true) 10) j) j) ((rd (wd (bt p) 64) (spr h ct true) 10) j)) ((rd (wd (bt p) 64) (spr h ct true) 10) ((8 + j : Nat)))))) (by kernel_rfl) inz56 (by omega) rfl rfl (fun j _ => put_w32 _ _ _ j) ?_
          intro u35 M
          replace M : Mem ⟨w, []⟩ [⟨g1, .cells (av 8 (w32 (upd (adD h (rd (wd (bt p) 64) (spr h ct true) 10) j) j (vx (vx ((adD h (rd (wd (bt p) 64) (spr h ct true) 10) j) j) ((rd (wd (bt p) 64) (spr h ct true) 10) j)) ((rd (wd (bt p) 64) (spr h ct true) 10) ((8 + j : Nat))))))) 57⟩, ⟨g2, .cells (av 8 (w32 (fun _ => 0))) 57⟩, ⟨g3, .cells (av 16 (w32 (wd (bt p) 64))) 67⟩, ⟨g4, .cells (av 16 (w32 (rd (wd (bt p) 64) (spr h ct true) 10))) 67⟩, ⟨g5, .cells (av 8 (w32 HB)) 57⟩] u35 := M
          refine pl_nil ?_
          refine au_block ?_
          refine au_then ?_
          refine rg_lit ?_
          refine pl_val (want_no rfl) (some 156) rfl (.int .i64 (j : Int)) (fun _ => by kernel_rfl) ?_
          refine pl_val (want_no rfl) (some 157) rfl (.int .i64 ((j + 1 : Nat) : Int)) (fun w => Eq.trans (b := .ok (.value (.int .i64 (IntKind.wrap .i64 ((j : Int) + 1)))) w) (by kernel_rfl) (by rw [wrap64 (by omega) (by omega)]; congr 3)) ?_
          refine pl_val (want_no rfl) (some 16) rfl (.int .i64 ((j + 1 : Nat) : Int)) (fun _ => by kernel_rfl) ?_
          refine pl_nil ?_
          refine au_then ?_
          exact ⟨fun k_ => ([.int .i64 (j : Int), .bool true, .int .i64 (j : Int), .int .i64 ((j + 1 : Nat) : Int), .int .i64 (j : Int), .int .i64 (j : Int), .pointer (some ⟨g1, j, none⟩), .int .u32 ((adD h (rd (wd (bt p) 64) (spr h ct true) 10) j) j), .int .i64 (j : Int), .pointer (some ⟨g4, j, none⟩), .int .u32 ((rd (wd (bt p) 64) (spr h ct true) 10) j), .int .u32 (vx ((adD h (rd (wd (bt p) 64) (spr h ct true) 10) j) j) ((rd (wd (bt p) 64) (spr h ct true) 10) j)), .int .i64 (j : Int), .int .i64 ((8 + j : Nat) : Int), .pointer (some ⟨g4, ((8 + j : Nat)), none⟩), .int .u32 ((rd (wd (bt p) 64) (spr h ct true) 10) ((8 + j : Nat))), .int .u32 (vx (vx ((adD h (rd (wd (bt p) 64) (spr h ct true) 10) j) j) ((rd (wd (bt p) 64) (spr h ct true) 10) j)) ((rd (wd (bt p) 64) (spr h ct true) 10) ((8 + j : Nat)))), .pointer (some ⟨g1, j, none⟩)] : List Value).getD (k_ - 154) undef, by kernel_rfl, M⟩
        · intro a u0 hI
          obtain ⟨v3, rfl, M⟩ := hI
          refine wp_seq ?_
          refine wp_seq ?_
          refine rg_lit ?_
          refine pl_val (want_no rfl) (some 154) rfl (.int .i64 (8 : Int)) (fun _ => by kernel_rfl) ?_
          refine pl_val (want_no rfl) (some 155) rfl (.bool false) (fun w => Eq.trans (b := .ok (.value (.bool (decide (8 < 8)))) w) (by kernel_rfl) (by rw [decide_eq_false (by omega)])) ?_
          refine pl_nil ?_
          refine au_then ?_
          refine wp_cond_false (by kernel_rfl) ?_
          refine wp_exit ?_
          refine au_then_exit ?_
          refine au_then_exit ?_
          refine au_block_exit ?_
          refine au_then ?_
          refine wp_seq ?_
          refine rg_lit ?_
          refine pl_load M (want_no rfl) (some 172) rfl 57 _ rfl 0 g1 0 (by kernel_rfl) 8 57 (w32 (adD h (rd (wd (bt p) 64) (spr h ct true) 10) 8)) rfl 8 (w32 (adD h (rd (wd (bt p) 64) (spr h ct true) 10) 8)) (fun j _ => by rw [Nat.zero_add]) (by decide) _ Tryd.underlying57 rfl inz57 ?_
          refine pl_put M (want_no rfl) rfl 57 _ _ rfl 1 g2 0 (by kernel_rfl) 8 57 (w32 (fun _ => 0)) rfl 8 (w32 (adD h (rd (wd (bt p) 64) (spr h ct true) 10) 8)) (w32 (adD h (rd (wd (bt p) 64) (spr h ct true) 10) 8)) (by kernel_rfl) inz57 (by decide) (fun _ _ => rfl) (fun j hj => by rw [if_pos (by omega), Nat.sub_zero]) ?_
          intro u36 M
          replace M : Mem ⟨w, []⟩ [⟨g1, .cells (av 8 (w32 (adD h (rd (wd (bt p) 64) (spr h ct true) 10) 8))) 57⟩, ⟨g2, .cells (av 8 (w32 (adD h (rd (wd (bt p) 64) (spr h ct true) 10) 8))) 57⟩, ⟨g3, .cells (av 16 (w32 (wd (bt p) 64))) 67⟩, ⟨g4, .cells (av 16 (w32 (rd (wd (bt p) 64) (spr h ct true) 10))) 67⟩, ⟨g5, .cells (av 8 (w32 HB)) 57⟩] u36 := M
          refine pl_nil ?_
          refine au_then ?_
          refine wp_ret ?_
          refine bodyPost_ret (v := .agg (av 8 (w32 (mixW h (wd (bt p) 64) ct true)))) (Eq.trans (b := .ok (.agg (av 8 (w32 (adD h (rd (wd (bt p) 64) (spr h ct true) 10) 8)))) _) (results_cell_row Tryd.results27 _ _ g2 57 (av 8 (w32 (adD h (rd (wd (bt p) 64) (spr h ct true) 10) 8))) (0, 0) _ (by kernel_rfl) (M.get 1 rfl) Tryd.underlying57 rfl (by rw [av_size]; exact inz57)) (by rw [adD_av]; rfl)) (by kernel_rfl) ⟨rfl, below_grown M.old⟩

set_option maxRecDepth 100000 in
set_option maxHeartbeats 4000000 in
theorem d_piece_false (h : Nat → Int) (p : ByteArray) (hp : p.size = 64) (ct : Int) (w : World) (hL : Laid w)  :
    Calls Tryd.prog 27 #[.agg (av 8 (w32 h)), .string p, .int .u64 ct, .bool false] w fun r w' => r = .returned (.agg (av 8 (w32 (mixW h (wd (bt p) 64) ct false)))) ∧ Below w.heap.size w w' := by
  go_enter Tryd.func27, Tryd.ntmps27
  have M := Mem.start hL
  refine wp_seq ?_
  refine rg_lit ?_
  refine pl_new M (want_no rfl) (some 4) rfl (.cells (av 8 (w32 h)) 57) (fun _ => by kernel_rfl) ?_
  intro g1 u1 M
  replace M : Mem ⟨w, []⟩ [⟨g1, .cells (av 8 (w32 h)) 57⟩] u1 := M
  refine pl_new M (want_no rfl) (some 8) rfl (.cells (av 8 (w32 (fun _ => 0))) 57) (fun _ => by kernel_rfl) ?_
  intro g2 u2 M
  replace M : Mem ⟨w, []⟩ [⟨g1, .cells (av 8 (w32 h)) 57⟩, ⟨g2, .cells (av 8 (w32 (fun _ => 0))) 57⟩] u2 := M
  refine pl_nil ?_
  refine au_then ?_
  refine wp_seq ?_
  refine rg_lit ?_
  refine pl_new M (want_no rfl) (some 9) rfl (.cells (av 16 (w32 (fun _ => 0))) 67) (fun _ => by kernel_rfl) ?_
  intro g3 u3 M
  replace M : Mem ⟨w, []⟩ [⟨g1, .cells (av 8 (w32 h)) 57⟩, ⟨g2, .cells (av 8 (w32 (fun _ => 0))) 57⟩, ⟨g3, .cells (av 16 (w32 (fun _ => 0))) 67⟩] u3 := M
  refine pl_nil ?_
  refine au_then ?_
  refine wp_seq ?_
  refine wp_seq ?_
  refine rg_lit ?_
  refine pl_val (want_no rfl) (some 10) rfl (.int .i64 63) (fun _ => by kernel_rfl) ?_
  refine pl_nil ?_
  refine au_then ?_
  refine wp_block ?_
  refine au_loop (fun j a w' => ∃ (v0 : Nat → Value) (m : Int), m = 63 - (j : Int) ∧ a = ⟨#[.agg (av 8 (w32 h)), .string p, .int .u64 ct, .bool false, .pointer (some ⟨g1, 0, none⟩), undef, undef, undef, .pointer (some ⟨g2, 0, none⟩), .pointer (some ⟨g3, 0, none⟩), .int .i64 m, undef, undef, undef, undef, undef, undef, v0 17, v0 18, v0 19, v0 20, v0 21, v0 22, v0 23, v0 24, v0 25, v0 26, v0 27, v0 28, v0 29, v0 30, v0 31, v0 32, v0 33, undef, undef, undef, undef, undef, undef, undef, undef, undef, undef, undef, undef, undef, undef, undef, undef, undef, undef, undef, undef, undef, undef, undef, undef, undef, undef, undef, undef, undef, undef, undef, undef, undef, undef, undef, undef, undef, undef, undef, undef, undef, undef, undef, undef, undef, undef, undef, undef, undef, undef, undef, undef, undef, undef, undef, undef, undef, undef, undef, undef, undef, undef, undef, undef, undef, undef, undef, undef, undef, undef, undef, undef, undef, undef, undef, undef, undef, undef, undef, undef, undef, undef, undef, undef, undef, undef, undef, undef, undef, undef, undef, undef, undef, undef, undef, undef, undef, undef, undef, undef, undef, undef, undef, undef, undef, undef, undef, undef, undef, undef, undef, undef, undef, undef, undef, undef, undef, undef, undef, undef, undef, undef, undef, undef, undef, undef, undef, undef, undef, undef, undef, undef, undef, undef, undef, undef, undef, undef, undef], []⟩ ∧ Mem ⟨w, []⟩ [⟨g1, .cells (av 8 (w32 h)) 57⟩, ⟨g2, .cells (av 8 (w32 (fun _ => 0))) 57⟩, ⟨g3, .cells (av 16 (w32 (wd (bt p) j))) 67⟩] w') 64 ⟨fun k_ => ([undef, undef, undef, undef, undef, undef, undef, undef, undef, undef, undef, undef, undef, undef, undef, undef, undef] : List Value).getD (k_ - 17) undef, 63, by omega, by kernel_rfl, M⟩ ?_ ?_
  · intro j a u0 hj hI
    obtain ⟨v0, m, hm, rfl, M⟩ := hI
    obtain ⟨n, rfl⟩ : ∃ n : Nat, m = (n : Int) := ⟨63 - j, by omega⟩
    have hn : n = 63 - j := by omega
    refine wp_seq ?_
    refine wp_seq ?_
    refine rg_lit ?_
    refine pl_val (want_no rfl) (some 17) rfl (.int .i64 (n : Int)) (fun _ => by kernel_rfl) ?_
    refine pl_val (want_no rfl) (some 18) rfl (.bool true) (fun w => Eq.trans (b := .ok (.value (.bool (decide ((0 : Int) ≤ (n : Int))))) w) (by kernel_rfl) (by rw [decide_eq_true (by omega)])) ?_
    refine pl_nil ?_
    refine au_then ?_
    refine wp_cond_true (by kernel_rfl) ?_
    refine wp_skip ?_
    refine au_then ?_
    refine wp_seq ?_
    refine wp_block ?_
    refine rg_tail M 13 (by kernel_rfl) (by kernel_rfl) ?_
    simp only [List.take_succ_cons, List.take_zero]
    refine k_val (want_no rfl) (some 21) rfl (.int .i64 (n : Int)) (fun _ => by kernel_rfl) ?_
    refine k_val (want_no rfl) (some 22) rfl (.int .i64 ((n / 4 : Nat) : Int)) (fun w => Eq.trans (b := .ok (.value (.int .i64 (IntKind.wrap .i64 ((n : Int).tdiv 4)))) w) (by kernel_rfl) (by rw [quo4 n (by omega)])) ?_
    refine k_val (want_no rfl) (some 23) rfl (.int .i64 (n : Int)) (fun _ => by kernel_rfl) ?_
    refine k_val (want_no rfl) (some 24) rfl (.int .i64 ((n / 4 : Nat) : Int)) (fun w => Eq.trans (b := .ok (.value (.int .i64 (IntKind.wrap .i64 ((n : Int).tdiv 4)))) w) (by kernel_rfl) (by rw [quo4 n (by omega)])) ?_
    refine k_val (want_no rfl) (some 25) rfl (.pointer (some ⟨g3, ((n / 4 : Nat)), none⟩)) (run_ix1 67 16 56 Tryd.underlying67 inz56 _ _ rfl g3 (by kernel_rfl) .i64 ((n / 4 : Nat)) (by kernel_rfl) (by omega)) ?_
    refine k_cell M (want_no rfl) (some 26) rfl 56 _ rfl g3 ((n / 4 : Nat)) (by kernel_rfl) (.int .u32 ((wd (bt p) j) ((n / 4 : Nat)))) (fun _ => by kernel_rfl) (fun w M => M.cell 2 rfl (by omega) rfl) ?_
    refine k_val (want_no rfl) (some 27) rfl (.int .u32 (vl ((wd (bt p) j) ((n / 4 : Nat))) 8)) (fun _ => by kernel_rfl) ?_
    refine k_val (want_no rfl) (some 28) rfl (.string p) (fun _ => by kernel_rfl) ?_
    refine k_val (want_no rfl) (some 29) rfl (.int .i64 (n : Int)) (fun _ => by kernel_rfl) ?_
    refine k_val (want_no rfl) (some 30) rfl (.int .u8 (bt p n)) (run_ixS 9 Tryd.underlying9 _ _ rfl p (by kernel_rfl) .i64 n (by kernel_rfl) (by omega)) ?_
    refine k_val (want_no rfl) (some 31) rfl (.int .u32 (cv .u32 (bt p n))) (fun _ => by kernel_rfl) ?_
    refine k_val (want_no rfl) (some 32) rfl (.int .u32 (vo (vl ((wd (bt p) j) ((n / 4 : Nat))) 8) (cv .u32 (bt p n)))) (fun _ => by kernel_rfl) ?_
    refine k_val (want_no rfl) (some 33) rfl (.pointer (some ⟨g3, ((n / 4 : Nat)), none⟩)) (run_ix1 67 16 56 Tryd.underlying67 inz56 _ _ rfl g3 (by kernel_rfl) .i64 ((n / 4 : Nat)) (by kernel_rfl) (by omega)) ?_
    refine kl_nil ?_
    intro u4 M
    replace M : Mem ⟨w, []⟩ [⟨g1, .cells (av 8 (w32 h)) 57⟩, ⟨g2, .cells (av 8 (w32 (fun _ => 0))) 57⟩, ⟨g3, .cells (av 16 (w32 (wd (bt p) j))) 67⟩] u4 := M
    refine pl_put1 M (want_no rfl) rfl 56 _ _ rfl 2 g3 ((n / 4 : Nat)) (by kernel_rfl) 16 67 (w32 (wd (bt p) j)) rfl (.int .u32 (vo (vl ((wd (bt p) j) ((n / 4 : Nat))) 8) (cv .u32 (bt p n)))) (w32 (upd (wd (bt p) j) ((n / 4 : Nat)) (vo (vl ((wd (bt p) j) ((n / 4 : Nat))) 8) (cv .u32 (bt p n))))) (by kernel_rfl) inz56 (by omega) rfl rfl (fun j _ => put_w32 _ _ _ j) ?_
    intro u5 M
    replace M : Mem ⟨w, []⟩ [⟨g1, .cells (av 8 (w32 h)) 57⟩, ⟨g2, .cells (av 8 (w32 (fun _ => 0))) 57⟩, ⟨g3, .cells (av 16 (w32 (upd (wd (bt p) j) ((n / 4 : Nat)) (vo (vl ((wd (bt p) j) ((n / 4 : Nat))) 8) (cv .u32 (bt p n)))))) 67⟩] u5 := M
    refine pl_nil ?_
    refine au_block ?_
    refine au_then ?_
    refine rg_lit ?_
    refine pl_val (want_no rfl) (some 19) rfl (.int .i64 (n : Int)) (fun _ => by kernel_rfl) ?_
    refine pl_val (want_no rfl) (some 20) rfl (.int .i64 ((n : Int) - 1)) (fun w => Eq.trans (b := .ok (.value (.int .i64 (IntKind.wrap .i64 ((n : Int) - 1)))) w) (by kernel_rfl) (by rw [wrap64 (by omega) (by omega)])) ?_
    refine pl_val (want_no rfl) (some 10) rfl (.int .i64 ((n : Int) - 1)) (fun _ => by kernel_rfl) ?_
    refine pl_nil ?_
    refine au_then ?_
    have E : upd (wd (bt p) j) (n / 4) (vo (vl ((wd (bt p) j) (n / 4)) 8) (cv .u32 (bt p n))) = wd (bt p) (j + 1) := by rw [hn]; rfl
    rw [E] at M
    exact ⟨fun k_ => ([.int .i64 (n : Int), .bool true, .int .i64 (n : Int), .int .i64 ((n : Int) - 1), .int .i64 (n : Int), .int .i64 ((n / 4 : Nat) : Int), .int .i64 (n : Int), .int .i64 ((n / 4 : Nat) : Int), .pointer (some ⟨g3, ((n / 4 : Nat)), none⟩), .int .u32 ((wd (bt p) j) ((n / 4 : Nat))), .int .u32 (vl ((wd (bt p) j) ((n / 4 : Nat))) 8), .string p, .int .i64 (n : Int), .int .u8 (bt p n), .int .u32 (cv .u32 (bt p n)), .int .u32 (vo (vl ((wd (bt p) j) ((n / 4 : Nat))) 8) (cv .u32 (bt p n))), .pointer (some ⟨g3, ((n / 4 : Nat)), none⟩)] : List Value).getD (k_ - 17) undef, (n : Int) - 1, by omega, by kernel_rfl, M⟩
  · intro a u0 hI
    obtain ⟨v0, m, hm, rfl, M⟩ := hI
    refine wp_seq ?_
    refine wp_seq ?_
    refine rg_lit ?_
    refine pl_val (want_no rfl) (some 17) rfl (.int .i64 m) (fun _ => by kernel_rfl) ?_
    refine pl_val (want_no rfl) (some 18) rfl (.bool false) (fun w => Eq.trans (b := .ok (.value (.bool (decide ((0 : Int) ≤ m)))) w) (by kernel_rfl) (by rw [decide_eq_false (by omega)])) ?_
    refine pl_nil ?_
    refine au_then ?_
    refine wp_cond_false (by kernel_rfl) ?_
    refine wp_exit ?_
    refine au_then_exit ?_
    refine au_then_exit ?_
    refine au_block_exit ?_
    refine au_then ?_
    refine wp_seq ?_
    refine rg_lit ?_
    refine pl_new M (want_no rfl) (some 11) rfl (.cells (av 16 (w32 (fun _ => 0))) 67) (fun _ => by kernel_rfl) ?_
    intro g4 u6 M
    replace M : Mem ⟨w, []⟩ [⟨g1, .cells (av 8 (w32 h)) 57⟩, ⟨g2, .cells (av 8 (w32 (fun _ => 0))) 57⟩, ⟨g3, .cells (av 16 (w32 (wd (bt p) 64))) 67⟩, ⟨g4, .cells (av 16 (w32 (fun _ => 0))) 67⟩] u6 := M
    refine pl_nil ?_
    refine au_then ?_
    refine wp_seq ?_
    refine rg_lit ?_
    refine pl_call M (want_no rfl) (some 34) rfl 26 #[] (.agg (av 8 (w32 HB))) (fun _ => by kernel_rfl) (fun w M => d_begin w M.laid) ?_
    intro u7 M
    refine pl_new M (want_no rfl) (some 12) rfl (.cells (av 8 (w32 (fun _ => 0))) 57) (fun _ => by kernel_rfl) ?_
    intro g5 u8 M
    replace M : Mem ⟨w, []⟩ [⟨g1, .cells (av 8 (w32 h)) 57⟩, ⟨g2, .cells (av 8 (w32 (fun _ => 0))) 57⟩, ⟨g3, .cells (av 16 (w32 (wd (bt p) 64))) 67⟩, ⟨g4, .cells (av 16 (w32 (fun _ => 0))) 67⟩, ⟨g5, .cells (av 8 (w32 (fun _ => 0))) 57⟩] u8 := M
    refine pl_put M (want_no rfl) rfl 57 _ _ rfl 4 g5 0 (by kernel_rfl) 8 57 (w32 (fun _ => 0)) rfl 8 (w32 HB) (w32 HB) (by kernel_rfl) inz57 (by decide) (fun _ _ => rfl) (fun j hj => by rw [if_pos (by omega), Nat.sub_zero]) ?_
    intro u9 M
    replace M : Mem ⟨w, []⟩ [⟨g1, .cells (av 8 (w32 h)) 57⟩, ⟨g2, .cells (av 8 (w32 (fun _ => 0))) 57⟩, ⟨g3, .cells (av 16 (w32 (wd (bt p) 64))) 67⟩, ⟨g4, .cells (av 16 (w32 (fun _ => 0))) 67⟩, ⟨g5, .cells (av 8 (w32 HB)) 57⟩] u9 := M
    refine pl_nil ?_
    refine au_then ?_
    refine wp_seq ?_
    refine wp_seq ?_
    refine rg_lit ?_
    refine pl_val (want_no rfl) (some 13) rfl (.int .i64 0) (fun _ => by kernel_rfl) ?_
    refine pl_nil ?_
    refine au_then ?_
    refine wp_block ?_
    refine au_loop (fun j a w' => ∃ v1 : Nat → Value, a = ⟨#[.agg (av 8 (w32 h)), .string p, .int .u64 ct, .bool false, .pointer (some ⟨g1, 0, none⟩), undef, undef, undef, .pointer (some ⟨g2, 0, none⟩), .pointer (some ⟨g3, 0, none⟩), .int .i64 m, .pointer (some ⟨g4, 0, none⟩), .pointer (some ⟨g5, 0, none⟩), .int .i64 (j : Int), undef, undef, undef, .int .i64 m, .bool false, v0 19, v0 20, v0 21, v0 22, v0 23, v0 24, v0 25, v0 26, v0 27, v0 28, v0 29, v0 30, v0 31, v0 32, v0 33, .agg (av 8 (w32 HB)), v1 35, v1 36, v1 37, v1 38, v1 39, v1 40, v1 41, v1 42, v1 43, v1 44, v1 45, v1 46, v1 47, v1 48, v1 49, undef, undef, undef, undef, undef, undef, undef, undef, undef, undef, undef, undef, undef, undef, undef, undef, undef, undef, undef, undef, undef, undef, undef, undef, undef, undef, undef, undef, undef, undef, undef, undef, undef, undef, undef, undef, undef, undef, undef, undef, undef, undef, undef, undef, undef, undef, undef, undef, undef, undef, undef, undef, undef, undef, undef, undef, undef, undef, undef, undef, undef, undef, undef, undef, undef, undef, undef, undef, undef, undef, undef, undef, undef, undef, undef, undef, undef, undef, undef, undef, undef, undef, undef, undef, undef, undef, undef, undef, undef, undef, undef, undef, undef, undef, undef, undef, undef, undef, undef, undef, undef, undef, undef, undef, undef, undef, undef, undef, undef, undef, undef, undef, undef, undef, undef, undef, undef, undef, undef, undef, undef, undef, undef], []⟩ ∧ Mem ⟨w, []⟩ [⟨g1, .cells (av 8 (w32 h)) 57⟩, ⟨g2, .cells (av 8 (w32 (fun _ => 0))) 57⟩, ⟨g3, .cells (av 16 (w32 (wd (bt p) 64))) 67⟩, ⟨g4, .cells (av 16 (w32 (vi h j))) 67⟩, ⟨g5, .cells (av 8 (w32 HB)) 57⟩] w') 8 ⟨fun k_ => ([undef, undef, undef, undef, undef, undef, undef, undef, undef, undef, undef, undef, undef, undef, undef] : List Value).getD (k_ - 35) undef, by kernel_rfl, M⟩ ?_ ?_
    · intro j a u0 hj hI
      obtain ⟨v1, rfl, M⟩ := hI
      refine wp_seq ?_
      refine wp_seq ?_
      refine rg_lit ?_
      refine pl_val (want_no rfl) (some 35) rfl (.int .i64 (j : Int)) (fun _ => by kernel_rfl) ?_
      refine pl_val (want_no rfl) (some 36) rfl (.bool true) (fun w => Eq.trans (b := .ok (.value (.bool (decide ((j : Int) < 8)))) w) (by kernel_rfl) (by rw [decide_eq_true (by omega)])) ?_
      refine pl_nil ?_
      refine au_then ?_
      refine wp_cond_true (by kernel_rfl) ?_
      refine wp_skip ?_
      refine au_then ?_
      refine wp_seq ?_
      refine wp_block ?_
      refine wp_seq ?_
      refine rg_lit ?_
      refine pl_val (want_no rfl) (some 39) rfl (.int .i64 (j : Int)) (fun _ => by kernel_rfl) ?_
      refine pl_val (want_no rfl) (some 40) rfl (.int .i64 (j : Int)) (fun _ => by kernel_rfl) ?_
      refine pl_val (want_no rfl) (some 41) rfl (.pointer (some ⟨g1, j, none⟩)) (run_ix1 57 8 56 Tryd.underlying57 inz56 _ _ rfl g1 (by kernel_rfl) .i64 (j) (by kernel_rfl) (by omega)) ?_
      refine pl_cell M (want_no rfl) (some 42) rfl 56 _ rfl g1 j (by kernel_rfl) (.int .u32 (h j)) (fun _ => by kernel_rfl) (fun w M => M.cell 0 rfl (by omega) rfl) ?_
      refine pl_val (want_no rfl) (some 43) rfl (.pointer (some ⟨g4, j, none⟩)) (run_ix1 67 16 56 Tryd.underlying67 inz56 _ _ rfl g4 (by kernel_rfl) .i64 (j) (by kernel_rfl) (by omega)) ?_
      refine pl_put1 M (want_no rfl) rfl 56 _ _ rfl 3 g4 j (by kernel_rfl) 16 67 (w32 (vi h j)) rfl (.int .u32 (h j)) (w32 (upd (vi h j) j (h j))) (by kernel_rfl) inz56 (by omega) rfl rfl (fun j _ => put_w32 _ _ _ j) ?_
      intro u10 M
      replace M : Mem ⟨w, []⟩ [⟨g1, .cells (av 8 (w32 h)) 57⟩, ⟨g2, .cells (av 8 (w32 (fun _ => 0))) 57⟩, ⟨g3, .cells (av 16 (w32 (wd (bt p) 64))) 67⟩, ⟨g4, .cells (av 16 (w32 (upd (vi h j) j (h j)))) 67⟩, ⟨g5, .cells (av 8 (w32 HB)) 57⟩] u10 := M
      refine pl_nil ?_
      refine au_then ?_
      refine rg_lit ?_
      refine pl_val (want_no rfl) (some 44) rfl (.int .i64 (j : Int)) (fun _ => by kernel_rfl) ?_
      refine pl_val (want_no rfl) (some 45) rfl (.int .i64 ((8 + j : Nat) : Int)) (fun w => Eq.trans (b := .ok (.value (.int .i64 (IntKind.wrap .i64 (8 + (j : Int))))) w) (by kernel_rfl) (by rw [wrap64 (by omega) (by omega)]; congr 3)) ?_
      refine pl_val (want_no rfl) (some 46) rfl (.int .i64 (j : Int)) (fun _ => by kernel_rfl) ?_
      refine pl_val (want_no rfl) (some 47) rfl (.pointer (some ⟨g5, j, none⟩)) (run_ix1 57 8 56 Tryd.underlying57 inz56 _ _ rfl g5 (by kernel_rfl) .i64 (j) (by kernel_rfl) (by omega)) ?_
      refine pl_cell M (want_no rfl) (some 48) rfl 56 _ rfl g5 j (by kernel_rfl) (.int .u32 (HB j)) (fun _ => by kernel_rfl) (fun w M => M.cell 4 rfl (by omega) rfl) ?_
      refine pl_val (want_no rfl) (some 49) rfl (.pointer (some ⟨g4, ((8 + j : Nat)), none⟩)) (run_ix1 67 16 56 Tryd.underlying67 inz56 _ _ rfl g4 (by kernel_rfl) .i64 ((8 + j : Nat)) (by kernel_rfl) (by omega)) ?_
      refine pl_put1 M (want_no rfl) rfl 56 _ _ rfl 3 g4 ((8 + j : Nat)) (by kernel_rfl) 16 67 (w32 (upd (vi h j) j (h j))) rfl (.int .u32 (HB j)) (w32 (upd (upd (vi h j) j (h j)) ((8 + j : Nat)) (HB j))) (by kernel_rfl) inz56 (by omega) rfl rfl (fun j _ => put_w32 _ _ _ j) ?_
      intro u11 M
      replace M : Mem ⟨w, []⟩ [⟨g1, .cells (av 8 (w32 h)) 57⟩, ⟨g2, .cells (av 8 (w32 (fun _ => 0))) 57⟩, ⟨g3, .cells (av 16 (w32 (wd (bt p) 64))) 67⟩, ⟨g4, .cells (av 16 (w32 (upd (upd (vi h j) j (h j)) ((8 + j : Nat)) (HB j)))) 67⟩, ⟨g5, .cells (av 8 (w32 HB)) 57⟩] u11 := M
      refine pl_nil ?_
      refine au_block ?_
      refine au_then ?_
      refine rg_lit ?_
      refine pl_val (want_no rfl) (some 37) rfl (.int .i64 (j : Int)) (fun _ => by kernel_rfl) ?_
      refine pl_val (want_no rfl) (some 38) rfl (.int .i64 ((j + 1 : Nat) : Int)) (fun w => Eq.trans (b := .ok (.value (.int .i64 (IntKind.wrap .i64 ((j : Int) + 1)))) w) (by kernel_rfl) (by rw [wrap64 (by omega) (by omega)]; congr 3)) ?_
      refine pl_val (want_no rfl) (some 13) rfl (.int .i64 ((j + 1 : Nat) : Int)) (fun _ => by kernel_rfl) ?_
      refine pl_nil ?_
      refine au_then ?_
      exact ⟨fun k_ => ([.int .i64 (j : Int), .bool true, .int .i64 (j : Int), .int .i64 ((j + 1 : Nat) : Int), .int .i64 (j : Int), .int .i64 (j : Int), .pointer (some ⟨g1, j, none⟩), .int .u32 (h j), .pointer (some ⟨g4, j, none⟩), .int .i64 (j : Int), .int .i64 ((8 + j : Nat) : Int), .int .i64 (j : Int), .pointer (some ⟨g5, j, none⟩), .int .u32 (HB j), .pointer (some ⟨g4, ((8 + j : Nat)), none⟩)] : List Value).getD (k_ - 35) undef, by kernel_rfl, M⟩
    · intro a u0 hI
      obtain ⟨v1, rfl, M⟩ := hI
      rw [vi_av] at M
      replace M : Mem ⟨w, []⟩ [⟨g1, .cells (av 8 (w32 h)) 57⟩, ⟨g2, .cells (av 8 (w32 (fun _ => 0))) 57⟩, ⟨g3, .cells (av 16 (w32 (wd (bt p) 64))) 67⟩, ⟨g4, .cells (av 16 (w32 (spB h))) 67⟩, ⟨g5, .cells (av 8 (w32 HB)) 57⟩] u0 := M
      refine wp_seq ?_
      refine wp_seq ?_
      refine rg_lit ?_
      refine pl_val (want_no rfl) (some 35) rfl (.int .i64 (8 : Int)) (fun _ => by kernel_rfl) ?_
      refine pl_val (want_no rfl) (some 36) rfl (.bool false) (fun w => Eq.trans (b := .ok (.value (.bool (decide (8 < 8)))) w) (by kernel_rfl) (by rw [decide_eq_false (by omega)])) ?_
      refine pl_nil ?_
      refine au_then ?_
      refine wp_cond_false (by kernel_rfl) ?_
      refine wp_exit ?_
      refine au_then_exit ?_
      refine au_then_exit ?_
      refine au_block_exit ?_
      refine au_then ?_
      refine wp_seq ?_
      refine rg_lit ?_
      refine pl_val (want_no rfl) (some 50) rfl (.pointer (some ⟨g4, 12, none⟩)) (fun _ => by kernel_rfl) ?_
      refine pl_cell M (want_no rfl) (some 51) rfl 56 _ rfl g4 12 (by kernel_rfl) (.int .u32 ((spB h) 12)) (fun _ => by kernel_rfl) (fun w M => M.cell 3 rfl (by decide) rfl) ?_
      refine pl_val (want_no rfl) (some 52) rfl (.int .u64 ct) (fun _ => by kernel_rfl) ?_
      refine pl_val (want_no rfl) (some 53) rfl (.int .u32 (cv .u32 ct)) (fun _ => by kernel_rfl) ?_
      refine pl_val (want_no rfl) (some 54) rfl (.int .u32 (vx ((spB h) 12) (cv .u32 ct))) (fun _ => by kernel_rfl) ?_
      refine pl_val (want_no rfl) (some 55) rfl (.pointer (some ⟨g4, 12, none⟩)) (fun _ => by kernel_rfl) ?_
      refine pl_put1 M (want_no rfl) rfl 56 _ _ rfl 3 g4 12 (by kernel_rfl) 16 67 (w32 (spB h)) rfl (.int .u32 (vx ((spB h) 12) (cv .u32 ct))) (w32 (upd (spB h) 12 (vx ((spB h) 12) (cv .u32 ct)))) (by kernel_rfl) inz56 (by decide) rfl rfl (fun j _ => put_w32 _ _ _ j) ?_
      intro u12 M
      replace M : Mem ⟨w, []⟩ [⟨g1, .cells (av 8 (w32 h)) 57⟩, ⟨g2, .cells (av 8 (w32 (fun _ => 0))) 57⟩, ⟨g3, .cells (av 16 (w32 (wd (bt p) 64))) 67⟩, ⟨g4, .cells (av 16 (w32 (upd (spB h) 12 (vx ((spB h) 12) (cv .u32 ct))))) 67⟩, ⟨g5, .cells (av 8 (w32 HB)) 57⟩] u12 := M
      refine pl_nil ?_
      refine au_then ?_
      refine wp_seq ?_
      refine rg_lit ?_
      refine pl_val (want_no rfl) (some 56) rfl (.pointer (some ⟨g4, 13, none⟩)) (fun _ => by kernel_rfl) ?_
      refine pl_cell M (want_no rfl) (some 57) rfl 56 _ rfl g4 13 (by kernel_rfl) (.int .u32 ((upd (spB h) 12 (vx ((spB h) 12) (cv .u32 ct))) 13)) (fun _ => by kernel_rfl) (fun w M => M.cell 3 rfl (by decide) rfl) ?_
      refine pl_val (want_no rfl) (some 58) rfl (.int .u64 ct) (fun _ => by kernel_rfl) ?_
      refine pl_val (want_no rfl) (some 59) rfl (.int .u64 (sr ct 32)) (fun _ => by kernel_rfl) ?_
      refine pl_val (want_no rfl) (some 60) rfl (.int .u32 (cv .u32 (sr ct 32))) (fun _ => by kernel_rfl) ?_
      refine pl_val (want_no rfl) (some 61) rfl (.int .u32 (vx ((upd (spB h) 12 (vx ((spB h) 12) (cv .u32 ct))) 13) (cv .u32 (sr ct 32)))) (fun _ => by kernel_rfl) ?_
      refine pl_val (want_no rfl) (some 62) rfl (.pointer (some ⟨g4, 13, none⟩)) (fun _ => by kernel_rfl) ?_
      refine pl_put1 M (want_no rfl) rfl 56 _ _ rfl 3 g4 13 (by kernel_rfl) 16 67 (w32 (upd (spB h) 12 (vx ((spB h) 12) (cv .u32 ct)))) rfl (.int .u32 (vx ((upd (spB h) 12 (vx ((spB h) 12) (cv .u32 ct))) 13) (cv .u32 (sr ct 32)))) (w32 (upd (upd (spB h) 12 (vx ((spB h) 12) (cv .u32 ct))) 13 (vx ((upd (spB h) 12 (vx ((spB h) 12) (cv .u32 ct))) 13) (cv .u32 (sr ct 32))))) (by kernel_rfl) inz56 (by decide) rfl rfl (fun j _ => put_w32 _ _ _ j) ?_
      intro u13 M
      replace M : Mem ⟨w, []⟩ [⟨g1, .cells (av 8 (w32 h)) 57⟩, ⟨g2, .cells (av 8 (w32 (fun _ => 0))) 57⟩, ⟨g3, .cells (av 16 (w32 (wd (bt p) 64))) 67⟩, ⟨g4, .cells (av 16 (w32 (upd (upd (spB h) 12 (vx ((spB h) 12) (cv .u32 ct))) 13 (vx ((upd (spB h) 12 (vx ((spB h) 12) (cv .u32 ct))) 13) (cv .u32 (sr ct 32)))))) 67⟩, ⟨g5, .cells (av 8 (w32 HB)) 57⟩] u13 := M
      refine pl_nil ?_
      refine au_then ?_
      refine wp_seq ?_
      refine wp_seq ?_
      refine rg_lit ?_
      refine pl_val (want_no rfl) (some 63) rfl (.bool false) (fun _ => by kernel_rfl) ?_
      refine pl_nil ?_
      refine au_then ?_
      refine wp_cond_false (by kernel_rfl) ?_
      refine wp_skip ?_
      refine au_then ?_
      refine wp_seq ?_
      refine wp_seq ?_
      refine rg_lit ?_
      refine pl_val (want_no rfl) (some 14) rfl (.int .i64 0) (fun _ => by kernel_rfl) ?_
      refine pl_nil ?_
      refine au_then ?_
      refine wp_block ?_
      replace M : Mem ⟨w, []⟩ [⟨g1, .cells (av 8 (w32 h)) 57⟩, ⟨g2, .cells (av 8 (w32 (fun _ => 0))) 57⟩, ⟨g3, .cells (av 16 (w32 (wd (bt p) 64))) 67⟩, ⟨g4, .cells (av 16 (w32 (spr h ct false))) 67⟩, ⟨g5, .cells (av 8 (w32 HB)) 57⟩] u13 := M
      refine au_loop (fun j a w' => ∃ v2 : Nat → Value, a = ⟨#[.agg (av 8 (w32 h)), .string p, .int .u64 ct, .bool false, .pointer (some ⟨g1, 0, none⟩), undef, undef, undef, .pointer (some ⟨g2, 0, none⟩), .pointer (some ⟨g3, 0, none⟩), .int .i64 m, .pointer (some ⟨g4, 0, none⟩), .pointer (some ⟨g5, 0, none⟩), .int .i64 (8 : Int), .int .i64 (j : Int), v2 15, undef, .int .i64 m, .bool false, v0 19, v0 20, v0 21, v0 22, v0 23, v0 24, v0 25, v0 26, v0 27, v0 28, v0 29, v0 30, v0 31, v0 32, v0 33, .agg (av 8 (w32 HB)), .int .i64 (8 : Int), .bool false, v1 37, v1 38, v1 39, v1 40, v1 41, v1 42, v1 43, v1 44, v1 45, v1 46, v1 47, v1 48, v1 49, .pointer (some ⟨g4, 12, none⟩), .int .u32 ((spB h) 12), .int .u64 ct, .int .u32 (cv .u32 ct), .int .u32 (vx ((spB h) 12) (cv .u32 ct)), .pointer (some ⟨g4, 12, none⟩), .pointer (some ⟨g4, 13, none⟩), .int .u32 ((upd (spB h) 12 (vx ((spB h) 12) (cv .u32 ct))) 13), .int .u64 ct, .int .u64 (sr ct 32), .int .u32 (cv .u32 (sr ct 32)), .int .u32 (vx ((upd (spB h) 12 (vx ((spB h) 12) (cv .u32 ct))) 13) (cv .u32 (sr ct 32))), .pointer (some ⟨g4, 13, none⟩), .bool false, undef, undef, undef, undef, v2 68, v2 69, v2 70, v2 71, v2 72, v2 73, v2 74, v2 75, v2 76, v2 77, v2 78, v2 79, v2 80, v2 81, v2 82, v2 83, v2 84, v2 85, v2 86, v2 87, v2 88, v2 89, v2 90, v2 91, v2 92, v2 93, v2 94, v2 95, v2 96, v2 97, v2 98, v2 99, v2 100, v2 101, v2 102, v2 103, v2 104, v2 105, v2 106, v2 107, v2 108, v2 109, v2 110, v2 111, v2 112, v2 113, v2 114, v2 115, v2 116, v2 117, v2 118, v2 119, v2 120, v2 121, v2 122, v2 123, v2 124, v2 125, v2 126, v2 127, v2 128, v2 129, v2 130, v2 131, v2 132, v2 133, v2 134, v2 135, v2 136, v2 137, v2 138, v2 139, v2 140, v2 141, v2 142, v2 143, v2 144, v2 145, v2 146, v2 147, v2 148, v2 149, v2 150, v2 151, v2 152, v2 153, undef, undef, undef, undef, undef, undef, undef, undef, undef, undef, undef, undef, undef, undef, undef, undef, undef, undef, undef], []⟩ ∧ Mem ⟨w, []⟩ [⟨g1, .cells (av 8 (w32 h)) 57⟩, ⟨g2, .cells (av 8 (w32 (fun _ => 0))) 57⟩, ⟨g3, .cells (av 16 (w32 (wd (bt p) 64))) 67⟩, ⟨g4, .cells (av 16 (w32 (rd (wd (bt p) 64) (spr h ct false) j))) 67⟩, ⟨g5, .cells (av 8 (w32 HB)) 57⟩] w') 10 ⟨fun k_ => ([undef, undef, undef, undef, undef, undef, undef, undef, undef, undef, undef, undef, undef, undef, undef, undef, undef, undef, undef, undef, undef, undef, undef, undef, undef, undef, undef, undef, undef, undef, undef, undef, undef, undef, undef, undef, undef, undef, undef, undef, undef, undef, undef, undef, undef, undef, undef, undef, undef, undef, undef, undef, undef, undef, undef, undef, undef, undef, undef, undef, undef, undef, undef, undef, undef, undef, undef, undef, undef, undef, undef, undef, undef, undef, undef, undef, undef, undef, undef, undef, undef, undef, undef, undef, undef, undef, undef, undef, undef, undef, undef, undef, undef, undef, undef, undef, undef, undef, undef, undef, undef, undef, undef, undef, undef, undef, undef, undef, undef, undef, undef, undef, undef, undef, undef, undef, undef, undef, undef, undef, undef, undef, undef, undef, undef, undef, undef, undef, undef, undef, undef, undef, undef, undef, undef, undef, undef, undef, undef] : List Value).getD (k_ - 15) undef, by kernel_rfl, M⟩ ?_ ?_
      · intro j a u0 hj hI
        obtain ⟨v2, rfl, M⟩ := hI
        refine wp_seq ?_
        refine wp_seq ?_
        refine rg_lit ?_
        refine pl_val (want_no rfl) (some 68) rfl (.int .i64 (j : Int)) (fun _ => by kernel_rfl) ?_
        refine pl_val (want_no rfl) (some 69) rfl (.bool true) (fun w => Eq.trans (b := .ok (.value (.bool (decide ((j : Int) < 10)))) w) (by kernel_rfl) (by rw [decide_eq_true (by omega)])) ?_
        refine pl_nil ?_
        refine au_then ?_
        refine wp_cond_true (by kernel_rfl) ?_
        refine wp_skip ?_
        refine au_then ?_
        refine wp_seq ?_
        refine wp_block ?_
        refine wp_seq ?_
        refine rg_lit ?_
        refine pl_val (want_no rfl) (some 72) rfl (.int .i64 (j : Int)) (fun _ => by kernel_rfl) ?_
        refine pl_call M (want_no rfl) (some 73) rfl 32 #[.int .i64 (j : Int)] (.agg (av 16 (oi j))) (fun _ => by kernel_rfl) (fun w M => d_order j (by omega) w M.laid) ?_
        intro u14 M
        refine pl_new M (want_no rfl) (some 15) rfl (.cells (av 16 (wi (fun _ => 0))) 68) (fun _ => by kernel_rfl) ?_
        intro g6 u15 M
        replace M : Mem ⟨w, []⟩ [⟨g1, .cells (av 8 (w32 h)) 57⟩, ⟨g2, .cells (av 8 (w32 (fun _ => 0))) 57⟩, ⟨g3, .cells (av 16 (w32 (wd (bt p) 64))) 67⟩, ⟨g4, .cells (av 16 (w32 (rd (wd (bt p) 64) (spr h ct false) j))) 67⟩, ⟨g5, .cells (av 8 (w32 HB)) 57⟩, ⟨g6, .cells (av 16 (wi (fun _ => 0))) 68⟩] u15 := M
        refine pl_put M (want_no rfl) rfl 68 _ _ rfl 5 g6 0 (by kernel_rfl) 16 68 (wi (fun _ => 0)) rfl 16 (oi j) (oi j) (by kernel_rfl) inz68 (by decide) (fun _ _ => rfl) (fun j hj => by rw [if_pos (by omega), Nat.sub_zero]) ?_
        intro u16 M
        replace M : Mem ⟨w, []⟩ [⟨g1, .cells (av 8 (w32 h)) 57⟩, ⟨g2, .cells (av 8 (w32 (fun _ => 0))) 57⟩, ⟨g3, .cells (av 16 (w32 (wd (bt p) 64))) 67⟩, ⟨g4, .cells (av 16 (w32 (rd (wd (bt p) 64) (spr h ct false) j))) 67⟩, ⟨g5, .cells (av 8 (w32 HB)) 57⟩, ⟨g6, .cells (av 16 (oi j)) 68⟩] u16 := M
        refine pl_nil ?_
        refine au_then ?_
        refine wp_seq ?_
        refine rg_tail M 10 (by kernel_rfl) (by kernel_rfl) ?_
        simp only [List.take_succ_cons, List.take_zero]
        refine k_load M (want_no rfl) (some 74) rfl 67 _ rfl 3 g4 0 (by kernel_rfl) 16 67 (w32 (rd (wd (bt p) 64) (spr h ct false) j)) rfl 16 (w32 (rd (wd (bt p) 64) (spr h ct false) j)) (fun j _ => by rw [Nat.zero_add]) (by decide) _ Tryd.underlying67 rfl inz67 ?_
        refine k_val (want_no rfl) (some 75) rfl (.pointer (some ⟨g6, 0, none⟩)) (fun _ => by kernel_rfl) ?_
        refine k_cell M (want_no rfl) (some 76) rfl 3 _ rfl g6 0 (by kernel_rfl) (.int .i64 (OF (j * 16 + 0) : Int)) (fun _ => by kernel_rfl) (fun w M => M.cell 5 rfl (by decide) rfl) ?_
        refine k_val (want_no rfl) (some 77) rfl (.pointer (some ⟨g3, (OF (j * 16 + 0)), none⟩)) (run_ix1 67 16 56 Tryd.underlying67 inz56 _ _ rfl g3 (by kernel_rfl) .i64 (OF (j * 16 + 0)) (by kernel_rfl) (OF_lt _)) ?_
        refine k_cell M (want_no rfl) (some 78) rfl 56 _ rfl g3 (OF (j * 16 + 0)) (by kernel_rfl) (.int .u32 ((wd (bt p) 64) (OF (j * 16 + 0)))) (fun _ => by kernel_rfl) (fun w M => M.cell 2 rfl (OF_lt _) rfl) ?_
        refine k_val (want_no rfl) (some 79) rfl (.pointer (some ⟨g6, 1, none⟩)) (fun _ => by kernel_rfl) ?_
        refine k_cell M (want_no rfl) (some 80) rfl 3 _ rfl g6 1 (by kernel_rfl) (.int .i64 (OF (j * 16 + 1) : Int)) (fun _ => by kernel_rfl) (fun w M => M.cell 5 rfl (by decide) rfl) ?_
        refine k_val (want_no rfl) (some 81) rfl (.pointer (some ⟨g3, (OF (j * 16 + 1)), none⟩)) (run_ix1 67 16 56 Tryd.underlying67 inz56 _ _ rfl g3 (by kernel_rfl) .i64 (OF (j * 16 + 1)) (by kernel_rfl) (OF_lt _)) ?_
        refine k_cell M (want_no rfl) (some 82) rfl 56 _ rfl g3 (OF (j * 16 + 1)) (by kernel_rfl) (.int .u32 ((wd (bt p) 64) (OF (j * 16 + 1)))) (fun _ => by kernel_rfl) (fun w M => M.cell 2 rfl (OF_lt _) rfl) ?_
        refine k_call M (want_no rfl) (some 83) rfl 33 #[.agg (av 16 (w32 (rd (wd (bt p) 64) (spr h ct false) j))), .int .i64 0, .int .i64 4, .int .i64 8, .int .i64 12, .int .u32 ((wd (bt p) 64) (OF (j * 16 + 0))), .int .u32 ((wd (bt p) 64) (OF (j * 16 + 1)))] (.agg (av 16 (w32 (rn1 (wd (bt p) 64) (rd (wd (bt p) 64) (spr h ct false) j) j)))) (fun _ => by kernel_rfl) (fun w M => d_mix (rd (wd (bt p) 64) (spr h ct false) j) _ _ 0 4 8 12 (by decide) (by decide) (by decide) (by decide) (by decide) (by decide) (by decide) (by decide) (by decide) (by decide) w M.laid) ?_
        refine kl_nil ?_
        intro u17 M
        replace M : Mem ⟨w, []⟩ [⟨g1, .cells (av 8 (w32 h)) 57⟩, ⟨g2, .cells (av 8 (w32 (fun _ => 0))) 57⟩, ⟨g3, .cells (av 16 (w32 (wd (bt p) 64))) 67⟩, ⟨g4, .cells (av 16 (w32 (rd (wd (bt p) 64) (spr h ct false) j))) 67⟩, ⟨g5, .cells (av 8 (w32 HB)) 57⟩, ⟨g6, .cells (av 16 (oi j)) 68⟩] u17 := M
        refine pl_put M (want_no rfl) rfl 67 _ _ rfl 3 g4 0 (by kernel_rfl) 16 67 (w32 (rd (wd (bt p) 64) (spr h ct false) j)) rfl 16 (w32 (rn1 (wd (bt p) 64) (rd (wd (bt p) 64) (spr h ct false) j) j)) (w32 (rn1 (wd (bt p) 64) (rd (wd (bt p) 64) (spr h ct false) j) j)) (by kernel_rfl) inz67 (by decide) (fun _ _ => rfl) (fun j hj => by rw [if_pos (by omega), Nat.sub_zero]) ?_
        intro u18 M
        replace M : Mem ⟨w, []⟩ [⟨g1, .cells (av 8 (w32 h)) 57⟩, ⟨g2, .cells (av 8 (w32 (fun _ => 0))) 57⟩, ⟨g3, .cells (av 16 (w32 (wd (bt p) 64))) 67⟩, ⟨g4, .cells (av 16 (w32 (rn1 (wd (bt p) 64) (rd (wd (bt p) 64) (spr h ct false) j) j))) 67⟩, ⟨g5, .cells (av 8 (w32 HB)) 57⟩, ⟨g6, .cells (av 16 (oi j)) 68⟩] u18 := M
        refine pl_nil ?_
        refine au_then ?_
        refine wp_seq ?_
        refine rg_tail M 10 (by kernel_rfl) (by kernel_rfl) ?_
        simp only [List.take_succ_cons, List.take_zero]
        refine k_load M (want_no rfl) (some 84) rfl 67 _ rfl 3 g4 0 (by kernel_rfl) 16 67 (w32 (rn1 (wd (bt p) 64) (rd (wd (bt p) 64) (spr h ct false) j) j)) rfl 16 (w32 (rn1 (wd (bt p) 64) (rd (wd (bt p) 64) (spr h ct false) j) j)) (fun j _ => by rw [Nat.zero_add]) (by decide) _ Tryd.underlying67 rfl inz67 ?_
        refine k_val (want_no rfl) (some 85) rfl (.pointer (some ⟨g6, 2, none⟩)) (fun _ => by kernel_rfl) ?_
        refine k_cell M (want_no rfl) (some 86) rfl 3 _ rfl g6 2 (by kernel_rfl) (.int .i64 (OF (j * 16 + 2) : Int)) (fun _ => by kernel_rfl) (fun w M => M.cell 5 rfl (by decide) rfl) ?_
        refine k_val (want_no rfl) (some 87) rfl (.pointer (some ⟨g3, (OF (j * 16 + 2)), none⟩)) (run_ix1 67 16 56 Tryd.underlying67 inz56 _ _ rfl g3 (by kernel_rfl) .i64 (OF (j * 16 + 2)) (by kernel_rfl) (OF_lt _)) ?_
        refine k_cell M (want_no rfl) (some 88) rfl 56 _ rfl g3 (OF (j * 16 + 2)) (by kernel_rfl) (.int .u32 ((wd (bt p) 64) (OF (j * 16 + 2)))) (fun _ => by kernel_rfl) (fun w M => M.cell 2 rfl (OF_lt _) rfl) ?_
        refine k_val (want_no rfl) (some 89) rfl (.pointer (some ⟨g6, 3, none⟩)) (fun _ => by kernel_rfl) ?_
        refine k_cell M (want_no rfl) (some 90) rfl 3 _ rfl g6 3 (by kernel_rfl) (.int .i64 (OF (j * 16 + 3) : Int)) (fun _ => by kernel_rfl) (fun w M => M.cell 5 rfl (by decide) rfl) ?_
        refine k_val (want_no rfl) (some 91) rfl (.pointer (some ⟨g3, (OF (j * 16 + 3)), none⟩)) (run_ix1 67 16 56 Tryd.underlying67 inz56 _ _ rfl g3 (by kernel_rfl) .i64 (OF (j * 16 + 3)) (by kernel_rfl) (OF_lt _)) ?_
        refine k_cell M (want_no rfl) (some 92) rfl 56 _ rfl g3 (OF (j * 16 + 3)) (by kernel_rfl) (.int .u32 ((wd (bt p) 64) (OF (j * 16 + 3)))) (fun _ => by kernel_rfl) (fun w M => M.cell 2 rfl (OF_lt _) rfl) ?_
        refine k_call M (want_no rfl) (some 93) rfl 33 #[.agg (av 16 (w32 (rn1 (wd (bt p) 64) (rd (wd (bt p) 64) (spr h ct false) j) j))), .int .i64 1, .int .i64 5, .int .i64 9, .int .i64 13, .int .u32 ((wd (bt p) 64) (OF (j * 16 + 2))), .int .u32 ((wd (bt p) 64) (OF (j * 16 + 3)))] (.agg (av 16 (w32 (rn2 (wd (bt p) 64) (rd (wd (bt p) 64) (spr h ct false) j) j)))) (fun _ => by kernel_rfl) (fun w M => d_mix (rn1 (wd (bt p) 64) (rd (wd (bt p) 64) (spr h ct false) j) j) _ _ 1 5 9 13 (by decide) (by decide) (by decide) (by decide) (by decide) (by decide) (by decide) (by decide) (by decide) (by decide) w M.laid) ?_
        refine kl_nil ?_
        intro u19 M
        replace M : Mem ⟨w, []⟩ [⟨g1, .cells (av 8 (w32 h)) 57⟩, ⟨g2, .cells (av 8 (w32 (fun _ => 0))) 57⟩, ⟨g3, .cells (av 16 (w32 (wd (bt p) 64))) 67⟩, ⟨g4, .cells (av 16 (w32 (rn1 (wd (bt p) 64) (rd (wd (bt p) 64) (spr h ct false) j) j))) 67⟩, ⟨g5, .cells (av 8 (w32 HB)) 57⟩, ⟨g6, .cells (av 16 (oi j)) 68⟩] u19 := M
        refine pl_put M (want_no rfl) rfl 67 _ _ rfl 3 g4 0 (by kernel_rfl) 16 67 (w32 (rn1 (wd (bt p) 64) (rd (wd (bt p) 64) (spr h ct false) j) j)) rfl 16 (w32 (rn2 (wd (bt p) 64) (rd (wd (bt p) 64) (spr h ct false) j) j)) (w32 (rn2 (wd (bt p) 64) (rd (wd (bt p) 64) (spr h ct false) j) j)) (by kernel_rfl) inz67 (by decide) (fun _ _ => rfl) (fun j hj => by rw [if_pos (by omega), Nat.sub_zero]) ?_
        intro u20 M
        replace M : Mem ⟨w, []⟩ [⟨g1, .cells (av 8 (w32 h)) 57⟩, ⟨g2, .cells (av 8 (w32 (fun _ => 0))) 57⟩, ⟨g3, .cells (av 16 (w32 (wd (bt p) 64))) 67⟩, ⟨g4, .cells (av 16 (w32 (rn2 (wd (bt p) 64) (rd (wd (bt p) 64) (spr h ct false) j) j))) 67⟩, ⟨g5, .cells (av 8 (w32 HB)) 57⟩, ⟨g6, .cells (av 16 (oi j)) 68⟩] u20 := M
        refine pl_nil ?_
        refine au_then ?_
        refine wp_seq ?_
        refine rg_tail M 10 (by kernel_rfl) (by kernel_rfl) ?_
        simp only [List.take_succ_cons, List.take_zero]
        refine k_load M (want_no rfl) (some 94) rfl 67 _ rfl 3 g4 0 (by kernel_rfl) 16 67 (w32 (rn2 (wd (bt p) 64) (rd (wd (bt p) 64) (spr h ct false) j) j)) rfl 16 (w32 (rn2 (wd (bt p) 64) (rd (wd (bt p) 64) (spr h ct false) j) j)) (fun j _ => by rw [Nat.zero_add]) (by decide) _ Tryd.underlying67 rfl inz67 ?_
        refine k_val (want_no rfl) (some 95) rfl (.pointer (some ⟨g6, 4, none⟩)) (fun _ => by kernel_rfl) ?_
        refine k_cell M (want_no rfl) (some 96) rfl 3 _ rfl g6 4 (by kernel_rfl) (.int .i64 (OF (j * 16 + 4) : Int)) (fun _ => by kernel_rfl) (fun w M => M.cell 5 rfl (by decide) rfl) ?_
        refine k_val (want_no rfl) (some 97) rfl (.pointer (some ⟨g3, (OF (j * 16 + 4)), none⟩)) (run_ix1 67 16 56 Tryd.underlying67 inz56 _ _ rfl g3 (by kernel_rfl) .i64 (OF (j * 16 + 4)) (by kernel_rfl) (OF_lt _)) ?_
        refine k_cell M (want_no rfl) (some 98) rfl 56 _ rfl g3 (OF (j * 16 + 4)) (by kernel_rfl) (.int .u32 ((wd (bt p) 64) (OF (j * 16 + 4)))) (fun _ => by kernel_rfl) (fun w M => M.cell 2 rfl (OF_lt _) rfl) ?_
        refine k_val (want_no rfl) (some 99) rfl (.pointer (some ⟨g6, 5, none⟩)) (fun _ => by kernel_rfl) ?_
        refine k_cell M (want_no rfl) (some 100) rfl 3 _ rfl g6 5 (by kernel_rfl) (.int .i64 (OF (j * 16 + 5) : Int)) (fun _ => by kernel_rfl) (fun w M => M.cell 5 rfl (by decide) rfl) ?_
        refine k_val (want_no rfl) (some 101) rfl (.pointer (some ⟨g3, (OF (j * 16 + 5)), none⟩)) (run_ix1 67 16 56 Tryd.underlying67 inz56 _ _ rfl g3 (by kernel_rfl) .i64 (OF (j * 16 + 5)) (by kernel_rfl) (OF_lt _)) ?_
        refine k_cell M (want_no rfl) (some 102) rfl 56 _ rfl g3 (OF (j * 16 + 5)) (by kernel_rfl) (.int .u32 ((wd (bt p) 64) (OF (j * 16 + 5)))) (fun _ => by kernel_rfl) (fun w M => M.cell 2 rfl (OF_lt _) rfl) ?_
        refine k_call M (want_no rfl) (some 103) rfl 33 #[.agg (av 16 (w32 (rn2 (wd (bt p) 64) (rd (wd (bt p) 64) (spr h ct false) j) j))), .int .i64 2, .int .i64 6, .int .i64 10, .int .i64 14, .int .u32 ((wd (bt p) 64) (OF (j * 16 + 4))), .int .u32 ((wd (bt p) 64) (OF (j * 16 + 5)))] (.agg (av 16 (w32 (rn3 (wd (bt p) 64) (rd (wd (bt p) 64) (spr h ct false) j) j)))) (fun _ => by kernel_rfl) (fun w M => d_mix (rn2 (wd (bt p) 64) (rd (wd (bt p) 64) (spr h ct false) j) j) _ _ 2 6 10 14 (by decide) (by decide) (by decide) (by decide) (by decide) (by decide) (by decide) (by decide) (by decide) (by decide) w M.laid) ?_
        refine kl_nil ?_
        intro u21 M
        replace M : Mem ⟨w, []⟩ [⟨g1, .cells (av 8 (w32 h)) 57⟩, ⟨g2, .cells (av 8 (w32 (fun _ => 0))) 57⟩, ⟨g3, .cells (av 16 (w32 (wd (bt p) 64))) 67⟩, ⟨g4, .cells (av 16 (w32 (rn2 (wd (bt p) 64) (rd (wd (bt p) 64) (spr h ct false) j) j))) 67⟩, ⟨g5, .cells (av 8 (w32 HB)) 57⟩, ⟨g6, .cells (av 16 (oi j)) 68⟩] u21 := M
        refine pl_put M (want_no rfl) rfl 67 _ _ rfl 3 g4 0 (by kernel_rfl) 16 67 (w32 (rn2 (wd (bt p) 64) (rd (wd (bt p) 64) (spr h ct false) j) j)) rfl 16 (w32 (rn3 (wd (bt p) 64) (rd (wd (bt p) 64) (spr h ct false) j) j)) (w32 (rn3 (wd (bt p) 64) (rd (wd (bt p) 64) (spr h ct false) j) j)) (by kernel_rfl) inz67 (by decide) (fun _ _ => rfl) (fun j hj => by rw [if_pos (by omega), Nat.sub_zero]) ?_
        intro u22 M
        replace M : Mem ⟨w, []⟩ [⟨g1, .cells (av 8 (w32 h)) 57⟩, ⟨g2, .cells (av 8 (w32 (fun _ => 0))) 57⟩, ⟨g3, .cells (av 16 (w32 (wd (bt p) 64))) 67⟩, ⟨g4, .cells (av 16 (w32 (rn3 (wd (bt p) 64) (rd (wd (bt p) 64) (spr h ct false) j) j))) 67⟩, ⟨g5, .cells (av 8 (w32 HB)) 57⟩, ⟨g6, .cells (av 16 (oi j)) 68⟩] u22 := M
        refine pl_nil ?_
        refine au_then ?_
        refine wp_seq ?_
        refine rg_tail M 10 (by kernel_rfl) (by kernel_rfl) ?_
        simp only [List.take_succ_cons, List.take_zero]
        refine k_load M (want_no rfl) (some 104) rfl 67 _ rfl 3 g4 0 (by kernel_rfl) 16 67 (w32 (rn3 (wd (bt p) 64) (rd (wd (bt p) 64) (spr h ct false) j) j)) rfl 16 (w32 (rn3 (wd (bt p) 64) (rd (wd (bt p) 64) (spr h ct false) j) j)) (fun j _ => by rw [Nat.zero_add]) (by decide) _ Tryd.underlying67 rfl inz67 ?_
        refine k_val (want_no rfl) (some 105) rfl (.pointer (some ⟨g6, 6, none⟩)) (fun _ => by kernel_rfl) ?_
        refine k_cell M (want_no rfl) (some 106) rfl 3 _ rfl g6 6 (by kernel_rfl) (.int .i64 (OF (j * 16 + 6) : Int)) (fun _ => by kernel_rfl) (fun w M => M.cell 5 rfl (by decide) rfl) ?_
        refine k_val (want_no rfl) (some 107) rfl (.pointer (some ⟨g3, (OF (j * 16 + 6)), none⟩)) (run_ix1 67 16 56 Tryd.underlying67 inz56 _ _ rfl g3 (by kernel_rfl) .i64 (OF (j * 16 + 6)) (by kernel_rfl) (OF_lt _)) ?_
        refine k_cell M (want_no rfl) (some 108) rfl 56 _ rfl g3 (OF (j * 16 + 6)) (by kernel_rfl) (.int .u32 ((wd (bt p) 64) (OF (j * 16 + 6)))) (fun _ => by kernel_rfl) (fun w M => M.cell 2 rfl (OF_lt _) rfl) ?_
        refine k_val (want_no rfl) (some 109) rfl (.pointer (some ⟨g6, 7, none⟩)) (fun _ => by kernel_rfl) ?_
        refine k_cell M (want_no rfl) (some 110) rfl 3 _ rfl g6 7 (by kernel_rfl) (.int .i64 (OF (j * 16 + 7) : Int)) (fun _ => by kernel_rfl) (fun w M => M.cell 5 rfl (by decide) rfl) ?_
        refine k_val (want_no rfl) (some 111) rfl (.pointer (some ⟨g3, (OF (j * 16 + 7)), none⟩)) (run_ix1 67 16 56 Tryd.underlying67 inz56 _ _ rfl g3 (by kernel_rfl) .i64 (OF (j * 16 + 7)) (by kernel_rfl) (OF_lt _)) ?_
        refine k_cell M (want_no rfl) (some 112) rfl 56 _ rfl g3 (OF (j * 16 + 7)) (by kernel_rfl) (.int .u32 ((wd (bt p) 64) (OF (j * 16 + 7)))) (fun _ => by kernel_rfl) (fun w M => M.cell 2 rfl (OF_lt _) rfl) ?_
        refine k_call M (want_no rfl) (some 113) rfl 33 #[.agg (av 16 (w32 (rn3 (wd (bt p) 64) (rd (wd (bt p) 64) (spr h ct false) j) j))), .int .i64 3, .int .i64 7, .int .i64 11, .int .i64 15, .int .u32 ((wd (bt p) 64) (OF (j * 16 + 6))), .int .u32 ((wd (bt p) 64) (OF (j * 16 + 7)))] (.agg (av 16 (w32 (rn4 (wd (bt p) 64) (rd (wd (bt p) 64) (spr h ct false) j) j)))) (fun _ => by kernel_rfl) (fun w M => d_mix (rn3 (wd (bt p) 64) (rd (wd (bt p) 64) (spr h ct false) j) j) _ _ 3 7 11 15 (by decide) (by decide) (by decide) (by decide) (by decide) (by decide) (by decide) (by decide) (by decide) (by decide) w M.laid) ?_
        refine kl_nil ?_
        intro u23 M
        replace M : Mem ⟨w, []⟩ [⟨g1, .cells (av 8 (w32 h)) 57⟩, ⟨g2, .cells (av 8 (w32 (fun _ => 0))) 57⟩, ⟨g3, .cells (av 16 (w32 (wd (bt p) 64))) 67⟩, ⟨g4, .cells (av 16 (w32 (rn3 (wd (bt p) 64) (rd (wd (bt p) 64) (spr h ct false) j) j))) 67⟩, ⟨g5, .cells (av 8 (w32 HB)) 57⟩, ⟨g6, .cells (av 16 (oi j)) 68⟩] u23 := M
        refine pl_put M (want_no rfl) rfl 67 _ _ rfl 3 g4 0 (by kernel_rfl) 16 67 (w32 (rn3 (wd (bt p) 64) (rd (wd (bt p) 64) (spr h ct false) j) j)) rfl 16 (w32 (rn4 (wd (bt p) 64) (rd (wd (bt p) 64) (spr h ct false) j) j)) (w32 (rn4 (wd (bt p) 64) (rd (wd (bt p) 64) (spr h ct false) j) j)) (by kernel_rfl) inz67 (by decide) (fun _ _ => rfl) (fun j hj => by rw [if_pos (by omega), Nat.sub_zero]) ?_
        intro u24 M
        replace M : Mem ⟨w, []⟩ [⟨g1, .cells (av 8 (w32 h)) 57⟩, ⟨g2, .cells (av 8 (w32 (fun _ => 0))) 57⟩, ⟨g3, .cells (av 16 (w32 (wd (bt p) 64))) 67⟩, ⟨g4, .cells (av 16 (w32 (rn4 (wd (bt p) 64) (rd (wd (bt p) 64) (spr h ct false) j) j))) 67⟩, ⟨g5, .cells (av 8 (w32 HB)) 57⟩, ⟨g6, .cells (av 16 (oi j)) 68⟩] u24 := M
        refine pl_nil ?_
        refine au_then ?_
        refine wp_seq ?_
        refine rg_tail M 10 (by kernel_rfl) (by kernel_rfl) ?_
        simp only [List.take_succ_cons, List.take_zero]
        refine k_load M (want_no rfl) (some 114) rfl 67 _ rfl 3 g4 0 (by kernel_rfl) 16 67 (w32 (rn4 (wd (bt p) 64) (rd (wd (bt p) 64) (spr h ct false) j) j)) rfl 16 (w32 (rn4 (wd (bt p) 64) (rd (wd (bt p) 64) (spr h ct false) j) j)) (fun j _ => by rw [Nat.zero_add]) (by decide) _ Tryd.underlying67 rfl inz67 ?_
        refine k_val (want_no rfl) (some 115) rfl (.pointer (some ⟨g6, 8, none⟩)) (fun _ => by kernel_rfl) ?_
        refine k_cell M (want_no rfl) (some 116) rfl 3 _ rfl g6 8 (by kernel_rfl) (.int .i64 (OF (j * 16 + 8) : Int)) (fun _ => by kernel_rfl) (fun w M => M.cell 5 rfl (by decide) rfl) ?_
        refine k_val (want_no rfl) (some 117) rfl (.pointer (some ⟨g3, (OF (j * 16 + 8)), none⟩)) (run_ix1 67 16 56 Tryd.underlying67 inz56 _ _ rfl g3 (by kernel_rfl) .i64 (OF (j * 16 + 8)) (by kernel_rfl) (OF_lt _)) ?_
        refine k_cell M (want_no rfl) (some 118) rfl 56 _ rfl g3 (OF (j * 16 + 8)) (by kernel_rfl) (.int .u32 ((wd (bt p) 64) (OF (j * 16 + 8)))) (fun _ => by kernel_rfl) (fun w M => M.cell 2 rfl (OF_lt _) rfl) ?_
        refine k_val (want_no rfl) (some 119) rfl (.pointer (some ⟨g6, 9, none⟩)) (fun _ => by kernel_rfl) ?_
        refine k_cell M (want_no rfl) (some 120) rfl 3 _ rfl g6 9 (by kernel_rfl) (.int .i64 (OF (j * 16 + 9) : Int)) (fun _ => by kernel_rfl) (fun w M => M.cell 5 rfl (by decide) rfl) ?_
        refine k_val (want_no rfl) (some 121) rfl (.pointer (some ⟨g3, (OF (j * 16 + 9)), none⟩)) (run_ix1 67 16 56 Tryd.underlying67 inz56 _ _ rfl g3 (by kernel_rfl) .i64 (OF (j * 16 + 9)) (by kernel_rfl) (OF_lt _)) ?_
        refine k_cell M (want_no rfl) (some 122) rfl 56 _ rfl g3 (OF (j * 16 + 9)) (by kernel_rfl) (.int .u32 ((wd (bt p) 64) (OF (j * 16 + 9)))) (fun _ => by kernel_rfl) (fun w M => M.cell 2 rfl (OF_lt _) rfl) ?_
        refine k_call M (want_no rfl) (some 123) rfl 33 #[.agg (av 16 (w32 (rn4 (wd (bt p) 64) (rd (wd (bt p) 64) (spr h ct false) j) j))), .int .i64 0, .int .i64 5, .int .i64 10, .int .i64 15, .int .u32 ((wd (bt p) 64) (OF (j * 16 + 8))), .int .u32 ((wd (bt p) 64) (OF (j * 16 + 9)))] (.agg (av 16 (w32 (rn5 (wd (bt p) 64) (rd (wd (bt p) 64) (spr h ct false) j) j)))) (fun _ => by kernel_rfl) (fun w M => d_mix (rn4 (wd (bt p) 64) (rd (wd (bt p) 64) (spr h ct false) j) j) _ _ 0 5 10 15 (by decide) (by decide) (by decide) (by decide) (by decide) (by decide) (by decide) (by decide) (by decide) (by decide) w M.laid) ?_
        refine kl_nil ?_
        intro u25 M
        replace M : Mem ⟨w, []⟩ [⟨g1, .cells (av 8 (w32 h)) 57⟩, ⟨g2, .cells (av 8 (w32 (fun _ => 0))) 57⟩, ⟨g3, .cells (av 16 (w32 (wd (bt p) 64))) 67⟩, ⟨g4, .cells (av 16 (w32 (rn4 (wd (bt p) 64) (rd (wd (bt p) 64) (spr h ct false) j) j))) 67⟩, ⟨g5, .cells (av 8 (w32 HB)) 57⟩, ⟨g6, .cells (av 16 (oi j)) 68⟩] u25 := M
        refine pl_put M (want_no rfl) rfl 67 _ _ rfl 3 g4 0 (by kernel_rfl) 16 67 (w32 (rn4 (wd (bt p) 64) (rd (wd (bt p) 64) (spr h ct false) j) j)) rfl 16 (w32 (rn5 (wd (bt p) 64) (rd (wd (bt p) 64) (spr h ct false) j) j)) (w32 (rn5 (wd (bt p) 64) (rd (wd (bt p) 64) (spr h ct false) j) j)) (by kernel_rfl) inz67 (by decide) (fun _ _ => rfl) (fun j hj => by rw [if_pos (by omega), Nat.sub_zero]) ?_
        intro u26 M
        replace M : Mem ⟨w, []⟩ [⟨g1, .cells (av 8 (w32 h)) 57⟩, ⟨g2, .cells (av 8 (w32 (fun _ => 0))) 57⟩, ⟨g3, .cells (av 16 (w32 (wd (bt p) 64))) 67⟩, ⟨g4, .cells (av 16 (w32 (rn5 (wd (bt p) 64) (rd (wd (bt p) 64) (spr h ct false) j) j))) 67⟩, ⟨g5, .cells (av 8 (w32 HB)) 57⟩, ⟨g6, .cells (av 16 (oi j)) 68⟩] u26 := M
        refine pl_nil ?_
        refine au_then ?_
        refine wp_seq ?_
        refine rg_tail M 10 (by kernel_rfl) (by kernel_rfl) ?_
        simp only [List.take_succ_cons, List.take_zero]
        refine k_load M (want_no rfl) (some 124) rfl 67 _ rfl 3 g4 0 (by kernel_rfl) 16 67 (w32 (rn5 (wd (bt p) 64) (rd (wd (bt p) 64) (spr h ct false) j) j)) rfl 16 (w32 (rn5 (wd (bt p) 64) (rd (wd (bt p) 64) (spr h ct false) j) j)) (fun j _ => by rw [Nat.zero_add]) (by decide) _ Tryd.underlying67 rfl inz67 ?_
        refine k_val (want_no rfl) (some 125) rfl (.pointer (some ⟨g6, 10, none⟩)) (fun _ => by kernel_rfl) ?_
        refine k_cell M (want_no rfl) (some 126) rfl 3 _ rfl g6 10 (by kernel_rfl) (.int .i64 (OF (j * 16 + 10) : Int)) (fun _ => by kernel_rfl) (fun w M => M.cell 5 rfl (by decide) rfl) ?_
        refine k_val (want_no rfl) (some 127) rfl (.pointer (some ⟨g3, (OF (j * 16 + 10)), none⟩)) (run_ix1 67 16 56 Tryd.underlying67 inz56 _ _ rfl g3 (by kernel_rfl) .i64 (OF (j * 16 + 10)) (by kernel_rfl) (OF_lt _)) ?_
        refine k_cell M (want_no rfl) (some 128) rfl 56 _ rfl g3 (OF (j * 16 + 10)) (by kernel_rfl) (.int .u32 ((wd (bt p) 64) (OF (j * 16 + 10)))) (fun _ => by kernel_rfl) (fun w M => M.cell 2 rfl (OF_lt _) rfl) ?_
        refine k_val (want_no rfl) (some 129) rfl (.pointer (some ⟨g6, 11, none⟩)) (fun _ => by kernel_rfl) ?_
        refine k_cell M (want_no rfl) (some 130) rfl 3 _ rfl g6 11 (by kernel_rfl) (.int .i64 (OF (j * 16 + 11) : Int)) (fun _ => by kernel_rfl) (fun w M => M.cell 5 rfl (by decide) rfl) ?_
        refine k_val (want_no rfl) (some 131) rfl (.pointer (some ⟨g3, (OF (j * 16 + 11)), none⟩)) (run_ix1 67 16 56 Tryd.underlying67 inz56 _ _ rfl g3 (by kernel_rfl) .i64 (OF (j * 16 + 11)) (by kernel_rfl) (OF_lt _)) ?_
        refine k_cell M (want_no rfl) (some 132) rfl 56 _ rfl g3 (OF (j * 16 + 11)) (by kernel_rfl) (.int .u32 ((wd (bt p) 64) (OF (j * 16 + 11)))) (fun _ => by kernel_rfl) (fun w M => M.cell 2 rfl (OF_lt _) rfl) ?_
        refine k_call M (want_no rfl) (some 133) rfl 33 #[.agg (av 16 (w32 (rn5 (wd (bt p) 64) (rd (wd (bt p) 64) (spr h ct false) j) j))), .int .i64 1, .int .i64 6, .int .i64 11, .int .i64 12, .int .u32 ((wd (bt p) 64) (OF (j * 16 + 10))), .int .u32 ((wd (bt p) 64) (OF (j * 16 + 11)))] (.agg (av 16 (w32 (rn6 (wd (bt p) 64) (rd (wd (bt p) 64) (spr h ct false) j) j)))) (fun _ => by kernel_rfl) (fun w M => d_mix (rn5 (wd (bt p) 64) (rd (wd (bt p) 64) (spr h ct false) j) j) _ _ 1 6 11 12 (by decide) (by decide) (by decide) (by decide) (by decide) (by decide) (by decide) (by decide) (by decide) (by decide) w M.laid) ?_
        refine kl_nil ?_
        intro u27 M
        replace M : Mem ⟨w, []⟩ [⟨g1, .cells (av 8 (w32 h)) 57⟩, ⟨g2, .cells (av 8 (w32 (fun _ => 0))) 57⟩, ⟨g3, .cells (av 16 (w32 (wd (bt p) 64))) 67⟩, ⟨g4, .cells (av 16 (w32 (rn5 (wd (bt p) 64) (rd (wd (bt p) 64) (spr h ct false) j) j))) 67⟩, ⟨g5, .cells (av 8 (w32 HB)) 57⟩, ⟨g6, .cells (av 16 (oi j)) 68⟩] u27 := M
        refine pl_put M (want_no rfl) rfl 67 _ _ rfl 3 g4 0 (by kernel_rfl) 16 67 (w32 (rn5 (wd (bt p) 64) (rd (wd (bt p) 64) (spr h ct false) j) j)) rfl 16 (w32 (rn6 (wd (bt p) 64) (rd (wd (bt p) 64) (spr h ct false) j) j)) (w32 (rn6 (wd (bt p) 64) (rd (wd (bt p) 64) (spr h ct false) j) j)) (by kernel_rfl) inz67 (by decide) (fun _ _ => rfl) (fun j hj => by rw [if_pos (by omega), Nat.sub_zero]) ?_
        intro u28 M
        replace M : Mem ⟨w, []⟩ [⟨g1, .cells (av 8 (w32 h)) 57⟩, ⟨g2, .cells (av 8 (w32 (fun _ => 0))) 57⟩, ⟨g3, .cells (av 16 (w32 (wd (bt p) 64))) 67⟩, ⟨g4, .cells (av 16 (w32 (rn6 (wd (bt p) 64) (rd (wd (bt p) 64) (spr h ct false) j) j))) 67⟩, ⟨g5, .cells (av 8 (w32 HB)) 57⟩, ⟨g6, .cells (av 16 (oi j)) 68⟩] u28 := M
        refine pl_nil ?_
        refine au_then ?_
        refine wp_seq ?_
        refine rg_tail M 10 (by kernel_rfl) (by kernel_rfl) ?_
        simp only [List.take_succ_cons, List.take_zero]
        refine k_load M (want_no rfl) (some 134) rfl 67 _ rfl 3 g4 0 (by kernel_rfl) 16 67 (w32 (rn6 (wd (bt p) 64) (rd (wd (bt p) 64) (spr h ct false) j) j)) rfl 16 (w32 (rn6 (wd (bt p) 64) (rd (wd (bt p) 64) (spr h ct false) j) j)) (fun j _ => by rw [Nat.zero_add]) (by decide) _ Tryd.underlying67 rfl inz67 ?_
        refine k_val (want_no rfl) (some 135) rfl (.pointer (some ⟨g6, 12, none⟩)) (fun _ => by kernel_rfl) ?_
        refine k_cell M (want_no rfl) (some 136) rfl 3 _ rfl g6 12 (by kernel_rfl) (.int .i64 (OF (j * 16 + 12) : Int)) (fun _ => by kernel_rfl) (fun w M => M.cell 5 rfl (by decide) rfl) ?_
        refine k_val (want_no rfl) (some 137) rfl (.pointer (some ⟨g3, (OF (j * 16 + 12)), none⟩)) (run_ix1 67 16 56 Tryd.underlying67 inz56 _ _ rfl g3 (by kernel_rfl) .i64 (OF (j * 16 + 12)) (by kernel_rfl) (OF_lt _)) ?_
        refine k_cell M (want_no rfl) (some 138) rfl 56 _ rfl g3 (OF (j * 16 + 12)) (by kernel_rfl) (.int .u32 ((wd (bt p) 64) (OF (j * 16 + 12)))) (fun _ => by kernel_rfl) (fun w M => M.cell 2 rfl (OF_lt _) rfl) ?_
        refine k_val (want_no rfl) (some 139) rfl (.pointer (some ⟨g6, 13, none⟩)) (fun _ => by kernel_rfl) ?_
        refine k_cell M (want_no rfl) (some 140) rfl 3 _ rfl g6 13 (by kernel_rfl) (.int .i64 (OF (j * 16 + 13) : Int)) (fun _ => by kernel_rfl) (fun w M => M.cell 5 rfl (by decide) rfl) ?_
        refine k_val (want_no rfl) (some 141) rfl (.pointer (some ⟨g3, (OF (j * 16 + 13)), none⟩)) (run_ix1 67 16 56 Tryd.underlying67 inz56 _ _ rfl g3 (by kernel_rfl) .i64 (OF (j * 16 + 13)) (by kernel_rfl) (OF_lt _)) ?_
        refine k_cell M (want_no rfl) (some 142) rfl 56 _ rfl g3 (OF (j * 16 + 13)) (by kernel_rfl) (.int .u32 ((wd (bt p) 64) (OF (j * 16 + 13)))) (fun _ => by kernel_rfl) (fun w M => M.cell 2 rfl (OF_lt _) rfl) ?_
        refine k_call M (want_no rfl) (some 143) rfl 33 #[.agg (av 16 (w32 (rn6 (wd (bt p) 64) (rd (wd (bt p) 64) (spr h ct false) j) j))), .int .i64 2, .int .i64 7, .int .i64 8, .int .i64 13, .int .u32 ((wd (bt p) 64) (OF (j * 16 + 12))), .int .u32 ((wd (bt p) 64) (OF (j * 16 + 13)))] (.agg (av 16 (w32 (rn7 (wd (bt p) 64) (rd (wd (bt p) 64) (spr h ct false) j) j)))) (fun _ => by kernel_rfl) (fun w M => d_mix (rn6 (wd (bt p) 64) (rd (wd (bt p) 64) (spr h ct false) j) j) _ _ 2 7 8 13 (by decide) (by decide) (by decide) (by decide) (by decide) (by decide) (by decide) (by decide) (by decide) (by decide) w M.laid) ?_
        refine kl_nil ?_
        intro u29 M
        replace M : Mem ⟨w, []⟩ [⟨g1, .cells (av 8 (w32 h)) 57⟩, ⟨g2, .cells (av 8 (w32 (fun _ => 0))) 57⟩, ⟨g3, .cells (av 16 (w32 (wd (bt p) 64))) 67⟩, ⟨g4, .cells (av 16 (w32 (rn6 (wd (bt p) 64) (rd (wd (bt p) 64) (spr h ct false) j) j))) 67⟩, ⟨g5, .cells (av 8 (w32 HB)) 57⟩, ⟨g6, .cells (av 16 (oi j)) 68⟩] u29 := M
        refine pl_put M (want_no rfl) rfl 67 _ _ rfl 3 g4 0 (by kernel_rfl) 16 67 (w32 (rn6 (wd (bt p) 64) (rd (wd (bt p) 64) (spr h ct false) j) j)) rfl 16 (w32 (rn7 (wd (bt p) 64) (rd (wd (bt p) 64) (spr h ct false) j) j)) (w32 (rn7 (wd (bt p) 64) (rd (wd (bt p) 64) (spr h ct false) j) j)) (by kernel_rfl) inz67 (by decide) (fun _ _ => rfl) (fun j hj => by rw [if_pos (by omega), Nat.sub_zero]) ?_
        intro u30 M
        replace M : Mem ⟨w, []⟩ [⟨g1, .cells (av 8 (w32 h)) 57⟩, ⟨g2, .cells (av 8 (w32 (fun _ => 0))) 57⟩, ⟨g3, .cells (av 16 (w32 (wd (bt p) 64))) 67⟩, ⟨g4, .cells (av 16 (w32 (rn7 (wd (bt p) 64) (rd (wd (bt p) 64) (spr h ct false) j) j))) 67⟩, ⟨g5, .cells (av 8 (w32 HB)) 57⟩, ⟨g6, .cells (av 16 (oi j)) 68⟩] u30 := M
        refine pl_nil ?_
        refine au_then ?_
        refine rg_tail M 10 (by kernel_rfl) (by kernel_rfl) ?_
        simp only [List.take_succ_cons, List.take_zero]
        refine k_load M (want_no rfl) (some 144) rfl 67 _ rfl 3 g4 0 (by kernel_rfl) 16 67 (w32 (rn7 (wd (bt p) 64) (rd (wd (bt p) 64) (spr h ct false) j) j)) rfl 16 (w32 (rn7 (wd (bt p) 64) (rd (wd (bt p) 64) (spr h ct false) j) j)) (fun j _ => by rw [Nat.zero_add]) (by decide) _ Tryd.underlying67 rfl inz67 ?_
        refine k_val (want_no rfl) (some 145) rfl (.pointer (some ⟨g6, 14, none⟩)) (fun _ => by kernel_rfl) ?_
        refine k_cell M (want_no rfl) (some 146) rfl 3 _ rfl g6 14 (by kernel_rfl) (.int .i64 (OF (j * 16 + 14) : Int)) (fun _ => by kernel_rfl) (fun w M => M.cell 5 rfl (by decide) rfl) ?_
        refine k_val (want_no rfl) (some 147) rfl (.pointer (some ⟨g3, (OF (j * 16 + 14)), none⟩)) (run_ix1 67 16 56 Tryd.underlying67 inz56 _ _ rfl g3 (by kernel_rfl) .i64 (OF (j * 16 + 14)) (by kernel_rfl) (OF_lt _)) ?_
        refine k_cell M (want_no rfl) (some 148) rfl 56 _ rfl g3 (OF (j * 16 + 14)) (by kernel_rfl) (.int .u32 ((wd (bt p) 64) (OF (j * 16 + 14)))) (fun _ => by kernel_rfl) (fun w M => M.cell 2 rfl (OF_lt _) rfl) ?_
        refine k_val (want_no rfl) (some 149) rfl (.pointer (some ⟨g6, 15, none⟩)) (fun _ => by kernel_rfl) ?_
        refine k_cell M (want_no rfl) (some 150) rfl 3 _ rfl g6 15 (by kernel_rfl) (.int .i64 (OF (j * 16 + 15) : Int)) (fun _ => by kernel_rfl) (fun w M => M.cell 5 rfl (by decide) rfl) ?_
        refine k_val (want_no rfl) (some 151) rfl (.pointer (some ⟨g3, (OF (j * 16 + 15)), none⟩)) (run_ix1 67 16 56 Tryd.underlying67 inz56 _ _ rfl g3 (by kernel_rfl) .i64 (OF (j * 16 + 15)) (by kernel_rfl) (OF_lt _)) ?_
        refine k_cell M (want_no rfl) (some 152) rfl 56 _ rfl g3 (OF (j * 16 + 15)) (by kernel_rfl) (.int .u32 ((wd (bt p) 64) (OF (j * 16 + 15)))) (fun _ => by kernel_rfl) (fun w M => M.cell 2 rfl (OF_lt _) rfl) ?_
        refine k_call M (want_no rfl) (some 153) rfl 33 #[.agg (av 16 (w32 (rn7 (wd (bt p) 64) (rd (wd (bt p) 64) (spr h ct false) j) j))), .int .i64 3, .int .i64 4, .int .i64 9, .int .i64 14, .int .u32 ((wd (bt p) 64) (OF (j * 16 + 14))), .int .u32 ((wd (bt p) 64) (OF (j * 16 + 15)))] (.agg (av 16 (w32 (rn8 (wd (bt p) 64) (rd (wd (bt p) 64) (spr h ct false) j) j)))) (fun _ => by kernel_rfl) (fun w M => d_mix (rn7 (wd (bt p) 64) (rd (wd (bt p) 64) (spr h ct false) j) j) _ _ 3 4 9 14 (by decide) (by decide) (by decide) (by decide) (by decide) (by decide) (by decide) (by decide) (by decide) (by decide) w M.laid) ?_
        refine kl_nil ?_
        intro u31 M
        replace M : Mem ⟨w, []⟩ [⟨g1, .cells (av 8 (w32 h)) 57⟩, ⟨g2, .cells (av 8 (w32 (fun _ => 0))) 57⟩, ⟨g3, .cells (av 16 (w32 (wd (bt p) 64))) 67⟩, ⟨g4, .cells (av 16 (w32 (rn7 (wd (bt p) 64) (rd (wd (bt p) 64) (spr h ct false) j) j))) 67⟩, ⟨g5, .cells (av 8 (w32 HB)) 57⟩, ⟨g6, .cells (av 16 (oi j)) 68⟩] u31 := M
        refine pl_put M (want_no rfl) rfl 67 _ _ rfl 3 g4 0 (by kernel_rfl) 16 67 (w32 (rn7 (wd (bt p) 64) (rd (wd (bt p) 64) (spr h ct false) j) j)) rfl 16 (w32 (rn8 (wd (bt p) 64) (rd (wd (bt p) 64) (spr h ct false) j) j)) (w32 (rn8 (wd (bt p) 64) (rd (wd (bt p) 64) (spr h ct false) j) j)) (by kernel_rfl) inz67 (by decide) (fun _ _ => rfl) (fun j hj => by rw [if_pos (by omega), Nat.sub_zero]) ?_
        intro u32 M
        replace M : Mem ⟨w, []⟩ [⟨g1, .cells (av 8 (w32 h)) 57⟩, ⟨g2, .cells (av 8 (w32 (fun _ => 0))) 57⟩, ⟨g3, .cells (av 16 (w32 (wd (bt p) 64))) 67⟩, ⟨g4, .cells (av 16 (w32 (rn8 (wd (bt p) 64) (rd (wd (bt p) 64) (spr h ct false) j) j))) 67⟩, ⟨g5, .cells (av 8 (w32 HB)) 57⟩, ⟨g6, .cells (av 16 (oi j)) 68⟩] u32 := M
        refine pl_nil ?_
        refine au_block ?_
        refine au_then ?_
        refine rg_lit ?_
        refine pl_val (want_no rfl) (some 70) rfl (.int .i64 (j : Int)) (fun _ => by kernel_rfl) ?_
        refine pl_val (want_no rfl) (some 71) rfl (.int .i64 ((j + 1 : Nat) : Int)) (fun w => Eq.trans (b := .ok (.value (.int .i64 (IntKind.wrap .i64 ((j : Int) + 1)))) w) (by kernel_rfl) (by rw [wrap64 (by omega) (by omega)]; congr 3)) ?_
        refine pl_val (want_no rfl) (some 14) rfl (.int .i64 ((j + 1 : Nat) : Int)) (fun _ => by kernel_rfl) ?_
        refine pl_nil ?_
        refine au_then ?_
        exact ⟨fun k_ => ([.pointer (some ⟨g6, 0, none⟩), undef, undef, undef, undef, undef, undef, undef, undef, undef, undef, undef, undef, undef, undef, undef, undef, undef, undef, undef, undef, undef, undef, undef, undef, undef, undef, undef, undef, undef, undef, undef, undef, undef, undef, undef, undef, undef, undef, undef, undef, undef, undef, undef, undef, undef, undef, undef, undef, undef, undef, undef, undef, .int .i64 (j : Int), .bool true, .int .i64 (j : Int), .int .i64 ((j + 1 : Nat) : Int), .int .i64 (j : Int), .agg (av 16 (oi j)), .agg (av 16 (w32 (rd (wd (bt p) 64) (spr h ct false) j))), .pointer (some ⟨g6, 0, none⟩), .int .i64 (OF (j * 16 + 0) : Int), .pointer (some ⟨g3, (OF (j * 16 + 0)), none⟩), .int .u32 ((wd (bt p) 64) (OF (j * 16 + 0))), .pointer (some ⟨g6, 1, none⟩), .int .i64 (OF (j * 16 + 1) : Int), .pointer (some ⟨g3, (OF (j * 16 + 1)), none⟩), .int .u32 ((wd (bt p) 64) (OF (j * 16 + 1))), .agg (av 16 (w32 (rn1 (wd (bt p) 64) (rd (wd (bt p) 64) (spr h ct false) j) j))), .agg (av 16 (w32 (rn1 (wd (bt p) 64) (rd (wd (bt p) 64) (spr h ct false) j) j))), .pointer (some ⟨g6, 2, none⟩), .int .i64 (OF (j * 16 + 2) : Int), .pointer (some ⟨g3, (OF (j * 16 + 2)), none⟩), .int .u32 ((wd (bt p) 64) (OF (j * 16 + 2))), .pointer (some ⟨g6, 3, none⟩), .int .i64 (OF (j * 16 + 3) : Int), .pointer (some ⟨g3, (OF (j * 16 + 3)), none⟩), .int .u32 ((wd (bt p) 64) (OF (j * 16 + 3))), .agg (av 16 (w32 (rn2 (wd (bt p) 64) (rd (wd (bt p) 64) (spr h ct false) j) j))), .agg (av 16 (w32 (rn2 (wd (bt p) 64) (rd (wd (bt p) 64) (spr h ct false) j) j))), .pointer (some ⟨g6, 4, none⟩), .int .i64 (OF (j * 16 + 4) : Int), .pointer (some ⟨g3, (OF (j * 16 + 4)), none⟩), .int .u32 ((wd (bt p) 64) (OF (j * 16 + 4))), .pointer (some ⟨g6, 5, none⟩), .int .i64 (OF (j * 16 + 5) : Int), .pointer (some ⟨g3, (OF (j * 16 + 5)), none⟩), .int .u32 ((wd (bt p) 64) (OF (j * 16 + 5))), .agg (av 16 (w32 (rn3 (wd (bt p) 64) (rd (wd (bt p) 64) (spr h ct false) j) j))), .agg (av 16 (w32 (rn3 (wd (bt p) 64) (rd (wd (bt p) 64) (spr h ct false) j) j))), .pointer (some ⟨g6, 6, none⟩), .int .i64 (OF (j * 16 + 6) : Int), .pointer (some ⟨g3, (OF (j * 16 + 6)), none⟩), .int .u32 ((wd (bt p) 64) (OF (j * 16 + 6))), .pointer (some ⟨g6, 7, none⟩), .int .i64 (OF (j * 16 + 7) : Int), .pointer (some ⟨g3, (OF (j * 16 + 7)), none⟩), .int .u32 ((wd (bt p) 64) (OF (j * 16 + 7))), .agg (av 16 (w32 (rn4 (wd (bt p) 64) (rd (wd (bt p) 64) (spr h ct false) j) j))), .agg (av 16 (w32 (rn4 (wd (bt p) 64) (rd (wd (bt p) 64) (spr h ct false) j) j))), .pointer (some ⟨g6, 8, none⟩), .int .i64 (OF (j * 16 + 8) : Int), .pointer (some ⟨g3, (OF (j * 16 + 8)), none⟩), .int .u32 ((wd (bt p) 64) (OF (j * 16 + 8))), .pointer (some ⟨g6, 9, none⟩), .int .i64 (OF (j * 16 + 9) : Int), .pointer (some ⟨g3, (OF (j * 16 + 9)), none⟩), .int .u32 ((wd (bt p) 64) (OF (j * 16 + 9))), .agg (av 16 (w32 (rn5 (wd (bt p) 64) (rd (wd (bt p) 64) (spr h ct false) j) j))), .agg (av 16 (w32 (rn5 (wd (bt p) 64) (rd (wd (bt p) 64) (spr h ct false) j) j))), .pointer (some ⟨g6, 10, none⟩), .int .i64 (OF (j * 16 + 10) : Int), .pointer (some ⟨g3, (OF (j * 16 + 10)), none⟩), .int .u32 ((wd (bt p) 64) (OF (j * 16 + 10))), .pointer (some ⟨g6, 11, none⟩), .int .i64 (OF (j * 16 + 11) : Int), .pointer (some ⟨g3, (OF (j * 16 + 11)), none⟩), .int .u32 ((wd (bt p) 64) (OF (j * 16 + 11))), .agg (av 16 (w32 (rn6 (wd (bt p) 64) (rd (wd (bt p) 64) (spr h ct false) j) j))), .agg (av 16 (w32 (rn6 (wd (bt p) 64) (rd (wd (bt p) 64) (spr h ct false) j) j))), .pointer (some ⟨g6, 12, none⟩), .int .i64 (OF (j * 16 + 12) : Int), .pointer (some ⟨g3, (OF (j * 16 + 12)), none⟩), .int .u32 ((wd (bt p) 64) (OF (j * 16 + 12))), .pointer (some ⟨g6, 13, none⟩), .int .i64 (OF (j * 16 + 13) : Int), .pointer (some ⟨g3, (OF (j * 16 + 13)), none⟩), .int .u32 ((wd (bt p) 64) (OF (j * 16 + 13))), .agg (av 16 (w32 (rn7 (wd (bt p) 64) (rd (wd (bt p) 64) (spr h ct false) j) j))), .agg (av 16 (w32 (rn7 (wd (bt p) 64) (rd (wd (bt p) 64) (spr h ct false) j) j))), .pointer (some ⟨g6, 14, none⟩), .int .i64 (OF (j * 16 + 14) : Int), .pointer (some ⟨g3, (OF (j * 16 + 14)), none⟩), .int .u32 ((wd (bt p) 64) (OF (j * 16 + 14))), .pointer (some ⟨g6, 15, none⟩), .int .i64 (OF (j * 16 + 15) : Int), .pointer (some ⟨g3, (OF (j * 16 + 15)), none⟩), .int .u32 ((wd (bt p) 64) (OF (j * 16 + 15))), .agg (av 16 (w32 (rn8 (wd (bt p) 64) (rd (wd (bt p) 64) (spr h ct false) j) j)))] : List Value).getD (k_ - 15) undef, by kernel_rfl, M.drop (.cons_cons _ (.cons_cons _ (.cons_cons _ (.cons_cons _ (.cons_cons _ (.cons _ (.slnil)))))))⟩
      · intro a u0 hI
        obtain ⟨v2, rfl, M⟩ := hI
        refine wp_seq ?_
        refine wp_seq ?_
        refine rg_lit ?_
        refine pl_val (want_no rfl) (some 68) rfl (.int .i64 (10 : Int)) (fun _ => by kernel_rfl) ?_
        refine pl_val (want_no rfl) (some 69) rfl (.bool false) (fun w => Eq.trans (b := .ok (.value (.bool (decide (10 < 10)))) w) (by kernel_rfl) (by rw [decide_eq_false (by omega)])) ?_
        refine pl_nil ?_
        refine au_then ?_
        refine wp_cond_false (by kernel_rfl) ?_
        refine wp_exit ?_
        refine au_then_exit ?_
        refine au_then_exit ?_
        refine au_block_exit ?_
        refine au_then ?_
        refine wp_seq ?_
        refine wp_seq ?_
        refine rg_lit ?_
        refine pl_val (want_no rfl) (some 16) rfl (.int .i64 0) (fun _ => by kernel_rfl) ?_
        refine pl_nil ?_
        refine au_then ?_
        refine wp_block ?_
        refine au_loop (fun j a w' => ∃ v3 : Nat → Value, a = ⟨#[.agg (av 8 (w32 h)), .string p, .int .u64 ct, .bool false, .pointer (some ⟨g1, 0, none⟩), undef, undef, undef, .pointer (some ⟨g2, 0, none⟩), .pointer (some ⟨g3, 0, none⟩), .int .i64 m, .pointer (some ⟨g4, 0, none⟩), .pointer (some ⟨g5, 0, none⟩), .int .i64 (8 : Int), .int .i64 (10 : Int), v2 15, .int .i64 (j : Int), .int .i64 m, .bool false, v0 19, v0 20, v0 21, v0 22, v0 23, v0 24, v0 25, v0 26, v0 27, v0 28, v0 29, v0 30, v0 31, v0 32, v0 33, .agg (av 8 (w32 HB)), .int .i64 (8 : Int), .bool false, v1 37, v1 38, v1 39, v1 40, v1 41, v1 42, v1 43, v1 44, v1 45, v1 46, v1 47, v1 48, v1 49, .pointer (some ⟨g4, 12, none⟩), .int .u32 ((spB h) 12), .int .u64 ct, .int .u32 (cv .u32 ct), .int .u32 (vx ((spB h) 12) (cv .u32 ct)), .pointer (some ⟨g4, 12, none⟩), .pointer (some ⟨g4, 13, none⟩), .int .u32 ((upd (spB h) 12 (vx ((spB h) 12) (cv .u32 ct))) 13), .int .u64 ct, .int .u64 (sr ct 32), .int .u32 (cv .u32 (sr ct 32)), .int .u32 (vx ((upd (spB h) 12 (vx ((spB h) 12) (cv .u32 ct))) 13) (cv .u32 (sr ct 32))), .pointer (some ⟨g4, 13, none⟩), .bool false, undef, undef, undef, undef, .int .i64 (10 : Int), .bool false, v2 70, v2 71, v2 72, v2 73, v2 74, v2 75, v2 76, v2 77, v2 78, v2 79, v2 80, v2 81, v2 82, v2 83, v2 84, v2 85, v2 86, v2 87, v2 88, v2 89, v2 90, v2 91, v2 92, v2 93, v2 94, v2 95, v2 96, v2 97, v2 98, v2 99, v2 100, v2 101, v2 102, v2 103, v2 104, v2 105, v2 106, v2 107, v2 108, v2 109, v2 110, v2 111, v2 112, v2 113, v2 114, v2 115, v2 116, v2 117, v2 118, v2 119, v2 120, v2 121, v2 122, v2 123, v2 124, v2 125, v2 126, v2 127, v2 128, v2 129, v2 130, v2 131, v2 132, v2 133, v2 134, v2 135, v2 136, v2 137, v2 138, v2 139, v2 140, v2 141, v2 142, v2 143, v2 144, v2 145, v2 146, v2 147, v2 148, v2 149, v2 150, v2 151, v2 152, v2 153, v3 154, v3 155, v3 156, v3 157, v3 158, v3 159, v3 160, v3 161, v3 162, v3 163, v3 164, v3 165, v3 166, v3 167, v3 168, v3 169, v3 170, v3 171, undef], []⟩ ∧ Mem ⟨w, []⟩ [⟨g1, .cells (av 8 (w32 (adD h (rd (wd (bt p) 64) (spr h ct false) 10) j))) 57⟩, ⟨g2, .cells (av 8 (w32 (fun _ => 0))) 57⟩, ⟨g3, .cells (av 16 (w32 (wd (bt p) 64))) 67⟩, ⟨g4, .cells (av 16 (w32 (rd (wd (bt p) 64) (spr h ct false) 10))) 67⟩, ⟨g5, .cells (av 8 (w32 HB)) 57⟩] w') 8 ⟨fun k_ => ([undef, undef, undef, undef, undef, undef, undef, undef, undef, undef, undef, undef, undef, undef, undef, undef, undef, undef] : List Value).getD (k_ - 154) undef, by kernel_rfl, M⟩ ?_ ?_
        · intro j a u0 hj hI
          obtain ⟨v3, rfl, M⟩ := hI
          refine wp_seq ?_
          refine wp_seq ?_
          refine rg_lit ?_
          refine pl_val (want_no rfl) (some 154) rfl (.int .i64 (j : Int)) (fun _ => by kernel_rfl) ?_
          refine pl_val (want_no rfl) (some 155) rfl (.bool true) (fun w => Eq.trans (b := .ok (.value (.bool (decide ((j : Int) < 8)))) w) (by kernel_rfl) (by rw [decide_eq_true (by omega)])) ?_
          refine pl_nil ?_
          refine au_then ?_
          refine wp_cond_true (by kernel_rfl) ?_
          refine wp_skip ?_
          refine au_then ?_
          refine wp_seq ?_
          refine wp_block ?_
          refine rg_tail M 14 (by kernel_rfl) (by kernel_rfl) ?_
          simp only [List.take_succ_cons, List.take_zero]
          refine k_val (want_no rfl) (some 158) rfl (.int .i64 (j : Int)) (fun _ => by kernel_rfl) ?_
          refine k_val (want_no rfl) (some 159) rfl (.int .i64 (j : Int)) (fun _ => by kernel_rfl) ?_
          refine k_val (want_no rfl) (some 160) rfl (.pointer (some ⟨g1, j, none⟩)) (run_ix1 57 8 56 Tryd.underlying57 inz56 _ _ rfl g1 (by kernel_rfl) .i64 (j) (by kernel_rfl) (by omega)) ?_
          refine k_cell M (want_no rfl) (some 161) rfl 56 _ rfl g1 j (by kernel_rfl) (.int .u32 ((adD h (rd (wd (bt p) 64) (spr h ct false) 10) j) j)) (fun _ => by kernel_rfl) (fun w M => M.cell 0 rfl (by omega) rfl) ?_
          refine k_val (want_no rfl) (some 162) rfl (.int .i64 (j : Int)) (fun _ => by kernel_rfl) ?_
          refine k_val (want_no rfl) (some 163) rfl (.pointer (some ⟨g4, j, none⟩)) (run_ix1 67 16 56 Tryd.underlying67 inz56 _ _ rfl g4 (by kernel_rfl) .i64 (j) (by kernel_rfl) (by omega)) ?_
          refine k_cell M (want_no rfl) (some 164) rfl 56 _ rfl g4 j (by kernel_rfl) (.int .u32 ((rd (wd (bt p) 64) (spr h ct false) 10) j)) (fun _ => by kernel_rfl) (fun w M => M.cell 3 rfl (by omega) rfl) ?_
          refine k_val (want_no rfl) (some 165) rfl (.int .u32 (vx ((adD h (rd (wd (bt p) 64) (spr h ct false) 10) j) j) ((rd (wd (bt p) 64) (spr h ct false) 10) j))) (fun _ => by kernel_rfl) ?_
          refine k_val (want_no rfl) (some 166) rfl (.int .i64 (j : Int)) (fun _ => by kernel_rfl) ?_
          refine k_val (want_no rfl) (some 167) rfl (.int .i64 ((8 + j : Nat) : Int)) (fun w => Eq.trans (b := .ok (.value (.int .i64 (IntKind.wrap .i64 (8 + (j : Int))))) w) (by kernel_rfl) (by rw [wrap64 (by omega) (by omega)]; congr 3)) ?_
          refine k_val (want_no rfl) (some 168) rfl (.pointer (some ⟨g4, ((8 + j : Nat)), none⟩)) (run_ix1 67 16 56 Tryd.underlying67 inz56 _ _ rfl g4 (by kernel_rfl) .i64 ((8 + j : Nat)) (by kernel_rfl) (by omega)) ?_
          refine k_cell M (want_no rfl) (some 169) rfl 56 _ rfl g4 ((8 + j : Nat)) (by kernel_rfl) (.int .u32 ((rd (wd (bt p) 64) (spr h ct false) 10) ((8 + j : Nat)))) (fun _ => by kernel_rfl) (fun w M => M.cell 3 rfl (by omega) rfl) ?_
          refine k_val (want_no rfl) (some 170) rfl (.int .u32 (vx (vx ((adD h (rd (wd (bt p) 64) (spr h ct false) 10) j) j) ((rd (wd (bt p) 64) (spr h ct false) 10) j)) ((rd (wd (bt p) 64) (spr h ct false) 10) ((8 + j : Nat))))) (fun _ => by kernel_rfl) ?_
          refine k_val (want_no rfl) (some 171) rfl (.pointer (some ⟨g1, j, none⟩)) (run_ix1 57 8 56 Tryd.underlying57 inz56 _ _ rfl g1 (by kernel_rfl) .i64 (j) (by kernel_rfl) (by omega)) ?_
          refine kl_nil ?_
          intro u33 M
          replace M : Mem ⟨w, []⟩ [⟨g1, .cells (av 8 (w32 (adD h (rd (wd (bt p) 64) (spr h ct false) 10) j))) 57⟩, ⟨g2, .cells (av 8 (w32 (fun _ => 0))) 57⟩, ⟨g3, .cells (av 16 (w32 (wd (bt p) 64))) 67⟩, ⟨g4, .cells (av 16 (w32 (rd (wd (bt p) 64) (spr h ct false) 10))) 67⟩, ⟨g5, .cells (av 8 (w32 HB)) 57⟩] u33 := M
          refine pl_put1 M (want_no rfl) rfl 56 _ _ rfl 0 g1 j (by kernel_rfl) 8 57 (w32 (adD h (rd (wd (bt p) 64) (spr h ct false) 10) j)) rfl (.int .u32 (vx (vx ((adD h (rd (wd (bt p) 64) (spr h ct false) 10) j) j) ((rd (wd (bt p) 64) (spr h ct false) 10) j)) ((rd (wd (bt p) 64) (spr h ct false) 10) ((8 + j : Nat))))) (w32 (upd (adD h (rd (wd (bt p) 64) (spr h ct false) 10) j) j (vx (vx ((adD h (rd (wd (bt p) 64) (spr h ct false) 10) j) j) ((rd (wd (bt p) 64) (spr h ct false) 10) j)) ((rd (wd (bt p) 64) (spr h ct false) 10) ((8 + j : Nat)))))) (by kernel_rfl) inz56 (by omega) rfl rfl (fun j _ => put_w32 _ _ _ j) ?_
          intro u34 M
          replace M : Mem ⟨w, []⟩ [⟨g1, .cells (av 8 (w32 (upd (adD h (rd (wd (bt p) 64) (spr h ct false) 10) j) j (vx (vx ((adD h (rd (wd (bt p) 64) (spr h ct false) 10) j) j) ((rd (wd (bt p) 64) (spr h ct false) 10) j)) ((rd (wd (bt p) 64) (spr h ct false) 10) ((8 + j : Nat))))))) 57⟩, ⟨g2, .cells (av 8 (w32 (fun _ => 0))) 57⟩, ⟨g3, .cells (av 16 (w32 (wd (bt p) 64))) 67⟩, ⟨g4, .cells (av 16 (w32 (rd (wd (bt p) 64) (spr h ct false) 10))) 67⟩, ⟨g5, .cells (av 8 (w32 HB)) 57⟩] u34 := M
          refine pl_nil ?_
          refine au_block ?_
          refine au_then ?_
          refine rg_lit ?_
          refine pl_val (want_no rfl) (some 156) rfl (.int .i64 (j : Int)) (fun _ => by kernel_rfl) ?_
          refine pl_val (want_no rfl) (some 157) rfl (.int .i64 ((j + 1 : Nat) : Int)) (fun w => Eq.trans (b := .ok (.value (.int .i64 (IntKind.wrap .i64 ((j : Int) + 1)))) w) (by kernel_rfl) (by rw [wrap64 (by omega) (by omega)]; congr 3)) ?_
          refine pl_val (want_no rfl) (some 16) rfl (.int .i64 ((j + 1 : Nat) : Int)) (fun _ => by kernel_rfl) ?_
          refine pl_nil ?_
          refine au_then ?_
          exact ⟨fun k_ => ([.int .i64 (j : Int), .bool true, .int .i64 (j : Int), .int .i64 ((j + 1 : Nat) : Int), .int .i64 (j : Int), .int .i64 (j : Int), .pointer (some ⟨g1, j, none⟩), .int .u32 ((adD h (rd (wd (bt p) 64) (spr h ct false) 10) j) j), .int .i64 (j : Int), .pointer (some ⟨g4, j, none⟩), .int .u32 ((rd (wd (bt p) 64) (spr h ct false) 10) j), .int .u32 (vx ((adD h (rd (wd (bt p) 64) (spr h ct false) 10) j) j) ((rd (wd (bt p) 64) (spr h ct false) 10) j)), .int .i64 (j : Int), .int .i64 ((8 + j : Nat) : Int), .pointer (some ⟨g4, ((8 + j : Nat)), none⟩), .int .u32 ((rd (wd (bt p) 64) (spr h ct false) 10) ((8 + j : Nat))), .int .u32 (vx (vx ((adD h (rd (wd (bt p) 64) (spr h ct false) 10) j) j) ((rd (wd (bt p) 64) (spr h ct false) 10) j)) ((rd (wd (bt p) 64) (spr h ct false) 10) ((8 + j : Nat)))), .pointer (some ⟨g1, j, none⟩)] : List Value).getD (k_ - 154) undef, by kernel_rfl, M⟩
        · intro a u0 hI
          obtain ⟨v3, rfl, M⟩ := hI
          refine wp_seq ?_
          refine wp_seq ?_
          refine rg_lit ?_
          refine pl_val (want_no rfl) (some 154) rfl (.int .i64 (8 : Int)) (fun _ => by kernel_rfl) ?_
          refine pl_val (want_no rfl) (some 155) rfl (.bool false) (fun w => Eq.trans (b := .ok (.value (.bool (decide (8 < 8)))) w) (by kernel_rfl) (by rw [decide_eq_false (by omega)])) ?_
          refine pl_nil ?_
          refine au_then ?_
          refine wp_cond_false (by kernel_rfl) ?_
          refine wp_exit ?_
          refine au_then_exit ?_
          refine au_then_exit ?_
          refine au_block_exit ?_
          refine au_then ?_
          refine wp_seq ?_
          refine rg_lit ?_
          refine pl_load M (want_no rfl) (some 172) rfl 57 _ rfl 0 g1 0 (by kernel_rfl) 8 57 (w32 (adD h (rd (wd (bt p) 64) (spr h ct false) 10) 8)) rfl 8 (w32 (adD h (rd (wd (bt p) 64) (spr h ct false) 10) 8)) (fun j _ => by rw [Nat.zero_add]) (by decide) _ Tryd.underlying57 rfl inz57 ?_
          refine pl_put M (want_no rfl) rfl 57 _ _ rfl 1 g2 0 (by kernel_rfl) 8 57 (w32 (fun _ => 0)) rfl 8 (w32 (adD h (rd (wd (bt p) 64) (spr h ct false) 10) 8)) (w32 (adD h (rd (wd (bt p) 64) (spr h ct false) 10) 8)) (by kernel_rfl) inz57 (by decide) (fun _ _ => rfl) (fun j hj => by rw [if_pos (by omega), Nat.sub_zero]) ?_
          intro u35 M
          replace M : Mem ⟨w, []⟩ [⟨g1, .cells (av 8 (w32 (adD h (rd (wd (bt p) 64) (spr h ct false) 10) 8))) 57⟩, ⟨g2, .cells (av 8 (w32 (adD h (rd (wd (bt p) 64) (spr h ct false) 10) 8))) 57⟩, ⟨g3, .cells (av 16 (w32 (wd (bt p) 64))) 67⟩, ⟨g4, .cells (av 16 (w32 (rd (wd (bt p) 64) (spr h ct false) 10))) 67⟩, ⟨g5, .cells (av 8 (w32 HB)) 57⟩] u35 := M
          refine pl_nil ?_
          refine au_then ?_
          refine wp_ret ?_
          refine bodyPost_ret (v := .agg (av 8 (w32 (mixW h (wd (bt p) 64) ct false)))) (Eq.trans (b := .ok (.agg (av 8 (w32 (adD h (rd (wd (bt p) 64) (spr h ct false) 10) 8)))) _) (results_cell_row Tryd.results27 _ _ g2 57 (av 8 (w32 (adD h (rd (wd (bt p) 64) (spr h ct false) 10) 8))) (0, 0) _ (by kernel_rfl) (M.get 1 rfl) Tryd.underlying57 rfl (by rw [av_size]; exact inz57)) (by rw [adD_av]; rfl)) (by kernel_rfl) ⟨rfl, below_grown M.old⟩

theorem d_piece (h : Nat → Int) (p : ByteArray) (hp : p.size = 64) (ct : Int) (last : Bool) (w : World) (hL : Laid w) : Calls Tryd.prog 27 #[.agg (av 8 (w32 h)), .string p, .int .u64 ct, .bool last] w fun r w' => r = .returned (.agg (av 8 (w32 (mixW h (wd (bt p) 64) ct last)))) ∧ Below w.heap.size w w' := by
  cases last
  · exact d_piece_false h p hp ct w hL
  · exact d_piece_true h p hp ct w hL

end Go.Proofs.YtpfneekmbednoaaDoor
