/- One round: the walk of stepped. -/
import Derived.Test.YtghobmgdadpplaaDoorD1
namespace Go.Proofs.YtghobmgdadpplaaDoor
open Go.RowKit

def shf (x : Nat → Int) : Nat → Int := fun j => if 1 ≤ j ∧ j < 8 then x (j - 1) else x j
def bS1 (e : Int) : Int := ux (ux (rot e 14) (rot e 18)) (rot e 41)
def bS0 (a : Int) : Int := ux (ux (rot a 28) (rot a 34)) (rot a 39)
def lS0 (a : Int) : Int := ux (ux (rot a 1) (rot a 8)) (sr a 7)
def lS1 (a : Int) : Int := ux (ux (rot a 19) (rot a 61)) (sr a 6)
def chF (e f g : Int) : Int := ux (un e f) (un (ut e) g)
def majF (a b c : Int) : Int := ux (ux (un a b) (un a c)) (un b c)
def uF (x : Nat → Int) (comes : Int) : Int := ua (ua (ua (x 7) (bS1 (x 4))) (chF (x 4) (x 5) (x 6))) comes
def vF (x : Nat → Int) : Int := ua (bS0 (x 0)) (majF (x 0) (x 1) (x 2))
def r8 (a b c d e f g h : Int) : Nat → Int
  | 0 => a
  | 1 => b
  | 2 => c
  | 3 => d
  | 4 => e
  | 5 => f
  | 6 => g
  | 7 => h
  | _ => 0
def st8 (x : Nat → Int) (comes : Int) : Nat → Int := r8 (ua (uF x comes) (vF x)) (x 0) (x 1) (x 2) (ua (x 3) (uF x comes)) (x 4) (x 5) (x 6)
theorem lt8 {p : Nat → Prop} (h : p 0 ∧ p 1 ∧ p 2 ∧ p 3 ∧ p 4 ∧ p 5 ∧ p 6 ∧ p 7) : ∀ i, i < 8 → p i
  | 0, _ => h.1
  | 1, _ => h.2.1
  | 2, _ => h.2.2.1
  | 3, _ => h.2.2.2.1
  | 4, _ => h.2.2.2.2.1
  | 5, _ => h.2.2.2.2.2.1
  | 6, _ => h.2.2.2.2.2.2.1
  | 7, _ => h.2.2.2.2.2.2.2
  | n + 8, h => absurd h (by omega)
theorem st8_av (x : Nat → Int) (comes : Int) : av 8 (w64 (upd (upd (shf x) 0 (ua (uF x comes) (vF x))) 4 (ua ((upd (shf x) 0 (ua (uF x comes) (vF x))) 4) (uF x comes)))) = av 8 (w64 (st8 x comes)) := by
  refine av_congr fun i hi => ?_
  unfold w64
  congr 1
  revert i
  exact lt8 ⟨by simp [upd, st8, r8], by simp [upd, shf, st8, r8], by simp [upd, shf, st8, r8], by simp [upd, shf, st8, r8], by simp [upd, shf, st8, r8], by simp [upd, shf, st8, r8], by simp [upd, shf, st8, r8], by simp [upd, shf, st8, r8]⟩
set_option maxRecDepth 100000 in
set_option maxHeartbeats 4000000 in
theorem c_stepped (x : Nat → Int) (comes : Int) (w : World) (hL : Laid w)  :
    Calls Tryd.prog 28 #[.agg (av 8 (w64 x)), .int .u64 comes] w fun r w' => r = .returned (.agg (av 8 (w64 (st8 x comes)))) ∧ Below w.heap.size w w' := by
  go_enter Tryd.func28, Tryd.ntmps28
  have M := Mem.start hL
  refine wp_seq ?_
  refine rg_lit ?_
  refine pl_new M (want_no rfl) (some 2) rfl (.cells (av 8 (w64 x)) 28) (fun _ => by kernel_rfl) ?_
  intro g1 u1 M
  replace M : Mem ⟨w, none⟩ [⟨g1, .cells (av 8 (w64 x)) 28⟩] u1 := M
  refine pl_new M (want_no rfl) (some 4) rfl (.cells (av 8 (w64 fun _ => 0)) 28) (fun _ => by kernel_rfl) ?_
  intro g2 u2 M
  replace M : Mem ⟨w, none⟩ [⟨g1, .cells (av 8 (w64 x)) 28⟩, ⟨g2, .cells (av 8 (w64 fun _ => 0)) 28⟩] u2 := M
  refine pl_nil ?_
  refine au_then ?_
  refine wp_seq ?_
  refine rg_tail M 8 (by kernel_rfl) (by kernel_rfl) ?_
  simp only [List.take_succ_cons, List.take_zero]
  refine k_val (want_no rfl) (some 13) rfl (.pointer (some ⟨g1, 0, none⟩)) (fun _ => by kernel_rfl) ?_
  refine k_cell M (want_no rfl) (some 14) rfl 25 _ rfl g1 0 (by kernel_rfl) (.int .u64 (x 0)) (fun _ => by kernel_rfl) (fun w M => M.cell 0 rfl (by decide) rfl) ?_
  refine k_val (want_no rfl) (some 15) rfl (.pointer (some ⟨g1, 1, none⟩)) (fun _ => by kernel_rfl) ?_
  refine k_cell M (want_no rfl) (some 16) rfl 25 _ rfl g1 1 (by kernel_rfl) (.int .u64 (x 1)) (fun _ => by kernel_rfl) (fun w M => M.cell 0 rfl (by decide) rfl) ?_
  refine k_val (want_no rfl) (some 17) rfl (.pointer (some ⟨g1, 2, none⟩)) (fun _ => by kernel_rfl) ?_
  refine k_cell M (want_no rfl) (some 18) rfl 25 _ rfl g1 2 (by kernel_rfl) (.int .u64 (x 2)) (fun _ => by kernel_rfl) (fun w M => M.cell 0 rfl (by decide) rfl) ?_
  refine k_val (want_no rfl) (some 5) rfl (.int .u64 (x 0)) (fun _ => by kernel_rfl) ?_
  refine k_val (want_no rfl) (some 6) rfl (.int .u64 (x 1)) (fun _ => by kernel_rfl) ?_
  refine kl_nil ?_
  intro u3 M
  replace M : Mem ⟨w, none⟩ [⟨g1, .cells (av 8 (w64 x)) 28⟩, ⟨g2, .cells (av 8 (w64 fun _ => 0)) 28⟩] u3 := M
  refine pl_val (want_no rfl) (some 7) rfl (.int .u64 (x 2)) (fun _ => by kernel_rfl) ?_
  refine pl_nil ?_
  refine au_then ?_
  refine wp_seq ?_
  refine rg_tail M 8 (by kernel_rfl) (by kernel_rfl) ?_
  simp only [List.take_succ_cons, List.take_zero]
  refine k_val (want_no rfl) (some 19) rfl (.pointer (some ⟨g1, 4, none⟩)) (fun _ => by kernel_rfl) ?_
  refine k_cell M (want_no rfl) (some 20) rfl 25 _ rfl g1 4 (by kernel_rfl) (.int .u64 (x 4)) (fun _ => by kernel_rfl) (fun w M => M.cell 0 rfl (by decide) rfl) ?_
  refine k_val (want_no rfl) (some 21) rfl (.pointer (some ⟨g1, 5, none⟩)) (fun _ => by kernel_rfl) ?_
  refine k_cell M (want_no rfl) (some 22) rfl 25 _ rfl g1 5 (by kernel_rfl) (.int .u64 (x 5)) (fun _ => by kernel_rfl) (fun w M => M.cell 0 rfl (by decide) rfl) ?_
  refine k_val (want_no rfl) (some 23) rfl (.pointer (some ⟨g1, 6, none⟩)) (fun _ => by kernel_rfl) ?_
  refine k_cell M (want_no rfl) (some 24) rfl 25 _ rfl g1 6 (by kernel_rfl) (.int .u64 (x 6)) (fun _ => by kernel_rfl) (fun w M => M.cell 0 rfl (by decide) rfl) ?_
  refine k_val (want_no rfl) (some 8) rfl (.int .u64 (x 4)) (fun _ => by kernel_rfl) ?_
  refine k_val (want_no rfl) (some 9) rfl (.int .u64 (x 5)) (fun _ => by kernel_rfl) ?_
  refine kl_nil ?_
  intro u4 M
  replace M : Mem ⟨w, none⟩ [⟨g1, .cells (av 8 (w64 x)) 28⟩, ⟨g2, .cells (av 8 (w64 fun _ => 0)) 28⟩] u4 := M
  refine pl_val (want_no rfl) (some 10) rfl (.int .u64 (x 6)) (fun _ => by kernel_rfl) ?_
  refine pl_nil ?_
  refine au_then ?_
  refine wp_seq ?_
  refine rg_tail M 16 (by kernel_rfl) (by kernel_rfl) ?_
  simp only [List.take_succ_cons, List.take_zero]
  refine k_val (want_no rfl) (some 25) rfl (.pointer (some ⟨g1, 7, none⟩)) (fun _ => by kernel_rfl) ?_
  refine k_cell M (want_no rfl) (some 26) rfl 25 _ rfl g1 7 (by kernel_rfl) (.int .u64 (x 7)) (fun _ => by kernel_rfl) (fun w M => M.cell 0 rfl (by decide) rfl) ?_
  refine k_val (want_no rfl) (some 27) rfl (.int .u64 (x 4)) (fun _ => by kernel_rfl) ?_
  refine k_call M (want_no rfl) (some 28) rfl 36 #[.int .u64 (x 4), .int .i64 14, .int .i64 18, .int .i64 41] (.int .u64 (bS1 (x 4))) (fun _ => by kernel_rfl) (fun w M => c_thr14 (x 4) w M.laid) ?_
  refine k_val (want_no rfl) (some 29) rfl (.int .u64 (ua (x 7) (bS1 (x 4)))) (fun _ => by kernel_rfl) ?_
  refine k_val (want_no rfl) (some 30) rfl (.int .u64 (x 4)) (fun _ => by kernel_rfl) ?_
  refine k_val (want_no rfl) (some 31) rfl (.int .u64 (x 5)) (fun _ => by kernel_rfl) ?_
  refine k_val (want_no rfl) (some 32) rfl (.int .u64 (un (x 4) (x 5))) (fun _ => by kernel_rfl) ?_
  refine k_val (want_no rfl) (some 33) rfl (.int .u64 (x 4)) (fun _ => by kernel_rfl) ?_
  refine k_val (want_no rfl) (some 34) rfl (.int .u64 (ut (x 4))) (fun _ => by kernel_rfl) ?_
  refine k_val (want_no rfl) (some 35) rfl (.int .u64 (x 6)) (fun _ => by kernel_rfl) ?_
  refine k_val (want_no rfl) (some 36) rfl (.int .u64 (un (ut (x 4)) (x 6))) (fun _ => by kernel_rfl) ?_
  refine k_val (want_no rfl) (some 37) rfl (.int .u64 (ux (un (x 4) (x 5)) (un (ut (x 4)) (x 6)))) (fun _ => by kernel_rfl) ?_
  refine k_val (want_no rfl) (some 38) rfl (.int .u64 (ua (ua (x 7) (bS1 (x 4))) (ux (un (x 4) (x 5)) (un (ut (x 4)) (x 6))))) (fun _ => by kernel_rfl) ?_
  refine k_val (want_no rfl) (some 39) rfl (.int .u64 comes) (fun _ => by kernel_rfl) ?_
  refine k_val (want_no rfl) (some 40) rfl (.int .u64 (ua (ua (ua (x 7) (bS1 (x 4))) (ux (un (x 4) (x 5)) (un (ut (x 4)) (x 6)))) comes)) (fun _ => by kernel_rfl) ?_
  refine kl_nil ?_
  intro u5 M
  replace M : Mem ⟨w, none⟩ [⟨g1, .cells (av 8 (w64 x)) 28⟩, ⟨g2, .cells (av 8 (w64 fun _ => 0)) 28⟩] u5 := M
  refine pl_val (want_no rfl) (some 11) rfl (.int .u64 (uF x comes)) (fun _ => by kernel_rfl) ?_
  refine pl_nil ?_
  refine au_then ?_
  refine wp_seq ?_
  refine rg_lit ?_
  refine pl_val (want_no rfl) (some 41) rfl (.int .u64 (x 0)) (fun _ => by kernel_rfl) ?_
  refine pl_call M (want_no rfl) (some 42) rfl 36 #[.int .u64 (x 0), .int .i64 28, .int .i64 34, .int .i64 39] (.int .u64 (bS0 (x 0))) (fun _ => by kernel_rfl) (fun w M => c_thr28 (x 0) w M.laid) ?_
  intro u6 M
  refine pl_val (want_no rfl) (some 43) rfl (.int .u64 (x 0)) (fun _ => by kernel_rfl) ?_
  refine pl_val (want_no rfl) (some 44) rfl (.int .u64 (x 1)) (fun _ => by kernel_rfl) ?_
  refine pl_val (want_no rfl) (some 45) rfl (.int .u64 (un (x 0) (x 1))) (fun _ => by kernel_rfl) ?_
  refine pl_val (want_no rfl) (some 46) rfl (.int .u64 (x 0)) (fun _ => by kernel_rfl) ?_
  refine pl_val (want_no rfl) (some 47) rfl (.int .u64 (x 2)) (fun _ => by kernel_rfl) ?_
  refine pl_val (want_no rfl) (some 48) rfl (.int .u64 (un (x 0) (x 2))) (fun _ => by kernel_rfl) ?_
  refine pl_val (want_no rfl) (some 49) rfl (.int .u64 (ux (un (x 0) (x 1)) (un (x 0) (x 2)))) (fun _ => by kernel_rfl) ?_
  refine pl_val (want_no rfl) (some 50) rfl (.int .u64 (x 1)) (fun _ => by kernel_rfl) ?_
  refine pl_val (want_no rfl) (some 51) rfl (.int .u64 (x 2)) (fun _ => by kernel_rfl) ?_
  refine pl_val (want_no rfl) (some 52) rfl (.int .u64 (un (x 1) (x 2))) (fun _ => by kernel_rfl) ?_
  refine pl_val (want_no rfl) (some 53) rfl (.int .u64 (ux (ux (un (x 0) (x 1)) (un (x 0) (x 2))) (un (x 1) (x 2)))) (fun _ => by kernel_rfl) ?_
  refine pl_val (want_no rfl) (some 54) rfl (.int .u64 (ua (bS0 (x 0)) (ux (ux (un (x 0) (x 1)) (un (x 0) (x 2))) (un (x 1) (x 2))))) (fun _ => by kernel_rfl) ?_
  refine pl_val (want_no rfl) (some 12) rfl (.int .u64 (vF x)) (fun _ => by kernel_rfl) ?_
  refine pl_nil ?_
  refine au_then ?_
  refine wp_seq ?_
  refine rg_tail M 2 (by kernel_rfl) (by kernel_rfl) ?_
  simp only [List.take_succ_cons, List.take_zero]
  refine k_val (want_no rfl) (some 55) rfl (.slice (some ⟨g1, 1, none⟩) 7 7) (fun _ => by kernel_rfl) ?_
  refine k_val (want_no rfl) (some 56) rfl (.slice (some ⟨g1, 0, none⟩) 7 8) (fun _ => by kernel_rfl) ?_
  refine kl_nil ?_
  intro u7 M
  replace M : Mem ⟨w, none⟩ [⟨g1, .cells (av 8 (w64 x)) 28⟩, ⟨g2, .cells (av 8 (w64 fun _ => 0)) 28⟩] u7 := M
  refine pl_copyA M (want_no rfl) (some 57) rfl 30 30 3 25 Tryd.underlying30 inz25 0 g1 8 28 (w64 x) rfl 1 7 7 0 7 8 7 rfl (by decide) (by decide) (fun _ _ => rfl) (w64 (shf x)) (fun j hj => by unfold w64 shf; split <;> (congr 2; try omega)) (fun _ => by kernel_rfl) ?_
  intro u8 M
  replace M : Mem ⟨w, none⟩ [⟨g1, .cells (av 8 (w64 (shf x))) 28⟩, ⟨g2, .cells (av 8 (w64 fun _ => 0)) 28⟩] u8 := M
  refine pl_nil ?_
  refine au_then ?_
  refine wp_seq ?_
  refine rg_lit ?_
  refine pl_val (want_no rfl) (some 58) rfl (.int .u64 (uF x comes)) (fun _ => by kernel_rfl) ?_
  refine pl_val (want_no rfl) (some 59) rfl (.int .u64 (vF x)) (fun _ => by kernel_rfl) ?_
  refine pl_val (want_no rfl) (some 60) rfl (.int .u64 (ua (uF x comes) (vF x))) (fun _ => by kernel_rfl) ?_
  refine pl_val (want_no rfl) (some 61) rfl (.pointer (some ⟨g1, 0, none⟩)) (fun _ => by kernel_rfl) ?_
  refine pl_put1 M (want_no rfl) rfl 25 _ _ rfl 0 g1 0 (by kernel_rfl) 8 28 (w64 (shf x)) rfl (.int .u64 (ua (uF x comes) (vF x))) (w64 (upd (shf x) 0 (ua (uF x comes) (vF x)))) (by kernel_rfl) inz25 (by decide) rfl rfl (fun j _ => put_w64 _ _ _ j) ?_
  intro u9 M
  replace M : Mem ⟨w, none⟩ [⟨g1, .cells (av 8 (w64 (upd (shf x) 0 (ua (uF x comes) (vF x))))) 28⟩, ⟨g2, .cells (av 8 (w64 fun _ => 0)) 28⟩] u9 := M
  refine pl_nil ?_
  refine au_then ?_
  refine wp_seq ?_
  refine rg_lit ?_
  refine pl_val (want_no rfl) (some 62) rfl (.pointer (some ⟨g1, 4, none⟩)) (fun _ => by kernel_rfl) ?_
  refine pl_cell M (want_no rfl) (some 63) rfl 25 _ rfl g1 4 (by kernel_rfl) (.int .u64 ((upd (shf x) 0 (ua (uF x comes) (vF x))) 4)) (fun _ => by kernel_rfl) (fun w M => M.cell 0 rfl (by decide) rfl) ?_
  refine pl_val (want_no rfl) (some 64) rfl (.int .u64 (uF x comes)) (fun _ => by kernel_rfl) ?_
  refine pl_val (want_no rfl) (some 65) rfl (.int .u64 (ua ((upd (shf x) 0 (ua (uF x comes) (vF x))) 4) (uF x comes))) (fun _ => by kernel_rfl) ?_
  refine pl_val (want_no rfl) (some 66) rfl (.pointer (some ⟨g1, 4, none⟩)) (fun _ => by kernel_rfl) ?_
  refine pl_put1 M (want_no rfl) rfl 25 _ _ rfl 0 g1 4 (by kernel_rfl) 8 28 (w64 (upd (shf x) 0 (ua (uF x comes) (vF x)))) rfl (.int .u64 (ua ((upd (shf x) 0 (ua (uF x comes) (vF x))) 4) (uF x comes))) (w64 (upd (upd (shf x) 0 (ua (uF x comes) (vF x))) 4 (ua ((upd (shf x) 0 (ua (uF x comes) (vF x))) 4) (uF x comes)))) (by kernel_rfl) inz25 (by decide) rfl rfl (fun j _ => put_w64 _ _ _ j) ?_
  intro u10 M
  replace M : Mem ⟨w, none⟩ [⟨g1, .cells (av 8 (w64 (upd (upd (shf x) 0 (ua (uF x comes) (vF x))) 4 (ua ((upd (shf x) 0 (ua (uF x comes) (vF x))) 4) (uF x comes))))) 28⟩, ⟨g2, .cells (av 8 (w64 fun _ => 0)) 28⟩] u10 := M
  refine pl_nil ?_
  refine au_then ?_
  refine wp_seq ?_
  refine rg_lit ?_
  refine pl_load M (want_no rfl) (some 67) rfl 28 _ rfl 0 g1 0 (by kernel_rfl) 8 28 (w64 (upd (upd (shf x) 0 (ua (uF x comes) (vF x))) 4 (ua ((upd (shf x) 0 (ua (uF x comes) (vF x))) 4) (uF x comes)))) rfl 8 (w64 (upd (upd (shf x) 0 (ua (uF x comes) (vF x))) 4 (ua ((upd (shf x) 0 (ua (uF x comes) (vF x))) 4) (uF x comes)))) (fun j _ => by rw [Nat.zero_add]) (by decide) _ Tryd.underlying28 rfl inz28 ?_
  refine pl_put M (want_no rfl) rfl 28 _ _ rfl 1 g2 0 (by kernel_rfl) 8 28 (w64 fun _ => 0) rfl 8 (w64 (upd (upd (shf x) 0 (ua (uF x comes) (vF x))) 4 (ua ((upd (shf x) 0 (ua (uF x comes) (vF x))) 4) (uF x comes)))) (w64 (upd (upd (shf x) 0 (ua (uF x comes) (vF x))) 4 (ua ((upd (shf x) 0 (ua (uF x comes) (vF x))) 4) (uF x comes)))) (by kernel_rfl) inz28 (by decide) (fun _ _ => rfl) (fun j hj => by rw [if_pos (by omega), Nat.sub_zero]) ?_
  intro u11 M
  replace M : Mem ⟨w, none⟩ [⟨g1, .cells (av 8 (w64 (upd (upd (shf x) 0 (ua (uF x comes) (vF x))) 4 (ua ((upd (shf x) 0 (ua (uF x comes) (vF x))) 4) (uF x comes))))) 28⟩, ⟨g2, .cells (av 8 (w64 (upd (upd (shf x) 0 (ua (uF x comes) (vF x))) 4 (ua ((upd (shf x) 0 (ua (uF x comes) (vF x))) 4) (uF x comes))))) 28⟩] u11 := M
  refine pl_nil ?_
  refine au_then ?_
  refine wp_ret ?_
  have e := st8_av x comes
  refine bodyPost_ret (v := .agg (av 8 (w64 (st8 x comes)))) (Eq.trans (b := .ok (.agg (av 8 (w64 (upd (upd (shf x) 0 (ua (uF x comes) (vF x))) 4 (ua ((upd (shf x) 0 (ua (uF x comes) (vF x))) 4) (uF x comes)))))) _) (results_cell_row Tryd.results28 _ _ g2 28 (av 8 (w64 (upd (upd (shf x) 0 (ua (uF x comes) (vF x))) 4 (ua ((upd (shf x) 0 (ua (uF x comes) (vF x))) 4) (uF x comes))))) (0, 0) _ (by kernel_rfl) (M.get 1 rfl) Tryd.underlying28 rfl (by rw [av_size]; exact inz28)) (by rw [show av 8 (w64 (upd (upd (shf x) 0 (ua (uF x comes) (vF x))) 4 (ua ((upd (shf x) 0 (ua (uF x comes) (vF x))) 4) (uF x comes)))) = av 8 (w64 (st8 x comes)) from e])) (by kernel_rfl) ⟨rfl, below_grown M.old⟩


end Go.Proofs.YtghobmgdadpplaaDoor
