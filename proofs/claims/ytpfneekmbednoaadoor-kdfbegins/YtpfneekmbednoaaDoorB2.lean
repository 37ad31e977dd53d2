/- A piece is mixed into the words: the walks of the closure of mixed, and of mixed. -/
import Derived.Test.YtpfneekmbednoaaDoorB1
namespace Go.Proofs.YtpfneekmbednoaaDoor
open Go.RowKit

def mA1 (v : Nat → Int) (x : Int) (i j : Nat) : Int := va (v i) (va (v j) x)
def mD1 (v : Nat → Int) (x : Int) (i j l : Nat) : Int := rot (vx (v l) (mA1 v x i j)) 16
def mC1 (v : Nat → Int) (x : Int) (i j k l : Nat) : Int := va (v k) (mD1 v x i j l)
def mB1 (v : Nat → Int) (x : Int) (i j k l : Nat) : Int := rot (vx (v j) (mC1 v x i j k l)) 12
def mA2 (v : Nat → Int) (x y : Int) (i j k l : Nat) : Int := va (mA1 v x i j) (va (mB1 v x i j k l) y)
def mD2 (v : Nat → Int) (x y : Int) (i j k l : Nat) : Int := rot (vx (mD1 v x i j l) (mA2 v x y i j k l)) 8
def mC2 (v : Nat → Int) (x y : Int) (i j k l : Nat) : Int := va (mC1 v x i j k l) (mD2 v x y i j k l)
def mB2 (v : Nat → Int) (x y : Int) (i j k l : Nat) : Int := rot (vx (mB1 v x i j k l) (mC2 v x y i j k l)) 7
/-- Four words of the sixteen, mixed by two of the piece. -/
def mxF (v : Nat → Int) (x y : Int) (i j k l : Nat) : Nat → Int := upd (upd (upd (upd v i (mA2 v x y i j k l)) j (mB2 v x y i j k l)) k (mC2 v x y i j k l)) l (mD2 v x y i j k l)
set_option maxRecDepth 100000 in
set_option maxHeartbeats 4000000 in
theorem c_mix (v : Nat → Int) (x y : Int) (p0 p1 p2 p3 : Nat) (h4 : p0 < 16) (h1 : p1 < 16) (h2 : p2 < 16) (h3 : p3 < 16) (g gt : Nat) (w : World) (hL : Laid w) (hg : w.heap[g]? = some (.cells (av 16 (w32 v)) 67)) (h0 : g ≠ 0) (hne : gt ≠ g) (ha0 : w.cell? ⟨gt, 0, none⟩ = some (.int .i64 (p0 : Int))) (ha1 : w.cell? ⟨gt, 1, none⟩ = some (.int .i64 (p1 : Int))) (ha2 : w.cell? ⟨gt, 2, none⟩ = some (.int .i64 (p2 : Int))) (ha3 : w.cell? ⟨gt, 3, none⟩ = some (.int .i64 (p3 : Int))) :
    Calls Tryd.prog 45 #[.int .u32 x, .int .u32 y, .slice (some ⟨gt, 0, none⟩) 4 4, .pointer (some ⟨g, 0, none⟩)] w fun r w' => r = .returned (.tuple #[]) ∧ Grw w w' [g] ∧ w'.heap[g]? = some (.cells (av 16 (w32 (mxF v x y p0 p1 p2 p3))) 67) := by
  go_enter Tryd.func45, Tryd.ntmps45
  have M := Mem.startp hL hg h0
  refine wp_seq ?_
  refine rg_tail M 23 (by kernel_rfl) (by kernel_rfl) ?_
  simp only [List.take_succ_cons, List.take_zero]
  refine k_val (want_no rfl) (some 11) rfl (.slice (some ⟨gt, 0, none⟩) 4 4) (fun _ => by kernel_rfl) ?_
  refine k_val (want_no rfl) (some 12) rfl (.pointer (some ⟨gt, 0, none⟩)) (fun _ => by kernel_rfl) ?_
  refine k_cell M (want_no rfl) (some 13) rfl 3 _ rfl gt 0 (by kernel_rfl) (.int .i64 (p0 : Int)) (fun _ => by kernel_rfl) (fun w M => M.oldc ha0 (by simpa using hne)) ?_
  refine k_val (want_no rfl) (some 14) rfl (.pointer (some ⟨g, p0, none⟩)) (run_ix1 67 16 56 Tryd.underlying67 inz56 _ _ rfl g (by kernel_rfl) .i64 (p0) (by kernel_rfl) (by omega)) ?_
  refine k_cell M (want_no rfl) (some 15) rfl 56 _ rfl g p0 (by kernel_rfl) (.int .u32 (v p0)) (fun _ => by kernel_rfl) (fun w M => M.cell 0 rfl (by omega) rfl) ?_
  refine k_val (want_no rfl) (some 16) rfl (.slice (some ⟨gt, 0, none⟩) 4 4) (fun _ => by kernel_rfl) ?_
  refine k_val (want_no rfl) (some 17) rfl (.pointer (some ⟨gt, 1, none⟩)) (fun _ => by kernel_rfl) ?_
  refine k_cell M (want_no rfl) (some 18) rfl 3 _ rfl gt 1 (by kernel_rfl) (.int .i64 (p1 : Int)) (fun _ => by kernel_rfl) (fun w M => M.oldc ha1 (by simpa using hne)) ?_
  refine k_val (want_no rfl) (some 19) rfl (.pointer (some ⟨g, p1, none⟩)) (run_ix1 67 16 56 Tryd.underlying67 inz56 _ _ rfl g (by kernel_rfl) .i64 (p1) (by kernel_rfl) (by omega)) ?_
  refine k_cell M (want_no rfl) (some 20) rfl 56 _ rfl g p1 (by kernel_rfl) (.int .u32 (v p1)) (fun _ => by kernel_rfl) (fun w M => M.cell 0 rfl (by omega) rfl) ?_
  refine k_val (want_no rfl) (some 21) rfl (.slice (some ⟨gt, 0, none⟩) 4 4) (fun _ => by kernel_rfl) ?_
  refine k_val (want_no rfl) (some 22) rfl (.pointer (some ⟨gt, 2, none⟩)) (fun _ => by kernel_rfl) ?_
  refine k_cell M (want_no rfl) (some 23) rfl 3 _ rfl gt 2 (by kernel_rfl) (.int .i64 (p2 : Int)) (fun _ => by kernel_rfl) (fun w M => M.oldc ha2 (by simpa using hne)) ?_
  refine k_val (want_no rfl) (some 24) rfl (.pointer (some ⟨g, p2, none⟩)) (run_ix1 67 16 56 Tryd.underlying67 inz56 _ _ rfl g (by kernel_rfl) .i64 (p2) (by kernel_rfl) (by omega)) ?_
  refine k_cell M (want_no rfl) (some 25) rfl 56 _ rfl g p2 (by kernel_rfl) (.int .u32 (v p2)) (fun _ => by kernel_rfl) (fun w M => M.cell 0 rfl (by omega) rfl) ?_
  refine k_val (want_no rfl) (some 26) rfl (.slice (some ⟨gt, 0, none⟩) 4 4) (fun _ => by kernel_rfl) ?_
  refine k_val (want_no rfl) (some 27) rfl (.pointer (some ⟨gt, 3, none⟩)) (fun _ => by kernel_rfl) ?_
  refine k_cell M (want_no rfl) (some 28) rfl 3 _ rfl gt 3 (by kernel_rfl) (.int .i64 (p3 : Int)) (fun _ => by kernel_rfl) (fun w M => M.oldc ha3 (by simpa using hne)) ?_
  refine k_val (want_no rfl) (some 29) rfl (.pointer (some ⟨g, p3, none⟩)) (run_ix1 67 16 56 Tryd.underlying67 inz56 _ _ rfl g (by kernel_rfl) .i64 (p3) (by kernel_rfl) (by omega)) ?_
  refine k_cell M (want_no rfl) (some 30) rfl 56 _ rfl g p3 (by kernel_rfl) (.int .u32 (v p3)) (fun _ => by kernel_rfl) (fun w M => M.cell 0 rfl (by omega) rfl) ?_
  refine k_val (want_no rfl) (some 7) rfl (.int .u32 (v p0)) (fun _ => by kernel_rfl) ?_
  refine k_val (want_no rfl) (some 8) rfl (.int .u32 (v p1)) (fun _ => by kernel_rfl) ?_
  refine k_val (want_no rfl) (some 9) rfl (.int .u32 (v p2)) (fun _ => by kernel_rfl) ?_
  refine kl_nil ?_
  intro u1 M
  replace M : Mem ⟨w, [g]⟩ [⟨g, .cells (av 16 (w32 v)) 67⟩] u1 := M
  refine pl_val (want_no rfl) (some 10) rfl (.int .u32 (v p3)) (fun _ => by kernel_rfl) ?_
  refine pl_nil ?_
  refine au_then ?_
  refine wp_seq ?_
  refine rg_lit ?_
  refine pl_val (want_no rfl) (some 31) rfl (.int .u32 (v p0)) (fun _ => by kernel_rfl) ?_
  refine pl_val (want_no rfl) (some 32) rfl (.int .u32 (v p1)) (fun _ => by kernel_rfl) ?_
  refine pl_val (want_no rfl) (some 33) rfl (.int .u32 x) (fun _ => by kernel_rfl) ?_
  refine pl_val (want_no rfl) (some 34) rfl (.int .u32 (va (v p1) x)) (fun _ => by kernel_rfl) ?_
  refine pl_val (want_no rfl) (some 35) rfl (.int .u32 (mA1 v x p0 p1)) (fun _ => by kernel_rfl) ?_
  refine pl_val (want_no rfl) (some 7) rfl (.int .u32 (mA1 v x p0 p1)) (fun _ => by kernel_rfl) ?_
  refine pl_nil ?_
  refine au_then ?_
  refine wp_seq ?_
  refine rg_lit ?_
  refine pl_val (want_no rfl) (some 36) rfl (.int .u32 (v p3)) (fun _ => by kernel_rfl) ?_
  refine pl_val (want_no rfl) (some 37) rfl (.int .u32 (mA1 v x p0 p1)) (fun _ => by kernel_rfl) ?_
  refine pl_val (want_no rfl) (some 38) rfl (.int .u32 (vx (v p3) (mA1 v x p0 p1))) (fun _ => by kernel_rfl) ?_
  refine pl_call M (want_no rfl) (some 39) rfl 46 #[.int .u32 (vx (v p3) (mA1 v x p0 p1)), .int .i64 16] (.int .u32 (mD1 v x p0 p1 p3)) (fun _ => by kernel_rfl) (fun w M => c_turned16 _ w M.laid) ?_
  intro u2 M
  refine pl_val (want_no rfl) (some 10) rfl (.int .u32 (mD1 v x p0 p1 p3)) (fun _ => by kernel_rfl) ?_
  refine pl_nil ?_
  refine au_then ?_
  refine wp_seq ?_
  refine rg_lit ?_
  refine pl_val (want_no rfl) (some 40) rfl (.int .u32 (v p2)) (fun _ => by kernel_rfl) ?_
  refine pl_val (want_no rfl) (some 41) rfl (.int .u32 (mD1 v x p0 p1 p3)) (fun _ => by kernel_rfl) ?_
  refine pl_val (want_no rfl) (some 42) rfl (.int .u32 (mC1 v x p0 p1 p2 p3)) (fun _ => by kernel_rfl) ?_
  refine pl_val (want_no rfl) (some 9) rfl (.int .u32 (mC1 v x p0 p1 p2 p3)) (fun _ => by kernel_rfl) ?_
  refine pl_nil ?_
  refine au_then ?_
  refine wp_seq ?_
  refine rg_lit ?_
  refine pl_val (want_no rfl) (some 43) rfl (.int .u32 (v p1)) (fun _ => by kernel_rfl) ?_
  refine pl_val (want_no rfl) (some 44) rfl (.int .u32 (mC1 v x p0 p1 p2 p3)) (fun _ => by kernel_rfl) ?_
  refine pl_val (want_no rfl) (some 45) rfl (.int .u32 (vx (v p1) (mC1 v x p0 p1 p2 p3))) (fun _ => by kernel_rfl) ?_
  refine pl_call M (want_no rfl) (some 46) rfl 46 #[.int .u32 (vx (v p1) (mC1 v x p0 p1 p2 p3)), .int .i64 12] (.int .u32 (mB1 v x p0 p1 p2 p3)) (fun _ => by kernel_rfl) (fun w M => c_turned12 _ w M.laid) ?_
  intro u3 M
  refine pl_val (want_no rfl) (some 8) rfl (.int .u32 (mB1 v x p0 p1 p2 p3)) (fun _ => by kernel_rfl) ?_
  refine pl_nil ?_
  refine au_then ?_
  refine wp_seq ?_
  refine rg_lit ?_
  refine pl_val (want_no rfl) (some 47) rfl (.int .u32 (mA1 v x p0 p1)) (fun _ => by kernel_rfl) ?_
  refine pl_val (want_no rfl) (some 48) rfl (.int .u32 (mB1 v x p0 p1 p2 p3)) (fun _ => by kernel_rfl) ?_
  refine pl_val (want_no rfl) (some 49) rfl (.int .u32 y) (fun _ => by kernel_rfl) ?_
  refine pl_val (want_no rfl) (some 50) rfl (.int .u32 (va (mB1 v x p0 p1 p2 p3) y)) (fun _ => by kernel_rfl) ?_
  refine pl_val (want_no rfl) (some 51) rfl (.int .u32 (mA2 v x y p0 p1 p2 p3)) (fun _ => by kernel_rfl) ?_
  refine pl_val (want_no rfl) (some 7) rfl (.int .u32 (mA2 v x y p0 p1 p2 p3)) (fun _ => by kernel_rfl) ?_
  refine pl_nil ?_
  refine au_then ?_
  refine wp_seq ?_
  refine rg_lit ?_
  refine pl_val (want_no rfl) (some 52) rfl (.int .u32 (mD1 v x p0 p1 p3)) (fun _ => by kernel_rfl) ?_
  refine pl_val (want_no rfl) (some 53) rfl (.int .u32 (mA2 v x y p0 p1 p2 p3)) (fun _ => by kernel_rfl) ?_
  refine pl_val (want_no rfl) (some 54) rfl (.int .u32 (vx (mD1 v x p0 p1 p3) (mA2 v x y p0 p1 p2 p3))) (fun _ => by kernel_rfl) ?_
  refine pl_call M (want_no rfl) (some 55) rfl 46 #[.int .u32 (vx (mD1 v x p0 p1 p3) (mA2 v x y p0 p1 p2 p3)), .int .i64 8] (.int .u32 (mD2 v x y p0 p1 p2 p3)) (fun _ => by kernel_rfl) (fun w M => c_turned8 _ w M.laid) ?_
  intro u4 M
  refine pl_val (want_no rfl) (some 10) rfl (.int .u32 (mD2 v x y p0 p1 p2 p3)) (fun _ => by kernel_rfl) ?_
  refine pl_nil ?_
  refine au_then ?_
  refine wp_seq ?_
  refine rg_lit ?_
  refine pl_val (want_no rfl) (some 56) rfl (.int .u32 (mC1 v x p0 p1 p2 p3)) (fun _ => by kernel_rfl) ?_
  refine pl_val (want_no rfl) (some 57) rfl (.int .u32 (mD2 v x y p0 p1 p2 p3)) (fun _ => by kernel_rfl) ?_
  refine pl_val (want_no rfl) (some 58) rfl (.int .u32 (mC2 v x y p0 p1 p2 p3)) (fun _ => by kernel_rfl) ?_
  refine pl_val (want_no rfl) (some 9) rfl (.int .u32 (mC2 v x y p0 p1 p2 p3)) (fun _ => by kernel_rfl) ?_
  refine pl_nil ?_
  refine au_then ?_
  refine wp_seq ?_
  refine rg_lit ?_
  refine pl_val (want_no rfl) (some 59) rfl (.int .u32 (mB1 v x p0 p1 p2 p3)) (fun _ => by kernel_rfl) ?_
  refine pl_val (want_no rfl) (some 60) rfl (.int .u32 (mC2 v x y p0 p1 p2 p3)) (fun _ => by kernel_rfl) ?_
  refine pl_val (want_no rfl) (some 61) rfl (.int .u32 (vx (mB1 v x p0 p1 p2 p3) (mC2 v x y p0 p1 p2 p3))) (fun _ => by kernel_rfl) ?_
  refine pl_call M (want_no rfl) (some 62) rfl 46 #[.int .u32 (vx (mB1 v x p0 p1 p2 p3) (mC2 v x y p0 p1 p2 p3)), .int .i64 7] (.int .u32 (mB2 v x y p0 p1 p2 p3)) (fun _ => by kernel_rfl) (fun w M => c_turned7 _ w M.laid) ?_
  intro u5 M
  refine pl_val (want_no rfl) (some 8) rfl (.int .u32 (mB2 v x y p0 p1 p2 p3)) (fun _ => by kernel_rfl) ?_
  refine pl_nil ?_
  refine au_then ?_
  refine rg_held M [] 23 rfl (by kernel_rfl) (by kernel_rfl) (fun _ _ d _ _ h => by cases d <;> exact h) ?_
  intro u6 M
  replace M : Mem ⟨w, [g]⟩ [⟨g, .cells (av 16 (w32 v)) 67⟩] u6 := M
  refine hl_val (M.drop (.cons _ (.slnil))) 0 rfl (by decide) (by kernel_rfl) (by kernel_rfl) (want_no rfl) (some 63) rfl (.slice (some ⟨gt, 0, none⟩) 4 4) (fun _ _ => by kernel_rfl) ?_
  refine hl_val (M.drop (.cons _ (.slnil))) 1 rfl (by decide) (by kernel_rfl) (by kernel_rfl) (want_no rfl) (some 64) rfl (.pointer (some ⟨gt, 0, none⟩)) (fun _ _ => by kernel_rfl) ?_
  refine hl_cell (M.drop (.cons _ (.slnil))) 2 rfl (by decide) (by kernel_rfl) (by kernel_rfl) (want_no rfl) (some 65) rfl 3 _ rfl gt 0 (by kernel_rfl) (.int .i64 (p0 : Int)) (fun _ => by kernel_rfl) (fun w M => M.oldc ha0 (by simpa using hne)) ?_
  refine hl_val (M.drop (.cons _ (.slnil))) 3 rfl (by decide) (by kernel_rfl) (by kernel_rfl) (want_no rfl) (some 66) rfl (.slice (some ⟨gt, 0, none⟩) 4 4) (fun _ _ => by kernel_rfl) ?_
  refine hl_val (M.drop (.cons _ (.slnil))) 4 rfl (by decide) (by kernel_rfl) (by kernel_rfl) (want_no rfl) (some 67) rfl (.pointer (some ⟨gt, 1, none⟩)) (fun _ _ => by kernel_rfl) ?_
  refine hl_cell (M.drop (.cons _ (.slnil))) 5 rfl (by decide) (by kernel_rfl) (by kernel_rfl) (want_no rfl) (some 68) rfl 3 _ rfl gt 1 (by kernel_rfl) (.int .i64 (p1 : Int)) (fun _ => by kernel_rfl) (fun w M => M.oldc ha1 (by simpa using hne)) ?_
  refine hl_val (M.drop (.cons _ (.slnil))) 6 rfl (by decide) (by kernel_rfl) (by kernel_rfl) (want_no rfl) (some 69) rfl (.slice (some ⟨gt, 0, none⟩) 4 4) (fun _ _ => by kernel_rfl) ?_
  refine hl_val (M.drop (.cons _ (.slnil))) 7 rfl (by decide) (by kernel_rfl) (by kernel_rfl) (want_no rfl) (some 70) rfl (.pointer (some ⟨gt, 2, none⟩)) (fun _ _ => by kernel_rfl) ?_
  refine hl_cell (M.drop (.cons _ (.slnil))) 8 rfl (by decide) (by kernel_rfl) (by kernel_rfl) (want_no rfl) (some 71) rfl 3 _ rfl gt 2 (by kernel_rfl) (.int .i64 (p2 : Int)) (fun _ => by kernel_rfl) (fun w M => M.oldc ha2 (by simpa using hne)) ?_
  refine hl_val (M.drop (.cons _ (.slnil))) 9 rfl (by decide) (by kernel_rfl) (by kernel_rfl) (want_no rfl) (some 72) rfl (.slice (some ⟨gt, 0, none⟩) 4 4) (fun _ _ => by kernel_rfl) ?_
  refine hl_val (M.drop (.cons _ (.slnil))) 10 rfl (by decide) (by kernel_rfl) (by kernel_rfl) (want_no rfl) (some 73) rfl (.pointer (some ⟨gt, 3, none⟩)) (fun _ _ => by kernel_rfl) ?_
  refine hl_cell (M.drop (.cons _ (.slnil))) 11 rfl (by decide) (by kernel_rfl) (by kernel_rfl) (want_no rfl) (some 74) rfl 3 _ rfl gt 3 (by kernel_rfl) (.int .i64 (p3 : Int)) (fun _ => by kernel_rfl) (fun w M => M.oldc ha3 (by simpa using hne)) ?_
  refine hl_val (M.drop (.cons _ (.slnil))) 12 rfl (by decide) (by kernel_rfl) (by kernel_rfl) (want_no rfl) (some 75) rfl (.int .u32 (mA2 v x y p0 p1 p2 p3)) (fun _ _ => by kernel_rfl) ?_
  refine hl_val (M.drop (.cons _ (.slnil))) 13 rfl (by decide) (by kernel_rfl) (by kernel_rfl) (want_no rfl) (some 76) rfl (.int .u32 (mB2 v x y p0 p1 p2 p3)) (fun _ _ => by kernel_rfl) ?_
  refine hl_val (M.drop (.cons _ (.slnil))) 14 rfl (by decide) (by kernel_rfl) (by kernel_rfl) (want_no rfl) (some 77) rfl (.int .u32 (mC2 v x y p0 p1 p2 p3)) (fun _ _ => by kernel_rfl) ?_
  refine hl_val (M.drop (.cons _ (.slnil))) 15 rfl (by decide) (by kernel_rfl) (by kernel_rfl) (want_no rfl) (some 78) rfl (.int .u32 (mD2 v x y p0 p1 p2 p3)) (fun _ _ => by kernel_rfl) ?_
  refine hl_val (M.drop (.cons _ (.slnil))) 16 rfl (by decide) (by kernel_rfl) (by kernel_rfl) (want_no rfl) (some 79) rfl (.pointer (some ⟨g, p0, none⟩)) (fun w _ => (run_ix1 67 16 56 Tryd.underlying67 inz56 _ _ rfl g (by kernel_rfl) .i64 (p0) (by kernel_rfl) (by omega)) w) ?_
  refine hl_one 17 (by decide) (by kernel_rfl) rfl ?_
  refine pl_put1 M (want_no rfl) rfl 56 _ _ rfl 0 g p0 (by kernel_rfl) 16 67 (w32 v) rfl (.int .u32 (mA2 v x y p0 p1 p2 p3)) (w32 (upd v p0 (mA2 v x y p0 p1 p2 p3))) (by kernel_rfl) inz56 (by omega) rfl rfl (fun j _ => put_w32 _ _ _ j) ?_
  intro u7 M
  replace M : Mem ⟨w, [g]⟩ [⟨g, .cells (av 16 (w32 (upd v p0 (mA2 v x y p0 p1 p2 p3)))) 67⟩] u7 := M
  refine pl_nil ?_
  refine au_then ?_
  refine ⟨(M.drop (.cons _ (.slnil))), ?_⟩
  refine hl_val (M.drop (.cons _ (.slnil))) 18 rfl (by decide) (by kernel_rfl) (by kernel_rfl) (want_no rfl) (some 80) rfl (.pointer (some ⟨g, p1, none⟩)) (fun w _ => (run_ix1 67 16 56 Tryd.underlying67 inz56 _ _ rfl g (by kernel_rfl) .i64 (p1) (by kernel_rfl) (by omega)) w) ?_
  refine hl_one 19 (by decide) (by kernel_rfl) rfl ?_
  refine pl_put1 M (want_no rfl) rfl 56 _ _ rfl 0 g p1 (by kernel_rfl) 16 67 (w32 (upd v p0 (mA2 v x y p0 p1 p2 p3))) rfl (.int .u32 (mB2 v x y p0 p1 p2 p3)) (w32 (upd (upd v p0 (mA2 v x y p0 p1 p2 p3)) p1 (mB2 v x y p0 p1 p2 p3))) (by kernel_rfl) inz56 (by omega) rfl rfl (fun j _ => put_w32 _ _ _ j) ?_
  intro u8 M
  replace M : Mem ⟨w, [g]⟩ [⟨g, .cells (av 16 (w32 (upd (upd v p0 (mA2 v x y p0 p1 p2 p3)) p1 (mB2 v x y p0 p1 p2 p3)))) 67⟩] u8 := M
  refine pl_nil ?_
  refine au_then ?_
  refine ⟨(M.drop (.cons _ (.slnil))), ?_⟩
  refine hl_val (M.drop (.cons _ (.slnil))) 20 rfl (by decide) (by kernel_rfl) (by kernel_rfl) (want_no rfl) (some 81) rfl (.pointer (some ⟨g, p2, none⟩)) (fun w _ => (run_ix1 67 16 56 Tryd.underlying67 inz56 _ _ rfl g (by kernel_rfl) .i64 (p2) (by kernel_rfl) (by omega)) w) ?_
  refine hl_one 21 (by decide) (by kernel_rfl) rfl ?_
  refine pl_put1 M (want_no rfl) rfl 56 _ _ rfl 0 g p2 (by kernel_rfl) 16 67 (w32 (upd (upd v p0 (mA2 v x y p0 p1 p2 p3)) p1 (mB2 v x y p0 p1 p2 p3))) rfl (.int .u32 (mC2 v x y p0 p1 p2 p3)) (w32 (upd (upd (upd v p0 (mA2 v x y p0 p1 p2 p3)) p1 (mB2 v x y p0 p1 p2 p3)) p2 (mC2 v x y p0 p1 p2 p3))) (by kernel_rfl) inz56 (by omega) rfl rfl (fun j _ => put_w32 _ _ _ j) ?_
  intro u9 M
  replace M : Mem ⟨w, [g]⟩ [⟨g, .cells (av 16 (w32 (upd (upd (upd v p0 (mA2 v x y p0 p1 p2 p3)) p1 (mB2 v x y p0 p1 p2 p3)) p2 (mC2 v x y p0 p1 p2 p3)))) 67⟩] u9 := M
  refine pl_nil ?_
  refine au_then ?_
  refine ⟨(M.drop (.cons _ (.slnil))), ?_⟩
  refine hl_val (M.drop (.cons _ (.slnil))) 22 rfl (by decide) (by kernel_rfl) (by kernel_rfl) (want_no rfl) (some 82) rfl (.pointer (some ⟨g, p3, none⟩)) (fun w _ => (run_ix1 67 16 56 Tryd.underlying67 inz56 _ _ rfl g (by kernel_rfl) .i64 (p3) (by kernel_rfl) (by omega)) w) ?_
  refine hl_end (by kernel_rfl) (by kernel_rfl) rfl ?_
  refine pl_put1 M (want_no rfl) rfl 56 _ _ rfl 0 g p3 (by kernel_rfl) 16 67 (w32 (upd (upd (upd v p0 (mA2 v x y p0 p1 p2 p3)) p1 (mB2 v x y p0 p1 p2 p3)) p2 (mC2 v x y p0 p1 p2 p3))) rfl (.int .u32 (mD2 v x y p0 p1 p2 p3)) (w32 (upd (upd (upd (upd v p0 (mA2 v x y p0 p1 p2 p3)) p1 (mB2 v x y p0 p1 p2 p3)) p2 (mC2 v x y p0 p1 p2 p3)) p3 (mD2 v x y p0 p1 p2 p3))) (by kernel_rfl) inz56 (by omega) rfl rfl (fun j _ => put_w32 _ _ _ j) ?_
  intro u10 M
  replace M : Mem ⟨w, [g]⟩ [⟨g, .cells (av 16 (w32 (upd (upd (upd (upd v p0 (mA2 v x y p0 p1 p2 p3)) p1 (mB2 v x y p0 p1 p2 p3)) p2 (mC2 v x y p0 p1 p2 p3)) p3 (mD2 v x y p0 p1 p2 p3)))) 67⟩] u10 := M
  refine pl_nil ?_
  refine au_then ?_
  exact bodyPost_end (v := .tuple #[]) (results_none Tryd.results45 _ _) (by kernel_rfl) ⟨rfl, M.old, M.get 0 rfl⟩

def ow (j : Nat) : Nat → Value := w8 fun i => (OF (j * 16 + i) : Int)
theorem OF_lt (i : Nat) : OF i < 16 := by
  by_cases h : i < 160
  · have h2 : ((List.range 160).all fun i => decide (OF i < 16)) = true := by decide +kernel
    simpa using List.all_eq_true.1 h2 i (List.mem_range.2 h)
  · unfold OF
    rw [List.getD_eq_getElem?_getD, List.getElem?_eq_none (by simp; omega)]
    decide
def rn1 (m v : Nat → Int) (j : Nat) : Nat → Int := mxF v (m (OF (j * 16 + 0))) (m (OF (j * 16 + 1))) 0 4 8 12
def rn2 (m v : Nat → Int) (j : Nat) : Nat → Int := mxF (rn1 m v j) (m (OF (j * 16 + 2))) (m (OF (j * 16 + 3))) 1 5 9 13
def rn3 (m v : Nat → Int) (j : Nat) : Nat → Int := mxF (rn2 m v j) (m (OF (j * 16 + 4))) (m (OF (j * 16 + 5))) 2 6 10 14
def rn4 (m v : Nat → Int) (j : Nat) : Nat → Int := mxF (rn3 m v j) (m (OF (j * 16 + 6))) (m (OF (j * 16 + 7))) 3 7 11 15
def rn5 (m v : Nat → Int) (j : Nat) : Nat → Int := mxF (rn4 m v j) (m (OF (j * 16 + 8))) (m (OF (j * 16 + 9))) 0 5 10 15
def rn6 (m v : Nat → Int) (j : Nat) : Nat → Int := mxF (rn5 m v j) (m (OF (j * 16 + 10))) (m (OF (j * 16 + 11))) 1 6 11 12
def rn7 (m v : Nat → Int) (j : Nat) : Nat → Int := mxF (rn6 m v j) (m (OF (j * 16 + 12))) (m (OF (j * 16 + 13))) 2 7 8 13
def rn8 (m v : Nat → Int) (j : Nat) : Nat → Int := mxF (rn7 m v j) (m (OF (j * 16 + 14))) (m (OF (j * 16 + 15))) 3 4 9 14
/-- The sixteen words behind some rounds. -/
def rd (m v : Nat → Int) : Nat → (Nat → Int)
  | 0 => v
  | j + 1 => rn8 m (rd m v j) j
def ad (x y : Nat → Int) : Nat → (Nat → Int)
  | 0 => x
  | j + 1 => upd (ad x y j) j (vx (ad x y j j) (vx (y j) (y (8 + j))))
/-- The words behind one more piece. -/
def mixV (x rs : Nat → Int) (n : Nat) (ct : Int) (last : Bool) : Nat → Int := fun i => vx (x i) (vx (rd (wo rs n) (spr x ct last) 10 i) (rd (wo rs n) (spr x ct last) 10 (8 + i)))
theorem lt8 {p : Nat → Prop} (h : p 0 ∧ p 1 ∧ p 2 ∧ p 3 ∧ p 4 ∧ p 5 ∧ p 6 ∧ p 7) : ∀ i, i < 8 → p i
  | 0, _ => h.1
  | 1, _ => h.2.1
  | 2, _ => h.2.2.1
  | 3, _ => h.2.2.2.1
  | 4, _ => h.2.2.2.2.1
  | 5, _ => h.2.2.2.2.2.1
  | 6, _ => h.2.2.2.2.2.2.1
  | 7, _ => h.2.2.2.2.2.2.2
  | n + 8, h => absurd h (by omega)
theorem ad_av (x y : Nat → Int) : av 8 (w32 (ad x y 8)) = av 8 (w32 fun i => vx (x i) (vx (y i) (y (8 + i)))) := by
  refine av_congr fun i hi => ?_
  unfold w32
  congr 1
  revert i
  exact lt8 ⟨by simp [ad, upd], by simp [ad, upd], by simp [ad, upd], by simp [ad, upd], by simp [ad, upd], by simp [ad, upd], by simp [ad, upd], by simp [ad, upd]⟩

set_option maxRecDepth 100000 in
set_option maxHeartbeats 4000000 in
theorem c_mixed (x rs : Nat → Int) (g n cap : Nat) (hn : n ≤ 64) (ct : Int) (last : Bool) (w : World) (hL : Laid w) (hc : ∀ i, i < n → w.cell? ⟨g, i, none⟩ = some (.int .u8 (rs i))) :
    Calls Tryd.prog 37 #[.agg (av 8 (w32 x)), .slice (some ⟨g, 0, none⟩) n cap, .int .u64 ct, .bool (last)] w fun r w' => r = .returned (.agg (av 8 (w32 (mixV x rs n ct last)))) ∧ Below w.heap.size w w' := by
  go_enter Tryd.func37, Tryd.ntmps37
  have M := Mem.start hL
  refine wp_seq ?_
  refine rg_lit ?_
  refine pl_new M (want_no rfl) (some 4) rfl (.cells (av 8 (w32 x)) 57) (fun _ => by kernel_rfl) ?_
  intro g1 u1 M
  replace M : Mem ⟨w, []⟩ [⟨g1, .cells (av 8 (w32 x)) 57⟩] u1 := M
  refine pl_new M (want_no rfl) (some 8) rfl (.cells (av 8 (w32 (fun _ => 0))) 57) (fun _ => by kernel_rfl) ?_
  intro g2 u2 M
  replace M : Mem ⟨w, []⟩ [⟨g1, .cells (av 8 (w32 x)) 57⟩, ⟨g2, .cells (av 8 (w32 (fun _ => 0))) 57⟩] u2 := M
  refine pl_nil ?_
  refine au_then ?_
  refine wp_seq ?_
  refine rg_lit ?_
  refine pl_val (want_no rfl) (some 15) rfl (.slice (some ⟨g, 0, none⟩) n cap) (fun _ => by kernel_rfl) ?_
  refine pl_call M (want_no rfl) (some 16) rfl 43 #[.slice (some ⟨g, 0, none⟩) n cap] (.agg (av 16 (w32 (wo rs n)))) (fun _ => by kernel_rfl) (fun w M => c_words rs g n cap hn w M.laid (fun i hi => M.oldc (hc i hi) (by simp))) ?_
  intro u3 M
  refine pl_new M (want_no rfl) (some 9) rfl (.cells (av 16 (w32 (fun _ => 0))) 67) (fun _ => by kernel_rfl) ?_
  intro g3 u4 M
  replace M : Mem ⟨w, []⟩ [⟨g1, .cells (av 8 (w32 x)) 57⟩, ⟨g2, .cells (av 8 (w32 (fun _ => 0))) 57⟩, ⟨g3, .cells (av 16 (w32 (fun _ => 0))) 67⟩] u4 := M
  refine pl_put M (want_no rfl) rfl 67 _ _ rfl 2 g3 0 (by kernel_rfl) 16 67 (w32 (fun _ => 0)) rfl 16 (w32 (wo rs n)) (w32 (wo rs n)) (by kernel_rfl) inz67 (by decide) (fun _ _ => rfl) (fun j hj => by rw [if_pos (by omega), Nat.sub_zero]) ?_
  intro u5 M
  replace M : Mem ⟨w, []⟩ [⟨g1, .cells (av 8 (w32 x)) 57⟩, ⟨g2, .cells (av 8 (w32 (fun _ => 0))) 57⟩, ⟨g3, .cells (av 16 (w32 (wo rs n))) 67⟩] u5 := M
  refine pl_nil ?_
  refine au_then ?_
  refine wp_seq ?_
  refine rg_lit ?_
  refine pl_load M (want_no rfl) (some 17) rfl 57 _ rfl 0 g1 0 (by kernel_rfl) 8 57 (w32 x) rfl 8 (w32 x) (fun j _ => by rw [Nat.zero_add]) (by decide) _ Tryd.underlying57 rfl inz57 ?_
  refine pl_val (want_no rfl) (some 18) rfl (.int .u64 ct) (fun _ => by kernel_rfl) ?_
  refine pl_val (want_no rfl) (some 19) rfl (.bool (last)) (fun _ => by kernel_rfl) ?_
  refine pl_call M (want_no rfl) (some 20) rfl 44 #[.agg (av 8 (w32 x)), .int .u64 ct, .bool (last)] (.agg (av 16 (w32 (spr x ct last)))) (fun _ => by kernel_rfl) (fun w M => c_spread x ct last w M.laid) ?_
  intro u6 M
  refine pl_new M (want_no rfl) (some 10) rfl (.cells (av 16 (w32 (fun _ => 0))) 67) (fun _ => by kernel_rfl) ?_
  intro g4 u7 M
  replace M : Mem ⟨w, []⟩ [⟨g1, .cells (av 8 (w32 x)) 57⟩, ⟨g2, .cells (av 8 (w32 (fun _ => 0))) 57⟩, ⟨g3, .cells (av 16 (w32 (wo rs n))) 67⟩, ⟨g4, .cells (av 16 (w32 (fun _ => 0))) 67⟩] u7 := M
  refine pl_put M (want_no rfl) rfl 67 _ _ rfl 3 g4 0 (by kernel_rfl) 16 67 (w32 (fun _ => 0)) rfl 16 (w32 (spr x ct last)) (w32 (spr x ct last)) (by kernel_rfl) inz67 (by decide) (fun _ _ => rfl) (fun j hj => by rw [if_pos (by omega), Nat.sub_zero]) ?_
  intro u8 M
  replace M : Mem ⟨w, []⟩ [⟨g1, .cells (av 8 (w32 x)) 57⟩, ⟨g2, .cells (av 8 (w32 (fun _ => 0))) 57⟩, ⟨g3, .cells (av 16 (w32 (wo rs n))) 67⟩, ⟨g4, .cells (av 16 (w32 (spr x ct last))) 67⟩] u8 := M
  refine pl_nil ?_
  refine au_then ?_
  refine wp_seq ?_
  refine rg_lit ?_
  refine pl_val (want_no rfl) (some 21) rfl (.func (.func 45) #[] #[.pointer (some ⟨g4, 0, none⟩)]) (fun _ => by kernel_rfl) ?_
  refine pl_val (want_no rfl) (some 11) rfl (.func (.func 45) #[] #[.pointer (some ⟨g4, 0, none⟩)]) (fun _ => by kernel_rfl) ?_
  refine pl_nil ?_
  refine au_then ?_
  refine wp_seq ?_
  refine wp_seq ?_
  refine rg_lit ?_
  refine pl_laid M (want_no rfl) (some 22) rfl 88 _ rfl (by kernel_rfl) _ Tryd.underlying88 rfl inz88 ?_
  refine pl_val (want_no rfl) (some 23) rfl (.int .i64 0) (fun _ => by kernel_rfl) ?_
  refine pl_nil ?_
  refine au_then ?_
  refine wp_block ?_
  refine au_loop (fun j a w' => ∃ v1 : Nat → Value, a = ⟨#[.agg (av 8 (w32 x)), .slice (some ⟨g, 0, none⟩) n cap, .int .u64 ct, .bool (last), .pointer (some ⟨g1, 0, none⟩), undef, undef, undef, .pointer (some ⟨g2, 0, none⟩), .pointer (some ⟨g3, 0, none⟩), .pointer (some ⟨g4, 0, none⟩), .func (.func 45) #[] #[.pointer (some ⟨g4, 0, none⟩)], undef, v1 13, undef, .slice (some ⟨g, 0, none⟩) n cap, .agg (av 16 (w32 (wo rs n))), .agg (av 8 (w32 x)), .int .u64 ct, .bool (last), .agg (av 16 (w32 (spr x ct last))), .func (.func 45) #[] #[.pointer (some ⟨g4, 0, none⟩)], .agg (av 160 (w8 fun i => (OF i : Int))), .int .i64 (j : Int), v1 24, v1 25, v1 26, v1 27, v1 28, v1 29, v1 30, v1 31, v1 32, v1 33, v1 34, v1 35, v1 36, v1 37, v1 38, v1 39, v1 40, v1 41, v1 42, v1 43, v1 44, v1 45, v1 46, v1 47, v1 48, v1 49, v1 50, v1 51, v1 52, v1 53, v1 54, v1 55, v1 56, v1 57, v1 58, v1 59, v1 60, v1 61, v1 62, v1 63, v1 64, v1 65, v1 66, v1 67, v1 68, v1 69, v1 70, v1 71, v1 72, v1 73, v1 74, v1 75, v1 76, v1 77, v1 78, v1 79, v1 80, v1 81, v1 82, v1 83, v1 84, v1 85, v1 86, v1 87, v1 88, v1 89, v1 90, v1 91, v1 92, v1 93, v1 94, v1 95, v1 96, v1 97, v1 98, v1 99, v1 100, v1 101, v1 102, v1 103, v1 104, v1 105, v1 106, v1 107, v1 108, v1 109, v1 110, v1 111, v1 112, v1 113, v1 114, undef, undef, undef, undef, undef, undef, undef, undef, undef, undef, undef, undef, undef, undef, undef, undef, undef, undef], []⟩ ∧ Mem ⟨w, []⟩ [⟨g1, .cells (av 8 (w32 x)) 57⟩, ⟨g2, .cells (av 8 (w32 (fun _ => 0))) 57⟩, ⟨g3, .cells (av 16 (w32 (wo rs n))) 67⟩, ⟨g4, .cells (av 16 (w32 (rd (wo rs n) (spr x ct last) j))) 67⟩] w') 10 ⟨fun k_ => ([undef, undef, undef, undef, undef, undef, undef, undef, undef, undef, undef, undef, undef, undef, undef, undef, undef, undef, undef, undef, undef, undef, undef, undef, undef, undef, undef, undef, undef, undef, undef, undef, undef, undef, undef, undef, undef, undef, undef, undef, undef, undef, undef, undef, undef, undef, undef, undef, undef, undef, undef, undef, undef, undef, undef, undef, undef, undef, undef, undef, undef, undef, undef, undef, undef, undef, undef, undef, undef, undef, undef, undef, undef, undef, undef, undef, undef, undef, undef, undef, undef, undef, undef, undef, undef, undef, undef, undef, undef, undef, undef, undef, undef, undef, undef, undef, undef, undef, undef, undef, undef, undef] : List Value).getD (k_ - 13) undef, by kernel_rfl, M⟩ ?_ ?_
  · intro j a u0 hj hI
    obtain ⟨v1, rfl, M⟩ := hI
    refine wp_seq ?_
    refine rg_lit ?_
    refine pl_val (want_no rfl) (some 24) rfl (.bool true) (fun w => Eq.trans (b := .ok (.value (.bool (decide ((j : Int) < 10)))) w) (by kernel_rfl) (by rw [decide_eq_true (by omega)])) ?_
    refine pl_nil ?_
    refine au_then ?_
    refine wp_seq ?_
    refine wp_cond_true (by kernel_rfl) ?_
    refine wp_skip ?_
    refine au_then ?_
    refine wp_seq ?_
    refine wp_block ?_
    refine wp_seq ?_
    refine rg_lit ?_
    refine pl_val (want_no rfl) (some 25) rfl (.agg (av 16 (ow j))) (run_ixP 88 10 87 16 Tryd.underlying88 inz87 (fun _ => by kernel_rfl) _ _ rfl (w8 fun i => (OF i : Int)) 160 (by kernel_rfl) .i64 j (by kernel_rfl) (by omega) (by omega)) ?_
    refine pl_new M (want_no rfl) (some 13) rfl (.cells (av 16 (w8 (fun _ => 0))) 87) (fun _ => by kernel_rfl) ?_
    intro g5 u9 M
    replace M : Mem ⟨w, []⟩ [⟨g1, .cells (av 8 (w32 x)) 57⟩, ⟨g2, .cells (av 8 (w32 (fun _ => 0))) 57⟩, ⟨g3, .cells (av 16 (w32 (wo rs n))) 67⟩, ⟨g4, .cells (av 16 (w32 (rd (wo rs n) (spr x ct last) j))) 67⟩, ⟨g5, .cells (av 16 (w8 (fun _ => 0))) 87⟩] u9 := M
    refine pl_put M (want_no rfl) rfl 87 _ _ rfl 4 g5 0 (by kernel_rfl) 16 87 (w8 (fun _ => 0)) rfl 16 (ow j) (ow j) (by kernel_rfl) inz87 (by decide) (fun _ _ => rfl) (fun j hj => by rw [if_pos (by omega), Nat.sub_zero]) ?_
    intro u10 M
    replace M : Mem ⟨w, []⟩ [⟨g1, .cells (av 8 (w32 x)) 57⟩, ⟨g2, .cells (av 8 (w32 (fun _ => 0))) 57⟩, ⟨g3, .cells (av 16 (w32 (wo rs n))) 67⟩, ⟨g4, .cells (av 16 (w32 (rd (wo rs n) (spr x ct last) j))) 67⟩, ⟨g5, .cells (av 16 (ow j)) 87⟩] u10 := M
    refine pl_nil ?_
    refine au_then ?_
    refine wp_seq ?_
    refine rg_held M [⟨g1, .cells (av 8 (w32 x)) 57⟩, ⟨g2, .cells (av 8 (w32 (fun _ => 0))) 57⟩, ⟨g3, .cells (av 16 (w32 (wo rs n))) 67⟩, ⟨g5, .cells (av 16 (ow j)) 87⟩] 10 rfl (by kernel_rfl) (by kernel_rfl) (fun _ _ d _ _ h => by cases d <;> exact h) ?_
    intro u11 M
    replace M : Mem ⟨w, []⟩ [⟨g1, .cells (av 8 (w32 x)) 57⟩, ⟨g2, .cells (av 8 (w32 (fun _ => 0))) 57⟩, ⟨g3, .cells (av 16 (w32 (wo rs n))) 67⟩, ⟨g4, .cells (av 16 (w32 (rd (wo rs n) (spr x ct last) j))) 67⟩, ⟨g5, .cells (av 16 (ow j)) 87⟩] u11 := M
    refine hl_val (M.drop (.cons_cons _ (.cons_cons _ (.cons_cons _ (.cons _ (.cons_cons _ (.slnil))))))) 0 rfl (by decide) (by kernel_rfl) (by kernel_rfl) (want_no rfl) (some 26) rfl (.func (.func 45) #[] #[.pointer (some ⟨g4, 0, none⟩)]) (fun _ _ => by kernel_rfl) ?_
    refine hl_val (M.drop (.cons_cons _ (.cons_cons _ (.cons_cons _ (.cons _ (.cons_cons _ (.slnil))))))) 1 rfl (by decide) (by kernel_rfl) (by kernel_rfl) (want_no rfl) (some 27) rfl (.pointer (some ⟨g5, 0, none⟩)) (fun _ _ => by kernel_rfl) ?_
    refine hl_cell (M.drop (.cons_cons _ (.cons_cons _ (.cons_cons _ (.cons _ (.cons_cons _ (.slnil))))))) 2 rfl (by decide) (by kernel_rfl) (by kernel_rfl) (want_no rfl) (some 28) rfl 5 _ rfl g5 0 (by kernel_rfl) (.int .u8 (OF (j * 16 + 0) : Int)) (fun _ => by kernel_rfl) (fun w M => M.cell 3 rfl (by decide) rfl) ?_
    refine hl_val (M.drop (.cons_cons _ (.cons_cons _ (.cons_cons _ (.cons _ (.cons_cons _ (.slnil))))))) 3 rfl (by decide) (by kernel_rfl) (by kernel_rfl) (want_no rfl) (some 29) rfl (.pointer (some ⟨g3, (OF (j * 16 + 0)), none⟩)) (fun w _ => (run_ix1 67 16 56 Tryd.underlying67 inz56 _ _ rfl g3 (by kernel_rfl) .u8 (OF (j * 16 + 0)) (by kernel_rfl) (OF_lt _)) w) ?_
    refine hl_cell (M.drop (.cons_cons _ (.cons_cons _ (.cons_cons _ (.cons _ (.cons_cons _ (.slnil))))))) 4 rfl (by decide) (by kernel_rfl) (by kernel_rfl) (want_no rfl) (some 30) rfl 56 _ rfl g3 (OF (j * 16 + 0)) (by kernel_rfl) (.int .u32 ((wo rs n) (OF (j * 16 + 0)))) (fun _ => by kernel_rfl) (fun w M => M.cell 2 rfl (OF_lt _) rfl) ?_
    refine hl_val (M.drop (.cons_cons _ (.cons_cons _ (.cons_cons _ (.cons _ (.cons_cons _ (.slnil))))))) 5 rfl (by decide) (by kernel_rfl) (by kernel_rfl) (want_no rfl) (some 31) rfl (.pointer (some ⟨g5, 1, none⟩)) (fun _ _ => by kernel_rfl) ?_
    refine hl_cell (M.drop (.cons_cons _ (.cons_cons _ (.cons_cons _ (.cons _ (.cons_cons _ (.slnil))))))) 6 rfl (by decide) (by kernel_rfl) (by kernel_rfl) (want_no rfl) (some 32) rfl 5 _ rfl g5 1 (by kernel_rfl) (.int .u8 (OF (j * 16 + 1) : Int)) (fun _ => by kernel_rfl) (fun w M => M.cell 3 rfl (by decide) rfl) ?_
    refine hl_val (M.drop (.cons_cons _ (.cons_cons _ (.cons_cons _ (.cons _ (.cons_cons _ (.slnil))))))) 7 rfl (by decide) (by kernel_rfl) (by kernel_rfl) (want_no rfl) (some 33) rfl (.pointer (some ⟨g3, (OF (j * 16 + 1)), none⟩)) (fun w _ => (run_ix1 67 16 56 Tryd.underlying67 inz56 _ _ rfl g3 (by kernel_rfl) .u8 (OF (j * 16 + 1)) (by kernel_rfl) (OF_lt _)) w) ?_
    refine hl_cell (M.drop (.cons_cons _ (.cons_cons _ (.cons_cons _ (.cons _ (.cons_cons _ (.slnil))))))) 8 rfl (by decide) (by kernel_rfl) (by kernel_rfl) (want_no rfl) (some 34) rfl 56 _ rfl g3 (OF (j * 16 + 1)) (by kernel_rfl) (.int .u32 ((wo rs n) (OF (j * 16 + 1)))) (fun _ => by kernel_rfl) (fun w M => M.cell 2 rfl (OF_lt _) rfl) ?_
    refine hl_one 9 (by decide) (by kernel_rfl) rfl ?_
    refine pl_mk M (want_no rfl) (some 35) rfl (fun g6 => .slice (some ⟨g6, 0, none⟩) 4 4) (.cells (av 4 (wi (r4 0 4 8 12))) 3) (fun _ => by kernel_rfl) ?_
    intro g6 u12 M
    replace M : Mem ⟨w, []⟩ [⟨g1, .cells (av 8 (w32 x)) 57⟩, ⟨g2, .cells (av 8 (w32 (fun _ => 0))) 57⟩, ⟨g3, .cells (av 16 (w32 (wo rs n))) 67⟩, ⟨g4, .cells (av 16 (w32 (rd (wo rs n) (spr x ct last) j))) 67⟩, ⟨g5, .cells (av 16 (ow j)) 87⟩, ⟨g6, .cells (av 4 (wi (r4 0 4 8 12))) 3⟩] u12 := M
    refine pl_nil ?_
    refine au_then ?_
    refine ⟨(M.drop (.cons_cons _ (.cons_cons _ (.cons_cons _ (.cons _ (.cons_cons _ (.cons _ (.slnil)))))))), ?_⟩
    refine hl_end (by kernel_rfl) (by kernel_rfl) rfl ?_
    refine pl_callp M (want_no rfl) (some 36) rfl 45 #[.int .u32 ((wo rs n) (OF (j * 16 + 0))), .int .u32 ((wo rs n) (OF (j * 16 + 1))), .slice (some ⟨g6, 0, none⟩) 4 4, .pointer (some ⟨g4, 0, none⟩)] (.tuple #[]) 3 g4 (.cells (av 16 (w32 (rd (wo rs n) (spr x ct last) j))) 67) (.cells (av 16 (w32 (rn1 (wo rs n) (rd (wo rs n) (spr x ct last) j) j))) 67) rfl (fun _ => by kernel_rfl) (fun w M => c_mix (rd (wo rs n) (spr x ct last) j) _ _ 0 4 8 12 (by decide) (by decide) (by decide) (by decide) g4 g6 w M.laid (M.get 3 rfl) (M.ne0 3 rfl) (nodup_at M.nodup (i := 5) (j := 3) rfl rfl (by decide)) (M.cell 5 rfl (by decide) rfl) (M.cell 5 rfl (by decide) rfl) (M.cell 5 rfl (by decide) rfl) (M.cell 5 rfl (by decide) rfl)) ?_
    intro u13 M
    replace M : Mem ⟨w, []⟩ [⟨g1, .cells (av 8 (w32 x)) 57⟩, ⟨g2, .cells (av 8 (w32 (fun _ => 0))) 57⟩, ⟨g3, .cells (av 16 (w32 (wo rs n))) 67⟩, ⟨g4, .cells (av 16 (w32 (rn1 (wo rs n) (rd (wo rs n) (spr x ct last) j) j))) 67⟩, ⟨g5, .cells (av 16 (ow j)) 87⟩, ⟨g6, .cells (av 4 (wi (r4 0 4 8 12))) 3⟩] u13 := M
    refine pl_nil ?_
    refine au_then ?_
    refine au_then ?_
    refine wp_seq ?_
    refine rg_held M [⟨g1, .cells (av 8 (w32 x)) 57⟩, ⟨g2, .cells (av 8 (w32 (fun _ => 0))) 57⟩, ⟨g3, .cells (av 16 (w32 (wo rs n))) 67⟩, ⟨g5, .cells (av 16 (ow j)) 87⟩, ⟨g6, .cells (av 4 (wi (r4 0 4 8 12))) 3⟩] 10 rfl (by kernel_rfl) (by kernel_rfl) (fun _ _ d _ _ h => by cases d <;> exact h) ?_
    intro u14 M
    replace M : Mem ⟨w, []⟩ [⟨g1, .cells (av 8 (w32 x)) 57⟩, ⟨g2, .cells (av 8 (w32 (fun _ => 0))) 57⟩, ⟨g3, .cells (av 16 (w32 (wo rs n))) 67⟩, ⟨g4, .cells (av 16 (w32 (rn1 (wo rs n) (rd (wo rs n) (spr x ct last) j) j))) 67⟩, ⟨g5, .cells (av 16 (ow j)) 87⟩, ⟨g6, .cells (av 4 (wi (r4 0 4 8 12))) 3⟩] u14 := M
    refine hl_val (M.drop (.cons_cons _ (.cons_cons _ (.cons_cons _ (.cons _ (.cons_cons _ (.cons_cons _ (.slnil)))))))) 0 rfl (by decide) (by kernel_rfl) (by kernel_rfl) (want_no rfl) (some 37) rfl (.func (.func 45) #[] #[.pointer (some ⟨g4, 0, none⟩)]) (fun _ _ => by kernel_rfl) ?_
    refine hl_val (M.drop (.cons_cons _ (.cons_cons _ (.cons_cons _ (.cons _ (.cons_cons _ (.cons_cons _ (.slnil)))))))) 1 rfl (by decide) (by kernel_rfl) (by kernel_rfl) (want_no rfl) (some 38) rfl (.pointer (some ⟨g5, 2, none⟩)) (fun _ _ => by kernel_rfl) ?_
    refine hl_cell (M.drop (.cons_cons _ (.cons_cons _ (.cons_cons _ (.cons _ (.cons_cons _ (.cons_cons _ (.slnil)))))))) 2 rfl (by decide) (by kernel_rfl) (by kernel_rfl) (want_no rfl) (some 39) rfl 5 _ rfl g5 2 (by kernel_rfl) (.int .u8 (OF (j * 16 + 2) : Int)) (fun _ => by kernel_rfl) (fun w M => M.cell 3 rfl (by decide) rfl) ?_
    refine hl_val (M.drop (.cons_cons _ (.cons_cons _ (.cons_cons _ (.cons _ (.cons_cons _ (.cons_cons _ (.slnil)))))))) 3 rfl (by decide) (by kernel_rfl) (by kernel_rfl) (want_no rfl) (some 40) rfl (.pointer (some ⟨g3, (OF (j * 16 + 2)), none⟩)) (fun w _ => (run_ix1 67 16 56 Tryd.underlying67 inz56 _ _ rfl g3 (by kernel_rfl) .u8 (OF (j * 16 + 2)) (by kernel_rfl) (OF_lt _)) w) ?_
    refine hl_cell (M.drop (.cons_cons _ (.cons_cons _ (.cons_cons _ (.cons _ (.cons_cons _ (.cons_cons _ (.slnil)))))))) 4 rfl (by decide) (by kernel_rfl) (by kernel_rfl) (want_no rfl) (some 41) rfl 56 _ rfl g3 (OF (j * 16 + 2)) (by kernel_rfl) (.int .u32 ((wo rs n) (OF (j * 16 + 2)))) (fun _ => by kernel_rfl) (fun w M => M.cell 2 rfl (OF_lt _) rfl) ?_
    refine hl_val (M.drop (.cons_cons _ (.cons_cons _ (.cons_cons _ (.cons _ (.cons_cons _ (.cons_cons _ (.slnil)))))))) 5 rfl (by decide) (by kernel_rfl) (by kernel_rfl) (want_no rfl) (some 42) rfl (.pointer (some ⟨g5, 3, none⟩)) (fun _ _ => by kernel_rfl) ?_
    refine hl_cell (M.drop (.cons_cons _ (.cons_cons _ (.cons_cons _ (.cons _ (.cons_cons _ (.cons_cons _ (.slnil)))))))) 6 rfl (by decide) (by kernel_rfl) (by kernel_rfl) (want_no rfl) (some 43) rfl 5 _ rfl g5 3 (by kernel_rfl) (.int .u8 (OF (j * 16 + 3) : Int)) (fun _ => by kernel_rfl) (fun w M => M.cell 3 rfl (by decide) rfl) ?_
    refine hl_val (M.drop (.cons_cons _ (.cons_cons _ (.cons_cons _ (.cons _ (.cons_cons _ (.cons_cons _ (.slnil)))))))) 7 rfl (by decide) (by kernel_rfl) (by kernel_rfl) (want_no rfl) (some 44) rfl (.pointer (some ⟨g3, (OF (j * 16 + 3)), none⟩)) (fun w _ => (run_ix1 67 16 56 Tryd.underlying67 inz56 _ _ rfl g3 (by kernel_rfl) .u8 (OF (j * 16 + 3)) (by kernel_rfl) (OF_lt _)) w) ?_
    refine hl_cell (M.drop (.cons_cons _ (.cons_cons _ (.cons_cons _ (.cons _ (.cons_cons _ (.cons_cons _ (.slnil)))))))) 8 rfl (by decide) (by kernel_rfl) (by kernel_rfl) (want_no rfl) (some 45) rfl 56 _ rfl g3 (OF (j * 16 + 3)) (by kernel_rfl) (.int .u32 ((wo rs n) (OF (j * 16 + 3)))) (fun _ => by kernel_rfl) (fun w M => M.cell 2 rfl (OF_lt _) rfl) ?_
    refine hl_one 9 (by decide) (by kernel_rfl) rfl ?_
    refine pl_mk M (want_no rfl) (some 46) rfl (fun g7 => .slice (some ⟨g7, 0, none⟩) 4 4) (.cells (av 4 (wi (r4 1 5 9 13))) 3) (fun _ => by kernel_rfl) ?_
    intro g7 u15 M
    replace M : Mem ⟨w, []⟩ [⟨g1, .cells (av 8 (w32 x)) 57⟩, ⟨g2, .cells (av 8 (w32 (fun _ => 0))) 57⟩, ⟨g3, .cells (av 16 (w32 (wo rs n))) 67⟩, ⟨g4, .cells (av 16 (w32 (rn1 (wo rs n) (rd (wo rs n) (spr x ct last) j) j))) 67⟩, ⟨g5, .cells (av 16 (ow j)) 87⟩, ⟨g6, .cells (av 4 (wi (r4 0 4 8 12))) 3⟩, ⟨g7, .cells (av 4 (wi (r4 1 5 9 13))) 3⟩] u15 := M
    refine pl_nil ?_
    refine au_then ?_
    refine ⟨(M.drop (.cons_cons _ (.cons_cons _ (.cons_cons _ (.cons _ (.cons_cons _ (.cons_cons _ (.cons _ (.slnil))))))))), ?_⟩
    refine hl_end (by kernel_rfl) (by kernel_rfl) rfl ?_
    refine pl_callp M (want_no rfl) (some 47) rfl 45 #[.int .u32 ((wo rs n) (OF (j * 16 + 2))), .int .u32 ((wo rs n) (OF (j * 16 + 3))), .slice (some ⟨g7, 0, none⟩) 4 4, .pointer (some ⟨g4, 0, none⟩)] (.tuple #[]) 3 g4 (.cells (av 16 (w32 (rn1 (wo rs n) (rd (wo rs n) (spr x ct last) j) j))) 67) (.cells (av 16 (w32 (rn2 (wo rs n) (rd (wo rs n) (spr x ct last) j) j))) 67) rfl (fun _ => by kernel_rfl) (fun w M => c_mix (rn1 (wo rs n) (rd (wo rs n) (spr x ct last) j) j) _ _ 1 5 9 13 (by decide) (by decide) (by decide) (by decide) g4 g7 w M.laid (M.get 3 rfl) (M.ne0 3 rfl) (nodup_at M.nodup (i := 6) (j := 3) rfl rfl (by decide)) (M.cell 6 rfl (by decide) rfl) (M.cell 6 rfl (by decide) rfl) (M.cell 6 rfl (by decide) rfl) (M.cell 6 rfl (by decide) rfl)) ?_
    intro u16 M
    replace M : Mem ⟨w, []⟩ [⟨g1, .cells (av 8 (w32 x)) 57⟩, ⟨g2, .cells (av 8 (w32 (fun _ => 0))) 57⟩, ⟨g3, .cells (av 16 (w32 (wo rs n))) 67⟩, ⟨g4, .cells (av 16 (w32 (rn2 (wo rs n) (rd (wo rs n) (spr x ct last) j) j))) 67⟩, ⟨g5, .cells (av 16 (ow j)) 87⟩, ⟨g6, .cells (av 4 (wi (r4 0 4 8 12))) 3⟩, ⟨g7, .cells (av 4 (wi (r4 1 5 9 13))) 3⟩] u16 := M
    refine pl_nil ?_
    refine au_then ?_
    refine au_then ?_
    refine wp_seq ?_
    refine rg_held M [⟨g1, .cells (av 8 (w32 x)) 57⟩, ⟨g2, .cells (av 8 (w32 (fun _ => 0))) 57⟩, ⟨g3, .cells (av 16 (w32 (wo rs n))) 67⟩, ⟨g5, .cells (av 16 (ow j)) 87⟩, ⟨g6, .cells (av 4 (wi (r4 0 4 8 12))) 3⟩, ⟨g7, .cells (av 4 (wi (r4 1 5 9 13))) 3⟩] 10 rfl (by kernel_rfl) (by kernel_rfl) (fun _ _ d _ _ h => by cases d <;> exact h) ?_
    intro u17 M
    replace M : Mem ⟨w, []⟩ [⟨g1, .cells (av 8 (w32 x)) 57⟩, ⟨g2, .cells (av 8 (w32 (fun _ => 0))) 57⟩, ⟨g3, .cells (av 16 (w32 (wo rs n))) 67⟩, ⟨g4, .cells (av 16 (w32 (rn2 (wo rs n) (rd (wo rs n) (spr x ct last) j) j))) 67⟩, ⟨g5, .cells (av 16 (ow j)) 87⟩, ⟨g6, .cells (av 4 (wi (r4 0 4 8 12))) 3⟩, ⟨g7, .cells (av 4 (wi (r4 1 5 9 13))) 3⟩] u17 := M
    refine hl_val (M.drop (.cons_cons _ (.cons_cons _ (.cons_cons _ (.cons _ (.cons_cons _ (.cons_cons _ (.cons_cons _ (.slnil))))))))) 0 rfl (by decide) (by kernel_rfl) (by kernel_rfl) (want_no rfl) (some 48) rfl (.func (.func 45) #[] #[.pointer (some ⟨g4, 0, none⟩)]) (fun _ _ => by kernel_rfl) ?_
    refine hl_val (M.drop (.cons_cons _ (.cons_cons _ (.cons_cons _ (.cons _ (.cons_cons _ (.cons_cons _ (.cons_cons _ (.slnil))))))))) 1 rfl (by decide) (by kernel_rfl) (by kernel_rfl) (want_no rfl) (some 49) rfl (.pointer (some ⟨g5, 4, none⟩)) (fun _ _ => by kernel_rfl) ?_
    refine hl_cell (M.drop (.cons_cons _ (.cons_cons _ (.cons_cons _ (.cons _ (.cons_cons _ (.cons_cons _ (.cons_cons _ (.slnil))))))))) 2 rfl (by decide) (by kernel_rfl) (by kernel_rfl) (want_no rfl) (some 50) rfl 5 _ rfl g5 4 (by kernel_rfl) (.int .u8 (OF (j * 16 + 4) : Int)) (fun _ => by kernel_rfl) (fun w M => M.cell 3 rfl (by decide) rfl) ?_
    refine hl_val (M.drop (.cons_cons _ (.cons_cons _ (.cons_cons _ (.cons _ (.cons_cons _ (.cons_cons _ (.cons_cons _ (.slnil))))))))) 3 rfl (by decide) (by kernel_rfl) (by kernel_rfl) (want_no rfl) (some 51) rfl (.pointer (some ⟨g3, (OF (j * 16 + 4)), none⟩)) (fun w _ => (run_ix1 67 16 56 Tryd.underlying67 inz56 _ _ rfl g3 (by kernel_rfl) .u8 (OF (j * 16 + 4)) (by kernel_rfl) (OF_lt _)) w) ?_
    refine hl_cell (M.drop (.cons_cons _ (.cons_cons _ (.cons_cons _ (.cons _ (.cons_cons _ (.cons_cons _ (.cons_cons _ (.slnil))))))))) 4 rfl (by decide) (by kernel_rfl) (by kernel_rfl) (want_no rfl) (some 52) rfl 56 _ rfl g3 (OF (j * 16 + 4)) (by kernel_rfl) (.int .u32 ((wo rs n) (OF (j * 16 + 4)))) (fun _ => by kernel_rfl) (fun w M => M.cell 2 rfl (OF_lt _) rfl) ?_
    refine hl_val (M.drop (.cons_cons _ (.cons_cons _ (.cons_cons _ (.cons _ (.cons_cons _ (.cons_cons _ (.cons_cons _ (.slnil))))))))) 5 rfl (by decide) (by kernel_rfl) (by kernel_rfl) (want_no rfl) (some 53) rfl (.pointer (some ⟨g5, 5, none⟩)) (fun _ _ => by kernel_rfl) ?_
    refine hl_cell (M.drop (.cons_cons _ (.cons_cons _ (.cons_cons _ (.cons _ (.cons_cons _ (.cons_cons _ (.cons_cons _ (.slnil))))))))) 6 rfl (by decide) (by kernel_rfl) (by kernel_rfl) (want_no rfl) (some 54) rfl 5 _ rfl g5 5 (by kernel_rfl) (.int .u8 (OF (j * 16 + 5) : Int)) (fun _ => by kernel_rfl) (fun w M => M.cell 3 rfl (by decide) rfl) ?_
    refine hl_val (M.drop (.cons_cons _ (.cons_cons _ (.cons_cons _ (.cons _ (.cons_cons _ (.cons_cons _ (.cons_cons _ (.slnil))))))))) 7 rfl (by decide) (by kernel_rfl) (by kernel_rfl) (want_no rfl) (some 55) rfl (.pointer (some ⟨g3, (OF (j * 16 + 5)), none⟩)) (fun w _ => (run_ix1 67 16 56 Tryd.underlying67 inz56 _ _ rfl g3 (by kernel_rfl) .u8 (OF (j * 16 + 5)) (by kernel_rfl) (OF_lt _)) w) ?_
    refine hl_cell (M.drop (.cons_cons _ (.cons_cons _ (.cons_cons _ (.cons _ (.cons_cons _ (.cons_cons _ (.cons_cons _ (.slnil))))))))) 8 rfl (by decide) (by kernel_rfl) (by kernel_rfl) (want_no rfl) (some 56) rfl 56 _ rfl g3 (OF (j * 16 + 5)) (by kernel_rfl) (.int .u32 ((wo rs n) (OF (j * 16 + 5)))) (fun _ => by kernel_rfl) (fun w M => M.cell 2 rfl (OF_lt _) rfl) ?_
    refine hl_one 9 (by decide) (by kernel_rfl) rfl ?_
    refine pl_mk M (want_no rfl) (some 57) rfl (fun g8 => .slice (some ⟨g8, 0, none⟩) 4 4) (.cells (av 4 (wi (r4 2 6 10 14))) 3) (fun _ => by kernel_rfl) ?_
    intro g8 u18 M
    replace M : Mem ⟨w, []⟩ [⟨g1, .cells (av 8 (w32 x)) 57⟩, ⟨g2, .cells (av 8 (w32 (fun _ => 0))) 57⟩, ⟨g3, .cells (av 16 (w32 (wo rs n))) 67⟩, ⟨g4, .cells (av 16 (w32 (rn2 (wo rs n) (rd (wo rs n) (spr x ct last) j) j))) 67⟩, ⟨g5, .cells (av 16 (ow j)) 87⟩, ⟨g6, .cells (av 4 (wi (r4 0 4 8 12))) 3⟩, ⟨g7, .cells (av 4 (wi (r4 1 5 9 13))) 3⟩, ⟨g8, .cells (av 4 (wi (r4 2 6 10 14))) 3⟩] u18 := M
    refine pl_nil ?_
    refine au_then ?_
    refine ⟨(M.drop (.cons_cons _ (.cons_cons _ (.cons_cons _ (.cons _ (.cons_cons _ (.cons_cons _ (.cons_cons _ (.cons _ (.slnil)))))))))), ?_⟩
    refine hl_end (by kernel_rfl) (by kernel_rfl) rfl ?_
    refine pl_callp M (want_no rfl) (some 58) rfl 45 #[.int .u32 ((wo rs n) (OF (j * 16 + 4))), .int .u32 ((wo rs n) (OF (j * 16 + 5))), .slice (some ⟨g8, 0, none⟩) 4 4, .pointer (some ⟨g4, 0, none⟩)] (.tuple #[]) 3 g4 (.cells (av 16 (w32 (rn2 (wo rs n) (rd (wo rs n) (spr x ct last) j) j))) 67) (.cells (av 16 (w32 (rn3 (wo rs n) (rd (wo rs n) (spr x ct last) j) j))) 67) rfl (fun _ => by kernel_rfl) (fun w M => c_mix (rn2 (wo rs n) (rd (wo rs n) (spr x ct last) j) j) _ _ 2 6 10 14 (by decide) (by decide) (by decide) (by decide) g4 g8 w M.laid (M.get 3 rfl) (M.ne0 3 rfl) (nodup_at M.nodup (i := 7) (j := 3) rfl rfl (by decide)) (M.cell 7 rfl (by decide) rfl) (M.cell 7 rfl (by decide) rfl) (M.cell 7 rfl (by decide) rfl) (M.cell 7 rfl (by decide) rfl)) ?_
    intro u19 M
    replace M : Mem ⟨w, []⟩ [⟨g1, .cells (av 8 (w32 x)) 57⟩, ⟨g2, .cells (av 8 (w32 (fun _ => 0))) 57⟩, ⟨g3, .cells (av 16 (w32 (wo rs n))) 67⟩, ⟨g4, .cells (av 16 (w32 (rn3 (wo rs n) (rd (wo rs n) (spr x ct last) j) j))) 67⟩, ⟨g5, .cells (av 16 (ow j)) 87⟩, ⟨g6, .cells (av 4 (wi (r4 0 4 8 12))) 3⟩, ⟨g7, .cells (av 4 (wi (r4 1 5 9 13))) 3⟩, ⟨g8, .cells (av 4 (wi (r4 2 6 10 14))) 3⟩] u19 := M
    refine pl_nil ?_
    refine au_then ?_
    refine au_then ?_
    refine wp_seq ?_
    refine rg_held M [⟨g1, .cells (av 8 (w32 x)) 57⟩, ⟨g2, .cells (av 8 (w32 (fun _ => 0))) 57⟩, ⟨g3, .cells (av 16 (w32 (wo rs n))) 67⟩, ⟨g5, .cells (av 16 (ow j)) 87⟩, ⟨g6, .cells (av 4 (wi (r4 0 4 8 12))) 3⟩, ⟨g7, .cells (av 4 (wi (r4 1 5 9 13))) 3⟩, ⟨g8, .cells (av 4 (wi (r4 2 6 10 14))) 3⟩] 10 rfl (by kernel_rfl) (by kernel_rfl) (fun _ _ d _ _ h => by cases d <;> exact h) ?_
    intro u20 M
    replace M : Mem ⟨w, []⟩ [⟨g1, .cells (av 8 (w32 x)) 57⟩, ⟨g2, .cells (av 8 (w32 (fun _ => 0))) 57⟩, ⟨g3, .cells (av 16 (w32 (wo rs n))) 67⟩, ⟨g4, .cells (av 16 (w32 (rn3 (wo rs n) (rd (wo rs n) (spr x ct last) j) j))) 67⟩, ⟨g5, .cells (av 16 (ow j)) 87⟩, ⟨g6, .cells (av 4 (wi (r4 0 4 8 12))) 3⟩, ⟨g7, .cells (av 4 (wi (r4 1 5 9 13))) 3⟩, ⟨g8, .cells (av 4 (wi (r4 2 6 10 14))) 3⟩] u20 := M
    refine hl_val (M.drop (.cons_cons _ (.cons_cons _ (.cons_cons _ (.cons _ (.cons_cons _ (.cons_cons _ (.cons_cons _ (.cons_cons _ (.slnil)))))))))) 0 rfl (by decide) (by kernel_rfl) (by kernel_rfl) (want_no rfl) (some 59) rfl (.func (.func 45) #[] #[.pointer (some ⟨g4, 0, none⟩)]) (fun _ _ => by kernel_rfl) ?_
    refine hl_val (M.drop (.cons_cons _ (.cons_cons _ (.cons_cons _ (.cons _ (.cons_cons _ (.cons_cons _ (.cons_cons _ (.cons_cons _ (.slnil)))))))))) 1 rfl (by decide) (by kernel_rfl) (by kernel_rfl) (want_no rfl) (some 60) rfl (.pointer (some ⟨g5, 6, none⟩)) (fun _ _ => by kernel_rfl) ?_
    refine hl_cell (M.drop (.cons_cons _ (.cons_cons _ (.cons_cons _ (.cons _ (.cons_cons _ (.cons_cons _ (.cons_cons _ (.cons_cons _ (.slnil)))))))))) 2 rfl (by decide) (by kernel_rfl) (by kernel_rfl) (want_no rfl) (some 61) rfl 5 _ rfl g5 6 (by kernel_rfl) (.int .u8 (OF (j * 16 + 6) : Int)) (fun _ => by kernel_rfl) (fun w M => M.cell 3 rfl (by decide) rfl) ?_
    refine hl_val (M.drop (.cons_cons _ (.cons_cons _ (.cons_cons _ (.cons _ (.cons_cons _ (.cons_cons _ (.cons_cons _ (.cons_cons _ (.slnil)))))))))) 3 rfl (by decide) (by kernel_rfl) (by kernel_rfl) (want_no rfl) (some 62) rfl (.pointer (some ⟨g3, (OF (j * 16 + 6)), none⟩)) (fun w _ => (run_ix1 67 16 56 Tryd.underlying67 inz56 _ _ rfl g3 (by kernel_rfl) .u8 (OF (j * 16 + 6)) (by kernel_rfl) (OF_lt _)) w) ?_
    refine hl_cell (M.drop (.cons_cons _ (.cons_cons _ (.cons_cons _ (.cons _ (.cons_cons _ (.cons_cons _ (.cons_cons _ (.cons_cons _ (.slnil)))))))))) 4 rfl (by decide) (by kernel_rfl) (by kernel_rfl) (want_no rfl) (some 63) rfl 56 _ rfl g3 (OF (j * 16 + 6)) (by kernel_rfl) (.int .u32 ((wo rs n) (OF (j * 16 + 6)))) (fun _ => by kernel_rfl) (fun w M => M.cell 2 rfl (OF_lt _) rfl) ?_
    refine hl_val (M.drop (.cons_cons _ (.cons_cons _ (.cons_cons _ (.cons _ (.cons_cons _ (.cons_cons _ (.cons_cons _ (.cons_cons _ (.slnil)))))))))) 5 rfl (by decide) (by kernel_rfl) (by kernel_rfl) (want_no rfl) (some 64) rfl (.pointer (some ⟨g5, 7, none⟩)) (fun _ _ => by kernel_rfl) ?_
    refine hl_cell (M.drop (.cons_cons _ (.cons_cons _ (.cons_cons _ (.cons _ (.cons_cons _ (.cons_cons _ (.cons_cons _ (.cons_cons _ (.slnil)))))))))) 6 rfl (by decide) (by kernel_rfl) (by kernel_rfl) (want_no rfl) (some 65) rfl 5 _ rfl g5 7 (by kernel_rfl) (.int .u8 (OF (j * 16 + 7) : Int)) (fun _ => by kernel_rfl) (fun w M => M.cell 3 rfl (by decide) rfl) ?_
    refine hl_val (M.drop (.cons_cons _ (.cons_cons _ (.cons_cons _ (.cons _ (.cons_cons _ (.cons_cons _ (.cons_cons _ (.cons_cons _ (.slnil)))))))))) 7 rfl (by decide) (by kernel_rfl) (by kernel_rfl) (want_no rfl) (some 66) rfl (.pointer (some ⟨g3, (OF (j * 16 + 7)), none⟩)) (fun w _ => (run_ix1 67 16 56 Tryd.underlying67 inz56 _ _ rfl g3 (by kernel_rfl) .u8 (OF (j * 16 + 7)) (by kernel_rfl) (OF_lt _)) w) ?_
    refine hl_cell (M.drop (.cons_cons _ (.cons_cons _ (.cons_cons _ (.cons _ (.cons_cons _ (.cons_cons _ (.cons_cons _ (.cons_cons _ (.slnil)))))))))) 8 rfl (by decide) (by kernel_rfl) (by kernel_rfl) (want_no rfl) (some 67) rfl 56 _ rfl g3 (OF (j * 16 + 7)) (by kernel_rfl) (.int .u32 ((wo rs n) (OF (j * 16 + 7)))) (fun _ => by kernel_rfl) (fun w M => M.cell 2 rfl (OF_lt _) rfl) ?_
    refine hl_one 9 (by decide) (by kernel_rfl) rfl ?_
    refine pl_mk M (want_no rfl) (some 68) rfl (fun g9 => .slice (some ⟨g9, 0, none⟩) 4 4) (.cells (av 4 (wi (r4 3 7 11 15))) 3) (fun _ => by kernel_rfl) ?_
    intro g9 u21 M
    replace M : Mem ⟨w, []⟩ [⟨g1, .cells (av 8 (w32 x)) 57⟩, ⟨g2, .cells (av 8 (w32 (fun _ => 0))) 57⟩, ⟨g3, .cells (av 16 (w32 (wo rs n))) 67⟩, ⟨g4, .cells (av 16 (w32 (rn3 (wo rs n) (rd (wo rs n) (spr x ct last) j) j))) 67⟩, ⟨g5, .cells (av 16 (ow j)) 87⟩, ⟨g6, .cells (av 4 (wi (r4 0 4 8 12))) 3⟩, ⟨g7, .cells (av 4 (wi (r4 1 5 9 13))) 3⟩, ⟨g8, .cells (av 4 (wi (r4 2 6 10 14))) 3⟩, ⟨g9, .cells (av 4 (wi (r4 3 7 11 15))) 3⟩] u21 := M
    refine pl_nil ?_
    refine au_then ?_
    refine ⟨(M.drop (.cons_cons _ (.cons_cons _ (.cons_cons _ (.cons _ (.cons_cons _ (.cons_cons _ (.cons_cons _ (.cons_cons _ (.cons _ (.slnil))))))))))), ?_⟩
    refine hl_end (by kernel_rfl) (by kernel_rfl) rfl ?_
    refine pl_callp M (want_no rfl) (some 69) rfl 45 #[.int .u32 ((wo rs n) (OF (j * 16 + 6))), .int .u32 ((wo rs n) (OF (j * 16 + 7))), .slice (some ⟨g9, 0, none⟩) 4 4, .pointer (some ⟨g4, 0, none⟩)] (.tuple #[]) 3 g4 (.cells (av 16 (w32 (rn3 (wo rs n) (rd (wo rs n) (spr x ct last) j) j))) 67) (.cells (av 16 (w32 (rn4 (wo rs n) (rd (wo rs n) (spr x ct last) j) j))) 67) rfl (fun _ => by kernel_rfl) (fun w M => c_mix (rn3 (wo rs n) (rd (wo rs n) (spr x ct last) j) j) _ _ 3 7 11 15 (by decide) (by decide) (by decide) (by decide) g4 g9 w M.laid (M.get 3 rfl) (M.ne0 3 rfl) (nodup_at M.nodup (i := 8) (j := 3) rfl rfl (by decide)) (M.cell 8 rfl (by decide) rfl) (M.cell 8 rfl (by decide) rfl) (M.cell 8 rfl (by decide) rfl) (M.cell 8 rfl (by decide) rfl)) ?_
    intro u22 M
    replace M : Mem ⟨w, []⟩ [⟨g1, .cells (av 8 (w32 x)) 57⟩, ⟨g2, .cells (av 8 (w32 (fun _ => 0))) 57⟩, ⟨g3, .cells (av 16 (w32 (wo rs n))) 67⟩, ⟨g4, .cells (av 16 (w32 (rn4 (wo rs n) (rd (wo rs n) (spr x ct last) j) j))) 67⟩, ⟨g5, .cells (av 16 (ow j)) 87⟩, ⟨g6, .cells (av 4 (wi (r4 0 4 8 12))) 3⟩, ⟨g7, .cells (av 4 (wi (r4 1 5 9 13))) 3⟩, ⟨g8, .cells (av 4 (wi (r4 2 6 10 14))) 3⟩, ⟨g9, .cells (av 4 (wi (r4 3 7 11 15))) 3⟩] u22 := M
    refine pl_nil ?_
    refine au_then ?_
    refine au_then ?_
    refine wp_seq ?_
    refine rg_held M [⟨g1, .cells (av 8 (w32 x)) 57⟩, ⟨g2, .cells (av 8 (w32 (fun _ => 0))) 57⟩, ⟨g3, .cells (av 16 (w32 (wo rs n))) 67⟩, ⟨g5, .cells (av 16 (ow j)) 87⟩, ⟨g6, .cells (av 4 (wi (r4 0 4 8 12))) 3⟩, ⟨g7, .cells (av 4 (wi (r4 1 5 9 13))) 3⟩, ⟨g8, .cells (av 4 (wi (r4 2 6 10 14))) 3⟩, ⟨g9, .cells (av 4 (wi (r4 3 7 11 15))) 3⟩] 10 rfl (by kernel_rfl) (by kernel_rfl) (fun _ _ d _ _ h => by cases d <;> exact h) ?_
    intro u23 M
    replace M : Mem ⟨w, []⟩ [⟨g1, .cells (av 8 (w32 x)) 57⟩, ⟨g2, .cells (av 8 (w32 (fun _ => 0))) 57⟩, ⟨g3, .cells (av 16 (w32 (wo rs n))) 67⟩, ⟨g4, .cells (av 16 (w32 (rn4 (wo rs n) (rd (wo rs n) (spr x ct last) j) j))) 67⟩, ⟨g5, .cells (av 16 (ow j)) 87⟩, ⟨g6, .cells (av 4 (wi (r4 0 4 8 12))) 3⟩, ⟨g7, .cells (av 4 (wi (r4 1 5 9 13))) 3⟩, ⟨g8, .cells (av 4 (wi (r4 2 6 10 14))) 3⟩, ⟨g9, .cells (av 4 (wi (r4 3 7 11 15))) 3⟩] u23 := M
    refine hl_val (M.drop (.cons_cons _ (.cons_cons _ (.cons_cons _ (.cons _ (.cons_cons _ (.cons_cons _ (.cons_cons _ (.cons_cons _ (.cons_cons _ (.slnil))))))))))) 0 rfl (by decide) (by kernel_rfl) (by kernel_rfl) (want_no rfl) (some 70) rfl (.func (.func 45) #[] #[.pointer (some ⟨g4, 0, none⟩)]) (fun _ _ => by kernel_rfl) ?_
    refine hl_val (M.drop (.cons_cons _ (.cons_cons _ (.cons_cons _ (.cons _ (.cons_cons _ (.cons_cons _ (.cons_cons _ (.cons_cons _ (.cons_cons _ (.slnil))))))))))) 1 rfl (by decide) (by kernel_rfl) (by kernel_rfl) (want_no rfl) (some 71) rfl (.pointer (some ⟨g5, 8, none⟩)) (fun _ _ => by kernel_rfl) ?_
    refine hl_cell (M.drop (.cons_cons _ (.cons_cons _ (.cons_cons _ (.cons _ (.cons_cons _ (.cons_cons _ (.cons_cons _ (.cons_cons _ (.cons_cons _ (.slnil))))))))))) 2 rfl (by decide) (by kernel_rfl) (by kernel_rfl) (want_no rfl) (some 72) rfl 5 _ rfl g5 8 (by kernel_rfl) (.int .u8 (OF (j * 16 + 8) : Int)) (fun _ => by kernel_rfl) (fun w M => M.cell 3 rfl (by decide) rfl) ?_
    refine hl_val (M.drop (.cons_cons _ (.cons_cons _ (.cons_cons _ (.cons _ (.cons_cons _ (.cons_cons _ (.cons_cons _ (.cons_cons _ (.cons_cons _ (.slnil))))))))))) 3 rfl (by decide) (by kernel_rfl) (by kernel_rfl) (want_no rfl) (some 73) rfl (.pointer (some ⟨g3, (OF (j * 16 + 8)), none⟩)) (fun w _ => (run_ix1 67 16 56 Tryd.underlying67 inz56 _ _ rfl g3 (by kernel_rfl) .u8 (OF (j * 16 + 8)) (by kernel_rfl) (OF_lt _)) w) ?_
    refine hl_cell (M.drop (.cons_cons _ (.cons_cons _ (.cons_cons _ (.cons _ (.cons_cons _ (.cons_cons _ (.cons_cons _ (.cons_cons _ (.cons_cons _ (.slnil))))))))))) 4 rfl (by decide) (by kernel_rfl) (by kernel_rfl) (want_no rfl) (some 74) rfl 56 _ rfl g3 (OF (j * 16 + 8)) (by kernel_rfl) (.int .u32 ((wo rs n) (OF (j * 16 + 8)))) (fun _ => by kernel_rfl) (fun w M => M.cell 2 rfl (OF_lt _) rfl) ?_
    refine hl_val (M.drop (.cons_cons _ (.cons_cons _ (.cons_cons _ (.cons _ (.cons_cons _ (.cons_cons _ (.cons_cons _ (.cons_cons _ (.cons_cons _ (.slnil))))))))))) 5 rfl (by decide) (by kernel_rfl) (by kernel_rfl) (want_no rfl) (some 75) rfl (.pointer (some ⟨g5, 9, none⟩)) (fun _ _ => by kernel_rfl) ?_
    refine hl_cell (M.drop (.cons_cons _ (.cons_cons _ (.cons_cons _ (.cons _ (.cons_cons _ (.cons_cons _ (.cons_cons _ (.cons_cons _ (.cons_cons _ (.slnil))))))))))) 6 rfl (by decide) (by kernel_rfl) (by kernel_rfl) (want_no rfl) (some 76) rfl 5 _ rfl g5 9 (by kernel_rfl) (.int .u8 (OF (j * 16 + 9) : Int)) (fun _ => by kernel_rfl) (fun w M => M.cell 3 rfl (by decide) rfl) ?_
    refine hl_val (M.drop (.cons_cons _ (.cons_cons _ (.cons_cons _ (.cons _ (.cons_cons _ (.cons_cons _ (.cons_cons _ (.cons_cons _ (.cons_cons _ (.slnil))))))))))) 7 rfl (by decide) (by kernel_rfl) (by kernel_rfl) (want_no rfl) (some 77) rfl (.pointer (some ⟨g3, (OF (j * 16 + 9)), none⟩)) (fun w _ => (run_ix1 67 16 56 Tryd.underlying67 inz56 _ _ rfl g3 (by kernel_rfl) .u8 (OF (j * 16 + 9)) (by kernel_rfl) (OF_lt _)) w) ?_
    refine hl_cell (M.drop (.cons_cons _ (.cons_cons _ (.cons_cons _ (.cons _ (.cons_cons _ (.cons_cons _ (.cons_cons _ (.cons_cons _ (.cons_cons _ (.slnil))))))))))) 8 rfl (by decide) (by kernel_rfl) (by kernel_rfl) (want_no rfl) (some 78) rfl 56 _ rfl g3 (OF (j * 16 + 9)) (by kernel_rfl) (.int .u32 ((wo rs n) (OF (j * 16 + 9)))) (fun _ => by kernel_rfl) (fun w M => M.cell 2 rfl (OF_lt _) rfl) ?_
    refine hl_one 9 (by decide) (by kernel_rfl) rfl ?_
    refine pl_mk M (want_no rfl) (some 79) rfl (fun g10 => .slice (some ⟨g10, 0, none⟩) 4 4) (.cells (av 4 (wi (r4 0 5 10 15))) 3) (fun _ => by kernel_rfl) ?_
    intro g10 u24 M
    replace M : Mem ⟨w, []⟩ [⟨g1, .cells (av 8 (w32 x)) 57⟩, ⟨g2, .cells (av 8 (w32 (fun _ => 0))) 57⟩, ⟨g3, .cells (av 16 (w32 (wo rs n))) 67⟩, ⟨g4, .cells (av 16 (w32 (rn4 (wo rs n) (rd (wo rs n) (spr x ct last) j) j))) 67⟩, ⟨g5, .cells (av 16 (ow j)) 87⟩, ⟨g6, .cells (av 4 (wi (r4 0 4 8 12))) 3⟩, ⟨g7, .cells (av 4 (wi (r4 1 5 9 13))) 3⟩, ⟨g8, .cells (av 4 (wi (r4 2 6 10 14))) 3⟩, ⟨g9, .cells (av 4 (wi (r4 3 7 11 15))) 3⟩, ⟨g10, .cells (av 4 (wi (r4 0 5 10 15))) 3⟩] u24 := M
    refine pl_nil ?_
    refine au_then ?_
    refine ⟨(M.drop (.cons_cons _ (.cons_cons _ (.cons_cons _ (.cons _ (.cons_cons _ (.cons_cons _ (.cons_cons _ (.cons_cons _ (.cons_cons _ (.cons _ (.slnil)))))))))))), ?_⟩
    refine hl_end (by kernel_rfl) (by kernel_rfl) rfl ?_
    refine pl_callp M (want_no rfl) (some 80) rfl 45 #[.int .u32 ((wo rs n) (OF (j * 16 + 8))), .int .u32 ((wo rs n) (OF (j * 16 + 9))), .slice (some ⟨g10, 0, none⟩) 4 4, .pointer (some ⟨g4, 0, none⟩)] (.tuple #[]) 3 g4 (.cells (av 16 (w32 (rn4 (wo rs n) (rd (wo rs n) (spr x ct last) j) j))) 67) (.cells (av 16 (w32 (rn5 (wo rs n) (rd (wo rs n) (spr x ct last) j) j))) 67) rfl (fun _ => by kernel_rfl) (fun w M => c_mix (rn4 (wo rs n) (rd (wo rs n) (spr x ct last) j) j) _ _ 0 5 10 15 (by decide) (by decide) (by decide) (by decide) g4 g10 w M.laid (M.get 3 rfl) (M.ne0 3 rfl) (nodup_at M.nodup (i := 9) (j := 3) rfl rfl (by decide)) (M.cell 9 rfl (by decide) rfl) (M.cell 9 rfl (by decide) rfl) (M.cell 9 rfl (by decide) rfl) (M.cell 9 rfl (by decide) rfl)) ?_
    intro u25 M
    replace M : Mem ⟨w, []⟩ [⟨g1, .cells (av 8 (w32 x)) 57⟩, ⟨g2, .cells (av 8 (w32 (fun _ => 0))) 57⟩, ⟨g3, .cells (av 16 (w32 (wo rs n))) 67⟩, ⟨g4, .cells (av 16 (w32 (rn5 (wo rs n) (rd (wo rs n) (spr x ct last) j) j))) 67⟩, ⟨g5, .cells (av 16 (ow j)) 87⟩, ⟨g6, .cells (av 4 (wi (r4 0 4 8 12))) 3⟩, ⟨g7, .cells (av 4 (wi (r4 1 5 9 13))) 3⟩, ⟨g8, .cells (av 4 (wi (r4 2 6 10 14))) 3⟩, ⟨g9, .cells (av 4 (wi (r4 3 7 11 15))) 3⟩, ⟨g10, .cells (av 4 (wi (r4 0 5 10 15))) 3⟩] u25 := M
    refine pl_nil ?_
    refine au_then ?_
    refine au_then ?_
    refine wp_seq ?_
    refine rg_held M [⟨g1, .cells (av 8 (w32 x)) 57⟩, ⟨g2, .cells (av 8 (w32 (fun _ => 0))) 57⟩, ⟨g3, .cells (av 16 (w32 (wo rs n))) 67⟩, ⟨g5, .cells (av 16 (ow j)) 87⟩, ⟨g6, .cells (av 4 (wi (r4 0 4 8 12))) 3⟩, ⟨g7, .cells (av 4 (wi (r4 1 5 9 13))) 3⟩, ⟨g8, .cells (av 4 (wi (r4 2 6 10 14))) 3⟩, ⟨g9, .cells (av 4 (wi (r4 3 7 11 15))) 3⟩, ⟨g10, .cells (av 4 (wi (r4 0 5 10 15))) 3⟩] 10 rfl (by kernel_rfl) (by kernel_rfl) (fun _ _ d _ _ h => by cases d <;> exact h) ?_
    intro u26 M
    replace M : Mem ⟨w, []⟩ [⟨g1, .cells (av 8 (w32 x)) 57⟩, ⟨g2, .cells (av 8 (w32 (fun _ => 0))) 57⟩, ⟨g3, .cells (av 16 (w32 (wo rs n))) 67⟩, ⟨g4, .cells (av 16 (w32 (rn5 (wo rs n) (rd (wo rs n) (spr x ct last) j) j))) 67⟩, ⟨g5, .cells (av 16 (ow j)) 87⟩, ⟨g6, .cells (av 4 (wi (r4 0 4 8 12))) 3⟩, ⟨g7, .cells (av 4 (wi (r4 1 5 9 13))) 3⟩, ⟨g8, .cells (av 4 (wi (r4 2 6 10 14))) 3⟩, ⟨g9, .cells (av 4 (wi (r4 3 7 11 15))) 3⟩, ⟨g10, .cells (av 4 (wi (r4 0 5 10 15))) 3⟩] u26 := M
    refine hl_val (M.drop (.cons_cons _ (.cons_cons _ (.cons_cons _ (.cons _ (.cons_cons _ (.cons_cons _ (.cons_cons _ (.cons_cons _ (.cons_cons _ (.cons_cons _ (.slnil)))))))))))) 0 rfl (by decide) (by kernel_rfl) (by kernel_rfl) (want_no rfl) (some 81) rfl (.func (.func 45) #[] #[.pointer (some ⟨g4, 0, none⟩)]) (fun _ _ => by kernel_rfl) ?_
    refine hl_val (M.drop (.cons_cons _ (.cons_cons _ (.cons_cons _ (.cons _ (.cons_cons _ (.cons_cons _ (.cons_cons _ (.cons_cons _ (.cons_cons _ (.cons_cons _ (.slnil)))))))))))) 1 rfl (by decide) (by kernel_rfl) (by kernel_rfl) (want_no rfl) (some 82) rfl (.pointer (some ⟨g5, 10, none⟩)) (fun _ _ => by kernel_rfl) ?_
    refine hl_cell (M.drop (.cons_cons _ (.cons_cons _ (.cons_cons _ (.cons _ (.cons_cons _ (.cons_cons _ (.cons_cons _ (.cons_cons _ (.cons_cons _ (.cons_cons _ (.slnil)))))))))))) 2 rfl (by decide) (by kernel_rfl) (by kernel_rfl) (want_no rfl) (some 83) rfl 5 _ rfl g5 10 (by kernel_rfl) (.int .u8 (OF (j * 16 + 10) : Int)) (fun _ => by kernel_rfl) (fun w M => M.cell 3 rfl (by decide) rfl) ?_
    refine hl_val (M.drop (.cons_cons _ (.cons_cons _ (.cons_cons _ (.cons _ (.cons_cons _ (.cons_cons _ (.cons_cons _ (.cons_cons _ (.cons_cons _ (.cons_cons _ (.slnil)))))))))))) 3 rfl (by decide) (by kernel_rfl) (by kernel_rfl) (want_no rfl) (some 84) rfl (.pointer (some ⟨g3, (OF (j * 16 + 10)), none⟩)) (fun w _ => (run_ix1 67 16 56 Tryd.underlying67 inz56 _ _ rfl g3 (by kernel_rfl) .u8 (OF (j * 16 + 10)) (by kernel_rfl) (OF_lt _)) w) ?_
    refine hl_cell (M.drop (.cons_cons _ (.cons_cons _ (.cons_cons _ (.cons _ (.cons_cons _ (.cons_cons _ (.cons_cons _ (.cons_cons _ (.cons_cons _ (.cons_cons _ (.slnil)))))))))))) 4 rfl (by decide) (by kernel_rfl) (by kernel_rfl) (want_no rfl) (some 85) rfl 56 _ rfl g3 (OF (j * 16 + 10)) (by kernel_rfl) (.int .u32 ((wo rs n) (OF (j * 16 + 10)))) (fun _ => by kernel_rfl) (fun w M => M.cell 2 rfl (OF_lt _) rfl) ?_
    refine hl_val (M.drop (.cons_cons _ (.cons_cons _ (.cons_cons _ (.cons _ (.cons_cons _ (.cons_cons _ (.cons_cons _ (.cons_cons _ (.cons_cons _ (.cons_cons _ (.slnil)))))))))))) 5 rfl (by decide) (by kernel_rfl) (by kernel_rfl) (want_no rfl) (some 86) rfl (.pointer (some ⟨g5, 11, none⟩)) (fun _ _ => by kernel_rfl) ?_
    refine hl_cell (M.drop (.cons_cons _ (.cons_cons _ (.cons_cons _ (.cons _ (.cons_cons _ (.cons_cons _ (.cons_cons _ (.cons_cons _ (.cons_cons _ (.cons_cons _ (.slnil)))))))))))) 6 rfl (by decide) (by kernel_rfl) (by kernel_rfl) (want_no rfl) (some 87) rfl 5 _ rfl g5 11 (by kernel_rfl) (.int .u8 (OF (j * 16 + 11) : Int)) (fun _ => by kernel_rfl) (fun w M => M.cell 3 rfl (by decide) rfl) ?_
    refine hl_val (M.drop (.cons_cons _ (.cons_cons _ (.cons_cons _ (.cons _ (.cons_cons _ (.cons_cons _ (.cons_cons _ (.cons_cons _ (.cons_cons _ (.cons_cons _ (.slnil)))))))))))) 7 rfl (by decide) (by kernel_rfl) (by kernel_rfl) (want_no rfl) (some 88) rfl (.pointer (some ⟨g3, (OF (j * 16 + 11)), none⟩)) (fun w _ => (run_ix1 67 16 56 Tryd.underlying67 inz56 _ _ rfl g3 (by kernel_rfl) .u8 (OF (j * 16 + 11)) (by kernel_rfl) (OF_lt _)) w) ?_
    refine hl_cell (M.drop (.cons_cons _ (.cons_cons _ (.cons_cons _ (.cons _ (.cons_cons _ (.cons_cons _ (.cons_cons _ (.cons_cons _ (.cons_cons _ (.cons_cons _ (.slnil)))))))))))) 8 rfl (by decide) (by kernel_rfl) (by kernel_rfl) (want_no rfl) (some 89) rfl 56 _ rfl g3 (OF (j * 16 + 11)) (by kernel_rfl) (.int .u32 ((wo rs n) (OF (j * 16 + 11)))) (fun _ => by kernel_rfl) (fun w M => M.cell 2 rfl (OF_lt _) rfl) ?_
    refine hl_one 9 (by decide) (by kernel_rfl) rfl ?_
    refine pl_mk M (want_no rfl) (some 90) rfl (fun g11 => .slice (some ⟨g11, 0, none⟩) 4 4) (.cells (av 4 (wi (r4 1 6 11 12))) 3) (fun _ => by kernel_rfl) ?_
    intro g11 u27 M
    replace M : Mem ⟨w, []⟩ [⟨g1, .cells (av 8 (w32 x)) 57⟩, ⟨g2, .cells (av 8 (w32 (fun _ => 0))) 57⟩, ⟨g3, .cells (av 16 (w32 (wo rs n))) 67⟩, ⟨g4, .cells (av 16 (w32 (rn5 (wo rs n) (rd (wo rs n) (spr x ct last) j) j))) 67⟩, ⟨g5, .cells (av 16 (ow j)) 87⟩, ⟨g6, .cells (av 4 (wi (r4 0 4 8 12))) 3⟩, ⟨g7, .cells (av 4 (wi (r4 1 5 9 13))) 3⟩, ⟨g8, .cells (av 4 (wi (r4 2 6 10 14))) 3⟩, ⟨g9, .cells (av 4 (wi (r4 3 7 11 15))) 3⟩, ⟨g10, .cells (av 4 (wi (r4 0 5 10 15))) 3⟩, ⟨g11, .cells (av 4 (wi (r4 1 6 11 12))) 3⟩] u27 := M
    refine pl_nil ?_
    refine au_then ?_
    refine ⟨(M.drop (.cons_cons _ (.cons_cons _ (.cons_cons _ (.cons _ (.cons_cons _ (.cons_cons _ (.cons_cons _ (.cons_cons _ (.cons_cons _ (.cons_cons _ (.cons _ (.slnil))))))))))))), ?_⟩
    refine hl_end (by kernel_rfl) (by kernel_rfl) rfl ?_
    refine pl_callp M (want_no rfl) (some 91) rfl 45 #[.int .u32 ((wo rs n) (OF (j * 16 + 10))), .int .u32 ((wo rs n) (OF (j * 16 + 11))), .slice (some ⟨g11, 0, none⟩) 4 4, .pointer (some ⟨g4, 0, none⟩)] (.tuple #[]) 3 g4 (.cells (av 16 (w32 (rn5 (wo rs n) (rd (wo rs n) (spr x ct last) j) j))) 67) (.cells (av 16 (w32 (rn6 (wo rs n) (rd (wo rs n) (spr x ct last) j) j))) 67) rfl (fun _ => by kernel_rfl) (fun w M => c_mix (rn5 (wo rs n) (rd (wo rs n) (spr x ct last) j) j) _ _ 1 6 11 12 (by decide) (by decide) (by decide) (by decide) g4 g11 w M.laid (M.get 3 rfl) (M.ne0 3 rfl) (nodup_at M.nodup (i := 10) (j := 3) rfl rfl (by decide)) (M.cell 10 rfl (by decide) rfl) (M.cell 10 rfl (by decide) rfl) (M.cell 10 rfl (by decide) rfl) (M.cell 10 rfl (by decide) rfl)) ?_
    intro u28 M
    replace M : Mem ⟨w, []⟩ [⟨g1, .cells (av 8 (w32 x)) 57⟩, ⟨g2, .cells (av 8 (w32 (fun _ => 0))) 57⟩, ⟨g3, .cells (av 16 (w32 (wo rs n))) 67⟩, ⟨g4, .cells (av 16 (w32 (rn6 (wo rs n) (rd (wo rs n) (spr x ct last) j) j))) 67⟩, ⟨g5, .cells (av 16 (ow j)) 87⟩, ⟨g6, .cells (av 4 (wi (r4 0 4 8 12))) 3⟩, ⟨g7, .cells (av 4 (wi (r4 1 5 9 13))) 3⟩, ⟨g8, .cells (av 4 (wi (r4 2 6 10 14))) 3⟩, ⟨g9, .cells (av 4 (wi (r4 3 7 11 15))) 3⟩, ⟨g10, .cells (av 4 (wi (r4 0 5 10 15))) 3⟩, ⟨g11, .cells (av 4 (wi (r4 1 6 11 12))) 3⟩] u28 := M
    refine pl_nil ?_
    refine au_then ?_
    refine au_then ?_
    refine wp_seq ?_
    refine rg_held M [⟨g1, .cells (av 8 (w32 x)) 57⟩, ⟨g2, .cells (av 8 (w32 (fun _ => 0))) 57⟩, ⟨g3, .cells (av 16 (w32 (wo rs n))) 67⟩, ⟨g5, .cells (av 16 (ow j)) 87⟩, ⟨g6, .cells (av 4 (wi (r4 0 4 8 12))) 3⟩, ⟨g7, .cells (av 4 (wi (r4 1 5 9 13))) 3⟩, ⟨g8, .cells (av 4 (wi (r4 2 6 10 14))) 3⟩, ⟨g9, .cells (av 4 (wi (r4 3 7 11 15))) 3⟩, ⟨g10, .cells (av 4 (wi (r4 0 5 10 15))) 3⟩, ⟨g11, .cells (av 4 (wi (r4 1 6 11 12))) 3⟩] 10 rfl (by kernel_rfl) (by kernel_rfl) (fun _ _ d _ _ h => by cases d <;> exact h) ?_
    intro u29 M
    replace M : Mem ⟨w, []⟩ [⟨g1, .cells (av 8 (w32 x)) 57⟩, ⟨g2, .cells (av 8 (w32 (fun _ => 0))) 57⟩, ⟨g3, .cells (av 16 (w32 (wo rs n))) 67⟩, ⟨g4, .cells (av 16 (w32 (rn6 (wo rs n) (rd (wo rs n) (spr x ct last) j) j))) 67⟩, ⟨g5, .cells (av 16 (ow j)) 87⟩, ⟨g6, .cells (av 4 (wi (r4 0 4 8 12))) 3⟩, ⟨g7, .cells (av 4 (wi (r4 1 5 9 13))) 3⟩, ⟨g8, .cells (av 4 (wi (r4 2 6 10 14))) 3⟩, ⟨g9, .cells (av 4 (wi (r4 3 7 11 15))) 3⟩, ⟨g10, .cells (av 4 (wi (r4 0 5 10 15))) 3⟩, ⟨g11, .cells (av 4 (wi (r4 1 6 11 12))) 3⟩] u29 := M
    refine hl_val (M.drop (.cons_cons _ (.cons_cons _ (.cons_cons _ (.cons _ (.cons_cons _ (.cons_cons _ (.cons_cons _ (.cons_cons _ (.cons_cons _ (.cons_cons _ (.cons_cons _ (.slnil))))))))))))) 0 rfl (by decide) (by kernel_rfl) (by kernel_rfl) (want_no rfl) (some 92) rfl (.func (.func 45) #[] #[.pointer (some ⟨g4, 0, none⟩)]) (fun _ _ => by kernel_rfl) ?_
    refine hl_val (M.drop (.cons_cons _ (.cons_cons _ (.cons_cons _ (.cons _ (.cons_cons _ (.cons_cons _ (.cons_cons _ (.cons_cons _ (.cons_cons _ (.cons_cons _ (.cons_cons _ (.slnil))))))))))))) 1 rfl (by decide) (by kernel_rfl) (by kernel_rfl) (want_no rfl) (some 93) rfl (.pointer (some ⟨g5, 12, none⟩)) (fun _ _ => by kernel_rfl) ?_
    refine hl_cell (M.drop (.cons_cons _ (.cons_cons _ (.cons_cons _ (.cons _ (.cons_cons _ (.cons_cons _ (.cons_cons _ (.cons_cons _ (.cons_cons _ (.cons_cons _ (.cons_cons _ (.slnil))))))))))))) 2 rfl (by decide) (by kernel_rfl) (by kernel_rfl) (want_no rfl) (some 94) rfl 5 _ rfl g5 12 (by kernel_rfl) (.int .u8 (OF (j * 16 + 12) : Int)) (fun _ => by kernel_rfl) (fun w M => M.cell 3 rfl (by decide) rfl) ?_
    refine hl_val (M.drop (.cons_cons _ (.cons_cons _ (.cons_cons _ (.cons _ (.cons_cons _ (.cons_cons _ (.cons_cons _ (.cons_cons _ (.cons_cons _ (.cons_cons _ (.cons_cons _ (.slnil))))))))))))) 3 rfl (by decide) (by kernel_rfl) (by kernel_rfl) (want_no rfl) (some 95) rfl (.pointer (some ⟨g3, (OF (j * 16 + 12)), none⟩)) (fun w _ => (run_ix1 67 16 56 Tryd.underlying67 inz56 _ _ rfl g3 (by kernel_rfl) .u8 (OF (j * 16 + 12)) (by kernel_rfl) (OF_lt _)) w) ?_
    refine hl_cell (M.drop (.cons_cons _ (.cons_cons _ (.cons_cons _ (.cons _ (.cons_cons _ (.cons_cons _ (.cons_cons _ (.cons_cons _ (.cons_cons _ (.cons_cons _ (.cons_cons _ (.slnil))))))))))))) 4 rfl (by decide) (by kernel_rfl) (by kernel_rfl) (want_no rfl) (some 96) rfl 56 _ rfl g3 (OF (j * 16 + 12)) (by kernel_rfl) (.int .u32 ((wo rs n) (OF (j * 16 + 12)))) (fun _ => by kernel_rfl) (fun w M => M.cell 2 rfl (OF_lt _) rfl) ?_
    refine hl_val (M.drop (.cons_cons _ (.cons_cons _ (.cons_cons _ (.cons _ (.cons_cons _ (.cons_cons _ (.cons_cons _ (.cons_cons _ (.cons_cons _ (.cons_cons _ (.cons_cons _ (.slnil))))))))))))) 5 rfl (by decide) (by kernel_rfl) (by kernel_rfl) (want_no rfl) (some 97) rfl (.pointer (some ⟨g5, 13, none⟩)) (fun _ _ => by kernel_rfl) ?_
    refine hl_cell (M.drop (.cons_cons _ (.cons_cons _ (.cons_cons _ (.cons _ (.cons_cons _ (.cons_cons _ (.cons_cons _ (.cons_cons _ (.cons_cons _ (.cons_cons _ (.cons_cons _ (.slnil))))))))))))) 6 rfl (by decide) (by kernel_rfl) (by kernel_rfl) (want_no rfl) (some 98) rfl 5 _ rfl g5 13 (by kernel_rfl) (.int .u8 (OF (j * 16 + 13) : Int)) (fun _ => by kernel_rfl) (fun w M => M.cell 3 rfl (by decide) rfl) ?_
    refine hl_val (M.drop (.cons_cons _ (.cons_cons _ (.cons_cons _ (.cons _ (.cons_cons _ (.cons_cons _ (.cons_cons _ (.cons_cons _ (.cons_cons _ (.cons_cons _ (.cons_cons _ (.slnil))))))))))))) 7 rfl (by decide) (by kernel_rfl) (by kernel_rfl) (want_no rfl) (some 99) rfl (.pointer (some ⟨g3, (OF (j * 16 + 13)), none⟩)) (fun w _ => (run_ix1 67 16 56 Tryd.underlying67 inz56 _ _ rfl g3 (by kernel_rfl) .u8 (OF (j * 16 + 13)) (by kernel_rfl) (OF_lt _)) w) ?_
    refine hl_cell (M.drop (.cons_cons _ (.cons_cons _ (.cons_cons _ (.cons _ (.cons_cons _ (.cons_cons _ (.cons_cons _ (.cons_cons _ (.cons_cons _ (.cons_cons _ (.cons_cons _ (.slnil))))))))))))) 8 rfl (by decide) (by kernel_rfl) (by kernel_rfl) (want_no rfl) (some 100) rfl 56 _ rfl g3 (OF (j * 16 + 13)) (by kernel_rfl) (.int .u32 ((wo rs n) (OF (j * 16 + 13)))) (fun _ => by kernel_rfl) (fun w M => M.cell 2 rfl (OF_lt _) rfl) ?_
    refine hl_one 9 (by decide) (by kernel_rfl) rfl ?_
    refine pl_mk M (want_no rfl) (some 101) rfl (fun g12 => .slice (some ⟨g12, 0, none⟩) 4 4) (.cells (av 4 (wi (r4 2 7 8 13))) 3) (fun _ => by kernel_rfl) ?_
    intro g12 u30 M
    replace M : Mem ⟨w, []⟩ [⟨g1, .cells (av 8 (w32 x)) 57⟩, ⟨g2, .cells (av 8 (w32 (fun _ => 0))) 57⟩, ⟨g3, .cells (av 16 (w32 (wo rs n))) 67⟩, ⟨g4, .cells (av 16 (w32 (rn6 (wo rs n) (rd (wo rs n) (spr x ct last) j) j))) 67⟩, ⟨g5, .cells (av 16 (ow j)) 87⟩, ⟨g6, .cells (av 4 (wi (r4 0 4 8 12))) 3⟩, ⟨g7, .cells (av 4 (wi (r4 1 5 9 13))) 3⟩, ⟨g8, .cells (av 4 (wi (r4 2 6 10 14))) 3⟩, ⟨g9, .cells (av 4 (wi (r4 3 7 11 15))) 3⟩, ⟨g10, .cells (av 4 (wi (r4 0 5 10 15))) 3⟩, ⟨g11, .cells (av 4 (wi (r4 1 6 11 12))) 3⟩, ⟨g12, .cells (av 4 (wi (r4 2 7 8 13))) 3⟩] u30 := M
    refine pl_nil ?_
    refine au_then ?_
    refine ⟨(M.drop (.cons_cons _ (.cons_cons _ (.cons_cons _ (.cons _ (.cons_cons _ (.cons_cons _ (.cons_cons _ (.cons_cons _ (.cons_cons _ (.cons_cons _ (.cons_cons _ (.cons _ (.slnil)))))))))))))), ?_⟩
    refine hl_end (by kernel_rfl) (by kernel_rfl) rfl ?_
    refine pl_callp M (want_no rfl) (some 102) rfl 45 #[.int .u32 ((wo rs n) (OF (j * 16 + 12))), .int .u32 ((wo rs n) (OF (j * 16 + 13))), .slice (some ⟨g12, 0, none⟩) 4 4, .pointer (some ⟨g4, 0, none⟩)] (.tuple #[]) 3 g4 (.cells (av 16 (w32 (rn6 (wo rs n) (rd (wo rs n) (spr x ct last) j) j))) 67) (.cells (av 16 (w32 (rn7 (wo rs n) (rd (wo rs n) (spr x ct last) j) j))) 67) rfl (fun _ => by kernel_rfl) (fun w M => c_mix (rn6 (wo rs n) (rd (wo rs n) (spr x ct last) j) j) _ _ 2 7 8 13 (by decide) (by decide) (by decide) (by decide) g4 g12 w M.laid (M.get 3 rfl) (M.ne0 3 rfl) (nodup_at M.nodup (i := 11) (j := 3) rfl rfl (by decide)) (M.cell 11 rfl (by decide) rfl) (M.cell 11 rfl (by decide) rfl) (M.cell 11 rfl (by decide) rfl) (M.cell 11 rfl (by decide) rfl)) ?_
    intro u31 M
    replace M : Mem ⟨w, []⟩ [⟨g1, .cells (av 8 (w32 x)) 57⟩, ⟨g2, .cells (av 8 (w32 (fun _ => 0))) 57⟩, ⟨g3, .cells (av 16 (w32 (wo rs n))) 67⟩, ⟨g4, .cells (av 16 (w32 (rn7 (wo rs n) (rd (wo rs n) (spr x ct last) j) j))) 67⟩, ⟨g5, .cells (av 16 (ow j)) 87⟩, ⟨g6, .cells (av 4 (wi (r4 0 4 8 12))) 3⟩, ⟨g7, .cells (av 4 (wi (r4 1 5 9 13))) 3⟩, ⟨g8, .cells (av 4 (wi (r4 2 6 10 14))) 3⟩, ⟨g9, .cells (av 4 (wi (r4 3 7 11 15))) 3⟩, ⟨g10, .cells (av 4 (wi (r4 0 5 10 15))) 3⟩, ⟨g11, .cells (av 4 (wi (r4 1 6 11 12))) 3⟩, ⟨g12, .cells (av 4 (wi (r4 2 7 8 13))) 3⟩] u31 := M
    refine pl_nil ?_
    refine au_then ?_
    refine au_then ?_
    refine rg_held M [⟨g1, .cells (av 8 (w32 x)) 57⟩, ⟨g2, .cells (av 8 (w32 (fun _ => 0))) 57⟩, ⟨g3, .cells (av 16 (w32 (wo rs n))) 67⟩, ⟨g5, .cells (av 16 (ow j)) 87⟩, ⟨g6, .cells (av 4 (wi (r4 0 4 8 12))) 3⟩, ⟨g7, .cells (av 4 (wi (r4 1 5 9 13))) 3⟩, ⟨g8, .cells (av 4 (wi (r4 2 6 10 14))) 3⟩, ⟨g9, .cells (av 4 (wi (r4 3 7 11 15))) 3⟩, ⟨g10, .cells (av 4 (wi (r4 0 5 10 15))) 3⟩, ⟨g11, .cells (av 4 (wi (r4 1 6 11 12))) 3⟩, ⟨g12, .cells (av 4 (wi (r4 2 7 8 13))) 3⟩] 10 rfl (by kernel_rfl) (by kernel_rfl) (fun _ _ d _ _ h => by cases d <;> exact h) ?_
    intro u32 M
    replace M : Mem ⟨w, []⟩ [⟨g1, .cells (av 8 (w32 x)) 57⟩, ⟨g2, .cells (av 8 (w32 (fun _ => 0))) 57⟩, ⟨g3, .cells (av 16 (w32 (wo rs n))) 67⟩, ⟨g4, .cells (av 16 (w32 (rn7 (wo rs n) (rd (wo rs n) (spr x ct last) j) j))) 67⟩, ⟨g5, .cells (av 16 (ow j)) 87⟩, ⟨g6, .cells (av 4 (wi (r4 0 4 8 12))) 3⟩, ⟨g7, .cells (av 4 (wi (r4 1 5 9 13))) 3⟩, ⟨g8, .cells (av 4 (wi (r4 2 6 10 14))) 3⟩, ⟨g9, .cells (av 4 (wi (r4 3 7 11 15))) 3⟩, ⟨g10, .cells (av 4 (wi (r4 0 5 10 15))) 3⟩, ⟨g11, .cells (av 4 (wi (r4 1 6 11 12))) 3⟩, ⟨g12, .cells (av 4 (wi (r4 2 7 8 13))) 3⟩] u32 := M
    refine hl_val (M.drop (.cons_cons _ (.cons_cons _ (.cons_cons _ (.cons _ (.cons_cons _ (.cons_cons _ (.cons_cons _ (.cons_cons _ (.cons_cons _ (.cons_cons _ (.cons_cons _ (.cons_cons _ (.slnil)))))))))))))) 0 rfl (by decide) (by kernel_rfl) (by kernel_rfl) (want_no rfl) (some 103) rfl (.func (.func 45) #[] #[.pointer (some ⟨g4, 0, none⟩)]) (fun _ _ => by kernel_rfl) ?_
    refine hl_val (M.drop (.cons_cons _ (.cons_cons _ (.cons_cons _ (.cons _ (.cons_cons _ (.cons_cons _ (.cons_cons _ (.cons_cons _ (.cons_cons _ (.cons_cons _ (.cons_cons _ (.cons_cons _ (.slnil)))))))))))))) 1 rfl (by decide) (by kernel_rfl) (by kernel_rfl) (want_no rfl) (some 104) rfl (.pointer (some ⟨g5, 14, none⟩)) (fun _ _ => by kernel_rfl) ?_
    refine hl_cell (M.drop (.cons_cons _ (.cons_cons _ (.cons_cons _ (.cons _ (.cons_cons _ (.cons_cons _ (.cons_cons _ (.cons_cons _ (.cons_cons _ (.cons_cons _ (.cons_cons _ (.cons_cons _ (.slnil)))))))))))))) 2 rfl (by decide) (by kernel_rfl) (by kernel_rfl) (want_no rfl) (some 105) rfl 5 _ rfl g5 14 (by kernel_rfl) (.int .u8 (OF (j * 16 + 14) : Int)) (fun _ => by kernel_rfl) (fun w M => M.cell 3 rfl (by decide) rfl) ?_
    refine hl_val (M.drop (.cons_cons _ (.cons_cons _ (.cons_cons _ (.cons _ (.cons_cons _ (.cons_cons _ (.cons_cons _ (.cons_cons _ (.cons_cons _ (.cons_cons _ (.cons_cons _ (.cons_cons _ (.slnil)))))))))))))) 3 rfl (by decide) (by kernel_rfl) (by kernel_rfl) (want_no rfl) (some 106) rfl (.pointer (some ⟨g3, (OF (j * 16 + 14)), none⟩)) (fun w _ => (run_ix1 67 16 56 Tryd.underlying67 inz56 _ _ rfl g3 (by kernel_rfl) .u8 (OF (j * 16 + 14)) (by kernel_rfl) (OF_lt _)) w) ?_
    refine hl_cell (M.drop (.cons_cons _ (.cons_cons _ (.cons_cons _ (.cons _ (.cons_cons _ (.cons_cons _ (.cons_cons _ (.cons_cons _ (.cons_cons _ (.cons_cons _ (.cons_cons _ (.cons_cons _ (.slnil)))))))))))))) 4 rfl (by decide) (by kernel_rfl) (by kernel_rfl) (want_no rfl) (some 107) rfl 56 _ rfl g3 (OF (j * 16 + 14)) (by kernel_rfl) (.int .u32 ((wo rs n) (OF (j * 16 + 14)))) (fun _ => by kernel_rfl) (fun w M => M.cell 2 rfl (OF_lt _) rfl) ?_
    refine hl_val (M.drop (.cons_cons _ (.cons_cons _ (.cons_cons _ (.cons _ (.cons_cons _ (.cons_cons _ (.cons_cons _ (.cons_cons _ (.cons_cons _ (.cons_cons _ (.cons_cons _ (.cons_cons _ (.slnil)))))))))))))) 5 rfl (by decide) (by kernel_rfl) (by kernel_rfl) (want_no rfl) (some 108) rfl (.pointer (some ⟨g5, 15, none⟩)) (fun _ _ => by kernel_rfl) ?_
    refine hl_cell (M.drop (.cons_cons _ (.cons_cons _ (.cons_cons _ (.cons _ (.cons_cons _ (.cons_cons _ (.cons_cons _ (.cons_cons _ (.cons_cons _ (.cons_cons _ (.cons_cons _ (.cons_cons _ (.slnil)))))))))))))) 6 rfl (by decide) (by kernel_rfl) (by kernel_rfl) (want_no rfl) (some 109) rfl 5 _ rfl g5 15 (by kernel_rfl) (.int .u8 (OF (j * 16 + 15) : Int)) (fun _ => by kernel_rfl) (fun w M => M.cell 3 rfl (by decide) rfl) ?_
    refine hl_val (M.drop (.cons_cons _ (.cons_cons _ (.cons_cons _ (.cons _ (.cons_cons _ (.cons_cons _ (.cons_cons _ (.cons_cons _ (.cons_cons _ (.cons_cons _ (.cons_cons _ (.cons_cons _ (.slnil)))))))))))))) 7 rfl (by decide) (by kernel_rfl) (by kernel_rfl) (want_no rfl) (some 110) rfl (.pointer (some ⟨g3, (OF (j * 16 + 15)), none⟩)) (fun w _ => (run_ix1 67 16 56 Tryd.underlying67 inz56 _ _ rfl g3 (by kernel_rfl) .u8 (OF (j * 16 + 15)) (by kernel_rfl) (OF_lt _)) w) ?_
    refine hl_cell (M.drop (.cons_cons _ (.cons_cons _ (.cons_cons _ (.cons _ (.cons_cons _ (.cons_cons _ (.cons_cons _ (.cons_cons _ (.cons_cons _ (.cons_cons _ (.cons_cons _ (.cons_cons _ (.slnil)))))))))))))) 8 rfl (by decide) (by kernel_rfl) (by kernel_rfl) (want_no rfl) (some 111) rfl 56 _ rfl g3 (OF (j * 16 + 15)) (by kernel_rfl) (.int .u32 ((wo rs n) (OF (j * 16 + 15)))) (fun _ => by kernel_rfl) (fun w M => M.cell 2 rfl (OF_lt _) rfl) ?_
    refine hl_one 9 (by decide) (by kernel_rfl) rfl ?_
    refine pl_mk M (want_no rfl) (some 112) rfl (fun g13 => .slice (some ⟨g13, 0, none⟩) 4 4) (.cells (av 4 (wi (r4 3 4 9 14))) 3) (fun _ => by kernel_rfl) ?_
    intro g13 u33 M
    replace M : Mem ⟨w, []⟩ [⟨g1, .cells (av 8 (w32 x)) 57⟩, ⟨g2, .cells (av 8 (w32 (fun _ => 0))) 57⟩, ⟨g3, .cells (av 16 (w32 (wo rs n))) 67⟩, ⟨g4, .cells (av 16 (w32 (rn7 (wo rs n) (rd (wo rs n) (spr x ct last) j) j))) 67⟩, ⟨g5, .cells (av 16 (ow j)) 87⟩, ⟨g6, .cells (av 4 (wi (r4 0 4 8 12))) 3⟩, ⟨g7, .cells (av 4 (wi (r4 1 5 9 13))) 3⟩, ⟨g8, .cells (av 4 (wi (r4 2 6 10 14))) 3⟩, ⟨g9, .cells (av 4 (wi (r4 3 7 11 15))) 3⟩, ⟨g10, .cells (av 4 (wi (r4 0 5 10 15))) 3⟩, ⟨g11, .cells (av 4 (wi (r4 1 6 11 12))) 3⟩, ⟨g12, .cells (av 4 (wi (r4 2 7 8 13))) 3⟩, ⟨g13, .cells (av 4 (wi (r4 3 4 9 14))) 3⟩] u33 := M
    refine pl_nil ?_
    refine au_then ?_
    refine ⟨(M.drop (.cons_cons _ (.cons_cons _ (.cons_cons _ (.cons _ (.cons_cons _ (.cons_cons _ (.cons_cons _ (.cons_cons _ (.cons_cons _ (.cons_cons _ (.cons_cons _ (.cons_cons _ (.cons _ (.slnil))))))))))))))), ?_⟩
    refine hl_end (by kernel_rfl) (by kernel_rfl) rfl ?_
    refine pl_callp M (want_no rfl) (some 113) rfl 45 #[.int .u32 ((wo rs n) (OF (j * 16 + 14))), .int .u32 ((wo rs n) (OF (j * 16 + 15))), .slice (some ⟨g13, 0, none⟩) 4 4, .pointer (some ⟨g4, 0, none⟩)] (.tuple #[]) 3 g4 (.cells (av 16 (w32 (rn7 (wo rs n) (rd (wo rs n) (spr x ct last) j) j))) 67) (.cells (av 16 (w32 (rn8 (wo rs n) (rd (wo rs n) (spr x ct last) j) j))) 67) rfl (fun _ => by kernel_rfl) (fun w M => c_mix (rn7 (wo rs n) (rd (wo rs n) (spr x ct last) j) j) _ _ 3 4 9 14 (by decide) (by decide) (by decide) (by decide) g4 g13 w M.laid (M.get 3 rfl) (M.ne0 3 rfl) (nodup_at M.nodup (i := 12) (j := 3) rfl rfl (by decide)) (M.cell 12 rfl (by decide) rfl) (M.cell 12 rfl (by decide) rfl) (M.cell 12 rfl (by decide) rfl) (M.cell 12 rfl (by decide) rfl)) ?_
    intro u34 M
    replace M : Mem ⟨w, []⟩ [⟨g1, .cells (av 8 (w32 x)) 57⟩, ⟨g2, .cells (av 8 (w32 (fun _ => 0))) 57⟩, ⟨g3, .cells (av 16 (w32 (wo rs n))) 67⟩, ⟨g4, .cells (av 16 (w32 (rn8 (wo rs n) (rd (wo rs n) (spr x ct last) j) j))) 67⟩, ⟨g5, .cells (av 16 (ow j)) 87⟩, ⟨g6, .cells (av 4 (wi (r4 0 4 8 12))) 3⟩, ⟨g7, .cells (av 4 (wi (r4 1 5 9 13))) 3⟩, ⟨g8, .cells (av 4 (wi (r4 2 6 10 14))) 3⟩, ⟨g9, .cells (av 4 (wi (r4 3 7 11 15))) 3⟩, ⟨g10, .cells (av 4 (wi (r4 0 5 10 15))) 3⟩, ⟨g11, .cells (av 4 (wi (r4 1 6 11 12))) 3⟩, ⟨g12, .cells (av 4 (wi (r4 2 7 8 13))) 3⟩, ⟨g13, .cells (av 4 (wi (r4 3 4 9 14))) 3⟩] u34 := M
    refine pl_nil ?_
    refine au_then ?_
    refine au_block ?_
    refine au_then ?_
    refine rg_lit ?_
    refine pl_val (want_no rfl) (some 114) rfl (.int .i64 ((j + 1 : Nat) : Int)) (fun w => Eq.trans (b := .ok (.value (.int .i64 (IntKind.wrap .i64 ((j : Int) + 1)))) w) (by kernel_rfl) (by rw [wrap64 (by omega) (by omega)]; congr 3)) ?_
    refine pl_val (want_no rfl) (some 23) rfl (.int .i64 ((j + 1 : Nat) : Int)) (fun _ => by kernel_rfl) ?_
    refine pl_nil ?_
    refine au_then ?_
    exact ⟨fun k_ => ([.pointer (some ⟨g5, 0, none⟩), undef, undef, undef, undef, undef, undef, undef, undef, undef, undef, .bool true, .agg (av 16 (ow j)), .func (.func 45) #[] #[.pointer (some ⟨g4, 0, none⟩)], .pointer (some ⟨g5, 0, none⟩), .int .u8 (OF (j * 16 + 0) : Int), .pointer (some ⟨g3, (OF (j * 16 + 0)), none⟩), .int .u32 ((wo rs n) (OF (j * 16 + 0))), .pointer (some ⟨g5, 1, none⟩), .int .u8 (OF (j * 16 + 1) : Int), .pointer (some ⟨g3, (OF (j * 16 + 1)), none⟩), .int .u32 ((wo rs n) (OF (j * 16 + 1))), .slice (some ⟨g6, 0, none⟩) 4 4, .tuple #[], .func (.func 45) #[] #[.pointer (some ⟨g4, 0, none⟩)], .pointer (some ⟨g5, 2, none⟩), .int .u8 (OF (j * 16 + 2) : Int), .pointer (some ⟨g3, (OF (j * 16 + 2)), none⟩), .int .u32 ((wo rs n) (OF (j * 16 + 2))), .pointer (some ⟨g5, 3, none⟩), .int .u8 (OF (j * 16 + 3) : Int), .pointer (some ⟨g3, (OF (j * 16 + 3)), none⟩), .int .u32 ((wo rs n) (OF (j * 16 + 3))), .slice (some ⟨g7, 0, none⟩) 4 4, .tuple #[], .func (.func 45) #[] #[.pointer (some ⟨g4, 0, none⟩)], .pointer (some ⟨g5, 4, none⟩), .int .u8 (OF (j * 16 + 4) : Int), .pointer (some ⟨g3, (OF (j * 16 + 4)), none⟩), .int .u32 ((wo rs n) (OF (j * 16 + 4))), .pointer (some ⟨g5, 5, none⟩), .int .u8 (OF (j * 16 + 5) : Int), .pointer (some ⟨g3, (OF (j * 16 + 5)), none⟩), .int .u32 ((wo rs n) (OF (j * 16 + 5))), .slice (some ⟨g8, 0, none⟩) 4 4, .tuple #[], .func (.func 45) #[] #[.pointer (some ⟨g4, 0, none⟩)], .pointer (some ⟨g5, 6, none⟩), .int .u8 (OF (j * 16 + 6) : Int), .pointer (some ⟨g3, (OF (j * 16 + 6)), none⟩), .int .u32 ((wo rs n) (OF (j * 16 + 6))), .pointer (some ⟨g5, 7, none⟩), .int .u8 (OF (j * 16 + 7) : Int), .pointer (some ⟨g3, (OF (j * 16 + 7)), none⟩), .int .u32 ((wo rs n) (OF (j * 16 + 7))), .slice (some ⟨g9, 0, none⟩) 4 4, .tuple #[], .func (.func 45) #[] #[.pointer (some ⟨g4, 0, none⟩)], .pointer (some ⟨g5, 8, none⟩), .int .u8 (OF (j * 16 + 8) : Int), .pointer (some ⟨g3, (OF (j * 16 + 8)), none⟩), .int .u32 ((wo rs n) (OF (j * 16 + 8))), .pointer (some ⟨g5, 9, none⟩), .int .u8 (OF (j * 16 + 9) : Int), .pointer (some ⟨g3, (OF (j * 16 + 9)), none⟩), .int .u32 ((wo rs n) (OF (j * 16 + 9))), .slice (some ⟨g10, 0, none⟩) 4 4, .tuple #[], .func (.func 45) #[] #[.pointer (some ⟨g4, 0, none⟩)], .pointer (some ⟨g5, 10, none⟩), .int .u8 (OF (j * 16 + 10) : Int), .pointer (some ⟨g3, (OF (j * 16 + 10)), none⟩), .int .u32 ((wo rs n) (OF (j * 16 + 10))), .pointer (some ⟨g5, 11, none⟩), .int .u8 (OF (j * 16 + 11) : Int), .pointer (some ⟨g3, (OF (j * 16 + 11)), none⟩), .int .u32 ((wo rs n) (OF (j * 16 + 11))), .slice (some ⟨g11, 0, none⟩) 4 4, .tuple #[], .func (.func 45) #[] #[.pointer (some ⟨g4, 0, none⟩)], .pointer (some ⟨g5, 12, none⟩), .int .u8 (OF (j * 16 + 12) : Int), .pointer (some ⟨g3, (OF (j * 16 + 12)), none⟩), .int .u32 ((wo rs n) (OF (j * 16 + 12))), .pointer (some ⟨g5, 13, none⟩), .int .u8 (OF (j * 16 + 13) : Int), .pointer (some ⟨g3, (OF (j * 16 + 13)), none⟩), .int .u32 ((wo rs n) (OF (j * 16 + 13))), .slice (some ⟨g12, 0, none⟩) 4 4, .tuple #[], .func (.func 45) #[] #[.pointer (some ⟨g4, 0, none⟩)], .pointer (some ⟨g5, 14, none⟩), .int .u8 (OF (j * 16 + 14) : Int), .pointer (some ⟨g3, (OF (j * 16 + 14)), none⟩), .int .u32 ((wo rs n) (OF (j * 16 + 14))), .pointer (some ⟨g5, 15, none⟩), .int .u8 (OF (j * 16 + 15) : Int), .pointer (some ⟨g3, (OF (j * 16 + 15)), none⟩), .int .u32 ((wo rs n) (OF (j * 16 + 15))), .slice (some ⟨g13, 0, none⟩) 4 4, .tuple #[], .int .i64 ((j + 1 : Nat) : Int)] : List Value).getD (k_ - 13) undef, by kernel_rfl, M.drop (.cons_cons _ (.cons_cons _ (.cons_cons _ (.cons_cons _ (.cons _ (.cons _ (.cons _ (.cons _ (.cons _ (.cons _ (.cons _ (.cons _ (.cons _ (.slnil))))))))))))))⟩
  · intro a u0 hI
    obtain ⟨v1, rfl, M⟩ := hI
    refine wp_seq ?_
    refine rg_lit ?_
    refine pl_val (want_no rfl) (some 24) rfl (.bool false) (fun w => Eq.trans (b := .ok (.value (.bool (decide (10 < 10)))) w) (by kernel_rfl) (by rw [decide_eq_false (by omega)])) ?_
    refine pl_nil ?_
    refine au_then ?_
    refine wp_seq ?_
    refine wp_cond_false (by kernel_rfl) ?_
    refine wp_exit ?_
    refine au_then_exit ?_
    refine au_then_exit ?_
    refine au_block_exit ?_
    refine au_then ?_
    refine wp_seq ?_
    refine wp_seq ?_
    refine rg_lit ?_
    refine pl_val (want_no rfl) (some 115) rfl (.int .i64 0) (fun _ => by kernel_rfl) ?_
    refine pl_nil ?_
    refine au_then ?_
    refine wp_block ?_
    refine au_loop (fun j a w' => ∃ v2 : Nat → Value, a = ⟨#[.agg (av 8 (w32 x)), .slice (some ⟨g, 0, none⟩) n cap, .int .u64 ct, .bool (last), .pointer (some ⟨g1, 0, none⟩), undef, undef, undef, .pointer (some ⟨g2, 0, none⟩), .pointer (some ⟨g3, 0, none⟩), .pointer (some ⟨g4, 0, none⟩), .func (.func 45) #[] #[.pointer (some ⟨g4, 0, none⟩)], undef, v1 13, v2 14, .slice (some ⟨g, 0, none⟩) n cap, .agg (av 16 (w32 (wo rs n))), .agg (av 8 (w32 x)), .int .u64 ct, .bool (last), .agg (av 16 (w32 (spr x ct last))), .func (.func 45) #[] #[.pointer (some ⟨g4, 0, none⟩)], .agg (av 160 (w8 fun i => (OF i : Int))), .int .i64 (10 : Int), .bool false, v1 25, v1 26, v1 27, v1 28, v1 29, v1 30, v1 31, v1 32, v1 33, v1 34, v1 35, v1 36, v1 37, v1 38, v1 39, v1 40, v1 41, v1 42, v1 43, v1 44, v1 45, v1 46, v1 47, v1 48, v1 49, v1 50, v1 51, v1 52, v1 53, v1 54, v1 55, v1 56, v1 57, v1 58, v1 59, v1 60, v1 61, v1 62, v1 63, v1 64, v1 65, v1 66, v1 67, v1 68, v1 69, v1 70, v1 71, v1 72, v1 73, v1 74, v1 75, v1 76, v1 77, v1 78, v1 79, v1 80, v1 81, v1 82, v1 83, v1 84, v1 85, v1 86, v1 87, v1 88, v1 89, v1 90, v1 91, v1 92, v1 93, v1 94, v1 95, v1 96, v1 97, v1 98, v1 99, v1 100, v1 101, v1 102, v1 103, v1 104, v1 105, v1 106, v1 107, v1 108, v1 109, v1 110, v1 111, v1 112, v1 113, v1 114, .int .i64 (j : Int), v2 116, v2 117, v2 118, v2 119, v2 120, v2 121, v2 122, v2 123, v2 124, v2 125, v2 126, v2 127, v2 128, v2 129, v2 130, v2 131, undef], []⟩ ∧ Mem ⟨w, []⟩ [⟨g1, .cells (av 8 (w32 (ad x (rd (wo rs n) (spr x ct last) 10) j))) 57⟩, ⟨g2, .cells (av 8 (w32 (fun _ => 0))) 57⟩, ⟨g3, .cells (av 16 (w32 (wo rs n))) 67⟩, ⟨g4, .cells (av 16 (w32 (rd (wo rs n) (spr x ct last) 10))) 67⟩] w') 8 ⟨fun k_ => ([undef, undef, undef, undef, undef, undef, undef, undef, undef, undef, undef, undef, undef, undef, undef, undef, undef, undef, undef, undef, undef, undef, undef, undef, undef, undef, undef, undef, undef, undef, undef, undef, undef, undef, undef, undef, undef, undef, undef, undef, undef, undef, undef, undef, undef, undef, undef, undef, undef, undef, undef, undef, undef, undef, undef, undef, undef, undef, undef, undef, undef, undef, undef, undef, undef, undef, undef, undef, undef, undef, undef, undef, undef, undef, undef, undef, undef, undef, undef, undef, undef, undef, undef, undef, undef, undef, undef, undef, undef, undef, undef, undef, undef, undef, undef, undef, undef, undef, undef, undef, undef, undef, undef, undef, undef, undef, undef, undef, undef, undef, undef, undef, undef, undef, undef, undef, undef, undef] : List Value).getD (k_ - 14) undef, by kernel_rfl, M⟩ ?_ ?_
    · intro j a u0 hj hI
      obtain ⟨v2, rfl, M⟩ := hI
      refine wp_seq ?_
      refine rg_lit ?_
      refine pl_val (want_no rfl) (some 116) rfl (.bool true) (fun w => Eq.trans (b := .ok (.value (.bool (decide ((j : Int) < 8)))) w) (by kernel_rfl) (by rw [decide_eq_true (by omega)])) ?_
      refine pl_nil ?_
      refine au_then ?_
      refine wp_seq ?_
      refine wp_cond_true (by kernel_rfl) ?_
      refine wp_skip ?_
      refine au_then ?_
      refine wp_seq ?_
      refine wp_block ?_
      refine wp_seq ?_
      refine rg_lit ?_
      refine pl_val (want_no rfl) (some 117) rfl (.int .i64 (j : Int)) (fun _ => by kernel_rfl) ?_
      refine pl_val (want_no rfl) (some 14) rfl (.int .i64 (j : Int)) (fun _ => by kernel_rfl) ?_
      refine pl_nil ?_
      refine au_then ?_
      refine rg_tail M 13 (by kernel_rfl) (by kernel_rfl) ?_
      simp only [List.take_succ_cons, List.take_zero]
      refine k_val (want_no rfl) (some 118) rfl (.int .i64 (j : Int)) (fun _ => by kernel_rfl) ?_
      refine k_val (want_no rfl) (some 119) rfl (.pointer (some ⟨g1, j, none⟩)) (run_ix1 57 8 56 Tryd.underlying57 inz56 _ _ rfl g1 (by kernel_rfl) .i64 (j) (by kernel_rfl) (by omega)) ?_
      refine k_cell M (want_no rfl) (some 120) rfl 56 _ rfl g1 j (by kernel_rfl) (.int .u32 ((ad x (rd (wo rs n) (spr x ct last) 10) j) j)) (fun _ => by kernel_rfl) (fun w M => M.cell 0 rfl (by omega) rfl) ?_
      refine k_val (want_no rfl) (some 121) rfl (.int .i64 (j : Int)) (fun _ => by kernel_rfl) ?_
      refine k_val (want_no rfl) (some 122) rfl (.pointer (some ⟨g4, j, none⟩)) (run_ix1 67 16 56 Tryd.underlying67 inz56 _ _ rfl g4 (by kernel_rfl) .i64 (j) (by kernel_rfl) (by omega)) ?_
      refine k_cell M (want_no rfl) (some 123) rfl 56 _ rfl g4 j (by kernel_rfl) (.int .u32 ((rd (wo rs n) (spr x ct last) 10) j)) (fun _ => by kernel_rfl) (fun w M => M.cell 3 rfl (by omega) rfl) ?_
      refine k_val (want_no rfl) (some 124) rfl (.int .i64 (j : Int)) (fun _ => by kernel_rfl) ?_
      refine k_val (want_no rfl) (some 125) rfl (.int .i64 ((8 + j : Nat) : Int)) (fun w => Eq.trans (b := .ok (.value (.int .i64 (IntKind.wrap .i64 (8 + (j : Int))))) w) (by kernel_rfl) (by rw [wrap64 (by omega) (by omega)]; congr 3)) ?_
      refine k_val (want_no rfl) (some 126) rfl (.pointer (some ⟨g4, ((8 + j : Nat)), none⟩)) (run_ix1 67 16 56 Tryd.underlying67 inz56 _ _ rfl g4 (by kernel_rfl) .i64 ((8 + j : Nat)) (by kernel_rfl) (by omega)) ?_
      refine k_cell M (want_no rfl) (some 127) rfl 56 _ rfl g4 ((8 + j : Nat)) (by kernel_rfl) (.int .u32 ((rd (wo rs n) (spr x ct last) 10) ((8 + j : Nat)))) (fun _ => by kernel_rfl) (fun w M => M.cell 3 rfl (by omega) rfl) ?_
      refine k_val (want_no rfl) (some 128) rfl (.int .u32 (vx ((rd (wo rs n) (spr x ct last) 10) j) ((rd (wo rs n) (spr x ct last) 10) ((8 + j : Nat))))) (fun _ => by kernel_rfl) ?_
      refine k_val (want_no rfl) (some 129) rfl (.int .u32 (vx ((ad x (rd (wo rs n) (spr x ct last) 10) j) j) (vx ((rd (wo rs n) (spr x ct last) 10) j) ((rd (wo rs n) (spr x ct last) 10) ((8 + j : Nat)))))) (fun _ => by kernel_rfl) ?_
      refine k_val (want_no rfl) (some 130) rfl (.pointer (some ⟨g1, j, none⟩)) (run_ix1 57 8 56 Tryd.underlying57 inz56 _ _ rfl g1 (by kernel_rfl) .i64 (j) (by kernel_rfl) (by omega)) ?_
      refine kl_nil ?_
      intro u35 M
      replace M : Mem ⟨w, []⟩ [⟨g1, .cells (av 8 (w32 (ad x (rd (wo rs n) (spr x ct last) 10) j))) 57⟩, ⟨g2, .cells (av 8 (w32 (fun _ => 0))) 57⟩, ⟨g3, .cells (av 16 (w32 (wo rs n))) 67⟩, ⟨g4, .cells (av 16 (w32 (rd (wo rs n) (spr x ct last) 10))) 67⟩] u35 := M
      refine pl_put1 M (want_no rfl) rfl 56 _ _ rfl 0 g1 j (by kernel_rfl) 8 57 (w32 (ad x (rd (wo rs n) (spr x ct last) 10) j)) rfl (.int .u32 (vx ((ad x (rd (wo rs n) (spr x ct last) 10) j) j) (vx ((rd (wo rs n) (spr x ct last) 10) j) ((rd (wo rs n) (spr x ct last) 10) ((8 + j : Nat)))))) (w32 (upd (ad x (rd (wo rs n) (spr x ct last) 10) j) j (vx ((ad x (rd (wo rs n) (spr x ct last) 10) j) j) (vx ((rd (wo rs n) (spr x ct last) 10) j) ((rd (wo rs n) (spr x ct last) 10) ((8 + j : Nat))))))) (by kernel_rfl) inz56 (by omega) rfl rfl (fun j _ => put_w32 _ _ _ j) ?_
      intro u36 M
      replace M : Mem ⟨w, []⟩ [⟨g1, .cells (av 8 (w32 (upd (ad x (rd (wo rs n) (spr x ct last) 10) j) j (vx ((ad x (rd (wo rs n) (spr x ct last) 10) j) j) (vx ((rd (wo rs n) (spr x ct last) 10) j) ((rd (wo rs n) (spr x ct last) 10) ((8 + j : Nat)))))))) 57⟩, ⟨g2, .cells (av 8 (w32 (fun _ => 0))) 57⟩, ⟨g3, .cells (av 16 (w32 (wo rs n))) 67⟩, ⟨g4, .cells (av 16 (w32 (rd (wo rs n) (spr x ct last) 10))) 67⟩] u36 := M
      refine pl_nil ?_
      refine au_block ?_
      refine au_then ?_
      refine rg_lit ?_
      refine pl_val (want_no rfl) (some 131) rfl (.int .i64 ((j + 1 : Nat) : Int)) (fun w => Eq.trans (b := .ok (.value (.int .i64 (IntKind.wrap .i64 ((j : Int) + 1)))) w) (by kernel_rfl) (by rw [wrap64 (by omega) (by omega)]; congr 3)) ?_
      refine pl_val (want_no rfl) (some 115) rfl (.int .i64 ((j + 1 : Nat) : Int)) (fun _ => by kernel_rfl) ?_
      refine pl_nil ?_
      refine au_then ?_
      exact ⟨fun k_ => ([.int .i64 (j : Int), undef, undef, undef, undef, undef, undef, undef, undef, undef, undef, undef, undef, undef, undef, undef, undef, undef, undef, undef, undef, undef, undef, undef, undef, undef, undef, undef, undef, undef, undef, undef, undef, undef, undef, undef, undef, undef, undef, undef, undef, undef, undef, undef, undef, undef, undef, undef, undef, undef, undef, undef, undef, undef, undef, undef, undef, undef, undef, undef, undef, undef, undef, undef, undef, undef, undef, undef, undef, undef, undef, undef, undef, undef, undef, undef, undef, undef, undef, undef, undef, undef, undef, undef, undef, undef, undef, undef, undef, undef, undef, undef, undef, undef, undef, undef, undef, undef, undef, undef, undef, undef, .bool true, .int .i64 (j : Int), .int .i64 (j : Int), .pointer (some ⟨g1, j, none⟩), .int .u32 ((ad x (rd (wo rs n) (spr x ct last) 10) j) j), .int .i64 (j : Int), .pointer (some ⟨g4, j, none⟩), .int .u32 ((rd (wo rs n) (spr x ct last) 10) j), .int .i64 (j : Int), .int .i64 ((8 + j : Nat) : Int), .pointer (some ⟨g4, ((8 + j : Nat)), none⟩), .int .u32 ((rd (wo rs n) (spr x ct last) 10) ((8 + j : Nat))), .int .u32 (vx ((rd (wo rs n) (spr x ct last) 10) j) ((rd (wo rs n) (spr x ct last) 10) ((8 + j : Nat)))), .int .u32 (vx ((ad x (rd (wo rs n) (spr x ct last) 10) j) j) (vx ((rd (wo rs n) (spr x ct last) 10) j) ((rd (wo rs n) (spr x ct last) 10) ((8 + j : Nat))))), .pointer (some ⟨g1, j, none⟩), .int .i64 ((j + 1 : Nat) : Int)] : List Value).getD (k_ - 14) undef, by kernel_rfl, M⟩
    · intro a u0 hI
      obtain ⟨v2, rfl, M⟩ := hI
      refine wp_seq ?_
      refine rg_lit ?_
      refine pl_val (want_no rfl) (some 116) rfl (.bool false) (fun w => Eq.trans (b := .ok (.value (.bool (decide (8 < 8)))) w) (by kernel_rfl) (by rw [decide_eq_false (by omega)])) ?_
      refine pl_nil ?_
      refine au_then ?_
      refine wp_seq ?_
      refine wp_cond_false (by kernel_rfl) ?_
      refine wp_exit ?_
      refine au_then_exit ?_
      refine au_then_exit ?_
      refine au_block_exit ?_
      refine au_then ?_
      refine wp_seq ?_
      refine rg_lit ?_
      refine pl_load M (want_no rfl) (some 132) rfl 57 _ rfl 0 g1 0 (by kernel_rfl) 8 57 (w32 (ad x (rd (wo rs n) (spr x ct last) 10) 8)) rfl 8 (w32 (ad x (rd (wo rs n) (spr x ct last) 10) 8)) (fun j _ => by rw [Nat.zero_add]) (by decide) _ Tryd.underlying57 rfl inz57 ?_
      refine pl_put M (want_no rfl) rfl 57 _ _ rfl 1 g2 0 (by kernel_rfl) 8 57 (w32 (fun _ => 0)) rfl 8 (w32 (ad x (rd (wo rs n) (spr x ct last) 10) 8)) (w32 (ad x (rd (wo rs n) (spr x ct last) 10) 8)) (by kernel_rfl) inz57 (by decide) (fun _ _ => rfl) (fun j hj => by rw [if_pos (by omega), Nat.sub_zero]) ?_
      intro u37 M
      replace M : Mem ⟨w, []⟩ [⟨g1, .cells (av 8 (w32 (ad x (rd (wo rs n) (spr x ct last) 10) 8))) 57⟩, ⟨g2, .cells (av 8 (w32 (ad x (rd (wo rs n) (spr x ct last) 10) 8))) 57⟩, ⟨g3, .cells (av 16 (w32 (wo rs n))) 67⟩, ⟨g4, .cells (av 16 (w32 (rd (wo rs n) (spr x ct last) 10))) 67⟩] u37 := M
      refine pl_nil ?_
      refine au_then ?_
      refine wp_ret ?_
      refine bodyPost_ret (v := .agg (av 8 (w32 (mixV x rs n ct last)))) (Eq.trans (b := .ok (.agg (av 8 (w32 (ad x (rd (wo rs n) (spr x ct last) 10) 8)))) _) (results_cell_row Tryd.results37 _ _ g2 57 (av 8 (w32 (ad x (rd (wo rs n) (spr x ct last) 10) 8))) (0, 0) _ (by kernel_rfl) (M.get 1 rfl) Tryd.underlying57 rfl (by rw [av_size]; exact inz57)) (by rw [ad_av]; rfl)) (by kernel_rfl) ⟨rfl, below_grown M.old⟩


end Go.Proofs.YtpfneekmbednoaaDoor
