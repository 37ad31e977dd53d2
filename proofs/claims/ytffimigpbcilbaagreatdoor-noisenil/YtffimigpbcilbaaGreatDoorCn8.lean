/- Part 8 of the walks and facts. -/
import Derived.Test.YtffimigpbcilbaaGreatDoorCnDef
import Derived.Test.YtffimigpbcilbaaGreatDoorCn1
import Derived.Test.YtffimigpbcilbaaGreatDoorCn2
import Derived.ScopeJumps
import Derived.Shelf.Strings.Repeat
import Derived.Test.YtffimigpbcilbaaGreatDoorProg
set_option maxHeartbeats 16000000
set_option maxRecDepth 100000
namespace Go.Proofs.YtffimigpbcilbaaGreatDoor.Bla
open Go.RowKit
theorem inz155 : (Tryz.prog.info? 155).map (·.size) = some 8 := by kernel_rfl
theorem inz214 : (Tryz.prog.info? 214).map (·.size) = some 16 := by kernel_rfl
theorem inz215 : (Tryz.prog.info? 215).map (·.size) = some 160 := by kernel_rfl
theorem _root_.Go.Proofs.YtffimigpbcilbaaGreatDoor.Mem.oldcB {c : Ctx} {L : List Blk} {W : World} (M : Mem c L W) {g k : Nat} {v : Value} (hc : c.w.cell? ⟨g, k, none⟩ = some v) (hr : g ∉ c.r) : W.cell? ⟨g, k, none⟩ = some v := by
 have hlt : g < c.w.heap.size := by
  refine Classical.byContradiction fun hn => ?_
  have : c.w.heap[g]? = none := Array.getElem?_eq_none (by omega)
  simp [World.cell?, this] at hc
 rw [← hc]
 unfold World.cell?
 simp only
 rw [M.old.block g hlt hr]
theorem pl_laid {P : Program} {ops : Array Oper} {rest : List Oper} {o : Oper} {a : Act} {w : World} {c : Ctx} {L : List Blk} {Q : Exit → Act → World → Prop} (M : Mem c L w) (hw : Region.wanted o (yielded ops a.tmps) = true) (d : Option Tmp) (hd : o.dst = d) (ty : TypeId) (x : Operand) (ho : o.op = .load ty x) (hx : a.eval x = .pointer (some ⟨0, 0, none⟩)) (t : TypeDesc) (hu : P.underlying ty = some t) (ht : t.isRow = true) (hz : (P.info? ty).map (·.size) = some 160)
  (h : PL P ops Q rest (a.put d (.agg (av 160 (w8 fun i => (OF i : Int))))) w) : PL P ops Q (o :: rest) a w := by
 refine pl_to hw d hd _ w ?_ h
 unfold execOp
 have hl := run_loadAt_mid (P := P) w 0 0 ty (av 160 (w8 fun i => (OF i : Int))).toList t (fun j v hv => by
  obtain ⟨hj, rfl⟩ := av_toList_get _ _ _ _ hv
  rw [Nat.zero_add]
  exact M.laid.o j hj) hu ht (by rw [hz]; simp [av_size])
 simp only [ho, hx, Sem.run_bind, hl, Result.andThen_ok, Sem.run_pure, Array.toArray_toList]
def rot (x : Int) (n : Nat) : Int := vo (vl x (32 - n)) (sr x n)
def r8 (a b c d e f g h : Int) : Nat → Int
 | 0 => a
 | 1 => b
 | 2 => c
 | 3 => d
 | 4 => e
 | 5 => f
 | 6 => g
 | 7 => h
 | _ => 0
def r4 (a b c d : Int) : Nat → Int
 | 0 => a
 | 1 => b
 | 2 => c
 | 3 => d
 | _ => 0
def HB : Nat → Int := r8 1779033703 3144134277 1013904242 2773480762 1359893119 2600822924 528734635 1541459225
def wo (rs : Nat → Int) : Nat → (Nat → Int)
 | 0 => fun _ => 0
 | j + 1 => upd (wo rs j) (j / 4) (vo (wo rs j (j / 4)) (vl (cv .u32 (rs j)) (j % 4 * 8)))
def spB (x : Nat → Int) : Nat → Int := fun i => if i < 8 then x i else HB (i - 8)
def spC (x : Nat → Int) (ct : Int) : Nat → Int := upd (upd (spB x) 12 (vx (spB x 12) (cv .u32 ct))) 13 (vx (upd (spB x) 12 (vx (spB x 12) (cv .u32 ct)) 13) (cv .u32 (sr ct 32)))
def spr (x : Nat → Int) (ct : Int) (last : Bool) : Nat → Int := if last then upd (spC x ct) 14 (vt (spC x ct 14)) else spC x ct
theorem c_rl16 (x : Int) (w : World) (hL : Laid w)  : Cs 172 #[.int .u32 x, .int .i64 (-16)] w (.int .u32 (rot x 16)) := by
 go_enter Tryz.func172, Tryz.ntmps172
 have M := Mem.start hL
 refine sq <| sq <| sq <| wp_ret ?_
 exact b1 M
theorem c_turned16 (x : Int) (w : World) (hL : Laid w)  : Cs 157 #[.int .u32 x, .int .i64 16] w (.int .u32 (rot x 16)) := by
 go_enter Tryz.func157, Tryz.ntmps157
 have M := Mem.start hL
 refine sq <| sR <| rV 3 ?_
 refine ZC M 8 (fun w M => c_rl16 x w M.laid) fun u1 M => ?_
 refine rV 1 <| nT <| wp_ret ?_
 exact b1 M
theorem c_rl12 (x : Int) (w : World) (hL : Laid w)  : Cs 172 #[.int .u32 x, .int .i64 (-12)] w (.int .u32 (rot x 12)) := by
 go_enter Tryz.func172, Tryz.ntmps172
 have M := Mem.start hL
 refine sq <| sq <| sq <| wp_ret ?_
 exact b1 M
theorem c_turned12 (x : Int) (w : World) (hL : Laid w)  : Cs 157 #[.int .u32 x, .int .i64 12] w (.int .u32 (rot x 12)) := by
 go_enter Tryz.func157, Tryz.ntmps157
 have M := Mem.start hL
 refine sq <| sR <| rV 3 ?_
 refine ZC M 8 (fun w M => c_rl12 x w M.laid) fun u1 M => ?_
 refine rV 1 <| nT <| wp_ret ?_
 exact b1 M
theorem c_rl8 (x : Int) (w : World) (hL : Laid w)  : Cs 172 #[.int .u32 x, .int .i64 (-8)] w (.int .u32 (rot x 8)) := by
 go_enter Tryz.func172, Tryz.ntmps172
 have M := Mem.start hL
 refine sq <| sq <| sq <| wp_ret ?_
 exact b1 M
theorem c_turned8 (x : Int) (w : World) (hL : Laid w)  : Cs 157 #[.int .u32 x, .int .i64 8] w (.int .u32 (rot x 8)) := by
 go_enter Tryz.func157, Tryz.ntmps157
 have M := Mem.start hL
 refine sq <| sR <| rV 3 ?_
 refine ZC M 8 (fun w M => c_rl8 x w M.laid) fun u1 M => ?_
 refine rV 1 <| nT <| wp_ret ?_
 exact b1 M
theorem c_rl7 (x : Int) (w : World) (hL : Laid w)  : Cs 172 #[.int .u32 x, .int .i64 (-7)] w (.int .u32 (rot x 7)) := by
 go_enter Tryz.func172, Tryz.ntmps172
 have M := Mem.start hL
 refine sq <| sq <| sq <| wp_ret ?_
 exact b1 M
theorem c_turned7 (x : Int) (w : World) (hL : Laid w)  : Cs 157 #[.int .u32 x, .int .i64 7] w (.int .u32 (rot x 7)) := by
 go_enter Tryz.func157, Tryz.ntmps157
 have M := Mem.start hL
 refine sq <| sR <| rV 3 ?_
 refine ZC M 8 (fun w M => c_rl7 x w M.laid) fun u1 M => ?_
 refine rV 1 <| nT <| wp_ret ?_
 exact b1 M
theorem c_first  (w : World) (hL : Laid w)  : Cs 114 #[] w (.agg (av 8 (w32 HB))) := by
 go_enter Tryz.func114, Tryz.ntmps114
 have M := Mem.start hL
 refine sR ?_
 refine pN M 0 (.cells (av 8 (w32 (fun _ => 0))) 155) fun g1 u1 M => ?_
 refine nT <| sR <| rV 1 ?_
 refine ZG M 0 8 (w32 HB) fun u2 M => ?_
 refine nT <| wp_ret ?_
 exact bodyPost_ret (v := .agg (av 8 (w32 HB))) (results_cell_row Tryz.results114 _ _ g1 155 (av 8 (w32 HB)) (0, 0) _ (by kernel_rfl) (M.get 0 rfl) Tryz.underlying155 rfl (by rw [av_size]; exact inz155)) (by kernel_rfl) ⟨rfl, below_grown M.old⟩
theorem c_words (rs : Nat → Int) (g n cap : Nat) (hn : n ≤ 64) (w : World) (hL : Laid w) (hc : ∀ i, i < n → w.cell? ⟨g, i, none⟩ = some (.int .u8 (rs i))) : Cs 154 #[.slice (some ⟨g, 0, none⟩) n cap] w (.agg (av 16 (w32 (wo rs n)))) := by
 go_enter Tryz.func154, Tryz.ntmps154
 have M := Mem.start hL
 refine sR ?_
 refine pN M 2 (.cells (av 16 (w32 (fun _ => 0))) 148) fun g1 u1 M => ?_
 refine nT <| sR ?_
 refine pN M 3 (.cells (av 16 (w32 (fun _ => 0))) 148) fun g2 u2 M => ?_
 refine nT <| wp_seq <| sq ?_
 refine wp_block ?_
 refine au_loop (fun j a w' => ∃ v1 : Nat → Value, a = (fm ([.slice (some ⟨g, 0, none⟩) n cap, undef, .pointer (some ⟨g1, 0, none⟩), .pointer (some ⟨g2, 0, none⟩), v1 4, v1 5, .slice (some ⟨g, 0, none⟩) n cap, .int .i64 (n : Int), .int .i64 (j : Int)] ++ vr v1 9 17 ++ [undef])) ∧ Mem ⟨w, []⟩ [⟨g1, .cells (av 16 (w32 (fun _ => 0))) 148⟩, ⟨g2, .cells (av 16 (w32 (wo rs j))) 148⟩] w') n (exS M) ?_ ?_
 ·intro j a u0 hj hI
  obtain ⟨v1, rfl, M⟩ := hI
  refine sR ?_
  refine ZT 9 ((j : Int) < (n : Int)) ?_
  refine nT <| wp_seq <| cT <| wp_skip <| au_then ?_
  refine wp_seq ?_
  refine wp_block ?_
  refine sR <| rV 1 ?_
  refine pH 11 (.pointer (some ⟨g, j, none⟩)) (fun w => Eq.trans (run_ixL 61 5 Tryz.underlying61 inz5 _ _ rfl g 0 n cap (by kernel_rfl) .i64 j (by kernel_rfl) hj w) (by rw [Nat.zero_add])) ?_
  refine pE M 12 g j (.int .u8 (rs j)) (fun w M => M.oldcB (hc j hj) (by simp)) ?_
  refine rV 2 <| nT ?_
  refine rg_tail M 12 (by kernel_rfl) (by kernel_rfl) ?_
  simp only [List.take_succ_cons, List.take_zero]
  refine kR 1 ?_
  refine eQ 14 .i64 (IntKind.wrap .i64 ((j : Int).tdiv 4)) (quo4 j (by omega)) ?_
  refine eX 15 .i64 g2 ((j / 4 : Nat)) 16 ?_
  refine eE M 16 1 ((j / 4 : Nat)) ?_
  refine kR 3 ?_
  refine eQ 20 .i64 (Int.tmod (j : Int) 4) (rem4 j) ?_
  refine eI 21 (((j % 4 : Nat) : Int) * 8) ((j % 4 * 8 : Nat) : Int) ?_
  refine kH 22 (.int .u32 (vl (cv .u32 (rs j)) (j % 4 * 8))) (run_shlV 91 3 _ _ rfl _ .i64 (j % 4 * 8) (by kernel_rfl) (by kernel_rfl) (by omega)) ?_
  refine kR 1 ?_
  refine eX 24 .i64 g2 ((j / 4 : Nat)) 16 ?_
  refine kl_nil fun u3 M => ?_
  refine ZP32 M 1 ((j / 4 : Nat)) (vo ((wo rs j) ((j / 4 : Nat))) (vl (cv .u32 (rs j)) (j % 4 * 8))) fun u4 M => ?_
  refine pl_nil ?_
  refine au_block ?_
  refine au_then ?_
  refine rg_lit ?_
  refine ZI 25 ((j : Int) + 1) ((j + 1 : Nat) : Int) ?_
  refine rV 1 <| nT ?_
  exact exS M
 ·intro a u0 hI
  obtain ⟨v1, rfl, M⟩ := hI
  refine sR ?_
  refine ZF 9 ((n : Int) < (n : Int)) ?_
  refine nT <| wp_seq <| cF ?_
  refine wp_exit ?_
  refine au_then_exit ?_
  refine au_then_exit ?_
  refine au_block_exit ?_
  refine au_then <| sR ?_
  refine pA M 26 1 16 (w32 (wo rs n)) ?_
  refine ZG M 0 16 (w32 (wo rs n)) fun u5 M => ?_
  refine nT <| wp_ret ?_
  exact bodyPost_ret (v := .agg (av 16 (w32 (wo rs n)))) (results_cell_row Tryz.results154 _ _ g1 148 (av 16 (w32 (wo rs n))) (0, 0) _ (by kernel_rfl) (M.get 0 rfl) Tryz.underlying148 rfl (by rw [av_size]; exact inz148)) (by kernel_rfl) ⟨rfl, below_grown M.old⟩
def spA (x : Nat → Int) : Nat → Int := fun i => if i < 8 then x i else 0
theorem spA_cp (x : Nat → Int) : ∀ j, j < 16 → (if 0 ≤ j ∧ j < 0 + 8 then w32 x (0 + (j - 0)) else w32 (fun _ => 0) j) = w32 (spA x) j := fun j hj => by
 unfold w32 spA
 by_cases h : j < 8
 ·rw [if_pos (by omega), if_pos h]
  congr 2
  omega
 ·rw [if_neg (by omega), if_neg h]
theorem spB_cp (x : Nat → Int) : ∀ j, j < 16 → (if 8 ≤ j ∧ j < 8 + 8 then w32 HB (0 + (j - 8)) else w32 (spA x) j) = w32 (spB x) j := fun j hj => by
 unfold w32 spA spB
 by_cases h : j < 8
 ·rw [if_neg (by omega), if_pos h, if_pos h]
 ·rw [if_pos (by omega), if_neg h, Nat.zero_add]
theorem c_spread_true (x : Nat → Int) (ct : Int) (w : World) (hL : Laid w)  : Cs 155 #[.agg (av 8 (w32 x)), .int .u64 ct, .bool true] w (.agg (av 16 (w32 (spr x ct true)))) := by
 go_enter Tryz.func155, Tryz.ntmps155
 have M := Mem.start hL
 refine sR ?_
 refine pN M 3 (.cells (av 8 (w32 x)) 155) fun g1 u1 M => ?_
 refine pN M 6 (.cells (av 16 (w32 (fun _ => 0))) 148) fun g2 u2 M => ?_
 refine nT <| sR ?_
 refine pN M 7 (.cells (av 16 (w32 (fun _ => 0))) 148) fun g3 u3 M => ?_
 refine nT <| sR ?_
 refine ZC M 9 (fun w M => c_first w M.laid) fun u4 M => ?_
 refine pN M 8 (.cells (av 8 (w32 (fun _ => 0))) 155) fun g4 u5 M => ?_
 refine ZG M 3 8 (w32 HB) fun u6 M => ?_
 refine nT <| wp_seq ?_
 refine rg_tail M 2 (by kernel_rfl) (by kernel_rfl) ?_
 simp only [List.take_succ_cons, List.take_zero]
 refine kR 2 ?_
 refine kl_nil fun u7 M => ?_
 refine pl_copyB M (want_no rfl) (some 12) rfl 236 236 3 91 Tryz.underlying236 inz91 2 g3 16 148 (w32 (fun _ => 0)) rfl 0 g1 8 155 (w32 x) rfl 0 8 16 0 8 8 8 rfl (by decide) (by decide) (fun _ _ => rfl) (w32 (spA x)) (spA_cp x) (fun _ => by kernel_rfl) fun u8 M => ?_
 refine nT <| wp_seq ?_
 refine rg_tail M 2 (by kernel_rfl) (by kernel_rfl) ?_
 simp only [List.take_succ_cons, List.take_zero]
 refine kR 2 ?_
 refine kl_nil fun u9 M => ?_
 refine pl_copyB M (want_no rfl) (some 15) rfl 236 236 3 91 Tryz.underlying236 inz91 2 g3 16 148 (w32 (spA x)) rfl 3 g4 8 155 (w32 HB) rfl 8 8 8 0 8 8 8 rfl (by decide) (by decide) (fun _ _ => rfl) (w32 (spB x)) (spB_cp x) (fun _ => by kernel_rfl) fun u10 M => ?_
 refine nT <| sR <| rV 1 <| ZE M 17 2 12 <| rV 4 ?_
 refine ZP32 M 2 12 (vx ((spB x) 12) (cv .u32 ct)) fun u11 M => ?_
 refine nT <| sR <| rV 1 <| ZE M 23 2 13 <| rV 5 ?_
 refine ZP32 M 2 13 (vx ((upd (spB x) 12 (vx ((spB x) 12) (cv .u32 ct))) 13) (cv .u32 (sr ct 32))) fun u12 M => ?_
 refine nT <| wp_seq <| sq <| cT ?_
 refine rg_lit ?_
 refine rV 1 <| ZE M 31 2 14 <| rV 2 ?_
 refine ZP32 M 2 14 (vt ((upd (upd (spB x) 12 (vx ((spB x) 12) (cv .u32 ct))) 13 (vx ((upd (spB x) 12 (vx ((spB x) 12) (cv .u32 ct))) 13) (cv .u32 (sr ct 32)))) 14)) fun u13 M => ?_
 refine nT <| sR ?_
 refine pA M 34 2 16 (w32 (upd (upd (upd (spB x) 12 (vx ((spB x) 12) (cv .u32 ct))) 13 (vx ((upd (spB x) 12 (vx ((spB x) 12) (cv .u32 ct))) 13) (cv .u32 (sr ct 32)))) 14 (vt ((upd (upd (spB x) 12 (vx ((spB x) 12) (cv .u32 ct))) 13 (vx ((upd (spB x) 12 (vx ((spB x) 12) (cv .u32 ct))) 13) (cv .u32 (sr ct 32)))) 14)))) ?_
 refine ZG M 1 16 (w32 (upd (upd (upd (spB x) 12 (vx ((spB x) 12) (cv .u32 ct))) 13 (vx ((upd (spB x) 12 (vx ((spB x) 12) (cv .u32 ct))) 13) (cv .u32 (sr ct 32)))) 14 (vt ((upd (upd (spB x) 12 (vx ((spB x) 12) (cv .u32 ct))) 13 (vx ((upd (spB x) 12 (vx ((spB x) 12) (cv .u32 ct))) 13) (cv .u32 (sr ct 32)))) 14)))) fun u14 M => ?_
 refine nT <| wp_ret ?_
 exact bodyPost_ret (v := .agg (av 16 (w32 (spr x ct true)))) (results_cell_row Tryz.results155 _ _ g2 148 (av 16 (w32 (upd (upd (upd (spB x) 12 (vx ((spB x) 12) (cv .u32 ct))) 13 (vx ((upd (spB x) 12 (vx ((spB x) 12) (cv .u32 ct))) 13) (cv .u32 (sr ct 32)))) 14 (vt ((upd (upd (spB x) 12 (vx ((spB x) 12) (cv .u32 ct))) 13 (vx ((upd (spB x) 12 (vx ((spB x) 12) (cv .u32 ct))) 13) (cv .u32 (sr ct 32)))) 14))))) (0, 0) _ (by kernel_rfl) (M.get 1 rfl) Tryz.underlying148 rfl (by rw [av_size]; exact inz148)) (by kernel_rfl) ⟨rfl, below_grown M.old⟩
theorem c_spread_false (x : Nat → Int) (ct : Int) (w : World) (hL : Laid w)  : Cs 155 #[.agg (av 8 (w32 x)), .int .u64 ct, .bool false] w (.agg (av 16 (w32 (spr x ct false)))) := by
 go_enter Tryz.func155, Tryz.ntmps155
 have M := Mem.start hL
 refine sR ?_
 refine pN M 3 (.cells (av 8 (w32 x)) 155) fun g1 u1 M => ?_
 refine pN M 6 (.cells (av 16 (w32 (fun _ => 0))) 148) fun g2 u2 M => ?_
 refine nT <| sR ?_
 refine pN M 7 (.cells (av 16 (w32 (fun _ => 0))) 148) fun g3 u3 M => ?_
 refine nT <| sR ?_
 refine ZC M 9 (fun w M => c_first w M.laid) fun u4 M => ?_
 refine pN M 8 (.cells (av 8 (w32 (fun _ => 0))) 155) fun g4 u5 M => ?_
 refine ZG M 3 8 (w32 HB) fun u6 M => ?_
 refine nT <| wp_seq ?_
 refine rg_tail M 2 (by kernel_rfl) (by kernel_rfl) ?_
 simp only [List.take_succ_cons, List.take_zero]
 refine kR 2 ?_
 refine kl_nil fun u7 M => ?_
 refine pl_copyB M (want_no rfl) (some 12) rfl 236 236 3 91 Tryz.underlying236 inz91 2 g3 16 148 (w32 (fun _ => 0)) rfl 0 g1 8 155 (w32 x) rfl 0 8 16 0 8 8 8 rfl (by decide) (by decide) (fun _ _ => rfl) (w32 (spA x)) (spA_cp x) (fun _ => by kernel_rfl) fun u8 M => ?_
 refine nT <| wp_seq ?_
 refine rg_tail M 2 (by kernel_rfl) (by kernel_rfl) ?_
 simp only [List.take_succ_cons, List.take_zero]
 refine kR 2 ?_
 refine kl_nil fun u9 M => ?_
 refine pl_copyB M (want_no rfl) (some 15) rfl 236 236 3 91 Tryz.underlying236 inz91 2 g3 16 148 (w32 (spA x)) rfl 3 g4 8 155 (w32 HB) rfl 8 8 8 0 8 8 8 rfl (by decide) (by decide) (fun _ _ => rfl) (w32 (spB x)) (spB_cp x) (fun _ => by kernel_rfl) fun u10 M => ?_
 refine nT <| sR <| rV 1 <| ZE M 17 2 12 <| rV 4 ?_
 refine ZP32 M 2 12 (vx ((spB x) 12) (cv .u32 ct)) fun u11 M => ?_
 refine nT <| sR <| rV 1 <| ZE M 23 2 13 <| rV 5 ?_
 refine ZP32 M 2 13 (vx ((upd (spB x) 12 (vx ((spB x) 12) (cv .u32 ct))) 13) (cv .u32 (sr ct 32))) fun u12 M => ?_
 refine nT <| wp_seq <| sq <| cF <| wp_skip ?_
 refine au_then <| sR ?_
 refine pA M 34 2 16 (w32 (upd (upd (spB x) 12 (vx ((spB x) 12) (cv .u32 ct))) 13 (vx ((upd (spB x) 12 (vx ((spB x) 12) (cv .u32 ct))) 13) (cv .u32 (sr ct 32))))) ?_
 refine ZG M 1 16 (w32 (upd (upd (spB x) 12 (vx ((spB x) 12) (cv .u32 ct))) 13 (vx ((upd (spB x) 12 (vx ((spB x) 12) (cv .u32 ct))) 13) (cv .u32 (sr ct 32))))) fun u13 M => ?_
 refine nT <| wp_ret ?_
 exact bodyPost_ret (v := .agg (av 16 (w32 (spr x ct false)))) (results_cell_row Tryz.results155 _ _ g2 148 (av 16 (w32 (upd (upd (spB x) 12 (vx ((spB x) 12) (cv .u32 ct))) 13 (vx ((upd (spB x) 12 (vx ((spB x) 12) (cv .u32 ct))) 13) (cv .u32 (sr ct 32)))))) (0, 0) _ (by kernel_rfl) (M.get 1 rfl) Tryz.underlying148 rfl (by rw [av_size]; exact inz148)) (by kernel_rfl) ⟨rfl, below_grown M.old⟩
theorem c_spread (x : Nat → Int) (ct : Int) (last : Bool) (w : World) (hL : Laid w) : Cs 155 #[.agg (av 8 (w32 x)), .int .u64 ct, .bool last] w (.agg (av 16 (w32 (spr x ct last)))) := by
 cases last
 ·exact c_spread_false x ct w hL
 ·exact c_spread_true x ct w hL
open Go.RowKit
def mA1 (v : Nat → Int) (x : Int) (i j : Nat) : Int := va (v i) (va (v j) x)
def mD1 (v : Nat → Int) (x : Int) (i j l : Nat) : Int := rot (vx (v l) (mA1 v x i j)) 16
def mC1 (v : Nat → Int) (x : Int) (i j k l : Nat) : Int := va (v k) (mD1 v x i j l)
def mB1 (v : Nat → Int) (x : Int) (i j k l : Nat) : Int := rot (vx (v j) (mC1 v x i j k l)) 12
def mA2 (v : Nat → Int) (x y : Int) (i j k l : Nat) : Int := va (mA1 v x i j) (va (mB1 v x i j k l) y)
def mD2 (v : Nat → Int) (x y : Int) (i j k l : Nat) : Int := rot (vx (mD1 v x i j l) (mA2 v x y i j k l)) 8
def mC2 (v : Nat → Int) (x y : Int) (i j k l : Nat) : Int := va (mC1 v x i j k l) (mD2 v x y i j k l)
def mB2 (v : Nat → Int) (x y : Int) (i j k l : Nat) : Int := rot (vx (mB1 v x i j k l) (mC2 v x y i j k l)) 7
def mxF (v : Nat → Int) (x y : Int) (i j k l : Nat) : Nat → Int := upd (upd (upd (upd v i (mA2 v x y i j k l)) j (mB2 v x y i j k l)) k (mC2 v x y i j k l)) l (mD2 v x y i j k l)
theorem c_mix (v : Nat → Int) (x y : Int) (p0 p1 p2 p3 : Nat) (h4 : p0 < 16) (h1 : p1 < 16) (h2 : p2 < 16) (h3 : p3 < 16) (g gt : Nat) (w : World) (hL : Laid w) (hg : w.heap[g]? = some (.cells (av 16 (w32 v)) 148)) (h0 : 2 < g) (hne : gt ≠ g) (ha0 : w.cell? ⟨gt, 0, none⟩ = some (.int .i64 (p0 : Int))) (ha1 : w.cell? ⟨gt, 1, none⟩ = some (.int .i64 (p1 : Int))) (ha2 : w.cell? ⟨gt, 2, none⟩ = some (.int .i64 (p2 : Int))) (ha3 : w.cell? ⟨gt, 3, none⟩ = some (.int .i64 (p3 : Int))) :
  Calls Tryz.prog 156 #[.int .u32 x, .int .u32 y, .slice (some ⟨gt, 0, none⟩) 4 4, .pointer (some ⟨g, 0, none⟩)] w fun r w' => r = .returned (.tuple #[]) ∧ Grw w w' [g] ∧ w'.heap[g]? = some (.cells (av 16 (w32 (mxF v x y p0 p1 p2 p3))) 148) := by
 go_enter Tryz.func156, Tryz.ntmps156
 have M := Mem.startp hL hg h0
 refine wp_seq ?_
 refine rg_tail M 23 (by kernel_rfl) (by kernel_rfl) ?_
 simp only [List.take_succ_cons, List.take_zero]
 refine kR 2 ?_
 refine kE M 13 gt 0 (.int .i64 (p0 : Int)) (fun w M => M.oldcB ha0 (by simpa using hne)) ?_
 refine eX 14 .i64 g (p0) 16 ?_
 refine eE M 15 0 p0 ?_
 refine kR 2 ?_
 refine kE M 18 gt 1 (.int .i64 (p1 : Int)) (fun w M => M.oldcB ha1 (by simpa using hne)) ?_
 refine eX 19 .i64 g (p1) 16 ?_
 refine eE M 20 0 p1 ?_
 refine kR 2 ?_
 refine kE M 23 gt 2 (.int .i64 (p2 : Int)) (fun w M => M.oldcB ha2 (by simpa using hne)) ?_
 refine eX 24 .i64 g (p2) 16 ?_
 refine eE M 25 0 p2 ?_
 refine kR 2 ?_
 refine kE M 28 gt 3 (.int .i64 (p3 : Int)) (fun w M => M.oldcB ha3 (by simpa using hne)) ?_
 refine eX 29 .i64 g (p3) 16 ?_
 refine eE M 30 0 p3 ?_
 refine kR 3 ?_
 refine kl_nil fun u1 M => ?_
 replace M := M.nf
 refine rV 1 <| nT <| sq <| sR <| rV 3 ?_
 refine pC M 39 157 #[.int .u32 (vx (v p3) (mA1 v x p0 p1)), .int .i64 16] (.int .u32 (mD1 v x p0 p1 p3)) (fun w M => c_turned16 _ w M.laid) fun u2 M => ?_
 refine rV 1 <| nT <| sq <| sR <| rV 3 ?_
 refine pC M 46 157 #[.int .u32 (vx (v p1) (mC1 v x p0 p1 p2 p3)), .int .i64 12] (.int .u32 (mB1 v x p0 p1 p2 p3)) (fun w M => c_turned12 _ w M.laid) fun u3 M => ?_
 refine rV 1 <| nT <| sq <| sR <| rV 3 ?_
 refine pC M 55 157 #[.int .u32 (vx (mD1 v x p0 p1 p3) (mA2 v x y p0 p1 p2 p3)), .int .i64 8] (.int .u32 (mD2 v x y p0 p1 p2 p3)) (fun w M => c_turned8 _ w M.laid) fun u4 M => ?_
 refine rV 1 <| nT <| sq <| sR <| rV 3 ?_
 refine pC M 62 157 #[.int .u32 (vx (mB1 v x p0 p1 p2 p3) (mC2 v x y p0 p1 p2 p3)), .int .i64 7] (.int .u32 (mB2 v x y p0 p1 p2 p3)) (fun w M => c_turned7 _ w M.laid) fun u5 M => ?_
 refine rV 1 <| nT ?_
 refine rg_held M [] 23 rfl (by kernel_rfl) (by kernel_rfl) (fun _ _ d _ _ h => by cases d <;> exact h) fun u6 M => ?_
 replace M := M.nf
 refine qV (M.drop (.cons _ (.slnil))) 0 63 (.slice (some ⟨gt, 0, none⟩) 4 4) ?_
 refine qV (M.drop (.cons _ (.slnil))) 1 64 (.pointer (some ⟨gt, 0, none⟩)) ?_
 refine hl_cell (M.drop (.cons _ (.slnil))) 2 rfl (by decide) (by kernel_rfl) (by kernel_rfl) (want_no rfl) (some 65) rfl 3 _ rfl gt 0 (by kernel_rfl) (.int .i64 (p0 : Int)) (fun _ => by kernel_rfl) (fun w M => M.oldcB ha0 (by simpa using hne)) ?_
 refine qV (M.drop (.cons _ (.slnil))) 3 66 (.slice (some ⟨gt, 0, none⟩) 4 4) ?_
 refine qV (M.drop (.cons _ (.slnil))) 4 67 (.pointer (some ⟨gt, 1, none⟩)) ?_
 refine hl_cell (M.drop (.cons _ (.slnil))) 5 rfl (by decide) (by kernel_rfl) (by kernel_rfl) (want_no rfl) (some 68) rfl 3 _ rfl gt 1 (by kernel_rfl) (.int .i64 (p1 : Int)) (fun _ => by kernel_rfl) (fun w M => M.oldcB ha1 (by simpa using hne)) ?_
 refine qV (M.drop (.cons _ (.slnil))) 6 69 (.slice (some ⟨gt, 0, none⟩) 4 4) ?_
 refine qV (M.drop (.cons _ (.slnil))) 7 70 (.pointer (some ⟨gt, 2, none⟩)) ?_
 refine hl_cell (M.drop (.cons _ (.slnil))) 8 rfl (by decide) (by kernel_rfl) (by kernel_rfl) (want_no rfl) (some 71) rfl 3 _ rfl gt 2 (by kernel_rfl) (.int .i64 (p2 : Int)) (fun _ => by kernel_rfl) (fun w M => M.oldcB ha2 (by simpa using hne)) ?_
 refine qV (M.drop (.cons _ (.slnil))) 9 72 (.slice (some ⟨gt, 0, none⟩) 4 4) ?_
 refine qV (M.drop (.cons _ (.slnil))) 10 73 (.pointer (some ⟨gt, 3, none⟩)) ?_
 refine hl_cell (M.drop (.cons _ (.slnil))) 11 rfl (by decide) (by kernel_rfl) (by kernel_rfl) (want_no rfl) (some 74) rfl 3 _ rfl gt 3 (by kernel_rfl) (.int .i64 (p3 : Int)) (fun _ => by kernel_rfl) (fun w M => M.oldcB ha3 (by simpa using hne)) ?_
 refine qV (M.drop (.cons _ (.slnil))) 12 75 (.int .u32 (mA2 v x y p0 p1 p2 p3)) ?_
 refine qV (M.drop (.cons _ (.slnil))) 13 76 (.int .u32 (mB2 v x y p0 p1 p2 p3)) ?_
 refine qV (M.drop (.cons _ (.slnil))) 14 77 (.int .u32 (mC2 v x y p0 p1 p2 p3)) ?_
 refine qV (M.drop (.cons _ (.slnil))) 15 78 (.int .u32 (mD2 v x y p0 p1 p2 p3)) ?_
 refine hl_val (M.drop (.cons _ (.slnil))) 16 rfl (by decide) (by kernel_rfl) (by kernel_rfl) (want_no rfl) (some 79) rfl (.pointer (some ⟨g, p0, none⟩)) (fun w _ => (run_ix1 148 16 91 Tryz.underlying148 inz91 _ _ rfl g (by kernel_rfl) .i64 (p0) (by kernel_rfl) (by omega)) w) ?_
 refine hl_one 17 (by decide) (by kernel_rfl) rfl ?_
 refine ZP32 M 0 p0 (mA2 v x y p0 p1 p2 p3) fun u7 M => ?_
 replace M := M.nf
 refine nT ?_
 refine ⟨(M.drop (.cons _ (.slnil))), ?_⟩
 refine hl_val (M.drop (.cons _ (.slnil))) 18 rfl (by decide) (by kernel_rfl) (by kernel_rfl) (want_no rfl) (some 80) rfl (.pointer (some ⟨g, p1, none⟩)) (fun w _ => (run_ix1 148 16 91 Tryz.underlying148 inz91 _ _ rfl g (by kernel_rfl) .i64 (p1) (by kernel_rfl) (by omega)) w) ?_
 refine hl_one 19 (by decide) (by kernel_rfl) rfl ?_
 refine ZP32 M 0 p1 (mB2 v x y p0 p1 p2 p3) fun u8 M => ?_
 replace M := M.nf
 refine nT ?_
 refine ⟨(M.drop (.cons _ (.slnil))), ?_⟩
 refine hl_val (M.drop (.cons _ (.slnil))) 20 rfl (by decide) (by kernel_rfl) (by kernel_rfl) (want_no rfl) (some 81) rfl (.pointer (some ⟨g, p2, none⟩)) (fun w _ => (run_ix1 148 16 91 Tryz.underlying148 inz91 _ _ rfl g (by kernel_rfl) .i64 (p2) (by kernel_rfl) (by omega)) w) ?_
 refine hl_one 21 (by decide) (by kernel_rfl) rfl ?_
 refine ZP32 M 0 p2 (mC2 v x y p0 p1 p2 p3) fun u9 M => ?_
 replace M := M.nf
 refine nT ?_
 refine ⟨(M.drop (.cons _ (.slnil))), ?_⟩
 refine hl_val (M.drop (.cons _ (.slnil))) 22 rfl (by decide) (by kernel_rfl) (by kernel_rfl) (want_no rfl) (some 82) rfl (.pointer (some ⟨g, p3, none⟩)) (fun w _ => (run_ix1 148 16 91 Tryz.underlying148 inz91 _ _ rfl g (by kernel_rfl) .i64 (p3) (by kernel_rfl) (by omega)) w) ?_
 refine hl_end (by kernel_rfl) (by kernel_rfl) rfl ?_
 refine ZP32 M 0 p3 (mD2 v x y p0 p1 p2 p3) fun u10 M => ?_
 replace M := M.nf
 refine nT ?_
 exact bodyPost_end (v := .tuple #[]) (results_none Tryz.results156 _ _) (by kernel_rfl) ⟨rfl, M.old, M.get 0 rfl⟩
def ow (j : Nat) : Nat → Value := w8 fun i => (OF (j * 16 + i) : Int)
theorem OF_lt (i : Nat) : OF i < 16 := by
 by_cases h : i < 160
 ·have h2 : ((List.range 160).all fun i => decide (OF i < 16)) = true := by decide +kernel
  simpa using List.all_eq_true.1 h2 i (List.mem_range.2 h)
 ·unfold OF
  rw [List.getD_eq_getElem?_getD, List.getElem?_eq_none (by simp; omega)]
  decide
def rn1 (m v : Nat → Int) (j : Nat) : Nat → Int := mxF v (m (OF (j * 16 + 0))) (m (OF (j * 16 + 1))) 0 4 8 12
def rn2 (m v : Nat → Int) (j : Nat) : Nat → Int := mxF (rn1 m v j) (m (OF (j * 16 + 2))) (m (OF (j * 16 + 3))) 1 5 9 13
def rn3 (m v : Nat → Int) (j : Nat) : Nat → Int := mxF (rn2 m v j) (m (OF (j * 16 + 4))) (m (OF (j * 16 + 5))) 2 6 10 14
def rn4 (m v : Nat → Int) (j : Nat) : Nat → Int := mxF (rn3 m v j) (m (OF (j * 16 + 6))) (m (OF (j * 16 + 7))) 3 7 11 15
def rn5 (m v : Nat → Int) (j : Nat) : Nat → Int := mxF (rn4 m v j) (m (OF (j * 16 + 8))) (m (OF (j * 16 + 9))) 0 5 10 15
def rn6 (m v : Nat → Int) (j : Nat) : Nat → Int := mxF (rn5 m v j) (m (OF (j * 16 + 10))) (m (OF (j * 16 + 11))) 1 6 11 12
def rn7 (m v : Nat → Int) (j : Nat) : Nat → Int := mxF (rn6 m v j) (m (OF (j * 16 + 12))) (m (OF (j * 16 + 13))) 2 7 8 13
def rn8 (m v : Nat → Int) (j : Nat) : Nat → Int := mxF (rn7 m v j) (m (OF (j * 16 + 14))) (m (OF (j * 16 + 15))) 3 4 9 14
def rd (m v : Nat → Int) : Nat → (Nat → Int)
 | 0 => v
 | j + 1 => rn8 m (rd m v j) j
def ad (x y : Nat → Int) : Nat → (Nat → Int)
 | 0 => x
 | j + 1 => upd (ad x y j) j (vx (ad x y j j) (vx (y j) (y (8 + j))))
def mixV (x rs : Nat → Int) (n : Nat) (ct : Int) (last : Bool) : Nat → Int := fun i => vx (x i) (vx (rd (wo rs n) (spr x ct last) 10 i) (rd (wo rs n) (spr x ct last) 10 (8 + i)))
theorem lt8 {p : Nat → Prop} (h : p 0 ∧ p 1 ∧ p 2 ∧ p 3 ∧ p 4 ∧ p 5 ∧ p 6 ∧ p 7) : ∀ i, i < 8 → p i
 | 0, _ => h.1
 | 1, _ => h.2.1
 | 2, _ => h.2.2.1
 | 3, _ => h.2.2.2.1
 | 4, _ => h.2.2.2.2.1
 | 5, _ => h.2.2.2.2.2.1
 | 6, _ => h.2.2.2.2.2.2.1
 | 7, _ => h.2.2.2.2.2.2.2
 | n + 8, h => absurd h (by omega)
theorem ad_av (x y : Nat → Int) : av 8 (w32 (ad x y 8)) = av 8 (w32 fun i => vx (x i) (vx (y i) (y (8 + i)))) := by
 refine av_congr fun i hi => ?_
 unfold w32
 congr 1
 revert i
 exact lt8 ⟨by simp [ad, upd], by simp [ad, upd], by simp [ad, upd], by simp [ad, upd], by simp [ad, upd], by simp [ad, upd], by simp [ad, upd], by simp [ad, upd]⟩
theorem c_mixed (x rs : Nat → Int) (g n cap : Nat) (hn : n ≤ 64) (ct : Int) (last : Bool) (w : World) (hL : Laid w) (hc : ∀ i, i < n → w.cell? ⟨g, i, none⟩ = some (.int .u8 (rs i))) : Cs 116 #[.agg (av 8 (w32 x)), .slice (some ⟨g, 0, none⟩) n cap, .int .u64 ct, .bool (last)] w (.agg (av 8 (w32 (mixV x rs n ct last)))) := by
 go_enter Tryz.func116, Tryz.ntmps116
 have M := Mem.start hL
 refine sR ?_
 refine pN M 4 (.cells (av 8 (w32 x)) 155) fun g1 u1 M => ?_
 replace M := M.nf
 refine pN M 8 (.cells (av 8 (w32 (fun _ => 0))) 155) fun g2 u2 M => ?_
 replace M := M.nf
 refine nT <| sR <| rV 1 ?_
 refine ZC M 16 (fun w M => c_words rs g n cap hn w M.laid (fun i hi => M.oldcB (hc i hi) (by simp))) fun u3 M => ?_
 refine pN M 9 (.cells (av 16 (w32 (fun _ => 0))) 148) fun g3 u4 M => ?_
 replace M := M.nf
 refine ZG M 2 16 (w32 (wo rs n)) fun u5 M => ?_
 replace M := M.nf
 refine nT <| sR ?_
 refine pA M 17 0 8 (w32 x) ?_
 refine rV 2 ?_
 refine ZC M 20 (fun w M => c_spread x ct last w M.laid) fun u6 M => ?_
 refine pN M 10 (.cells (av 16 (w32 (fun _ => 0))) 148) fun g4 u7 M => ?_
 replace M := M.nf
 refine ZG M 3 16 (w32 (spr x ct last)) fun u8 M => ?_
 replace M := M.nf
 refine nT <| sq <| wp_seq <| sR ?_
 refine pl_laid M (want_no rfl) (some 22) rfl 215 _ rfl (by kernel_rfl) _ Tryz.underlying215 rfl inz215 ?_
 refine rV 1 <| nT ?_
 refine wp_block ?_
 refine au_loop (fun j a w' => ∃ v1 : Nat → Value, a = (fm ([.agg (av 8 (w32 x)), .slice (some ⟨g, 0, none⟩) n cap, .int .u64 ct, .bool (last), .pointer (some ⟨g1, 0, none⟩)] ++ und 3 ++ [.pointer (some ⟨g2, 0, none⟩), .pointer (some ⟨g3, 0, none⟩), .pointer (some ⟨g4, 0, none⟩), .func (.func 156) #[] #[.pointer (some ⟨g4, 0, none⟩)], undef, v1 13, undef, .slice (some ⟨g, 0, none⟩) n cap, .agg (av 16 (w32 (wo rs n))), .agg (av 8 (w32 x)), .int .u64 ct, .bool (last), .agg (av 16 (w32 (spr x ct last))), .func (.func 156) #[] #[.pointer (some ⟨g4, 0, none⟩)], .agg (av 160 (w8 fun i => (OF i : Int))), .int .i64 (j : Int)] ++ vr v1 24 91 ++ und 18)) ∧ Mem ⟨w, []⟩ [⟨g1, .cells (av 8 (w32 x)) 155⟩, ⟨g2, .cells (av 8 (w32 (fun _ => 0))) 155⟩, ⟨g3, .cells (av 16 (w32 (wo rs n))) 148⟩, ⟨g4, .cells (av 16 (w32 (rd (wo rs n) (spr x ct last) j))) 148⟩] w') 10 (exS M) ?_ ?_
 ·intro j a u0 hj hI
  obtain ⟨v1, rfl, M⟩ := hI
  refine sR ?_
  refine ZT 24 ((j : Int) < 10) ?_
  refine nT <| wp_seq <| cT <| wp_skip <| au_then ?_
  refine wp_seq ?_
  refine wp_block ?_
  refine sR ?_
  refine pH 25 (.agg (av 16 (ow j))) (run_ixP 215 10 214 16 Tryz.underlying215 inz214 (fun _ => by kernel_rfl) _ _ rfl (w8 fun i => (OF i : Int)) 160 (by kernel_rfl) .i64 j (by kernel_rfl) (by omega) (by omega)) ?_
  refine pN M 13 (.cells (av 16 (w8 (fun _ => 0))) 214) fun g5 u9 M => ?_
  replace M := M.nf
  refine ZG M 4 16 (ow j) fun u10 M => ?_
  replace M := M.nf
  refine nT <| wp_seq ?_
  refine rg_held M [⟨g1, .cells (av 8 (w32 x)) 155⟩, ⟨g2, .cells (av 8 (w32 (fun _ => 0))) 155⟩, ⟨g3, .cells (av 16 (w32 (wo rs n))) 148⟩, ⟨g5, .cells (av 16 (ow j)) 214⟩] 10 rfl (by kernel_rfl) (by kernel_rfl) (fun _ _ d _ _ h => by cases d <;> exact h) fun u11 M => ?_
  replace M := M.nf
  refine qV (M.drop (.cons_cons _ (.cons_cons _ (.cons_cons _ (.cons _ (.cons_cons _ (.slnil))))))) 0 26 (.func (.func 156) #[] #[.pointer (some ⟨g4, 0, none⟩)]) ?_
  refine qV (M.drop (.cons_cons _ (.cons_cons _ (.cons_cons _ (.cons _ (.cons_cons _ (.slnil))))))) 1 27 (.pointer (some ⟨g5, 0, none⟩)) ?_
  refine hl_cell (M.drop (.cons_cons _ (.cons_cons _ (.cons_cons _ (.cons _ (.cons_cons _ (.slnil))))))) 2 rfl (by decide) (by kernel_rfl) (by kernel_rfl) (want_no rfl) (some 28) rfl 5 _ rfl g5 0 (by kernel_rfl) (.int .u8 (OF (j * 16 + 0) : Int)) (fun _ => by kernel_rfl) (fun w M => M.cell 3 rfl (by decide) rfl) ?_
  refine hl_val (M.drop (.cons_cons _ (.cons_cons _ (.cons_cons _ (.cons _ (.cons_cons _ (.slnil))))))) 3 rfl (by decide) (by kernel_rfl) (by kernel_rfl) (want_no rfl) (some 29) rfl (.pointer (some ⟨g3, (OF (j * 16 + 0)), none⟩)) (fun w _ => (run_ix1 148 16 91 Tryz.underlying148 inz91 _ _ rfl g3 (by kernel_rfl) .u8 (OF (j * 16 + 0)) (by kernel_rfl) (OF_lt _)) w) ?_
  refine hl_cell (M.drop (.cons_cons _ (.cons_cons _ (.cons_cons _ (.cons _ (.cons_cons _ (.slnil))))))) 4 rfl (by decide) (by kernel_rfl) (by kernel_rfl) (want_no rfl) (some 30) rfl 91 _ rfl g3 (OF (j * 16 + 0)) (by kernel_rfl) (.int .u32 ((wo rs n) (OF (j * 16 + 0)))) (fun _ => by kernel_rfl) (fun w M => M.cell 2 rfl (OF_lt _) rfl) ?_
  refine qV (M.drop (.cons_cons _ (.cons_cons _ (.cons_cons _ (.cons _ (.cons_cons _ (.slnil))))))) 5 31 (.pointer (some ⟨g5, 1, none⟩)) ?_
  refine hl_cell (M.drop (.cons_cons _ (.cons_cons _ (.cons_cons _ (.cons _ (.cons_cons _ (.slnil))))))) 6 rfl (by decide) (by kernel_rfl) (by kernel_rfl) (want_no rfl) (some 32) rfl 5 _ rfl g5 1 (by kernel_rfl) (.int .u8 (OF (j * 16 + 1) : Int)) (fun _ => by kernel_rfl) (fun w M => M.cell 3 rfl (by decide) rfl) ?_
  refine hl_val (M.drop (.cons_cons _ (.cons_cons _ (.cons_cons _ (.cons _ (.cons_cons _ (.slnil))))))) 7 rfl (by decide) (by kernel_rfl) (by kernel_rfl) (want_no rfl) (some 33) rfl (.pointer (some ⟨g3, (OF (j * 16 + 1)), none⟩)) (fun w _ => (run_ix1 148 16 91 Tryz.underlying148 inz91 _ _ rfl g3 (by kernel_rfl) .u8 (OF (j * 16 + 1)) (by kernel_rfl) (OF_lt _)) w) ?_
  refine hl_cell (M.drop (.cons_cons _ (.cons_cons _ (.cons_cons _ (.cons _ (.cons_cons _ (.slnil))))))) 8 rfl (by decide) (by kernel_rfl) (by kernel_rfl) (want_no rfl) (some 34) rfl 91 _ rfl g3 (OF (j * 16 + 1)) (by kernel_rfl) (.int .u32 ((wo rs n) (OF (j * 16 + 1)))) (fun _ => by kernel_rfl) (fun w M => M.cell 2 rfl (OF_lt _) rfl) ?_
  refine hl_one 9 (by decide) (by kernel_rfl) rfl ?_
  refine ZM M 35 (fun g6 => .slice (some ⟨g6, 0, none⟩) 4 4) (.cells (av 4 (wi (r4 0 4 8 12))) 3) fun g6 u12 M => ?_
  replace M := M.nf
  refine nT ?_
  refine ⟨(M.drop (.cons_cons _ (.cons_cons _ (.cons_cons _ (.cons _ (.cons_cons _ (.cons _ (.slnil)))))))), ?_⟩
  refine hl_end (by kernel_rfl) (by kernel_rfl) rfl ?_
  refine pl_callp M (want_no rfl) (some 36) rfl 156 #[.int .u32 ((wo rs n) (OF (j * 16 + 0))), .int .u32 ((wo rs n) (OF (j * 16 + 1))), .slice (some ⟨g6, 0, none⟩) 4 4, .pointer (some ⟨g4, 0, none⟩)] (.tuple #[]) 3 g4 (.cells (av 16 (w32 (rd (wo rs n) (spr x ct last) j))) 148) (.cells (av 16 (w32 (rn1 (wo rs n) (rd (wo rs n) (spr x ct last) j) j))) 148) rfl (fun _ => by kernel_rfl) (fun w M => c_mix (rd (wo rs n) (spr x ct last) j) _ _ 0 4 8 12 (by decide) (by decide) (by decide) (by decide) g4 g6 w M.laid (M.get 3 rfl) (M.ne0 3 rfl) (nodup_at M.nodup (i := 5) (j := 3) rfl rfl (by decide)) (M.cell 5 rfl (by decide) rfl) (M.cell 5 rfl (by decide) rfl) (M.cell 5 rfl (by decide) rfl) (M.cell 5 rfl (by decide) rfl)) fun u13 M => ?_
  replace M := M.nf
  refine nT <| au_then <| wp_seq ?_
  refine rg_held M [⟨g1, .cells (av 8 (w32 x)) 155⟩, ⟨g2, .cells (av 8 (w32 (fun _ => 0))) 155⟩, ⟨g3, .cells (av 16 (w32 (wo rs n))) 148⟩, ⟨g5, .cells (av 16 (ow j)) 214⟩, ⟨g6, .cells (av 4 (wi (r4 0 4 8 12))) 3⟩] 10 rfl (by kernel_rfl) (by kernel_rfl) (fun _ _ d _ _ h => by cases d <;> exact h) fun u14 M => ?_
  replace M := M.nf
  refine qV (M.drop (.cons_cons _ (.cons_cons _ (.cons_cons _ (.cons _ (.cons_cons _ (.cons_cons _ (.slnil)))))))) 0 37 (.func (.func 156) #[] #[.pointer (some ⟨g4, 0, none⟩)]) ?_
  refine qV (M.drop (.cons_cons _ (.cons_cons _ (.cons_cons _ (.cons _ (.cons_cons _ (.cons_cons _ (.slnil)))))))) 1 38 (.pointer (some ⟨g5, 2, none⟩)) ?_
  refine hl_cell (M.drop (.cons_cons _ (.cons_cons _ (.cons_cons _ (.cons _ (.cons_cons _ (.cons_cons _ (.slnil)))))))) 2 rfl (by decide) (by kernel_rfl) (by kernel_rfl) (want_no rfl) (some 39) rfl 5 _ rfl g5 2 (by kernel_rfl) (.int .u8 (OF (j * 16 + 2) : Int)) (fun _ => by kernel_rfl) (fun w M => M.cell 3 rfl (by decide) rfl) ?_
  refine hl_val (M.drop (.cons_cons _ (.cons_cons _ (.cons_cons _ (.cons _ (.cons_cons _ (.cons_cons _ (.slnil)))))))) 3 rfl (by decide) (by kernel_rfl) (by kernel_rfl) (want_no rfl) (some 40) rfl (.pointer (some ⟨g3, (OF (j * 16 + 2)), none⟩)) (fun w _ => (run_ix1 148 16 91 Tryz.underlying148 inz91 _ _ rfl g3 (by kernel_rfl) .u8 (OF (j * 16 + 2)) (by kernel_rfl) (OF_lt _)) w) ?_
  refine hl_cell (M.drop (.cons_cons _ (.cons_cons _ (.cons_cons _ (.cons _ (.cons_cons _ (.cons_cons _ (.slnil)))))))) 4 rfl (by decide) (by kernel_rfl) (by kernel_rfl) (want_no rfl) (some 41) rfl 91 _ rfl g3 (OF (j * 16 + 2)) (by kernel_rfl) (.int .u32 ((wo rs n) (OF (j * 16 + 2)))) (fun _ => by kernel_rfl) (fun w M => M.cell 2 rfl (OF_lt _) rfl) ?_
  refine qV (M.drop (.cons_cons _ (.cons_cons _ (.cons_cons _ (.cons _ (.cons_cons _ (.cons_cons _ (.slnil)))))))) 5 42 (.pointer (some ⟨g5, 3, none⟩)) ?_
  refine hl_cell (M.drop (.cons_cons _ (.cons_cons _ (.cons_cons _ (.cons _ (.cons_cons _ (.cons_cons _ (.slnil)))))))) 6 rfl (by decide) (by kernel_rfl) (by kernel_rfl) (want_no rfl) (some 43) rfl 5 _ rfl g5 3 (by kernel_rfl) (.int .u8 (OF (j * 16 + 3) : Int)) (fun _ => by kernel_rfl) (fun w M => M.cell 3 rfl (by decide) rfl) ?_
  refine hl_val (M.drop (.cons_cons _ (.cons_cons _ (.cons_cons _ (.cons _ (.cons_cons _ (.cons_cons _ (.slnil)))))))) 7 rfl (by decide) (by kernel_rfl) (by kernel_rfl) (want_no rfl) (some 44) rfl (.pointer (some ⟨g3, (OF (j * 16 + 3)), none⟩)) (fun w _ => (run_ix1 148 16 91 Tryz.underlying148 inz91 _ _ rfl g3 (by kernel_rfl) .u8 (OF (j * 16 + 3)) (by kernel_rfl) (OF_lt _)) w) ?_
  refine hl_cell (M.drop (.cons_cons _ (.cons_cons _ (.cons_cons _ (.cons _ (.cons_cons _ (.cons_cons _ (.slnil)))))))) 8 rfl (by decide) (by kernel_rfl) (by kernel_rfl) (want_no rfl) (some 45) rfl 91 _ rfl g3 (OF (j * 16 + 3)) (by kernel_rfl) (.int .u32 ((wo rs n) (OF (j * 16 + 3)))) (fun _ => by kernel_rfl) (fun w M => M.cell 2 rfl (OF_lt _) rfl) ?_
  refine hl_one 9 (by decide) (by kernel_rfl) rfl ?_
  refine ZM M 46 (fun g7 => .slice (some ⟨g7, 0, none⟩) 4 4) (.cells (av 4 (wi (r4 1 5 9 13))) 3) fun g7 u15 M => ?_
  replace M := M.nf
  refine nT ?_
  refine ⟨(M.drop (.cons_cons _ (.cons_cons _ (.cons_cons _ (.cons _ (.cons_cons _ (.cons_cons _ (.cons _ (.slnil))))))))), ?_⟩
  refine hl_end (by kernel_rfl) (by kernel_rfl) rfl ?_
  refine pl_callp M (want_no rfl) (some 47) rfl 156 #[.int .u32 ((wo rs n) (OF (j * 16 + 2))), .int .u32 ((wo rs n) (OF (j * 16 + 3))), .slice (some ⟨g7, 0, none⟩) 4 4, .pointer (some ⟨g4, 0, none⟩)] (.tuple #[]) 3 g4 (.cells (av 16 (w32 (rn1 (wo rs n) (rd (wo rs n) (spr x ct last) j) j))) 148) (.cells (av 16 (w32 (rn2 (wo rs n) (rd (wo rs n) (spr x ct last) j) j))) 148) rfl (fun _ => by kernel_rfl) (fun w M => c_mix (rn1 (wo rs n) (rd (wo rs n) (spr x ct last) j) j) _ _ 1 5 9 13 (by decide) (by decide) (by decide) (by decide) g4 g7 w M.laid (M.get 3 rfl) (M.ne0 3 rfl) (nodup_at M.nodup (i := 6) (j := 3) rfl rfl (by decide)) (M.cell 6 rfl (by decide) rfl) (M.cell 6 rfl (by decide) rfl) (M.cell 6 rfl (by decide) rfl) (M.cell 6 rfl (by decide) rfl)) fun u16 M => ?_
  replace M := M.nf
  refine nT <| au_then <| wp_seq ?_
  refine rg_held M [⟨g1, .cells (av 8 (w32 x)) 155⟩, ⟨g2, .cells (av 8 (w32 (fun _ => 0))) 155⟩, ⟨g3, .cells (av 16 (w32 (wo rs n))) 148⟩, ⟨g5, .cells (av 16 (ow j)) 214⟩, ⟨g6, .cells (av 4 (wi (r4 0 4 8 12))) 3⟩, ⟨g7, .cells (av 4 (wi (r4 1 5 9 13))) 3⟩] 10 rfl (by kernel_rfl) (by kernel_rfl) (fun _ _ d _ _ h => by cases d <;> exact h) fun u17 M => ?_
  replace M := M.nf
  refine qV (M.drop (.cons_cons _ (.cons_cons _ (.cons_cons _ (.cons _ (.cons_cons _ (.cons_cons _ (.cons_cons _ (.slnil))))))))) 0 48 (.func (.func 156) #[] #[.pointer (some ⟨g4, 0, none⟩)]) ?_
  refine qV (M.drop (.cons_cons _ (.cons_cons _ (.cons_cons _ (.cons _ (.cons_cons _ (.cons_cons _ (.cons_cons _ (.slnil))))))))) 1 49 (.pointer (some ⟨g5, 4, none⟩)) ?_
  refine hl_cell (M.drop (.cons_cons _ (.cons_cons _ (.cons_cons _ (.cons _ (.cons_cons _ (.cons_cons _ (.cons_cons _ (.slnil))))))))) 2 rfl (by decide) (by kernel_rfl) (by kernel_rfl) (want_no rfl) (some 50) rfl 5 _ rfl g5 4 (by kernel_rfl) (.int .u8 (OF (j * 16 + 4) : Int)) (fun _ => by kernel_rfl) (fun w M => M.cell 3 rfl (by decide) rfl) ?_
  refine hl_val (M.drop (.cons_cons _ (.cons_cons _ (.cons_cons _ (.cons _ (.cons_cons _ (.cons_cons _ (.cons_cons _ (.slnil))))))))) 3 rfl (by decide) (by kernel_rfl) (by kernel_rfl) (want_no rfl) (some 51) rfl (.pointer (some ⟨g3, (OF (j * 16 + 4)), none⟩)) (fun w _ => (run_ix1 148 16 91 Tryz.underlying148 inz91 _ _ rfl g3 (by kernel_rfl) .u8 (OF (j * 16 + 4)) (by kernel_rfl) (OF_lt _)) w) ?_
  refine hl_cell (M.drop (.cons_cons _ (.cons_cons _ (.cons_cons _ (.cons _ (.cons_cons _ (.cons_cons _ (.cons_cons _ (.slnil))))))))) 4 rfl (by decide) (by kernel_rfl) (by kernel_rfl) (want_no rfl) (some 52) rfl 91 _ rfl g3 (OF (j * 16 + 4)) (by kernel_rfl) (.int .u32 ((wo rs n) (OF (j * 16 + 4)))) (fun _ => by kernel_rfl) (fun w M => M.cell 2 rfl (OF_lt _) rfl) ?_
  refine qV (M.drop (.cons_cons _ (.cons_cons _ (.cons_cons _ (.cons _ (.cons_cons _ (.cons_cons _ (.cons_cons _ (.slnil))))))))) 5 53 (.pointer (some ⟨g5, 5, none⟩)) ?_
  refine hl_cell (M.drop (.cons_cons _ (.cons_cons _ (.cons_cons _ (.cons _ (.cons_cons _ (.cons_cons _ (.cons_cons _ (.slnil))))))))) 6 rfl (by decide) (by kernel_rfl) (by kernel_rfl) (want_no rfl) (some 54) rfl 5 _ rfl g5 5 (by kernel_rfl) (.int .u8 (OF (j * 16 + 5) : Int)) (fun _ => by kernel_rfl) (fun w M => M.cell 3 rfl (by decide) rfl) ?_
  refine hl_val (M.drop (.cons_cons _ (.cons_cons _ (.cons_cons _ (.cons _ (.cons_cons _ (.cons_cons _ (.cons_cons _ (.slnil))))))))) 7 rfl (by decide) (by kernel_rfl) (by kernel_rfl) (want_no rfl) (some 55) rfl (.pointer (some ⟨g3, (OF (j * 16 + 5)), none⟩)) (fun w _ => (run_ix1 148 16 91 Tryz.underlying148 inz91 _ _ rfl g3 (by kernel_rfl) .u8 (OF (j * 16 + 5)) (by kernel_rfl) (OF_lt _)) w) ?_
  refine hl_cell (M.drop (.cons_cons _ (.cons_cons _ (.cons_cons _ (.cons _ (.cons_cons _ (.cons_cons _ (.cons_cons _ (.slnil))))))))) 8 rfl (by decide) (by kernel_rfl) (by kernel_rfl) (want_no rfl) (some 56) rfl 91 _ rfl g3 (OF (j * 16 + 5)) (by kernel_rfl) (.int .u32 ((wo rs n) (OF (j * 16 + 5)))) (fun _ => by kernel_rfl) (fun w M => M.cell 2 rfl (OF_lt _) rfl) ?_
  refine hl_one 9 (by decide) (by kernel_rfl) rfl ?_
  refine ZM M 57 (fun g8 => .slice (some ⟨g8, 0, none⟩) 4 4) (.cells (av 4 (wi (r4 2 6 10 14))) 3) fun g8 u18 M => ?_
  replace M := M.nf
  refine nT ?_
  refine ⟨(M.drop (.cons_cons _ (.cons_cons _ (.cons_cons _ (.cons _ (.cons_cons _ (.cons_cons _ (.cons_cons _ (.cons _ (.slnil)))))))))), ?_⟩
  refine hl_end (by kernel_rfl) (by kernel_rfl) rfl ?_
  refine pl_callp M (want_no rfl) (some 58) rfl 156 #[.int .u32 ((wo rs n) (OF (j * 16 + 4))), .int .u32 ((wo rs n) (OF (j * 16 + 5))), .slice (some ⟨g8, 0, none⟩) 4 4, .pointer (some ⟨g4, 0, none⟩)] (.tuple #[]) 3 g4 (.cells (av 16 (w32 (rn2 (wo rs n) (rd (wo rs n) (spr x ct last) j) j))) 148) (.cells (av 16 (w32 (rn3 (wo rs n) (rd (wo rs n) (spr x ct last) j) j))) 148) rfl (fun _ => by kernel_rfl) (fun w M => c_mix (rn2 (wo rs n) (rd (wo rs n) (spr x ct last) j) j) _ _ 2 6 10 14 (by decide) (by decide) (by decide) (by decide) g4 g8 w M.laid (M.get 3 rfl) (M.ne0 3 rfl) (nodup_at M.nodup (i := 7) (j := 3) rfl rfl (by decide)) (M.cell 7 rfl (by decide) rfl) (M.cell 7 rfl (by decide) rfl) (M.cell 7 rfl (by decide) rfl) (M.cell 7 rfl (by decide) rfl)) fun u19 M => ?_
  replace M := M.nf
  refine nT <| au_then <| wp_seq ?_
  refine rg_held M [⟨g1, .cells (av 8 (w32 x)) 155⟩, ⟨g2, .cells (av 8 (w32 (fun _ => 0))) 155⟩, ⟨g3, .cells (av 16 (w32 (wo rs n))) 148⟩, ⟨g5, .cells (av 16 (ow j)) 214⟩, ⟨g6, .cells (av 4 (wi (r4 0 4 8 12))) 3⟩, ⟨g7, .cells (av 4 (wi (r4 1 5 9 13))) 3⟩, ⟨g8, .cells (av 4 (wi (r4 2 6 10 14))) 3⟩] 10 rfl (by kernel_rfl) (by kernel_rfl) (fun _ _ d _ _ h => by cases d <;> exact h) fun u20 M => ?_
  replace M := M.nf
  refine qV (M.drop (.cons_cons _ (.cons_cons _ (.cons_cons _ (.cons _ (.cons_cons _ (.cons_cons _ (.cons_cons _ (.cons_cons _ (.slnil)))))))))) 0 59 (.func (.func 156) #[] #[.pointer (some ⟨g4, 0, none⟩)]) ?_
  refine qV (M.drop (.cons_cons _ (.cons_cons _ (.cons_cons _ (.cons _ (.cons_cons _ (.cons_cons _ (.cons_cons _ (.cons_cons _ (.slnil)))))))))) 1 60 (.pointer (some ⟨g5, 6, none⟩)) ?_
  refine hl_cell (M.drop (.cons_cons _ (.cons_cons _ (.cons_cons _ (.cons _ (.cons_cons _ (.cons_cons _ (.cons_cons _ (.cons_cons _ (.slnil)))))))))) 2 rfl (by decide) (by kernel_rfl) (by kernel_rfl) (want_no rfl) (some 61) rfl 5 _ rfl g5 6 (by kernel_rfl) (.int .u8 (OF (j * 16 + 6) : Int)) (fun _ => by kernel_rfl) (fun w M => M.cell 3 rfl (by decide) rfl) ?_
  refine hl_val (M.drop (.cons_cons _ (.cons_cons _ (.cons_cons _ (.cons _ (.cons_cons _ (.cons_cons _ (.cons_cons _ (.cons_cons _ (.slnil)))))))))) 3 rfl (by decide) (by kernel_rfl) (by kernel_rfl) (want_no rfl) (some 62) rfl (.pointer (some ⟨g3, (OF (j * 16 + 6)), none⟩)) (fun w _ => (run_ix1 148 16 91 Tryz.underlying148 inz91 _ _ rfl g3 (by kernel_rfl) .u8 (OF (j * 16 + 6)) (by kernel_rfl) (OF_lt _)) w) ?_
  refine hl_cell (M.drop (.cons_cons _ (.cons_cons _ (.cons_cons _ (.cons _ (.cons_cons _ (.cons_cons _ (.cons_cons _ (.cons_cons _ (.slnil)))))))))) 4 rfl (by decide) (by kernel_rfl) (by kernel_rfl) (want_no rfl) (some 63) rfl 91 _ rfl g3 (OF (j * 16 + 6)) (by kernel_rfl) (.int .u32 ((wo rs n) (OF (j * 16 + 6)))) (fun _ => by kernel_rfl) (fun w M => M.cell 2 rfl (OF_lt _) rfl) ?_
  refine qV (M.drop (.cons_cons _ (.cons_cons _ (.cons_cons _ (.cons _ (.cons_cons _ (.cons_cons _ (.cons_cons _ (.cons_cons _ (.slnil)))))))))) 5 64 (.pointer (some ⟨g5, 7, none⟩)) ?_
  refine hl_cell (M.drop (.cons_cons _ (.cons_cons _ (.cons_cons _ (.cons _ (.cons_cons _ (.cons_cons _ (.cons_cons _ (.cons_cons _ (.slnil)))))))))) 6 rfl (by decide) (by kernel_rfl) (by kernel_rfl) (want_no rfl) (some 65) rfl 5 _ rfl g5 7 (by kernel_rfl) (.int .u8 (OF (j * 16 + 7) : Int)) (fun _ => by kernel_rfl) (fun w M => M.cell 3 rfl (by decide) rfl) ?_
  refine hl_val (M.drop (.cons_cons _ (.cons_cons _ (.cons_cons _ (.cons _ (.cons_cons _ (.cons_cons _ (.cons_cons _ (.cons_cons _ (.slnil)))))))))) 7 rfl (by decide) (by kernel_rfl) (by kernel_rfl) (want_no rfl) (some 66) rfl (.pointer (some ⟨g3, (OF (j * 16 + 7)), none⟩)) (fun w _ => (run_ix1 148 16 91 Tryz.underlying148 inz91 _ _ rfl g3 (by kernel_rfl) .u8 (OF (j * 16 + 7)) (by kernel_rfl) (OF_lt _)) w) ?_
  refine hl_cell (M.drop (.cons_cons _ (.cons_cons _ (.cons_cons _ (.cons _ (.cons_cons _ (.cons_cons _ (.cons_cons _ (.cons_cons _ (.slnil)))))))))) 8 rfl (by decide) (by kernel_rfl) (by kernel_rfl) (want_no rfl) (some 67) rfl 91 _ rfl g3 (OF (j * 16 + 7)) (by kernel_rfl) (.int .u32 ((wo rs n) (OF (j * 16 + 7)))) (fun _ => by kernel_rfl) (fun w M => M.cell 2 rfl (OF_lt _) rfl) ?_
  refine hl_one 9 (by decide) (by kernel_rfl) rfl ?_
  refine ZM M 68 (fun g9 => .slice (some ⟨g9, 0, none⟩) 4 4) (.cells (av 4 (wi (r4 3 7 11 15))) 3) fun g9 u21 M => ?_
  replace M := M.nf
  refine nT ?_
  refine ⟨(M.drop (.cons_cons _ (.cons_cons _ (.cons_cons _ (.cons _ (.cons_cons _ (.cons_cons _ (.cons_cons _ (.cons_cons _ (.cons _ (.slnil))))))))))), ?_⟩
  refine hl_end (by kernel_rfl) (by kernel_rfl) rfl ?_
  refine pl_callp M (want_no rfl) (some 69) rfl 156 #[.int .u32 ((wo rs n) (OF (j * 16 + 6))), .int .u32 ((wo rs n) (OF (j * 16 + 7))), .slice (some ⟨g9, 0, none⟩) 4 4, .pointer (some ⟨g4, 0, none⟩)] (.tuple #[]) 3 g4 (.cells (av 16 (w32 (rn3 (wo rs n) (rd (wo rs n) (spr x ct last) j) j))) 148) (.cells (av 16 (w32 (rn4 (wo rs n) (rd (wo rs n) (spr x ct last) j) j))) 148) rfl (fun _ => by kernel_rfl) (fun w M => c_mix (rn3 (wo rs n) (rd (wo rs n) (spr x ct last) j) j) _ _ 3 7 11 15 (by decide) (by decide) (by decide) (by decide) g4 g9 w M.laid (M.get 3 rfl) (M.ne0 3 rfl) (nodup_at M.nodup (i := 8) (j := 3) rfl rfl (by decide)) (M.cell 8 rfl (by decide) rfl) (M.cell 8 rfl (by decide) rfl) (M.cell 8 rfl (by decide) rfl) (M.cell 8 rfl (by decide) rfl)) fun u22 M => ?_
  replace M := M.nf
  refine nT <| au_then <| wp_seq ?_
  refine rg_held M [⟨g1, .cells (av 8 (w32 x)) 155⟩, ⟨g2, .cells (av 8 (w32 (fun _ => 0))) 155⟩, ⟨g3, .cells (av 16 (w32 (wo rs n))) 148⟩, ⟨g5, .cells (av 16 (ow j)) 214⟩, ⟨g6, .cells (av 4 (wi (r4 0 4 8 12))) 3⟩, ⟨g7, .cells (av 4 (wi (r4 1 5 9 13))) 3⟩, ⟨g8, .cells (av 4 (wi (r4 2 6 10 14))) 3⟩, ⟨g9, .cells (av 4 (wi (r4 3 7 11 15))) 3⟩] 10 rfl (by kernel_rfl) (by kernel_rfl) (fun _ _ d _ _ h => by cases d <;> exact h) fun u23 M => ?_
  replace M := M.nf
  refine qV (M.drop (.cons_cons _ (.cons_cons _ (.cons_cons _ (.cons _ (.cons_cons _ (.cons_cons _ (.cons_cons _ (.cons_cons _ (.cons_cons _ (.slnil))))))))))) 0 70 (.func (.func 156) #[] #[.pointer (some ⟨g4, 0, none⟩)]) ?_
  refine qV (M.drop (.cons_cons _ (.cons_cons _ (.cons_cons _ (.cons _ (.cons_cons _ (.cons_cons _ (.cons_cons _ (.cons_cons _ (.cons_cons _ (.slnil))))))))))) 1 71 (.pointer (some ⟨g5, 8, none⟩)) ?_
  refine hl_cell (M.drop (.cons_cons _ (.cons_cons _ (.cons_cons _ (.cons _ (.cons_cons _ (.cons_cons _ (.cons_cons _ (.cons_cons _ (.cons_cons _ (.slnil))))))))))) 2 rfl (by decide) (by kernel_rfl) (by kernel_rfl) (want_no rfl) (some 72) rfl 5 _ rfl g5 8 (by kernel_rfl) (.int .u8 (OF (j * 16 + 8) : Int)) (fun _ => by kernel_rfl) (fun w M => M.cell 3 rfl (by decide) rfl) ?_
  refine hl_val (M.drop (.cons_cons _ (.cons_cons _ (.cons_cons _ (.cons _ (.cons_cons _ (.cons_cons _ (.cons_cons _ (.cons_cons _ (.cons_cons _ (.slnil))))))))))) 3 rfl (by decide) (by kernel_rfl) (by kernel_rfl) (want_no rfl) (some 73) rfl (.pointer (some ⟨g3, (OF (j * 16 + 8)), none⟩)) (fun w _ => (run_ix1 148 16 91 Tryz.underlying148 inz91 _ _ rfl g3 (by kernel_rfl) .u8 (OF (j * 16 + 8)) (by kernel_rfl) (OF_lt _)) w) ?_
  refine hl_cell (M.drop (.cons_cons _ (.cons_cons _ (.cons_cons _ (.cons _ (.cons_cons _ (.cons_cons _ (.cons_cons _ (.cons_cons _ (.cons_cons _ (.slnil))))))))))) 4 rfl (by decide) (by kernel_rfl) (by kernel_rfl) (want_no rfl) (some 74) rfl 91 _ rfl g3 (OF (j * 16 + 8)) (by kernel_rfl) (.int .u32 ((wo rs n) (OF (j * 16 + 8)))) (fun _ => by kernel_rfl) (fun w M => M.cell 2 rfl (OF_lt _) rfl) ?_
  refine qV (M.drop (.cons_cons _ (.cons_cons _ (.cons_cons _ (.cons _ (.cons_cons _ (.cons_cons _ (.cons_cons _ (.cons_cons _ (.cons_cons _ (.slnil))))))))))) 5 75 (.pointer (some ⟨g5, 9, none⟩)) ?_
  refine hl_cell (M.drop (.cons_cons _ (.cons_cons _ (.cons_cons _ (.cons _ (.cons_cons _ (.cons_cons _ (.cons_cons _ (.cons_cons _ (.cons_cons _ (.slnil))))))))))) 6 rfl (by decide) (by kernel_rfl) (by kernel_rfl) (want_no rfl) (some 76) rfl 5 _ rfl g5 9 (by kernel_rfl) (.int .u8 (OF (j * 16 + 9) : Int)) (fun _ => by kernel_rfl) (fun w M => M.cell 3 rfl (by decide) rfl) ?_
  refine hl_val (M.drop (.cons_cons _ (.cons_cons _ (.cons_cons _ (.cons _ (.cons_cons _ (.cons_cons _ (.cons_cons _ (.cons_cons _ (.cons_cons _ (.slnil))))))))))) 7 rfl (by decide) (by kernel_rfl) (by kernel_rfl) (want_no rfl) (some 77) rfl (.pointer (some ⟨g3, (OF (j * 16 + 9)), none⟩)) (fun w _ => (run_ix1 148 16 91 Tryz.underlying148 inz91 _ _ rfl g3 (by kernel_rfl) .u8 (OF (j * 16 + 9)) (by kernel_rfl) (OF_lt _)) w) ?_
  refine hl_cell (M.drop (.cons_cons _ (.cons_cons _ (.cons_cons _ (.cons _ (.cons_cons _ (.cons_cons _ (.cons_cons _ (.cons_cons _ (.cons_cons _ (.slnil))))))))))) 8 rfl (by decide) (by kernel_rfl) (by kernel_rfl) (want_no rfl) (some 78) rfl 91 _ rfl g3 (OF (j * 16 + 9)) (by kernel_rfl) (.int .u32 ((wo rs n) (OF (j * 16 + 9)))) (fun _ => by kernel_rfl) (fun w M => M.cell 2 rfl (OF_lt _) rfl) ?_
  refine hl_one 9 (by decide) (by kernel_rfl) rfl ?_
  refine ZM M 79 (fun g10 => .slice (some ⟨g10, 0, none⟩) 4 4) (.cells (av 4 (wi (r4 0 5 10 15))) 3) fun g10 u24 M => ?_
  replace M := M.nf
  refine nT ?_
  refine ⟨(M.drop (.cons_cons _ (.cons_cons _ (.cons_cons _ (.cons _ (.cons_cons _ (.cons_cons _ (.cons_cons _ (.cons_cons _ (.cons_cons _ (.cons _ (.slnil)))))))))))), ?_⟩
  refine hl_end (by kernel_rfl) (by kernel_rfl) rfl ?_
  refine pl_callp M (want_no rfl) (some 80) rfl 156 #[.int .u32 ((wo rs n) (OF (j * 16 + 8))), .int .u32 ((wo rs n) (OF (j * 16 + 9))), .slice (some ⟨g10, 0, none⟩) 4 4, .pointer (some ⟨g4, 0, none⟩)] (.tuple #[]) 3 g4 (.cells (av 16 (w32 (rn4 (wo rs n) (rd (wo rs n) (spr x ct last) j) j))) 148) (.cells (av 16 (w32 (rn5 (wo rs n) (rd (wo rs n) (spr x ct last) j) j))) 148) rfl (fun _ => by kernel_rfl) (fun w M => c_mix (rn4 (wo rs n) (rd (wo rs n) (spr x ct last) j) j) _ _ 0 5 10 15 (by decide) (by decide) (by decide) (by decide) g4 g10 w M.laid (M.get 3 rfl) (M.ne0 3 rfl) (nodup_at M.nodup (i := 9) (j := 3) rfl rfl (by decide)) (M.cell 9 rfl (by decide) rfl) (M.cell 9 rfl (by decide) rfl) (M.cell 9 rfl (by decide) rfl) (M.cell 9 rfl (by decide) rfl)) fun u25 M => ?_
  replace M := M.nf
  refine nT <| au_then <| wp_seq ?_
  refine rg_held M [⟨g1, .cells (av 8 (w32 x)) 155⟩, ⟨g2, .cells (av 8 (w32 (fun _ => 0))) 155⟩, ⟨g3, .cells (av 16 (w32 (wo rs n))) 148⟩, ⟨g5, .cells (av 16 (ow j)) 214⟩, ⟨g6, .cells (av 4 (wi (r4 0 4 8 12))) 3⟩, ⟨g7, .cells (av 4 (wi (r4 1 5 9 13))) 3⟩, ⟨g8, .cells (av 4 (wi (r4 2 6 10 14))) 3⟩, ⟨g9, .cells (av 4 (wi (r4 3 7 11 15))) 3⟩, ⟨g10, .cells (av 4 (wi (r4 0 5 10 15))) 3⟩] 10 rfl (by kernel_rfl) (by kernel_rfl) (fun _ _ d _ _ h => by cases d <;> exact h) fun u26 M => ?_
  replace M := M.nf
  refine qV (M.drop (.cons_cons _ (.cons_cons _ (.cons_cons _ (.cons _ (.cons_cons _ (.cons_cons _ (.cons_cons _ (.cons_cons _ (.cons_cons _ (.cons_cons _ (.slnil)))))))))))) 0 81 (.func (.func 156) #[] #[.pointer (some ⟨g4, 0, none⟩)]) ?_
  refine qV (M.drop (.cons_cons _ (.cons_cons _ (.cons_cons _ (.cons _ (.cons_cons _ (.cons_cons _ (.cons_cons _ (.cons_cons _ (.cons_cons _ (.cons_cons _ (.slnil)))))))))))) 1 82 (.pointer (some ⟨g5, 10, none⟩)) ?_
  refine hl_cell (M.drop (.cons_cons _ (.cons_cons _ (.cons_cons _ (.cons _ (.cons_cons _ (.cons_cons _ (.cons_cons _ (.cons_cons _ (.cons_cons _ (.cons_cons _ (.slnil)))))))))))) 2 rfl (by decide) (by kernel_rfl) (by kernel_rfl) (want_no rfl) (some 83) rfl 5 _ rfl g5 10 (by kernel_rfl) (.int .u8 (OF (j * 16 + 10) : Int)) (fun _ => by kernel_rfl) (fun w M => M.cell 3 rfl (by decide) rfl) ?_
  refine hl_val (M.drop (.cons_cons _ (.cons_cons _ (.cons_cons _ (.cons _ (.cons_cons _ (.cons_cons _ (.cons_cons _ (.cons_cons _ (.cons_cons _ (.cons_cons _ (.slnil)))))))))))) 3 rfl (by decide) (by kernel_rfl) (by kernel_rfl) (want_no rfl) (some 84) rfl (.pointer (some ⟨g3, (OF (j * 16 + 10)), none⟩)) (fun w _ => (run_ix1 148 16 91 Tryz.underlying148 inz91 _ _ rfl g3 (by kernel_rfl) .u8 (OF (j * 16 + 10)) (by kernel_rfl) (OF_lt _)) w) ?_
  refine hl_cell (M.drop (.cons_cons _ (.cons_cons _ (.cons_cons _ (.cons _ (.cons_cons _ (.cons_cons _ (.cons_cons _ (.cons_cons _ (.cons_cons _ (.cons_cons _ (.slnil)))))))))))) 4 rfl (by decide) (by kernel_rfl) (by kernel_rfl) (want_no rfl) (some 85) rfl 91 _ rfl g3 (OF (j * 16 + 10)) (by kernel_rfl) (.int .u32 ((wo rs n) (OF (j * 16 + 10)))) (fun _ => by kernel_rfl) (fun w M => M.cell 2 rfl (OF_lt _) rfl) ?_
  refine qV (M.drop (.cons_cons _ (.cons_cons _ (.cons_cons _ (.cons _ (.cons_cons _ (.cons_cons _ (.cons_cons _ (.cons_cons _ (.cons_cons _ (.cons_cons _ (.slnil)))))))))))) 5 86 (.pointer (some ⟨g5, 11, none⟩)) ?_
  refine hl_cell (M.drop (.cons_cons _ (.cons_cons _ (.cons_cons _ (.cons _ (.cons_cons _ (.cons_cons _ (.cons_cons _ (.cons_cons _ (.cons_cons _ (.cons_cons _ (.slnil)))))))))))) 6 rfl (by decide) (by kernel_rfl) (by kernel_rfl) (want_no rfl) (some 87) rfl 5 _ rfl g5 11 (by kernel_rfl) (.int .u8 (OF (j * 16 + 11) : Int)) (fun _ => by kernel_rfl) (fun w M => M.cell 3 rfl (by decide) rfl) ?_
  refine hl_val (M.drop (.cons_cons _ (.cons_cons _ (.cons_cons _ (.cons _ (.cons_cons _ (.cons_cons _ (.cons_cons _ (.cons_cons _ (.cons_cons _ (.cons_cons _ (.slnil)))))))))))) 7 rfl (by decide) (by kernel_rfl) (by kernel_rfl) (want_no rfl) (some 88) rfl (.pointer (some ⟨g3, (OF (j * 16 + 11)), none⟩)) (fun w _ => (run_ix1 148 16 91 Tryz.underlying148 inz91 _ _ rfl g3 (by kernel_rfl) .u8 (OF (j * 16 + 11)) (by kernel_rfl) (OF_lt _)) w) ?_
  refine hl_cell (M.drop (.cons_cons _ (.cons_cons _ (.cons_cons _ (.cons _ (.cons_cons _ (.cons_cons _ (.cons_cons _ (.cons_cons _ (.cons_cons _ (.cons_cons _ (.slnil)))))))))))) 8 rfl (by decide) (by kernel_rfl) (by kernel_rfl) (want_no rfl) (some 89) rfl 91 _ rfl g3 (OF (j * 16 + 11)) (by kernel_rfl) (.int .u32 ((wo rs n) (OF (j * 16 + 11)))) (fun _ => by kernel_rfl) (fun w M => M.cell 2 rfl (OF_lt _) rfl) ?_
  refine hl_one 9 (by decide) (by kernel_rfl) rfl ?_
  refine ZM M 90 (fun g11 => .slice (some ⟨g11, 0, none⟩) 4 4) (.cells (av 4 (wi (r4 1 6 11 12))) 3) fun g11 u27 M => ?_
  replace M := M.nf
  refine nT ?_
  refine ⟨(M.drop (.cons_cons _ (.cons_cons _ (.cons_cons _ (.cons _ (.cons_cons _ (.cons_cons _ (.cons_cons _ (.cons_cons _ (.cons_cons _ (.cons_cons _ (.cons _ (.slnil))))))))))))), ?_⟩
  refine hl_end (by kernel_rfl) (by kernel_rfl) rfl ?_
  refine pl_callp M (want_no rfl) (some 91) rfl 156 #[.int .u32 ((wo rs n) (OF (j * 16 + 10))), .int .u32 ((wo rs n) (OF (j * 16 + 11))), .slice (some ⟨g11, 0, none⟩) 4 4, .pointer (some ⟨g4, 0, none⟩)] (.tuple #[]) 3 g4 (.cells (av 16 (w32 (rn5 (wo rs n) (rd (wo rs n) (spr x ct last) j) j))) 148) (.cells (av 16 (w32 (rn6 (wo rs n) (rd (wo rs n) (spr x ct last) j) j))) 148) rfl (fun _ => by kernel_rfl) (fun w M => c_mix (rn5 (wo rs n) (rd (wo rs n) (spr x ct last) j) j) _ _ 1 6 11 12 (by decide) (by decide) (by decide) (by decide) g4 g11 w M.laid (M.get 3 rfl) (M.ne0 3 rfl) (nodup_at M.nodup (i := 10) (j := 3) rfl rfl (by decide)) (M.cell 10 rfl (by decide) rfl) (M.cell 10 rfl (by decide) rfl) (M.cell 10 rfl (by decide) rfl) (M.cell 10 rfl (by decide) rfl)) fun u28 M => ?_
  replace M := M.nf
  refine nT <| au_then <| wp_seq ?_
  refine rg_held M [⟨g1, .cells (av 8 (w32 x)) 155⟩, ⟨g2, .cells (av 8 (w32 (fun _ => 0))) 155⟩, ⟨g3, .cells (av 16 (w32 (wo rs n))) 148⟩, ⟨g5, .cells (av 16 (ow j)) 214⟩, ⟨g6, .cells (av 4 (wi (r4 0 4 8 12))) 3⟩, ⟨g7, .cells (av 4 (wi (r4 1 5 9 13))) 3⟩, ⟨g8, .cells (av 4 (wi (r4 2 6 10 14))) 3⟩, ⟨g9, .cells (av 4 (wi (r4 3 7 11 15))) 3⟩, ⟨g10, .cells (av 4 (wi (r4 0 5 10 15))) 3⟩, ⟨g11, .cells (av 4 (wi (r4 1 6 11 12))) 3⟩] 10 rfl (by kernel_rfl) (by kernel_rfl) (fun _ _ d _ _ h => by cases d <;> exact h) fun u29 M => ?_
  replace M := M.nf
  refine qV (M.drop (.cons_cons _ (.cons_cons _ (.cons_cons _ (.cons _ (.cons_cons _ (.cons_cons _ (.cons_cons _ (.cons_cons _ (.cons_cons _ (.cons_cons _ (.cons_cons _ (.slnil))))))))))))) 0 92 (.func (.func 156) #[] #[.pointer (some ⟨g4, 0, none⟩)]) ?_
  refine qV (M.drop (.cons_cons _ (.cons_cons _ (.cons_cons _ (.cons _ (.cons_cons _ (.cons_cons _ (.cons_cons _ (.cons_cons _ (.cons_cons _ (.cons_cons _ (.cons_cons _ (.slnil))))))))))))) 1 93 (.pointer (some ⟨g5, 12, none⟩)) ?_
  refine hl_cell (M.drop (.cons_cons _ (.cons_cons _ (.cons_cons _ (.cons _ (.cons_cons _ (.cons_cons _ (.cons_cons _ (.cons_cons _ (.cons_cons _ (.cons_cons _ (.cons_cons _ (.slnil))))))))))))) 2 rfl (by decide) (by kernel_rfl) (by kernel_rfl) (want_no rfl) (some 94) rfl 5 _ rfl g5 12 (by kernel_rfl) (.int .u8 (OF (j * 16 + 12) : Int)) (fun _ => by kernel_rfl) (fun w M => M.cell 3 rfl (by decide) rfl) ?_
  refine hl_val (M.drop (.cons_cons _ (.cons_cons _ (.cons_cons _ (.cons _ (.cons_cons _ (.cons_cons _ (.cons_cons _ (.cons_cons _ (.cons_cons _ (.cons_cons _ (.cons_cons _ (.slnil))))))))))))) 3 rfl (by decide) (by kernel_rfl) (by kernel_rfl) (want_no rfl) (some 95) rfl (.pointer (some ⟨g3, (OF (j * 16 + 12)), none⟩)) (fun w _ => (run_ix1 148 16 91 Tryz.underlying148 inz91 _ _ rfl g3 (by kernel_rfl) .u8 (OF (j * 16 + 12)) (by kernel_rfl) (OF_lt _)) w) ?_
  refine hl_cell (M.drop (.cons_cons _ (.cons_cons _ (.cons_cons _ (.cons _ (.cons_cons _ (.cons_cons _ (.cons_cons _ (.cons_cons _ (.cons_cons _ (.cons_cons _ (.cons_cons _ (.slnil))))))))))))) 4 rfl (by decide) (by kernel_rfl) (by kernel_rfl) (want_no rfl) (some 96) rfl 91 _ rfl g3 (OF (j * 16 + 12)) (by kernel_rfl) (.int .u32 ((wo rs n) (OF (j * 16 + 12)))) (fun _ => by kernel_rfl) (fun w M => M.cell 2 rfl (OF_lt _) rfl) ?_
  refine qV (M.drop (.cons_cons _ (.cons_cons _ (.cons_cons _ (.cons _ (.cons_cons _ (.cons_cons _ (.cons_cons _ (.cons_cons _ (.cons_cons _ (.cons_cons _ (.cons_cons _ (.slnil))))))))))))) 5 97 (.pointer (some ⟨g5, 13, none⟩)) ?_
  refine hl_cell (M.drop (.cons_cons _ (.cons_cons _ (.cons_cons _ (.cons _ (.cons_cons _ (.cons_cons _ (.cons_cons _ (.cons_cons _ (.cons_cons _ (.cons_cons _ (.cons_cons _ (.slnil))))))))))))) 6 rfl (by decide) (by kernel_rfl) (by kernel_rfl) (want_no rfl) (some 98) rfl 5 _ rfl g5 13 (by kernel_rfl) (.int .u8 (OF (j * 16 + 13) : Int)) (fun _ => by kernel_rfl) (fun w M => M.cell 3 rfl (by decide) rfl) ?_
  refine hl_val (M.drop (.cons_cons _ (.cons_cons _ (.cons_cons _ (.cons _ (.cons_cons _ (.cons_cons _ (.cons_cons _ (.cons_cons _ (.cons_cons _ (.cons_cons _ (.cons_cons _ (.slnil))))))))))))) 7 rfl (by decide) (by kernel_rfl) (by kernel_rfl) (want_no rfl) (some 99) rfl (.pointer (some ⟨g3, (OF (j * 16 + 13)), none⟩)) (fun w _ => (run_ix1 148 16 91 Tryz.underlying148 inz91 _ _ rfl g3 (by kernel_rfl) .u8 (OF (j * 16 + 13)) (by kernel_rfl) (OF_lt _)) w) ?_
  refine hl_cell (M.drop (.cons_cons _ (.cons_cons _ (.cons_cons _ (.cons _ (.cons_cons _ (.cons_cons _ (.cons_cons _ (.cons_cons _ (.cons_cons _ (.cons_cons _ (.cons_cons _ (.slnil))))))))))))) 8 rfl (by decide) (by kernel_rfl) (by kernel_rfl) (want_no rfl) (some 100) rfl 91 _ rfl g3 (OF (j * 16 + 13)) (by kernel_rfl) (.int .u32 ((wo rs n) (OF (j * 16 + 13)))) (fun _ => by kernel_rfl) (fun w M => M.cell 2 rfl (OF_lt _) rfl) ?_
  refine hl_one 9 (by decide) (by kernel_rfl) rfl ?_
  refine ZM M 101 (fun g12 => .slice (some ⟨g12, 0, none⟩) 4 4) (.cells (av 4 (wi (r4 2 7 8 13))) 3) fun g12 u30 M => ?_
  replace M := M.nf
  refine nT ?_
  refine ⟨(M.drop (.cons_cons _ (.cons_cons _ (.cons_cons _ (.cons _ (.cons_cons _ (.cons_cons _ (.cons_cons _ (.cons_cons _ (.cons_cons _ (.cons_cons _ (.cons_cons _ (.cons _ (.slnil)))))))))))))), ?_⟩
  refine hl_end (by kernel_rfl) (by kernel_rfl) rfl ?_
  refine pl_callp M (want_no rfl) (some 102) rfl 156 #[.int .u32 ((wo rs n) (OF (j * 16 + 12))), .int .u32 ((wo rs n) (OF (j * 16 + 13))), .slice (some ⟨g12, 0, none⟩) 4 4, .pointer (some ⟨g4, 0, none⟩)] (.tuple #[]) 3 g4 (.cells (av 16 (w32 (rn6 (wo rs n) (rd (wo rs n) (spr x ct last) j) j))) 148) (.cells (av 16 (w32 (rn7 (wo rs n) (rd (wo rs n) (spr x ct last) j) j))) 148) rfl (fun _ => by kernel_rfl) (fun w M => c_mix (rn6 (wo rs n) (rd (wo rs n) (spr x ct last) j) j) _ _ 2 7 8 13 (by decide) (by decide) (by decide) (by decide) g4 g12 w M.laid (M.get 3 rfl) (M.ne0 3 rfl) (nodup_at M.nodup (i := 11) (j := 3) rfl rfl (by decide)) (M.cell 11 rfl (by decide) rfl) (M.cell 11 rfl (by decide) rfl) (M.cell 11 rfl (by decide) rfl) (M.cell 11 rfl (by decide) rfl)) fun u31 M => ?_
  replace M := M.nf
  refine nT <| au_then ?_
  refine rg_held M [⟨g1, .cells (av 8 (w32 x)) 155⟩, ⟨g2, .cells (av 8 (w32 (fun _ => 0))) 155⟩, ⟨g3, .cells (av 16 (w32 (wo rs n))) 148⟩, ⟨g5, .cells (av 16 (ow j)) 214⟩, ⟨g6, .cells (av 4 (wi (r4 0 4 8 12))) 3⟩, ⟨g7, .cells (av 4 (wi (r4 1 5 9 13))) 3⟩, ⟨g8, .cells (av 4 (wi (r4 2 6 10 14))) 3⟩, ⟨g9, .cells (av 4 (wi (r4 3 7 11 15))) 3⟩, ⟨g10, .cells (av 4 (wi (r4 0 5 10 15))) 3⟩, ⟨g11, .cells (av 4 (wi (r4 1 6 11 12))) 3⟩, ⟨g12, .cells (av 4 (wi (r4 2 7 8 13))) 3⟩] 10 rfl (by kernel_rfl) (by kernel_rfl) (fun _ _ d _ _ h => by cases d <;> exact h) fun u32 M => ?_
  replace M := M.nf
  refine qV (M.drop (.cons_cons _ (.cons_cons _ (.cons_cons _ (.cons _ (.cons_cons _ (.cons_cons _ (.cons_cons _ (.cons_cons _ (.cons_cons _ (.cons_cons _ (.cons_cons _ (.cons_cons _ (.slnil)))))))))))))) 0 103 (.func (.func 156) #[] #[.pointer (some ⟨g4, 0, none⟩)]) ?_
  refine qV (M.drop (.cons_cons _ (.cons_cons _ (.cons_cons _ (.cons _ (.cons_cons _ (.cons_cons _ (.cons_cons _ (.cons_cons _ (.cons_cons _ (.cons_cons _ (.cons_cons _ (.cons_cons _ (.slnil)))))))))))))) 1 104 (.pointer (some ⟨g5, 14, none⟩)) ?_
  refine hl_cell (M.drop (.cons_cons _ (.cons_cons _ (.cons_cons _ (.cons _ (.cons_cons _ (.cons_cons _ (.cons_cons _ (.cons_cons _ (.cons_cons _ (.cons_cons _ (.cons_cons _ (.cons_cons _ (.slnil)))))))))))))) 2 rfl (by decide) (by kernel_rfl) (by kernel_rfl) (want_no rfl) (some 105) rfl 5 _ rfl g5 14 (by kernel_rfl) (.int .u8 (OF (j * 16 + 14) : Int)) (fun _ => by kernel_rfl) (fun w M => M.cell 3 rfl (by decide) rfl) ?_
  refine hl_val (M.drop (.cons_cons _ (.cons_cons _ (.cons_cons _ (.cons _ (.cons_cons _ (.cons_cons _ (.cons_cons _ (.cons_cons _ (.cons_cons _ (.cons_cons _ (.cons_cons _ (.cons_cons _ (.slnil)))))))))))))) 3 rfl (by decide) (by kernel_rfl) (by kernel_rfl) (want_no rfl) (some 106) rfl (.pointer (some ⟨g3, (OF (j * 16 + 14)), none⟩)) (fun w _ => (run_ix1 148 16 91 Tryz.underlying148 inz91 _ _ rfl g3 (by kernel_rfl) .u8 (OF (j * 16 + 14)) (by kernel_rfl) (OF_lt _)) w) ?_
  refine hl_cell (M.drop (.cons_cons _ (.cons_cons _ (.cons_cons _ (.cons _ (.cons_cons _ (.cons_cons _ (.cons_cons _ (.cons_cons _ (.cons_cons _ (.cons_cons _ (.cons_cons _ (.cons_cons _ (.slnil)))))))))))))) 4 rfl (by decide) (by kernel_rfl) (by kernel_rfl) (want_no rfl) (some 107) rfl 91 _ rfl g3 (OF (j * 16 + 14)) (by kernel_rfl) (.int .u32 ((wo rs n) (OF (j * 16 + 14)))) (fun _ => by kernel_rfl) (fun w M => M.cell 2 rfl (OF_lt _) rfl) ?_
  refine qV (M.drop (.cons_cons _ (.cons_cons _ (.cons_cons _ (.cons _ (.cons_cons _ (.cons_cons _ (.cons_cons _ (.cons_cons _ (.cons_cons _ (.cons_cons _ (.cons_cons _ (.cons_cons _ (.slnil)))))))))))))) 5 108 (.pointer (some ⟨g5, 15, none⟩)) ?_
  refine hl_cell (M.drop (.cons_cons _ (.cons_cons _ (.cons_cons _ (.cons _ (.cons_cons _ (.cons_cons _ (.cons_cons _ (.cons_cons _ (.cons_cons _ (.cons_cons _ (.cons_cons _ (.cons_cons _ (.slnil)))))))))))))) 6 rfl (by decide) (by kernel_rfl) (by kernel_rfl) (want_no rfl) (some 109) rfl 5 _ rfl g5 15 (by kernel_rfl) (.int .u8 (OF (j * 16 + 15) : Int)) (fun _ => by kernel_rfl) (fun w M => M.cell 3 rfl (by decide) rfl) ?_
  refine hl_val (M.drop (.cons_cons _ (.cons_cons _ (.cons_cons _ (.cons _ (.cons_cons _ (.cons_cons _ (.cons_cons _ (.cons_cons _ (.cons_cons _ (.cons_cons _ (.cons_cons _ (.cons_cons _ (.slnil)))))))))))))) 7 rfl (by decide) (by kernel_rfl) (by kernel_rfl) (want_no rfl) (some 110) rfl (.pointer (some ⟨g3, (OF (j * 16 + 15)), none⟩)) (fun w _ => (run_ix1 148 16 91 Tryz.underlying148 inz91 _ _ rfl g3 (by kernel_rfl) .u8 (OF (j * 16 + 15)) (by kernel_rfl) (OF_lt _)) w) ?_
  refine hl_cell (M.drop (.cons_cons _ (.cons_cons _ (.cons_cons _ (.cons _ (.cons_cons _ (.cons_cons _ (.cons_cons _ (.cons_cons _ (.cons_cons _ (.cons_cons _ (.cons_cons _ (.cons_cons _ (.slnil)))))))))))))) 8 rfl (by decide) (by kernel_rfl) (by kernel_rfl) (want_no rfl) (some 111) rfl 91 _ rfl g3 (OF (j * 16 + 15)) (by kernel_rfl) (.int .u32 ((wo rs n) (OF (j * 16 + 15)))) (fun _ => by kernel_rfl) (fun w M => M.cell 2 rfl (OF_lt _) rfl) ?_
  refine hl_one 9 (by decide) (by kernel_rfl) rfl ?_
  refine ZM M 112 (fun g13 => .slice (some ⟨g13, 0, none⟩) 4 4) (.cells (av 4 (wi (r4 3 4 9 14))) 3) fun g13 u33 M => ?_
  replace M := M.nf
  refine nT ?_
  refine ⟨(M.drop (.cons_cons _ (.cons_cons _ (.cons_cons _ (.cons _ (.cons_cons _ (.cons_cons _ (.cons_cons _ (.cons_cons _ (.cons_cons _ (.cons_cons _ (.cons_cons _ (.cons_cons _ (.cons _ (.slnil))))))))))))))), ?_⟩
  refine hl_end (by kernel_rfl) (by kernel_rfl) rfl ?_
  refine pl_callp M (want_no rfl) (some 113) rfl 156 #[.int .u32 ((wo rs n) (OF (j * 16 + 14))), .int .u32 ((wo rs n) (OF (j * 16 + 15))), .slice (some ⟨g13, 0, none⟩) 4 4, .pointer (some ⟨g4, 0, none⟩)] (.tuple #[]) 3 g4 (.cells (av 16 (w32 (rn7 (wo rs n) (rd (wo rs n) (spr x ct last) j) j))) 148) (.cells (av 16 (w32 (rn8 (wo rs n) (rd (wo rs n) (spr x ct last) j) j))) 148) rfl (fun _ => by kernel_rfl) (fun w M => c_mix (rn7 (wo rs n) (rd (wo rs n) (spr x ct last) j) j) _ _ 3 4 9 14 (by decide) (by decide) (by decide) (by decide) g4 g13 w M.laid (M.get 3 rfl) (M.ne0 3 rfl) (nodup_at M.nodup (i := 12) (j := 3) rfl rfl (by decide)) (M.cell 12 rfl (by decide) rfl) (M.cell 12 rfl (by decide) rfl) (M.cell 12 rfl (by decide) rfl) (M.cell 12 rfl (by decide) rfl)) fun u34 M => ?_
  replace M := M.nf
  refine nT ?_
  refine au_block ?_
  refine au_then ?_
  refine rg_lit ?_
  refine ZI 114 ((j : Int) + 1) ((j + 1 : Nat) : Int) ?_
  refine rV 1 <| nT ?_
  exact ⟨fun k_ => ([.pointer (some ⟨g5, 0, none⟩), undef, undef, undef, undef, undef, undef, undef, undef, undef, undef, .bool true, .agg (av 16 (ow j)), .func (.func 156) #[] #[.pointer (some ⟨g4, 0, none⟩)], .pointer (some ⟨g5, 0, none⟩), .int .u8 (OF (j * 16 + 0) : Int), .pointer (some ⟨g3, (OF (j * 16 + 0)), none⟩), .int .u32 ((wo rs n) (OF (j * 16 + 0))), .pointer (some ⟨g5, 1, none⟩), .int .u8 (OF (j * 16 + 1) : Int), .pointer (some ⟨g3, (OF (j * 16 + 1)), none⟩), .int .u32 ((wo rs n) (OF (j * 16 + 1))), .slice (some ⟨g6, 0, none⟩) 4 4, .tuple #[], .func (.func 156) #[] #[.pointer (some ⟨g4, 0, none⟩)], .pointer (some ⟨g5, 2, none⟩), .int .u8 (OF (j * 16 + 2) : Int), .pointer (some ⟨g3, (OF (j * 16 + 2)), none⟩), .int .u32 ((wo rs n) (OF (j * 16 + 2))), .pointer (some ⟨g5, 3, none⟩), .int .u8 (OF (j * 16 + 3) : Int), .pointer (some ⟨g3, (OF (j * 16 + 3)), none⟩), .int .u32 ((wo rs n) (OF (j * 16 + 3))), .slice (some ⟨g7, 0, none⟩) 4 4, .tuple #[], .func (.func 156) #[] #[.pointer (some ⟨g4, 0, none⟩)], .pointer (some ⟨g5, 4, none⟩), .int .u8 (OF (j * 16 + 4) : Int), .pointer (some ⟨g3, (OF (j * 16 + 4)), none⟩), .int .u32 ((wo rs n) (OF (j * 16 + 4))), .pointer (some ⟨g5, 5, none⟩), .int .u8 (OF (j * 16 + 5) : Int), .pointer (some ⟨g3, (OF (j * 16 + 5)), none⟩), .int .u32 ((wo rs n) (OF (j * 16 + 5))), .slice (some ⟨g8, 0, none⟩) 4 4, .tuple #[], .func (.func 156) #[] #[.pointer (some ⟨g4, 0, none⟩)], .pointer (some ⟨g5, 6, none⟩), .int .u8 (OF (j * 16 + 6) : Int), .pointer (some ⟨g3, (OF (j * 16 + 6)), none⟩), .int .u32 ((wo rs n) (OF (j * 16 + 6))), .pointer (some ⟨g5, 7, none⟩), .int .u8 (OF (j * 16 + 7) : Int), .pointer (some ⟨g3, (OF (j * 16 + 7)), none⟩), .int .u32 ((wo rs n) (OF (j * 16 + 7))), .slice (some ⟨g9, 0, none⟩) 4 4, .tuple #[], .func (.func 156) #[] #[.pointer (some ⟨g4, 0, none⟩)], .pointer (some ⟨g5, 8, none⟩), .int .u8 (OF (j * 16 + 8) : Int), .pointer (some ⟨g3, (OF (j * 16 + 8)), none⟩), .int .u32 ((wo rs n) (OF (j * 16 + 8))), .pointer (some ⟨g5, 9, none⟩), .int .u8 (OF (j * 16 + 9) : Int), .pointer (some ⟨g3, (OF (j * 16 + 9)), none⟩), .int .u32 ((wo rs n) (OF (j * 16 + 9))), .slice (some ⟨g10, 0, none⟩) 4 4, .tuple #[], .func (.func 156) #[] #[.pointer (some ⟨g4, 0, none⟩)], .pointer (some ⟨g5, 10, none⟩), .int .u8 (OF (j * 16 + 10) : Int), .pointer (some ⟨g3, (OF (j * 16 + 10)), none⟩), .int .u32 ((wo rs n) (OF (j * 16 + 10))), .pointer (some ⟨g5, 11, none⟩), .int .u8 (OF (j * 16 + 11) : Int), .pointer (some ⟨g3, (OF (j * 16 + 11)), none⟩), .int .u32 ((wo rs n) (OF (j * 16 + 11))), .slice (some ⟨g11, 0, none⟩) 4 4, .tuple #[], .func (.func 156) #[] #[.pointer (some ⟨g4, 0, none⟩)], .pointer (some ⟨g5, 12, none⟩), .int .u8 (OF (j * 16 + 12) : Int), .pointer (some ⟨g3, (OF (j * 16 + 12)), none⟩), .int .u32 ((wo rs n) (OF (j * 16 + 12))), .pointer (some ⟨g5, 13, none⟩), .int .u8 (OF (j * 16 + 13) : Int), .pointer (some ⟨g3, (OF (j * 16 + 13)), none⟩), .int .u32 ((wo rs n) (OF (j * 16 + 13))), .slice (some ⟨g12, 0, none⟩) 4 4, .tuple #[], .func (.func 156) #[] #[.pointer (some ⟨g4, 0, none⟩)], .pointer (some ⟨g5, 14, none⟩), .int .u8 (OF (j * 16 + 14) : Int), .pointer (some ⟨g3, (OF (j * 16 + 14)), none⟩), .int .u32 ((wo rs n) (OF (j * 16 + 14))), .pointer (some ⟨g5, 15, none⟩), .int .u8 (OF (j * 16 + 15) : Int), .pointer (some ⟨g3, (OF (j * 16 + 15)), none⟩), .int .u32 ((wo rs n) (OF (j * 16 + 15))), .slice (some ⟨g13, 0, none⟩) 4 4, .tuple #[], .int .i64 ((j + 1 : Nat) : Int)] : List Value).getD (k_ - 13) undef, by kernel_rfl, M.drop (.cons_cons _ (.cons_cons _ (.cons_cons _ (.cons_cons _ (.cons _ (.cons _ (.cons _ (.cons _ (.cons _ (.cons _ (.cons _ (.cons _ (.cons _ (.slnil))))))))))))))⟩
 ·intro a u0 hI
  obtain ⟨v1, rfl, M⟩ := hI
  refine sR ?_
  refine ZF 24 (10 < 10) ?_
  refine nT <| wp_seq <| cF ?_
  refine wp_exit ?_
  refine au_then_exit ?_
  refine au_then_exit ?_
  refine au_block_exit ?_
  refine au_then <| wp_seq <| sq ?_
  refine wp_block ?_
  refine au_loop (fun j a w' => ∃ v2 : Nat → Value, a = (fm ([.agg (av 8 (w32 x)), .slice (some ⟨g, 0, none⟩) n cap, .int .u64 ct, .bool (last), .pointer (some ⟨g1, 0, none⟩)] ++ und 3 ++ [.pointer (some ⟨g2, 0, none⟩), .pointer (some ⟨g3, 0, none⟩), .pointer (some ⟨g4, 0, none⟩), .func (.func 156) #[] #[.pointer (some ⟨g4, 0, none⟩)], undef, v1 13, v2 14, .slice (some ⟨g, 0, none⟩) n cap, .agg (av 16 (w32 (wo rs n))), .agg (av 8 (w32 x)), .int .u64 ct, .bool (last), .agg (av 16 (w32 (spr x ct last))), .func (.func 156) #[] #[.pointer (some ⟨g4, 0, none⟩)], .agg (av 160 (w8 fun i => (OF i : Int))), .int .i64 (10 : Int), .bool false] ++ vr v1 25 90 ++ [.int .i64 (j : Int)] ++ vr v2 116 16 ++ [undef])) ∧ Mem ⟨w, []⟩ [⟨g1, .cells (av 8 (w32 (ad x (rd (wo rs n) (spr x ct last) 10) j))) 155⟩, ⟨g2, .cells (av 8 (w32 (fun _ => 0))) 155⟩, ⟨g3, .cells (av 16 (w32 (wo rs n))) 148⟩, ⟨g4, .cells (av 16 (w32 (rd (wo rs n) (spr x ct last) 10))) 148⟩] w') 8 (exS M) ?_ ?_
  ·intro j a u0 hj hI
   obtain ⟨v2, rfl, M⟩ := hI
   refine sR ?_
   refine ZT 116 ((j : Int) < 8) ?_
   refine nT <| wp_seq <| cT <| wp_skip <| au_then ?_
   refine wp_seq ?_
   refine wp_block ?_
   refine sq ?_
   refine rg_tail M 13 (by kernel_rfl) (by kernel_rfl) ?_
   simp only [List.take_succ_cons, List.take_zero]
   refine kR 1 ?_
   refine eX 119 .i64 g1 (j) 8 ?_
   refine eE M 120 0 j ?_
   refine kR 1 ?_
   refine eX 122 .i64 g4 (j) 16 ?_
   refine eE M 123 3 j ?_
   refine kR 1 ?_
   refine eI 125 (8 + (j : Int)) ((8 + j : Nat) : Int) ?_
   refine eX 126 .i64 g4 ((8 + j : Nat)) 16 ?_
   refine eE M 127 3 ((8 + j : Nat)) ?_
   refine kR 2 ?_
   refine eX 130 .i64 g1 (j) 8 ?_
   refine kl_nil fun u35 M => ?_
   replace M := M.nf
   refine ZP32 M 0 j (vx ((ad x (rd (wo rs n) (spr x ct last) 10) j) j) (vx ((rd (wo rs n) (spr x ct last) 10) j) ((rd (wo rs n) (spr x ct last) 10) ((8 + j : Nat))))) fun u36 M => ?_
   replace M := M.nf
   refine pl_nil ?_
   refine au_block ?_
   refine au_then ?_
   refine rg_lit ?_
   refine ZI 131 ((j : Int) + 1) ((j + 1 : Nat) : Int) ?_
   refine rV 1 <| nT ?_
   exact exS M
  ·intro a u0 hI
   obtain ⟨v2, rfl, M⟩ := hI
   refine sR ?_
   refine ZF 116 (8 < 8) ?_
   refine nT <| wp_seq <| cF ?_
   refine wp_exit ?_
   refine au_then_exit ?_
   refine au_then_exit ?_
   refine au_block_exit ?_
   refine au_then <| sR ?_
   refine pA M 132 0 8 (w32 (ad x (rd (wo rs n) (spr x ct last) 10) 8)) ?_
   refine ZG M 1 8 (w32 (ad x (rd (wo rs n) (spr x ct last) 10) 8)) fun u37 M => ?_
   replace M := M.nf
   refine nT <| wp_ret ?_
   refine bodyPost_ret (v := .agg (av 8 (w32 (mixV x rs n ct last)))) (Eq.trans (b := .ok (.agg (av 8 (w32 (ad x (rd (wo rs n) (spr x ct last) 10) 8)))) _) (results_cell_row Tryz.results116 _ _ g2 155 (av 8 (w32 (ad x (rd (wo rs n) (spr x ct last) 10) 8))) (0, 0) _ (by kernel_rfl) (M.get 1 rfl) Tryz.underlying155 rfl (by rw [av_size]; exact inz155)) (by rw [ad_av]; rfl)) (by kernel_rfl) ⟨rfl, below_grown M.old⟩
open Go.RowKit
def hF (sz : Int) (ws : Nat → Int) (gw n : Nat) (ct : Int) : Nat → Value := fun i => if i = 0 then .int .i64 sz else if i < 9 then .int .u32 (ws (i - 1)) else if i = 9 then .slice (some ⟨gw, 0, none⟩) n 64 else .int .u64 ct
theorem hF_words (sz : Int) (ws : Nat → Int) (gw n : Nat) (ct : Int) : ∀ j, j < 8 → hF sz ws gw n ct (1 + j) = w32 ws j := fun j hj => by
 unfold hF w32
 rw [if_neg (by omega), if_pos (by omega), show 1 + j - 1 = j by omega]
theorem hF_ext {sz' : Int} {ws' : Nat → Int} {gw n' : Nat} {ct' : Int} (F : Nat → Value) (h0 : F 0 = .int .i64 sz') (hw : ∀ j, j < 8 → F (1 + j) = .int .u32 (ws' j)) (h9 : F 9 = .slice (some ⟨gw, 0, none⟩) n' 64) (h10 : F 10 = .int .u64 ct') : ∀ j, j < 11 → F j = hF sz' ws' gw n' ct' j := fun j hj => by
 unfold hF
 by_cases e0 : j = 0
 ·subst e0
  rw [h0, if_pos rfl]
 ·rw [if_neg e0]
  by_cases e8 : j < 9
  ·have := hw (j - 1) (by omega)
   rw [show 1 + (j - 1) = j by omega] at this
   rw [if_pos e8, this]
  ·rw [if_neg e8]
   by_cases e9 : j = 9
   ·subst e9
    rw [if_pos rfl, h9]
   ·have e10 : j = 10 := by omega
    subst e10
    rw [if_neg e9, h10]
theorem hF_putw (sz : Int) (ws : Nat → Int) (gw n : Nat) (ct : Int) (f : Nat → Int) : ∀ j, j < 11 → (if 1 ≤ j ∧ j < 1 + 8 then w32 f (j - 1) else hF sz ws gw n ct j) = hF sz f gw n ct j :=
 hF_ext (fun j => if 1 ≤ j ∧ j < 1 + 8 then w32 f (j - 1) else hF sz ws gw n ct j) rfl (fun j hj => by
  show (if 1 ≤ 1 + j ∧ 1 + j < 1 + 8 then w32 f (1 + j - 1) else _) = _
  rw [if_pos (by omega), show 1 + j - 1 = j by omega]
  rfl) rfl rfl
theorem hF_put1 (sz : Int) (ws : Nat → Int) (gw n : Nat) (ct : Int) (v : Int) : ∀ j, j < 11 → (if j = 1 then .int .u32 v else hF sz ws gw n ct j) = hF sz (upd ws 0 v) gw n ct j :=
 hF_ext (fun j => if j = 1 then .int .u32 v else hF sz ws gw n ct j) rfl (fun j hj => by
  show (if 1 + j = 1 then _ else hF sz ws gw n ct (1 + j)) = _
  unfold upd
  by_cases e : j = 0
  ·subst e
   rfl
  ·rw [if_neg (by omega), if_neg e, hF_words sz ws gw n ct j hj]
   rfl) rfl rfl
theorem hF_putc (sz : Int) (ws : Nat → Int) (gw n : Nat) (ct : Int) (c' : Int) : ∀ j, j < 11 → (if j = 10 then .int .u64 c' else hF sz ws gw n ct j) = hF sz ws gw n c' j :=
 hF_ext (fun j => if j = 10 then .int .u64 c' else hF sz ws gw n ct j) rfl (fun j hj => by
  show (if 1 + j = 10 then _ else hF sz ws gw n ct (1 + j)) = _
  rw [if_neg (by omega), hF_words sz ws gw n ct j hj]
  rfl) rfl rfl
theorem hF_puts (sz : Int) (ws : Nat → Int) (gw n : Nat) (ct : Int) (n' : Nat) : ∀ j, j < 11 → (if j = 9 then .slice (some ⟨gw, 0, none⟩) n' 64 else hF sz ws gw n ct j) = hF sz ws gw n' ct j :=
 hF_ext (fun j => if j = 9 then .slice (some ⟨gw, 0, none⟩) n' 64 else hF sz ws gw n ct j) rfl (fun j hj => by
  show (if 1 + j = 9 then _ else hF sz ws gw n ct (1 + j)) = _
  rw [if_neg (by omega), hF_words sz ws gw n ct j hj]
  rfl) rfl rfl
def lf (l : List Int) : Nat → Int := fun i => l.getD i 0
theorem vs8_cell (l : List Int) (i : Nat) (h : i < l.length) : (vs8 l)[i]? = some (.int .u8 (lf l i)) := by
 unfold vs8 lf
 rw [List.getElem?_map, List.getD_eq_getElem?_getD, List.getElem?_eq_getElem h]
 rfl
theorem byte_vs8 (s : ByteArray) : byteCells s = vs8 (sb s) := by
 unfold byteCells vs8 sb
 rw [List.map_map]
 rfl
theorem vs8_append (l m : List Int) : vs8 l ++ vs8 m = vs8 (l ++ m) := by simp [vs8]
theorem ua_eq (x y : Int) : ua x y = (x + y) % 18446744073709551616 := by
 unfold ua
 simp [IntKind.wrap, IntKind.signed, IntKind.bits]
theorem cv_u64 (n : Nat) (h : n < 18446744073709551616) : cv .u64 (n : Int) = (n : Int) := by
 unfold cv
 simp [IntKind.wrap, IntKind.signed, IntKind.bits]
 omega
def lo4 (x : Int) : List Int := [cv .u8 x, cv .u8 (sr x 8), cv .u8 (sr x 16), cv .u8 (sr x 24)]
def loI (f : Nat → Int) : Nat → List Int
 | 0 => []
 | j + 1 => loI f j ++ lo4 (f j)
theorem loI_length (f : Nat → Int) : ∀ j, (loI f j).length = 4 * j
 | 0 => rfl
 | j + 1 => by
  unfold loI
  rw [List.length_append, loI_length f j]
  simp [lo4]
  omega
theorem loI_nn (f : Nat → Int) : ∀ j, ∀ x ∈ loI f j, 0 ≤ x ∧ x < 256
 | 0, x, h => by simp [loI] at h
 | j + 1, x, h => by
  unfold loI at h
  rcases List.mem_append.1 h with h | h
  ·exact loI_nn f j x h
  ·simp only [lo4, List.mem_cons, List.not_mem_nil, or_false] at h
   rcases h with rfl | rfl | rfl | rfl <;> exact cv8_nn _
theorem src4 {c : Ctx} {L : List Blk} {w : World} (M : Mem c L w) (i gx Tx : Nat) (a b d e : Int) (hi : L[i]? = some ⟨gx, .cells (av 4 (w8 (r4 a b d e))) Tx⟩) : Src Tryz.prog 1 61 (.slice (some ⟨gx, 0, none⟩) 4 4) 4 (vs8 [a, b, d, e]) w :=
 Src.ofSlice w Tryz.underlying61 ⟨gx, 0, none⟩ 4 4 _ rfl (fun j u hu => by
  rw [add_at, Nat.zero_add]
  have hj : j < 4 := by
   have := (List.getElem?_eq_some_iff.1 hu).1
   simpa [vs8] using this
  rw [cell_av (M.get i hi) hj, ← hu]
  rcases j with _ | _ | _ | _ | j
  ·rfl
  ·rfl
  ·rfl
  ·rfl
  ·omega) (fun u hu => by
  obtain ⟨x, _, rfl⟩ := List.mem_map.1 hu
  rfl)
theorem info5_ex : (Tryz.prog.info? 5).isSome = true := by kernel_rfl
theorem info5_eq : Tryz.prog.info? 5 = some ((Tryz.prog.info? 5).get info5_ex) := (Option.some_get info5_ex).symm
theorem info5_z : ((Tryz.prog.info? 5).get info5_ex).zero = some (.int .u8 0) := by kernel_rfl
theorem c_low (f : Nat → Int) (w : World) (hL : Laid w)  : Cs 117 #[.agg (av 8 (w32 f))] w (.string (bs (loI f 8))) := by
 go_enter Tryz.func117, Tryz.ntmps117
 have M := Mem.start hL
 refine sR ?_
 refine pN M 1 (.cells (av 8 (w32 f)) 155) fun g1 u1 M => ?_
 refine rV 1 <| nT <| sR ?_
 refine pl_make M (want_no rfl) (some 6) rfl 61 5 _ (.int .u8 0) Tryz.underlying61 info5_eq info5_z (by kernel_rfl) (by decide +kernel) _ _ rfl .i64 .i64 (by kernel_rfl) 32 (by kernel_rfl) (by omega) ?_
 intro g2 Zg2 u2 hZ M
 refine rV 1 <| nT <| wp_seq <| sR ?_
 refine pA M 7 0 8 (w32 f) ?_
 refine rV 1 <| nT ?_
 refine wp_block ?_
 refine au_loop (fun j a w' => ∃ (v : Nat → Value) (Z : Obj), a = (fm ([.agg (av 8 (w32 f)), .pointer (some ⟨g1, 0, none⟩), .string ⟨#[]⟩, .slice (some ⟨g2, 0, none⟩) (4 * j) 32, undef, v 5, .slice (some ⟨g2, 0, none⟩) 0 32, .agg (av 8 (w32 f)), .int .i64 (j : Int)] ++ vr v 9 17 ++ [undef, undef])) ∧ SB Z 32 (vs8 (loI f j)) ∧ Mem ⟨w, []⟩ [⟨g1, .cells (av 8 (w32 f)) 155⟩, ⟨g2, Z⟩] w') 8 ⟨fun k_ => ([undef, undef, undef, undef, undef, undef, undef, undef, undef, undef, undef, undef, undef, undef, undef, undef, undef, undef, undef, undef, undef] : List Value).getD (k_ - 5) undef, Zg2, by kernel_rfl, hZ, M⟩ ?_ ?_
 ·intro j a u0 hj hI
  obtain ⟨v, Z, rfl, hZ, M⟩ := hI
  refine sR ?_
  refine ZT 9 ((j : Int) < 8) ?_
  refine nT <| wp_seq <| cT <| wp_skip <| au_then ?_
  refine wp_seq ?_
  refine wp_block ?_
  refine sR ?_
  refine pH 10 (.int .u32 (f (j))) (run_ixA 155 8 91 Tryz.underlying155 inz91 (fun _ => by kernel_rfl) _ _ rfl (w32 f) (by kernel_rfl) .i64 (j) (by kernel_rfl) (by omega) rfl) ?_
  refine rV 1 <| nT ?_
  refine rg_lit ?_
  refine rV 12 ?_
  refine ZM M 23 (fun g3 => .slice (some ⟨g3, 0, none⟩) 4 4) (.cells (av 4 (w8 (r4 (cv .u8 (f j)) (cv .u8 (sr (f j) 8)) (cv .u8 (sr (f j) 16)) (cv .u8 (sr (f j) 24))))) 5) fun g3 u3 M => ?_
  refine pl_appX M (want_no rfl) (some 24) rfl 61 61 61 5 _ Tryz.underlying61 info5_eq (by kernel_rfl) 1 g2 (4 * j) 32 Z (vs8 (loI f j)) rfl hZ (by rw [vs8_length, loI_length]) (.slice (some ⟨g3, 0, none⟩) 4 4) 4 (vs8 (lo4 (f j))) (fun w M => src4 M 2 g3 5 (cv .u8 (f j)) (cv .u8 (sr (f j) 8)) (cv .u8 (sr (f j) 16)) (cv .u8 (sr (f j) 24)) rfl) rfl (by omega) (fun _ => by kernel_rfl) ?_
  intro Y1 u4 hY M
  rw [vs8_append] at hY
  refine rV 1 ?_
  refine pl_nil ?_
  refine au_block ?_
  refine au_then ?_
  refine rg_lit ?_
  refine ZI 25 ((j : Int) + 1) ((j + 1 : Nat) : Int) ?_
  refine rV 1 <| nT ?_
  exact ⟨fun k_ => ([.int .u32 (f (j)), undef, undef, undef, .bool true, .int .u32 (f (j)), .slice (some ⟨g2, 0, none⟩) (4 * j) 32, .int .u32 (f (j)), .int .u8 (cv .u8 (f (j))), .int .u32 (f (j)), .int .u32 (sr (f (j)) 8), .int .u8 (cv .u8 (sr (f (j)) 8)), .int .u32 (f (j)), .int .u32 (sr (f (j)) 16), .int .u8 (cv .u8 (sr (f (j)) 16)), .int .u32 (f (j)), .int .u32 (sr (f (j)) 24), .int .u8 (cv .u8 (sr (f (j)) 24)), .slice (some ⟨g3, 0, none⟩) 4 4, .slice (some ⟨g2, 0, none⟩) (4 * j + 4) 32, .int .i64 ((j + 1 : Nat) : Int)] : List Value).getD (k_ - 5) undef, Y1, by kernel_rfl, hY, M.drop (.cons_cons _ (.cons_cons _ (.cons _ .slnil)))⟩
 ·intro a u0 hI
  obtain ⟨v, Z, rfl, hZ, M⟩ := hI
  refine sq <| wp_seq <| cF ?_
  refine wp_exit ?_
  refine au_then_exit ?_
  refine au_then_exit ?_
  refine au_block_exit ?_
  refine au_then <| sR <| rV 1 ?_
  refine pl_back M (want_no rfl) (some 27) rfl _ rfl 1 g2 (4 * 8) 32 (by kernel_rfl) Z rfl (loI f 8) 32 hZ (loI_length f 8) (loI_nn f 8) ?_
  refine rV 1 <| nT <| wp_ret ?_
  exact b1 M
structure HS where
 ws : Nat → Int
 wl : List Int
 ct : Int
structure HS.ok (H : HS) : Prop where
 le : H.wl.length ≤ 64
 nn : ∀ x ∈ H.wl, 0 ≤ x ∧ x < 256
def fl (H : HS) : HS := if H.wl.length = 64 then ⟨mixV H.ws (lf H.wl) H.wl.length (ua H.ct 64) false, [], ua H.ct 64⟩ else H
def ab (H : HS) (b : Int) : HS := ⟨(fl H).ws, (fl H).wl ++ [b], (fl H).ct⟩
def tk (H : HS) (s : ByteArray) : Nat → HS
 | 0 => H
 | k + 1 => ab (tk H s k) (bt s k)
theorem fl_lt (H : HS) (h : H.ok) : (fl H).wl.length < 64 := by
 unfold fl
 split
 ·simp
 ·have := h.le
  omega
theorem fl_ok {H : HS} (h : H.ok) : (fl H).ok := by
 unfold fl
 split
 ·exact ⟨by simp, by simp⟩
 ·exact h
theorem ab_ok {H : HS} (h : H.ok) (b : Int) (hb : 0 ≤ b ∧ b < 256) : (ab H b).ok := by
 have h1 := fl_lt H h
 refine ⟨by show ((fl H).wl ++ [b]).length ≤ 64; simp; omega, fun x hx => ?_⟩
 rcases List.mem_append.1 hx with hx | hx
 ·exact (fl_ok h).nn x hx
 ·rw [List.mem_singleton.1 hx]
  exact hb
theorem tk_ok {H : HS} (h : H.ok) (s : ByteArray) : ∀ k, (tk H s k).ok
 | 0 => h
 | k + 1 => ab_ok (tk_ok h s k) _ (bt_nn s k)
theorem fl_id {H : HS} (h : H.wl.length < 64) : fl H = H := by
 unfold fl
 rw [if_neg (by omega)]
theorem tk_run (H : HS) (s : ByteArray) (k : Nat) : ∀ n, 0 < n → (fl (tk H s k)).wl.length + n ≤ 64 → tk H s (k + n) = ⟨(fl (tk H s k)).ws, (fl (tk H s k)).wl ++ (List.range n).map (fun i => bt s (k + i)), (fl (tk H s k)).ct⟩
 | 0, h, _ => absurd h (by omega)
 | 1, _, _ => rfl
 | n + 2, _, hle => by
  have ih := tk_run H s k (n + 1) (by omega) (by omega)
  show ab (tk H s (k + (n + 1))) (bt s (k + (n + 1))) = _
  unfold ab
  rw [fl_id (by rw [ih]; simp; omega), ih]
  simp only [HS.mk.injEq, true_and, and_true]
  rw [List.append_assoc, List.range_succ (n := n + 1), List.map_append]
  rfl
theorem bt_extract (s : ByteArray) (k : Nat) (i : Nat) : bt (s.extract k s.size) i = bt s (k + i) := by
 unfold bt
 congr 2
 have e : (s.extract k s.size).data[i]? = s.data[k + i]? := by
  have hs : s.data.size = s.size := rfl
  rw [ByteArray.data_extract, Array.getElem?_extract]
  by_cases h : k + i < s.size
  ·rw [if_pos (by omega)]
  ·rw [if_neg (by omega), Array.getElem?_eq_none (by omega)]
 rw [e]
theorem size_extract (s : ByteArray) (k : Nat) : (s.extract k s.size).size = s.size - k := by simp [ByteArray.size_extract]
theorem extract_extract (s : ByteArray) (k q : Nat) (hk : k + q ≤ s.size) : (s.extract k s.size).extract q (s.extract k s.size).size = s.extract (k + q) s.size := by
 have hs : s.size = s.data.size := rfl
 apply ByteArray.ext
 rw [ByteArray.data_extract, ByteArray.data_extract, ByteArray.data_extract, size_extract]
 apply Array.ext_getElem?
 intro i
 rw [Array.getElem?_extract, Array.getElem?_extract, Array.getElem?_extract]
 by_cases h : k + q + i < s.size
 ·rw [if_pos (by simp; omega), if_pos (by omega), if_pos (by omega), Nat.add_assoc]
 ·rw [if_neg (by simp; omega), if_neg (by omega)]
theorem extract_all (s : ByteArray) : s.extract 0 s.size = s := by simp
theorem sb_ext (r : ByteArray) (a b : Nat) (h : b ≤ r.size) : sb (r.extract a b) = (List.range (b - a)).map (fun i => bt r (a + i)) := by
 have hs : r.size = r.data.size := rfl
 apply List.ext_getElem?
 intro i
 unfold sb bt
 rw [List.getElem?_map, Array.getElem?_toList, ByteArray.data_extract, Array.getElem?_extract, List.getElem?_map]
 by_cases hi : i < b - a
 ·rw [if_pos (by omega), List.getElem?_range hi, Array.getElem?_eq_getElem (by omega), Option.map_some, Option.map_some, Array.getElem?_eq_getElem (by omega)]
  rfl
 ·rw [if_neg (by omega), List.getElem?_eq_none (by simp; omega)]
  rfl
theorem c_take (H : HS) (hH : H.ok) (z g gw : Nat) (Z : Obj) (s : ByteArray) (w : World) (hL : Laid w) (hg : w.heap[g]? = some (.cells (av 11 (hF (z : Int) H.ws gw H.wl.length H.ct)) 164)) (h0 : 2 < g) (hk : w.heap[gw]? = some Z) (k0 : 2 < gw) (hne : g ≠ gw) (hZ : SB Z 64 (vs8 H.wl)) :
  Calls Tryz.prog 88 #[.pointer (some ⟨g, 0, none⟩), .string s] w fun r w' => ∃ Y, r = .returned (.tuple #[]) ∧ Grw w w' [g, gw] ∧ w'.heap[g]? = some (.cells (av 11 (hF (z : Int) (tk H s s.size).ws gw (tk H s s.size).wl.length (tk H s s.size).ct)) 164) ∧ w'.heap[gw]? = some Y ∧ SB Y 64 (vs8 (tk H s s.size).wl) := by
 go_enter Tryz.func88, Tryz.ntmps88
 have M := Mem.startp2 hL hg h0 hk k0 hne
 refine wp_block ?_
 refine wp_loop_ghost (fun n a w' => ∃ (v : Nat → Value) (k : Nat) (rem : ByteArray) (Y : Obj), k + n = s.size ∧ rem = s.extract k s.size ∧ a = (fm ([.pointer (some ⟨g, 0, none⟩), .string rem, undef, undef] ++ vr v 4 64)) ∧ SB Y 64 (vs8 (tk H s k).wl) ∧ Mem ⟨w, [g, gw]⟩ [⟨g, .cells (av 11 (hF (z : Int) (tk H s k).ws gw (tk H s k).wl.length (tk H s k).ct)) 164⟩, ⟨gw, Y⟩] w') s.size ⟨fun _ => undef, 0, s, Z, by omega, (extract_all s).symm, by kernel_rfl, hZ, M⟩ ?_
 intro n a u0 hI
 obtain ⟨v, k, rem, Y, hk2, hrem, rfl, hY, M⟩ := hI
 have hsz : rem.size = n := by rw [hrem, size_extract]; omega
 obtain ⟨G, hG⟩ : ∃ G, G = tk H s k := ⟨_, rfl⟩
 have hok : G.ok := by rw [hG]; exact tk_ok hH s k
 rw [← hG] at M hY
 rcases Nat.eq_zero_or_pos n with hn | hn
 ·refine wp_seq <| sR <| rV 2 ?_
  refine ZF 7 ((0 : Int) < (rem.size : Int)) ?_
  refine nT <| cF ?_
  refine wp_exit ?_
  refine au_then_exit ?_
  refine au_then_exit ?_
  refine au_block_exit ?_
  have ek : k = s.size := by omega
  rw [hG, ek] at M hY
  exact bodyPost_end (v := .tuple #[]) (results_none Tryz.results88 _ _) (by kernel_rfl) ⟨Y, rfl, M.old, M.get 0 rfl, M.get 1 rfl, hY⟩
 by_cases hf : G.wl.length = 64
 ·have hfl : fl G = ⟨mixV G.ws (lf G.wl) G.wl.length (ua G.ct 64) false, [], ua G.ct 64⟩ := by unfold fl; rw [if_pos hf]
  obtain ⟨p, hp⟩ : ∃ p, p = 0 := ⟨_, rfl⟩
  have hp1 : p < 64 := by omega
  obtain ⟨q, hq⟩ : ∃ q, q = Nat.min rem.size (64 - p) := ⟨_, rfl⟩
  have hq1 : q ≤ n := by rw [hq, hsz]; exact Nat.min_le_left _ _
  have hq2 : q ≤ 64 - p := by rw [hq]; exact Nat.min_le_right _ _
  have hq3 : 0 < q := by rw [hq, hsz]; exact Nat.lt_min.2 ⟨hn, by omega⟩
  have hmin : (if ((64 - p : Nat) : Int) < (rem.size : Int) then ((64 - p : Nat) : Int) else (rem.size : Int)) = (q : Int) := by
   have hq4 : q = if 64 - p < rem.size then 64 - p else rem.size := by rw [hq]; simp only [Nat.min_def]; split <;> split <;> omega
   rw [hq4]; split <;> split <;> omega
  have hes : (rem.extract 0 q).size = q := by rw [ByteArray.size_extract]; omega
  have hsrc : ∀ w, Src Tryz.prog 1 9 (.string (rem.extract 0 q)) q (byteCells (rem.extract 0 q)) w := fun w => by have h := Src.ofString (P := Tryz.prog) w (tx := 9) Tryz.underlying9 (rem.extract 0 q); rw [hes] at h; exact h
  have hrun := tk_run H s k q hq3 (by rw [← hG, hfl]; show 0 + q ≤ 64; omega)
  rw [← hG, hfl] at hrun
  have hbs : sb (rem.extract 0 q) = (List.range q).map (fun i => bt s (k + i)) := by rw [sb_ext _ _ _ (by omega), Nat.sub_zero]; refine List.map_congr_left fun i _ => ?_; rw [Nat.zero_add, hrem, bt_extract]
  refine wp_seq <| sR <| rV 2 ?_
  refine ZT 7 ((0 : Int) < (rem.size : Int)) ?_
  refine nT <| cT <| wp_skip <| au_then ?_
  refine wp_block ?_
  refine wp_seq <| sR <| rV 3 <| ZE M 11 0 9 <| rV 1 ?_
  refine ZT 13 ((G.wl.length : Int) = 64) ?_
  refine nT <| cT <| sR <| rV 3 <| ZE M 17 0 10 ?_
  refine rV 3 ?_
  refine pP M 0 rfl 10 (.int .u64 (ua G.ct 64)) (hF (z : Int) G.ws gw G.wl.length (ua G.ct 64)) (by decide) (hF_putc (z : Int) G.ws gw G.wl.length G.ct (ua G.ct 64)) fun u1 M => ?_
  refine nT <| wp_seq ?_
  refine rg_tail M 16 (by kernel_rfl) (by kernel_rfl) ?_
  simp only [List.take_succ_cons, List.take_zero]
  refine kR 4 ?_
  refine kL M 25 0 rfl 1 8 (w32 G.ws) (hF_words (z : Int) G.ws gw G.wl.length (ua G.ct 64)) ?_
  refine kR 3 <| eE M 29 0 9 <| kR 3 <| eE M 33 0 10 ?_
  refine eC M 34 (fun w M => c_mixed G.ws (lf G.wl) gw G.wl.length 64 hok.le (ua G.ct 64) false w M.laid (fun i hi => hY.cell (M.get 1 rfl) (vs8_cell G.wl i hi))) ?_
  refine kR 2 ?_
  refine kl_nil fun u2 M => ?_
  refine pl_put M (want_no rfl) rfl 155 _ _ rfl 0 g 1 (by kernel_rfl) 11 164 (hF (z : Int) G.ws gw G.wl.length (ua G.ct 64)) rfl 8 (w32 (mixV G.ws (lf G.wl) G.wl.length (ua G.ct 64) false)) (hF (z : Int) (mixV G.ws (lf G.wl) G.wl.length (ua G.ct 64) false) gw G.wl.length (ua G.ct 64)) (by kernel_rfl) inz155 (by decide) (fun _ _ => rfl) (hF_putw (z : Int) G.ws gw G.wl.length (ua G.ct 64) (mixV G.ws (lf G.wl) G.wl.length (ua G.ct 64) false)) fun u3 M => ?_
  refine nT ?_
  refine rg_lit ?_
  refine rV 4 <| ZE M 41 0 9 <| rV 3 ?_
  refine pP M 0 rfl 9 (.slice (some ⟨gw, 0, none⟩) 0 64) (hF (z : Int) (mixV G.ws (lf G.wl) G.wl.length (ua G.ct 64) false) gw 0 (ua G.ct 64)) (by decide) (hF_puts (z : Int) (mixV G.ws (lf G.wl) G.wl.length (ua G.ct 64) false) gw G.wl.length (ua G.ct 64) 0) fun u4 M => ?_
  refine nT <| sR <| rV 5 <| ZE M 50 0 9 <| rV 1 ?_
  refine ZI 52 (64 - ((0 : Nat) : Int)) ((64 - p : Nat) : Int) ?_
  refine pH 53 (.int .i64 (q : Int)) (fun w => Eq.trans (b := .ok (.value (.int .i64 (if ((64 - p : Nat) : Int) < (rem.size : Int) then ((64 - p : Nat) : Int) else (rem.size : Int)))) w) (by kernel_rfl) (by rw [hmin])) ?_
  refine rV 1 <| nT <| wp_seq ?_
  refine rg_held M [] 11 rfl (by kernel_rfl) (by kernel_rfl) (fun _ _ d _ _ h => by cases d <;> exact h) fun u5 M => ?_
  refine qV (M.drop (.cons _ (.cons _ (.slnil)))) 0 54 (.pointer (some ⟨g, 0, none⟩)) ?_
  refine qV (M.drop (.cons _ (.cons _ (.slnil)))) 1 55 (.pointer (some ⟨g, 0, none⟩)) ?_
  refine qV (M.drop (.cons _ (.cons _ (.slnil)))) 2 56 (.pointer (some ⟨g, 0, none⟩)) ?_
  refine qV (M.drop (.cons _ (.cons _ (.slnil)))) 3 57 (.pointer (some ⟨g, 9, none⟩)) ?_
  refine qV (M.drop (.cons _ (.cons _ (.slnil)))) 5 59 (.string rem) ?_
  refine qV (M.drop (.cons _ (.cons _ (.slnil)))) 6 60 (.int .i64 (q : Int)) ?_
  refine hl_val (M.drop (.cons _ (.cons _ (.slnil)))) 7 rfl (by decide) (by kernel_rfl) (by kernel_rfl) (want_no rfl) (some 61) rfl (.string (rem.extract 0 q)) (fun w _ => (run_strh 9 Tryz.underlying9 _ _ rfl rem (by kernel_rfl) .i64 q (by kernel_rfl) (by omega) _ rfl) w) ?_
  refine hl_one 4 (by decide) (by kernel_rfl) rfl ?_
  refine ZE M 58 0 9 <| nT ?_
  refine ⟨(M.drop (.cons _ (.cons _ (.slnil)))), ?_⟩
  refine hl_one 8 (by decide) (by kernel_rfl) rfl ?_
  refine pl_appX M (want_no rfl) (some 62) rfl 61 9 61 5 _ Tryz.underlying61 info5_eq (by kernel_rfl) 1 gw 0 64 Y (vs8 []) rfl hY.take (vs8_length _) (.string (rem.extract 0 q)) q (byteCells (rem.extract 0 q)) (fun w _ => hsrc w) (by rw [byteCells_length]; exact hes) (by omega) (fun _ => by kernel_rfl) ?_
  intro Y2 u6 hY2 M
  rw [byte_vs8, vs8_append] at hY2
  refine nT ?_
  refine ⟨(M.drop (.cons _ (.cons _ (.slnil)))), ?_⟩
  refine qV (M.drop (.cons _ (.cons _ (.slnil)))) 9 63 (.pointer (some ⟨g, 0, none⟩)) ?_
  refine qV (M.drop (.cons _ (.cons _ (.slnil)))) 10 64 (.pointer (some ⟨g, 9, none⟩)) ?_
  refine hl_end (by kernel_rfl) (by kernel_rfl) rfl ?_
  refine pP M 0 rfl 9 (.slice (some ⟨gw, 0, none⟩) (0 + q) 64) (hF (z : Int) (mixV G.ws (lf G.wl) G.wl.length (ua G.ct 64) false) gw (0 + q) (ua G.ct 64)) (by decide) (hF_puts (z : Int) (mixV G.ws (lf G.wl) G.wl.length (ua G.ct 64) false) gw 0 (ua G.ct 64) (0 + q)) fun u7 M => ?_
  refine nT <| au_then ?_
  refine rg_lit ?_
  refine rV 2 ?_
  refine pH 67 (.string (s.extract (k + q) s.size)) (run_strl 9 Tryz.underlying9 _ _ rfl rem (by kernel_rfl) .i64 q (by kernel_rfl) (by omega) _ (by rw [hrem]; exact extract_extract s k q (by omega))) ?_
  refine rV 1 ?_
  refine pl_nil ?_
  refine au_block ?_
  refine au_then ?_
  have E : (hF (z : Int) (mixV G.ws (lf G.wl) G.wl.length (ua G.ct 64) false) gw (0 + q) (ua G.ct 64)) = hF (z : Int) (tk H s (k + q)).ws gw (tk H s (k + q)).wl.length (tk H s (k + q)).ct := by rw [hrun]; simp
  have E2 : ([] ++ sb (rem.extract 0 q)) = (tk H s (k + q)).wl := by rw [hrun, hbs]
  rw [E] at M
  rw [E2] at hY2
  exact ⟨n - q, by omega, fun k_ => ([.int .i64 (q : Int), .string rem, .int .i64 (rem.size : Int), .bool true, .pointer (some ⟨g, 0, none⟩), .pointer (some ⟨g, 0, none⟩), .pointer (some ⟨g, 9, none⟩), .slice (some ⟨gw, 0, none⟩) G.wl.length 64, .int .i64 ((G.wl.length : Nat) : Int), .bool true, .pointer (some ⟨g, 0, none⟩), .pointer (some ⟨g, 0, none⟩), .pointer (some ⟨g, 10, none⟩), .int .u64 G.ct, .int .u64 (ua G.ct 64), .pointer (some ⟨g, 0, none⟩), .pointer (some ⟨g, 10, none⟩), .pointer (some ⟨g, 0, none⟩), .pointer (some ⟨g, 0, none⟩), .pointer (some ⟨g, 0, none⟩), .pointer (some ⟨g, 1, none⟩), .agg (av 8 (w32 G.ws)), .pointer (some ⟨g, 0, none⟩), .pointer (some ⟨g, 0, none⟩), .pointer (some ⟨g, 9, none⟩), .slice (some ⟨gw, 0, none⟩) G.wl.length 64, .pointer (some ⟨g, 0, none⟩), .pointer (some ⟨g, 0, none⟩), .pointer (some ⟨g, 10, none⟩), .int .u64 (ua G.ct 64), .agg (av 8 (w32 (mixV G.ws (lf G.wl) G.wl.length (ua G.ct 64) false))), .pointer (some ⟨g, 0, none⟩), .pointer (some ⟨g, 1, none⟩), .pointer (some ⟨g, 0, none⟩), .pointer (some ⟨g, 0, none⟩), .pointer (some ⟨g, 0, none⟩), .pointer (some ⟨g, 9, none⟩), .slice (some ⟨gw, 0, none⟩) G.wl.length 64, .slice (some ⟨gw, 0, none⟩) 0 64, .pointer (some ⟨g, 0, none⟩), .pointer (some ⟨g, 9, none⟩), .string rem, .int .i64 (rem.size : Int), .pointer (some ⟨g, 0, none⟩), .pointer (some ⟨g, 0, none⟩), .pointer (some ⟨g, 9, none⟩), .slice (some ⟨gw, 0, none⟩) 0 64, .int .i64 (0 : Int), .int .i64 ((64 - p : Nat) : Int), .int .i64 (q : Int), .pointer (some ⟨g, 0, none⟩), .pointer (some ⟨g, 0, none⟩), .pointer (some ⟨g, 0, none⟩), .pointer (some ⟨g, 9, none⟩), .slice (some ⟨gw, 0, none⟩) 0 64, .string rem, .int .i64 (q : Int), .string (rem.extract 0 q), .slice (some ⟨gw, 0, none⟩) (0 + q) 64, .pointer (some ⟨g, 0, none⟩), .pointer (some ⟨g, 9, none⟩), .string rem, .int .i64 (q : Int), .string (s.extract (k + q) s.size)] : List Value).getD (k_ - 4) undef, k + q, s.extract (k + q) s.size, Y2, by omega, rfl, by kernel_rfl, hY2, M⟩
 ·have hfl : fl G = G := fl_id (by have := hok.le; omega)
  obtain ⟨p, hp⟩ : ∃ p, p = G.wl.length := ⟨_, rfl⟩
  have hlt := hok.le
  have hp1 : p < 64 := by omega
  obtain ⟨q, hq⟩ : ∃ q, q = Nat.min rem.size (64 - p) := ⟨_, rfl⟩
  have hq1 : q ≤ n := by rw [hq, hsz]; exact Nat.min_le_left _ _
  have hq2 : q ≤ 64 - p := by rw [hq]; exact Nat.min_le_right _ _
  have hq3 : 0 < q := by rw [hq, hsz]; exact Nat.lt_min.2 ⟨hn, by omega⟩
  have hmin : (if ((64 - p : Nat) : Int) < (rem.size : Int) then ((64 - p : Nat) : Int) else (rem.size : Int)) = (q : Int) := by
   have hq4 : q = if 64 - p < rem.size then 64 - p else rem.size := by rw [hq]; simp only [Nat.min_def]; split <;> split <;> omega
   rw [hq4]; split <;> split <;> omega
  have hes : (rem.extract 0 q).size = q := by rw [ByteArray.size_extract]; omega
  have hsrc : ∀ w, Src Tryz.prog 1 9 (.string (rem.extract 0 q)) q (byteCells (rem.extract 0 q)) w := fun w => by have h := Src.ofString (P := Tryz.prog) w (tx := 9) Tryz.underlying9 (rem.extract 0 q); rw [hes] at h; exact h
  have hrun := tk_run H s k q hq3 (by rw [← hG, hfl]; show G.wl.length + q ≤ 64; omega)
  rw [← hG, hfl] at hrun
  have hbs : sb (rem.extract 0 q) = (List.range q).map (fun i => bt s (k + i)) := by rw [sb_ext _ _ _ (by omega), Nat.sub_zero]; refine List.map_congr_left fun i _ => ?_; rw [Nat.zero_add, hrem, bt_extract]
  refine wp_seq <| sR <| rV 2 ?_
  refine ZT 7 ((0 : Int) < (rem.size : Int)) ?_
  refine nT <| cT <| wp_skip <| au_then ?_
  refine wp_block ?_
  refine wp_seq <| sR <| rV 3 <| ZE M 11 0 9 <| rV 1 ?_
  refine ZF 13 ((G.wl.length : Int) = 64) ?_
  refine nT <| cF <| wp_skip <| au_then <| sR ?_
  refine rV 5 <| ZE M 50 0 9 <| rV 1 ?_
  refine ZI 52 (64 - (G.wl.length : Int)) ((64 - p : Nat) : Int) ?_
  refine pH 53 (.int .i64 (q : Int)) (fun w => Eq.trans (b := .ok (.value (.int .i64 (if ((64 - p : Nat) : Int) < (rem.size : Int) then ((64 - p : Nat) : Int) else (rem.size : Int)))) w) (by kernel_rfl) (by rw [hmin])) ?_
  refine rV 1 <| nT <| wp_seq ?_
  refine rg_held M [] 11 rfl (by kernel_rfl) (by kernel_rfl) (fun _ _ d _ _ h => by cases d <;> exact h) fun u8 M => ?_
  refine qV (M.drop (.cons _ (.cons _ (.slnil)))) 0 54 (.pointer (some ⟨g, 0, none⟩)) ?_
  refine qV (M.drop (.cons _ (.cons _ (.slnil)))) 1 55 (.pointer (some ⟨g, 0, none⟩)) ?_
  refine qV (M.drop (.cons _ (.cons _ (.slnil)))) 2 56 (.pointer (some ⟨g, 0, none⟩)) ?_
  refine qV (M.drop (.cons _ (.cons _ (.slnil)))) 3 57 (.pointer (some ⟨g, 9, none⟩)) ?_
  refine qV (M.drop (.cons _ (.cons _ (.slnil)))) 5 59 (.string rem) ?_
  refine qV (M.drop (.cons _ (.cons _ (.slnil)))) 6 60 (.int .i64 (q : Int)) ?_
  refine hl_val (M.drop (.cons _ (.cons _ (.slnil)))) 7 rfl (by decide) (by kernel_rfl) (by kernel_rfl) (want_no rfl) (some 61) rfl (.string (rem.extract 0 q)) (fun w _ => (run_strh 9 Tryz.underlying9 _ _ rfl rem (by kernel_rfl) .i64 q (by kernel_rfl) (by omega) _ rfl) w) ?_
  refine hl_one 4 (by decide) (by kernel_rfl) rfl ?_
  refine ZE M 58 0 9 <| nT ?_
  refine ⟨(M.drop (.cons _ (.cons _ (.slnil)))), ?_⟩
  refine hl_one 8 (by decide) (by kernel_rfl) rfl ?_
  refine pl_appX M (want_no rfl) (some 62) rfl 61 9 61 5 _ Tryz.underlying61 info5_eq (by kernel_rfl) 1 gw G.wl.length 64 Y (vs8 G.wl) rfl hY (vs8_length _) (.string (rem.extract 0 q)) q (byteCells (rem.extract 0 q)) (fun w _ => hsrc w) (by rw [byteCells_length]; exact hes) (by omega) (fun _ => by kernel_rfl) ?_
  intro Y2 u9 hY2 M
  rw [byte_vs8, vs8_append] at hY2
  refine nT ?_
  refine ⟨(M.drop (.cons _ (.cons _ (.slnil)))), ?_⟩
  refine qV (M.drop (.cons _ (.cons _ (.slnil)))) 9 63 (.pointer (some ⟨g, 0, none⟩)) ?_
  refine qV (M.drop (.cons _ (.cons _ (.slnil)))) 10 64 (.pointer (some ⟨g, 9, none⟩)) ?_
  refine hl_end (by kernel_rfl) (by kernel_rfl) rfl ?_
  refine pP M 0 rfl 9 (.slice (some ⟨gw, 0, none⟩) (G.wl.length + q) 64) (hF (z : Int) G.ws gw (G.wl.length + q) G.ct) (by decide) (hF_puts (z : Int) G.ws gw G.wl.length G.ct (G.wl.length + q)) fun u10 M => ?_
  refine nT <| au_then ?_
  refine rg_lit ?_
  refine rV 2 ?_
  refine pH 67 (.string (s.extract (k + q) s.size)) (run_strl 9 Tryz.underlying9 _ _ rfl rem (by kernel_rfl) .i64 q (by kernel_rfl) (by omega) _ (by rw [hrem]; exact extract_extract s k q (by omega))) ?_
  refine rV 1 ?_
  refine pl_nil ?_
  refine au_block ?_
  refine au_then ?_
  have E : (hF (z : Int) G.ws gw (G.wl.length + q) G.ct) = hF (z : Int) (tk H s (k + q)).ws gw (tk H s (k + q)).wl.length (tk H s (k + q)).ct := by rw [hrun]; simp
  have E2 : (G.wl ++ sb (rem.extract 0 q)) = (tk H s (k + q)).wl := by rw [hrun, hbs]
  rw [E] at M
  rw [E2] at hY2
  exact ⟨n - q, by omega, fun k_ => ([.int .i64 (q : Int), .string rem, .int .i64 (rem.size : Int), .bool true, .pointer (some ⟨g, 0, none⟩), .pointer (some ⟨g, 0, none⟩), .pointer (some ⟨g, 9, none⟩), .slice (some ⟨gw, 0, none⟩) G.wl.length 64, .int .i64 ((G.wl.length : Nat) : Int), .bool false, v 14, v 15, v 16, v 17, v 18, v 19, v 20, v 21, v 22, v 23, v 24, v 25, v 26, v 27, v 28, v 29, v 30, v 31, v 32, v 33, v 34, v 35, v 36, v 37, v 38, v 39, v 40, v 41, v 42, v 43, v 44, .string rem, .int .i64 (rem.size : Int), .pointer (some ⟨g, 0, none⟩), .pointer (some ⟨g, 0, none⟩), .pointer (some ⟨g, 9, none⟩), .slice (some ⟨gw, 0, none⟩) G.wl.length 64, .int .i64 ((G.wl.length : Nat) : Int), .int .i64 ((64 - p : Nat) : Int), .int .i64 (q : Int), .pointer (some ⟨g, 0, none⟩), .pointer (some ⟨g, 0, none⟩), .pointer (some ⟨g, 0, none⟩), .pointer (some ⟨g, 9, none⟩), .slice (some ⟨gw, 0, none⟩) G.wl.length 64, .string rem, .int .i64 (q : Int), .string (rem.extract 0 q), .slice (some ⟨gw, 0, none⟩) (G.wl.length + q) 64, .pointer (some ⟨g, 0, none⟩), .pointer (some ⟨g, 9, none⟩), .string rem, .int .i64 (q : Int), .string (s.extract (k + q) s.size)] : List Value).getD (k_ - 4) undef, k + q, s.extract (k + q) s.size, Y2, by omega, rfl, by kernel_rfl, hY2, M⟩
open Go.Shelf Go.RowKit
def repRen : Go.Shelf.Ren := ⟨fun | 105 => 115 | 212 => 152 | 99 => 153 | 165 => 128 | 166 => 142 | 170 => 143 | 169 => 131 | 263 => 170 | 264 => 158 | 206 => 171 | 240 => 160 | 241 => 161 | 276 => 173 | 277 => 174 | n => n, fun | 9 => 9 | 3 => 3 | 4 => 4 | 20 => 20 | 0 => 0 | 46 => 92 | 109 => 207 | 5 => 5 | 72 => 177 | 76 => 195 | 51 => 91 | 146 => 234 | 53 => 86 | 148 => 216 | 70 => 175 | 37 => 61 | 75 => 183 | 127 => 220 | 164 => 237 | 80 => 95 | n => n, fun | n => n⟩
theorem repLays : Go.Proofs.Lays.n105 Tryz.prog repRen := {
 mixed := by kernel_rfl
 f99 := Tryz.func153.trans (congrArg some (by kernel_rfl))
 f105 := Tryz.func115.trans (congrArg some (by kernel_rfl))
 f165 := Tryz.func128.trans (congrArg some (by kernel_rfl))
 f166 := Tryz.func142.trans (congrArg some (by kernel_rfl))
 f169 := Tryz.func131.trans (congrArg some (by kernel_rfl))
 f170 := Tryz.func143.trans (congrArg some (by kernel_rfl))
 f206 := Tryz.func171.trans (congrArg some (by kernel_rfl))
 f212 := Tryz.func152.trans (congrArg some (by kernel_rfl))
 f240 := Tryz.func160.trans (congrArg some (by kernel_rfl))
 f241 := Tryz.func161.trans (congrArg some (by kernel_rfl))
 f263 := Tryz.func170.trans (congrArg some (by kernel_rfl))
 f264 := Tryz.func158.trans (congrArg some (by kernel_rfl))
 f276 := Tryz.func173.trans (congrArg some (by kernel_rfl))
 f277 := Tryz.func174.trans (congrArg some (by kernel_rfl))
 t0 := Tryz.underlying0
 a0 := Tryz.isAgg0
 z0 := Tryz.sizeOf0
 v0 := Tryz.zeroValue0
 t3 := Tryz.underlying3
 a3 := Tryz.isAgg3
 z3 := Tryz.sizeOf3
 v3 := Tryz.zeroValue3
 t4 := Tryz.underlying4
 a4 := Tryz.isAgg4
 z4 := Tryz.sizeOf4
 v4 := Tryz.zeroValue4
 t5 := Tryz.underlying5
 a5 := Tryz.isAgg5
 z5 := Tryz.sizeOf5
 v5 := Tryz.zeroValue5
 t9 := Tryz.underlying9
 a9 := Tryz.isAgg9
 z9 := Tryz.sizeOf9
 v9 := Tryz.zeroValue9
 t20 := Tryz.underlying20
 a20 := Tryz.isAgg20
 z20 := Tryz.sizeOf20
 v20 := Tryz.zeroValue20
 t37 := Tryz.underlying61
 a37 := Tryz.isAgg61
 z37 := Tryz.sizeOf61
 v37 := Tryz.zeroValue61
 t46 := Tryz.underlying92
 a46 := Tryz.isAgg92
 z46 := Tryz.sizeOf92
 v46 := Tryz.zeroValue92
 t51 := Tryz.underlying91
 a51 := Tryz.isAgg91
 z51 := Tryz.sizeOf91
 v51 := Tryz.zeroValue91
 t53 := Tryz.underlying86
 a53 := Tryz.isAgg86
 z53 := Tryz.sizeOf86
 v53 := Tryz.zeroValue86
 t70 := Tryz.underlying175
 a70 := Tryz.isAgg175
 z70 := Tryz.sizeOf175
 v70 := Tryz.zeroValue175
 t72 := Tryz.underlying177
 a72 := Tryz.isAgg177
 z72 := Tryz.sizeOf177
 v72 := Tryz.zeroValue177
 t75 := Tryz.underlying183
 a75 := Tryz.isAgg183
 z75 := Tryz.sizeOf183
 v75 := Tryz.zeroValue183
 t76 := Tryz.underlying195
 a76 := Tryz.isAgg195
 z76 := Tryz.sizeOf195
 v76 := Tryz.zeroValue195
 t109 := Tryz.underlying207
 a109 := Tryz.isAgg207
 z109 := Tryz.sizeOf207
 v109 := Tryz.zeroValue207
 t127 := Tryz.underlying220
 a127 := Tryz.isAgg220
 z127 := Tryz.sizeOf220
 v127 := Tryz.zeroValue220
 t146 := Tryz.underlying234
 a146 := Tryz.isAgg234
 z146 := Tryz.sizeOf234
 v146 := Tryz.zeroValue234
 t148 := Tryz.underlying216
 a148 := Tryz.isAgg216
 z148 := Tryz.sizeOf216
 v148 := Tryz.zeroValue216
 t164 := Tryz.underlying237
 a164 := Tryz.isAgg237
 z164 := Tryz.sizeOf237
 v164 := Tryz.zeroValue237 }
theorem repExtra : Builder.Extra Tryz.prog repRen := {
 sizeBuilder := by kernel_rfl
 liesBuilder := by kernel_rfl
 t5 := Tryz.underlying5
 a5 := Tryz.isAgg5
 z5 := Tryz.sizeOf5
 v5 := Tryz.zeroValue5
 infoByte := by kernel_rfl
 cellsByte := by kernel_rfl
 sizeByte := by kernel_rfl
 neB5 := by decide }
def zs (c : Nat) : ByteArray := ⟨(List.replicate c (0 : UInt8)).toArray⟩
theorem repeatL_one (c : Nat) : Lib.repeatL [0] c = List.replicate c 0 := by
 induction c with
 | zero => rfl
 | succ c ih => rw [Lib.repeatL, ih]; rfl
theorem c_rep (c : Nat) (w : World) (hc : c < 1000) : Cs 115 #[.string ⟨#[0]⟩, .int .i64 (c : Int)] w (.string (zs c)) := by
 have h := Any.strings_Repeat repLays repExtra ⟨#[0]⟩ c w (by omega) (by show 1 * c ≤ _; omega)
 have e : (⟨(Lib.repeatL (⟨#[0]⟩ : ByteArray).data.toList c).toArray⟩ : ByteArray) = zs c := by
  unfold zs
  rw [show (⟨#[0]⟩ : ByteArray).data.toList = [0] from rfl, repeatL_one]
 rw [e] at h
 exact h
open Go.RowKit
theorem pl_calln2 {P : Program} {ops : Array Oper} {rest : List Oper} {o : Oper} {a : Act} {w : World} {c : Ctx} {L : List Blk} {Q : Exit → Act → World → Prop} (M : Mem c L w) (hw : Region.wanted o (yielded ops a.tmps) = true) (d : Option Tmp) (hd : o.dst = d) (f : FuncId) (args : Array Value) (v : Nat → Value) (Zf : Nat → Obj) (R : Obj → Prop) (hrun : ∀ w, (execOp a.eval o).run P w = .ok (.enter f args) w)
  (hc : ∀ w, Mem c L w → Calls P f args w fun e w' => ∃ g k Y, e = .returned (v g) ∧ w.heap.size ≤ g ∧ w.heap.size ≤ k ∧ g ≠ k ∧ w'.heap[g]? = some (Zf k) ∧ w'.heap[k]? = some Y ∧ R Y ∧ Below w.heap.size w w') (h : ∀ g k Y w', R Y → Mem c (L ++ [⟨g, Zf k⟩, ⟨k, Y⟩]) w' → PL P ops Q rest (a.put d (v g)) w') : PL P ops Q (o :: rest) a w :=
 pl_callq hw d hd f args hrun ((hc w M).mono fun _ w' ⟨g, k, Y, he, h1, h2, h3, h4, h5, h6, hb⟩ => ⟨v g, he, h g k Y w' h6 (M.news hb (by simpa using ⟨h4, h5⟩) (by simpa using ⟨h1, h2⟩) (by simpa using h3))⟩)
theorem zs_size (c : Nat) : (zs c).size = c := by simp [zs, ByteArray.size]
theorem sb_new : SB (.cells (av 64 (w8 fun _ => 0)) 5) 64 (vs8 []) := ⟨_, 5, (0, 0), rfl, by simp [vs8], by rw [av_size]; exact Nat.le_refl _, fun i hi => by simp [vs8] at hi, fun i _ => by simp⟩
theorem key_ne (k : ByteArray) (h : k.size ≠ 0) : (k.toList == (⟨#[]⟩ : ByteArray).toList) = false := by
 have hs : k.size = k.data.size := rfl
 rw [ByteArray.toList_eq, ByteArray.toList_eq, beq_eq_false_iff_ne]
 intro e
 have := congrArg List.length e
 simp at this
 exact h (by rw [hs, this]; rfl)
theorem key_e (k : ByteArray) (h : k.size = 0) : k = ⟨#[]⟩ := by
 have hs : k.size = k.data.size := rfl
 apply ByteArray.ext
 exact Array.eq_empty_of_size_eq_zero (by omega)
theorem below_same {w w' : World} {g k : Nat} {Z Y : Obj} (h : Grw w w' [g, k]) (h1 : w.heap[g]? = some Z) (h2 : w'.heap[g]? = some Z) (h3 : w.heap[k]? = some Y) (h4 : w'.heap[k]? = some Y) : Below w.heap.size w w' := ⟨h.os, h.tape, h.output, h.size, fun j hj => by
 by_cases e : j = g
 ·subst e
  rw [h1, h2]
 ·by_cases e2 : j = k
  ·subst e2
   rw [h3, h4]
  ·exact h.block j hj (by simp [e, e2])⟩
def hs0 (z kl : Nat) : HS := ⟨upd HB 0 (vx (HB 0) (vx (vx 16842752 (vl (cv .u32 (kl : Int)) 8)) (cv .u32 (z : Int)))), [], 0⟩
def nw (z : Nat) (key : ByteArray) : HS := if key.size = 0 then hs0 z key.size else tk (hs0 z key.size) (key ++ zs (64 - key.size)) (key ++ zs (64 - key.size)).size
theorem hs0_ok (z kl : Nat) : (hs0 z kl).ok := ⟨by simp [hs0], by simp [hs0]⟩
theorem nw_ok (z : Nat) (key : ByteArray) : (nw z key).ok := by
 unfold nw
 split
 ·exact hs0_ok _ _
 ·exact tk_ok (hs0_ok _ _) _ _
def sumW (H : HS) : Nat → Int := mixV H.ws (lf H.wl) H.wl.length (ua H.ct (cv .u64 (H.wl.length : Int))) true
def sumV (z : Nat) (H : HS) : ByteArray := (bs (loI (sumW H) 8)).extract 0 z
def blV (z : Nat) (key s : ByteArray) : ByteArray := sumV z (tk (nw z key) s s.size)
theorem c_new0 (z : Nat) (key : ByteArray) (h1 : 1 ≤ z) (h2 : z ≤ 32) (_h3 : key.size ≤ 32) (hz : key.size = 0) (w : World) (hL : Laid w)  :
  Calls Tryz.prog 87 #[.int .i64 (z : Int), .string key] w fun r w' => ∃ g gw Y, r = .returned (.tuple #[.pointer (some ⟨g, 0, none⟩), .int .i64 0]) ∧ w.heap.size ≤ g ∧ w.heap.size ≤ gw ∧ g ≠ gw ∧ w'.heap[g]? = some (.cells (av 11 (hF (z : Int) (nw z key).ws gw (nw z key).wl.length (nw z key).ct)) 164) ∧ w'.heap[gw]? = some Y ∧ SB Y 64 (vs8 (nw z key).wl) ∧ Below w.heap.size w w' := by
 go_enter Tryz.func87, Tryz.ntmps87
 have M := Mem.start hL
 refine sq <| wp_seq <| sR <| rV 1 ?_
 refine ZF 8 ((z : Int) < 1) ?_
 refine rV 2 ?_
 refine pl_val (want_on 2 false rfl 9 rfl (by kernel_rfl)) (some 11) rfl (.bool false) (fun w => Eq.trans (b := .ok (.value (.bool (decide ((32 : Int) < (z : Int))))) w) (by kernel_rfl) (by rw [decide_eq_false (by omega)])) ?_
 refine rV 4 ?_
 refine pl_val (want_on 6 false rfl 13 rfl (by kernel_rfl)) (some 16) rfl (.bool false) (fun w => Eq.trans (b := .ok (.value (.bool (decide ((32 : Int) < (key.size : Int))))) w) (by kernel_rfl) (by rw [decide_eq_false (by omega)])) ?_
 refine rV 1 <| nT <| cF <| wp_skip <| au_then ?_
 refine wp_seq ?_
 refine rg_allocs M 2 [(20, fun g => .slice (some ⟨g, 0, none⟩) 0 64, .cells (av 64 (w8 fun _ => 0)) 5)] (by kernel_rfl) (by kernel_rfl) (⟨rfl, rfl, fun _ _ => by kernel_rfl, trivial⟩) (by decide) ?_
 simp only [List.take_succ_cons, List.take_zero]
 refine kR 1 ?_
 refine eC M 19 (fun w M => c_first w M.laid) ?_
 refine kl_nil fun u1 g1 M => ?_
 refine rV 1 ?_
 refine pN M 22 (.cells (av 11 (hF (z : Int) HB g1 0 0)) 164) fun g2 u2 M => ?_
 refine rV 1 <| nT <| wp_seq ?_
 refine rg_tail M 17 (by kernel_rfl) (by kernel_rfl) ?_
 simp only [List.take_succ_cons, List.take_zero]
 refine kR 4 <| eE M 27 1 1 <| kR 12 ?_
 refine kl_nil fun u3 M => ?_
 refine pP M 1 rfl 1 (.int .u32 (vx (HB 0) (vx (vx 16842752 (vl (cv .u32 (key.size : Int)) 8)) (cv .u32 (z : Int))))) (hF (z : Int) (upd HB 0 (vx (HB 0) (vx (vx 16842752 (vl (cv .u32 (key.size : Int)) 8)) (cv .u32 (z : Int))))) g1 0 0) (by decide) (hF_put1 (z : Int) HB g1 0 0 (vx (HB 0) (vx (vx 16842752 (vl (cv .u32 (key.size : Int)) 8)) (cv .u32 (z : Int))))) fun u4 M => ?_
 refine nT <| wp_seq <| sR <| rV 1 ?_
 refine pH 41 (.bool false) (fun w => Eq.trans (b := .ok (.value (.bool (!(key.toList == (⟨#[]⟩ : ByteArray).toList)))) w) (by kernel_rfl) (by rw [key_e key hz, beq_self_eq_true]; rfl)) ?_
 refine nT <| cF <| wp_skip <| au_then <| sq ?_
 refine wp_ret ?_
 have e : nw z key = hs0 z key.size := by unfold nw; rw [if_pos hz]
 rw [e]
 exact bodyPost_ret (v := .tuple #[.pointer (some ⟨g2, 0, none⟩), .int .i64 0]) (results_tmp2 Tryz.results87 _ _ _ _ (by kernel_rfl) (by kernel_rfl)) (by kernel_rfl) ⟨g2, g1, (.cells (av 64 (w8 fun _ => 0)) 5), rfl, (M.ge _ (List.mem_of_getElem? (i := 1) rfl)).elim id (fun h => by cases h), (M.ge _ (List.mem_of_getElem? (i := 0) rfl)).elim id (fun h => by cases h), nodup_at M.nodup (i := 1) (j := 0) rfl rfl (by decide), M.get 1 rfl, M.get 0 rfl, sb_new, below_grown M.old⟩
theorem c_new1 (z : Nat) (key : ByteArray) (h1 : 1 ≤ z) (h2 : z ≤ 32) (h3 : key.size ≤ 32) (hz : ¬ key.size = 0) (w : World) (hL : Laid w)  :
  Calls Tryz.prog 87 #[.int .i64 (z : Int), .string key] w fun r w' => ∃ g gw Y, r = .returned (.tuple #[.pointer (some ⟨g, 0, none⟩), .int .i64 0]) ∧ w.heap.size ≤ g ∧ w.heap.size ≤ gw ∧ g ≠ gw ∧ w'.heap[g]? = some (.cells (av 11 (hF (z : Int) (nw z key).ws gw (nw z key).wl.length (nw z key).ct)) 164) ∧ w'.heap[gw]? = some Y ∧ SB Y 64 (vs8 (nw z key).wl) ∧ Below w.heap.size w w' := by
 go_enter Tryz.func87, Tryz.ntmps87
 have M := Mem.start hL
 refine sq <| wp_seq <| sR <| rV 1 ?_
 refine ZF 8 ((z : Int) < 1) ?_
 refine rV 2 ?_
 refine pl_val (want_on 2 false rfl 9 rfl (by kernel_rfl)) (some 11) rfl (.bool false) (fun w => Eq.trans (b := .ok (.value (.bool (decide ((32 : Int) < (z : Int))))) w) (by kernel_rfl) (by rw [decide_eq_false (by omega)])) ?_
 refine rV 4 ?_
 refine pl_val (want_on 6 false rfl 13 rfl (by kernel_rfl)) (some 16) rfl (.bool false) (fun w => Eq.trans (b := .ok (.value (.bool (decide ((32 : Int) < (key.size : Int))))) w) (by kernel_rfl) (by rw [decide_eq_false (by omega)])) ?_
 refine rV 1 <| nT <| cF <| wp_skip <| au_then ?_
 refine wp_seq ?_
 refine rg_allocs M 2 [(20, fun g => .slice (some ⟨g, 0, none⟩) 0 64, .cells (av 64 (w8 fun _ => 0)) 5)] (by kernel_rfl) (by kernel_rfl) (⟨rfl, rfl, fun _ _ => by kernel_rfl, trivial⟩) (by decide) ?_
 simp only [List.take_succ_cons, List.take_zero]
 refine kR 1 ?_
 refine eC M 19 (fun w M => c_first w M.laid) ?_
 refine kl_nil fun u1 g1 M => ?_
 refine rV 1 ?_
 refine pN M 22 (.cells (av 11 (hF (z : Int) HB g1 0 0)) 164) fun g2 u2 M => ?_
 refine rV 1 <| nT <| wp_seq ?_
 refine rg_tail M 17 (by kernel_rfl) (by kernel_rfl) ?_
 simp only [List.take_succ_cons, List.take_zero]
 refine kR 4 <| eE M 27 1 1 <| kR 12 ?_
 refine kl_nil fun u3 M => ?_
 refine pP M 1 rfl 1 (.int .u32 (vx (HB 0) (vx (vx 16842752 (vl (cv .u32 (key.size : Int)) 8)) (cv .u32 (z : Int))))) (hF (z : Int) (upd HB 0 (vx (HB 0) (vx (vx 16842752 (vl (cv .u32 (key.size : Int)) 8)) (cv .u32 (z : Int))))) g1 0 0) (by decide) (hF_put1 (z : Int) HB g1 0 0 (vx (HB 0) (vx (vx 16842752 (vl (cv .u32 (key.size : Int)) 8)) (cv .u32 (z : Int))))) fun u4 M => ?_
 refine nT <| wp_seq <| sR <| rV 1 ?_
 refine pH 41 (.bool true) (fun w => Eq.trans (b := .ok (.value (.bool (!(key.toList == (⟨#[]⟩ : ByteArray).toList)))) w) (by kernel_rfl) (by rw [key_ne key hz]; rfl)) ?_
 refine nT <| cT ?_
 refine rg_lit ?_
 refine rV 4 ?_
 refine ZI 46 (64 - (key.size : Int)) ((64 - key.size : Nat) : Int) ?_
 refine ZC M 47 (fun w M => c_rep (64 - key.size) w (by omega)) fun u5 M => ?_
 refine pH 48 (.string (key ++ zs (64 - key.size))) (run_cat 9 9 _ _ rfl key (zs (64 - key.size)) (by kernel_rfl) (by kernel_rfl) (by rw [zs_size]; omega)) ?_
 refine pl_callp2 M (want_no rfl) (some 49) rfl 88 #[.pointer (some ⟨g2, 0, none⟩), .string (key ++ zs (64 - key.size))] (.tuple #[]) 1 0 g2 g1 (.cells (av 11 (hF (z : Int) (upd HB 0 (vx (HB 0) (vx (vx 16842752 (vl (cv .u32 (key.size : Int)) 8)) (cv .u32 (z : Int))))) g1 0 0)) 164) (.cells (av 64 (w8 fun _ => 0)) 5) (.cells (av 11 (hF (z : Int) (tk (hs0 z key.size) (key ++ zs (64 - key.size)) (key ++ zs (64 - key.size)).size).ws g1 (tk (hs0 z key.size) (key ++ zs (64 - key.size)) (key ++ zs (64 - key.size)).size).wl.length (tk (hs0 z key.size) (key ++ zs (64 - key.size)) (key ++ zs (64 - key.size)).size).ct)) 164) (fun Y => SB Y 64 (vs8 (tk (hs0 z key.size) (key ++ zs (64 - key.size)) (key ++ zs (64 - key.size)).size).wl)) rfl rfl (fun _ => by kernel_rfl) (fun w M => c_take (hs0 z key.size) (hs0_ok _ _) z g2 g1 (.cells (av 64 (w8 fun _ => 0)) 5) (key ++ zs (64 - key.size)) w M.laid (M.get 1 rfl) (M.ne0 1 rfl) (M.get 0 rfl) (M.ne0 0 rfl) (nodup_at M.nodup (i := 1) (j := 0) rfl rfl (by decide)) sb_new) ?_
 intro Y1 u6 hY1 M
 refine nT <| sq <| wp_ret ?_
 have e : nw z key = tk (hs0 z key.size) (key ++ zs (64 - key.size)) (key ++ zs (64 - key.size)).size := by unfold nw; rw [if_neg hz]
 rw [e]
 exact bodyPost_ret (v := .tuple #[.pointer (some ⟨g2, 0, none⟩), .int .i64 0]) (results_tmp2 Tryz.results87 _ _ _ _ (by kernel_rfl) (by kernel_rfl)) (by kernel_rfl) ⟨g2, g1, Y1, rfl, (M.ge _ (List.mem_of_getElem? (i := 1) rfl)).elim id (fun h => by cases h), (M.ge _ (List.mem_of_getElem? (i := 0) rfl)).elim id (fun h => by cases h), nodup_at M.nodup (i := 1) (j := 0) rfl rfl (by decide), M.get 1 rfl, M.get 0 rfl, hY1, below_grown M.old⟩
theorem c_new (z : Nat) (key : ByteArray) (h1 : 1 ≤ z) (h2 : z ≤ 32) (h3 : key.size ≤ 32) (w : World) (hL : Laid w) : Calls Tryz.prog 87 #[.int .i64 (z : Int), .string key] w fun r w' => ∃ g gw Y, r = .returned (.tuple #[.pointer (some ⟨g, 0, none⟩), .int .i64 0]) ∧ w.heap.size ≤ g ∧ w.heap.size ≤ gw ∧ g ≠ gw ∧ w'.heap[g]? = some (.cells (av 11 (hF (z : Int) (nw z key).ws gw (nw z key).wl.length (nw z key).ct)) 164) ∧ w'.heap[gw]? = some Y ∧ SB Y 64 (vs8 (nw z key).wl) ∧ Below w.heap.size w w' := by
 by_cases hz : key.size = 0
 ·exact c_new0 z key h1 h2 h3 hz w hL
 ·exact c_new1 z key h1 h2 h3 hz w hL
theorem c_sum (H : HS) (hH : H.ok) (z : Nat) (h1 : 1 ≤ z) (h2 : z ≤ 32) (g gw : Nat) (Z : Obj) (w : World) (hL : Laid w) (hg : w.heap[g]? = some (.cells (av 11 (hF (z : Int) H.ws gw H.wl.length H.ct)) 164)) (h0 : 2 < g) (hk : w.heap[gw]? = some Z) (k0 : 2 < gw) (hne : g ≠ gw) (hZ : SB Z 64 (vs8 H.wl)) : Cs 89 #[.pointer (some ⟨g, 0, none⟩)] w (.string (sumV z H)) := by
 go_enter Tryz.func89, Tryz.ntmps89
 have M := Mem.startp2 hL hg h0 hk k0 hne
 refine sq <| wp_seq <| sR <| rV 6 ?_
 refine pl_cell M (want_on 2 false rfl 6 rfl (by kernel_rfl)) (some 10) rfl 3 _ rfl g 0 (by kernel_rfl) (.int .i64 (z : Int)) (fun _ => by kernel_rfl) (fun w M => M.cell 0 rfl (by decide) rfl) ?_
 refine pl_val (want_on 2 false rfl 6 rfl (by kernel_rfl)) (some 11) rfl (.bool false) (fun w => Eq.trans (b := .ok (.value (.bool (decide ((z : Int) = 0)))) w) (by kernel_rfl) (by rw [decide_eq_false (by omega)])) ?_
 refine rV 1 <| nT <| cF <| wp_skip <| au_then ?_
 refine wp_seq ?_
 refine rg_allocs M 20 [(3, fun g => .pointer (some ⟨g, 0, none⟩), .cells (av 8 (w32 (fun _ => 0))) 155)] (by kernel_rfl) (by kernel_rfl) (⟨rfl, rfl, fun _ _ => by kernel_rfl, trivial⟩) (by decide) ?_
 simp only [List.take_succ_cons, List.take_zero]
 refine kR 3 ?_
 refine kL M 16 0 rfl 1 8 (w32 H.ws) (hF_words (z : Int) H.ws gw H.wl.length H.ct) ?_
 refine kR 3 <| eE M 20 0 9 <| kR 3 <| eE M 24 0 10 <| kR 3 ?_
 refine eE M 28 0 9 <| kR 3 ?_
 refine eC M 32 (fun w M => c_mixed H.ws (lf H.wl) gw H.wl.length 64 hH.le (ua H.ct (cv .u64 (H.wl.length : Int))) true w M.laid (fun i hi => hZ.cell (M.get 1 rfl) (vs8_cell H.wl i hi))) ?_
 refine kl_nil fun u1 g1 M => ?_
 refine ZG M 2 8 (w32 (sumW H)) fun u2 M => ?_
 refine nT <| wp_seq ?_
 refine rg_tail M 7 (by kernel_rfl) (by kernel_rfl) ?_
 simp only [List.take_succ_cons, List.take_zero]
 refine kA M 33 2 8 (w32 (sumW H)) ?_
 refine eC M 34 (fun w M => c_low (sumW H) w M.laid) ?_
 refine kR 3 <| eE M 38 0 0 ?_
 refine kH 39 (.string (sumV z H)) (run_strh 9 Tryz.underlying9 _ _ rfl (bs (loI (sumW H) 8)) (by kernel_rfl) .i64 z (by kernel_rfl) (by rw [bs_size, loI_length]; omega) _ rfl) ?_
 refine kl_nil fun u3 M => ?_
 refine rV 1 <| nT <| wp_ret ?_
 exact bodyPost_ret (v := .string (sumV z H)) (results_tmp1 Tryz.results89 _ _ _ (by kernel_rfl)) (by kernel_rfl) ⟨rfl, below_same M.old hg (M.get 0 rfl) hk (M.get 1 rfl)⟩
theorem c_blsum (z : Nat) (key s : ByteArray) (h1 : 1 ≤ z) (h2 : z ≤ 32) (h3 : key.size ≤ 32) (w : World) (hL : Laid w)  : Cs 65 #[.int .i64 (z : Int), .string key, .string s] w (.tuple #[.string (blV z key s), .int .i64 0]) := by
 go_enter Tryz.func65, Tryz.ntmps65
 have M := Mem.start hL
 refine sq <| sR <| rV 2 ?_
 refine pl_calln2 M (want_no rfl) (some 13) rfl 87 #[.int .i64 (z : Int), .string key] (fun g1 => .tuple #[.pointer (some ⟨g1, 0, none⟩), .int .i64 0]) (fun g2 => .cells (av 11 (hF (z : Int) (nw z key).ws g2 (nw z key).wl.length (nw z key).ct)) 164) (fun Y => SB Y 64 (vs8 (nw z key).wl)) (fun _ => by kernel_rfl) (fun w M => c_new z key h1 h2 h3 w M.laid) ?_
 intro g1 g2 Y1 u1 hY1 M
 refine rV 5 <| nT <| wp_seq <| sq <| cF ?_
 refine wp_skip <| au_then <| sR <| rV 2 ?_
 refine pl_callp2 M (want_no rfl) (some 21) rfl 88 #[.pointer (some ⟨g1, 0, none⟩), .string s] (.tuple #[]) 0 1 g1 g2 (.cells (av 11 (hF (z : Int) (nw z key).ws g2 (nw z key).wl.length (nw z key).ct)) 164) Y1 (.cells (av 11 (hF (z : Int) (tk (nw z key) s s.size).ws g2 (tk (nw z key) s s.size).wl.length (tk (nw z key) s s.size).ct)) 164) (fun Y => SB Y 64 (vs8 (tk (nw z key) s s.size).wl)) rfl rfl (fun _ => by kernel_rfl) (fun w M => c_take (nw z key) (nw_ok _ _) z g1 g2 Y1 s w M.laid (M.get 0 rfl) (M.ne0 0 rfl) (M.get 1 rfl) (M.ne0 1 rfl) (nodup_at M.nodup (i := 0) (j := 1) rfl rfl (by decide)) hY1) ?_
 intro Y2 u2 hY2 M
 refine nT <| sR <| rV 1 ?_
 refine pC M 23 89 #[.pointer (some ⟨g1, 0, none⟩)] (.string (blV z key s)) (fun w M => c_sum (tk (nw z key) s s.size) (tk_ok (nw_ok _ _) _ _) z h1 h2 g1 g2 Y2 w M.laid (M.get 0 rfl) (M.ne0 0 rfl) (M.get 1 rfl) (M.ne0 1 rfl) (nodup_at M.nodup (i := 0) (j := 1) rfl rfl (by decide)) hY2) fun u3 M => ?_
 refine rV 2 <| nT <| wp_ret ?_
 exact b1 M
theorem c_of (s : ByteArray) (w : World) (hL : Laid w)  : Cs 45 #[.string s] w (.string (blV 32 strE s)) := by
 go_enter Tryz.func45, Tryz.ntmps45
 have M := Mem.start hL
 refine sq <| sR <| rV 1 ?_
 refine ZC M 7 (fun w M => c_blsum 32 strE s (by decide) (by decide) (by decide) w M.laid) fun u1 M => ?_
 refine rV 5 <| nT <| sq <| wp_ret ?_
 exact b1 M
open Go.RowKit
def wd (rs : Nat → Int) : Nat → (Nat → Int)
 | 0 => fun _ => 0
 | j + 1 => upd (wd rs j) ((63 - j) / 4) (vo (vl (wd rs j ((63 - j) / 4)) 8) (cv .u32 (rs (63 - j))))
def mixW (x m : Nat → Int) (ct : Int) (last : Bool) : Nat → Int := fun i => vx (x i) (vx (rd m (spr x ct last) 10 i) (rd m (spr x ct last) 10 (8 + i)))
theorem mixV_W (x rs : Nat → Int) (n : Nat) (ct : Int) (last : Bool) : mixV x rs n ct last = mixW x (wo rs n) ct last := rfl
open Go.RowKit
def pcs (A : ByteArray) (x : Nat → Int) : Nat → (Nat → Int)
 | 0 => x
 | j + 1 => mixW (pcs A x j) (wd (bt (A.extract (64 * j) (64 * j + 64))) 64) (cv .u64 ((64 * j + 64 : Nat) : Int)) false
def nbl (A : ByteArray) : Nat := (A.size - 1) / 64
def rst (A : ByteArray) : ByteArray := A.extract (64 * nbl A) A.size
def dfin (A : ByteArray) (x : Nat → Int) : Nat → Int := mixW (pcs A x (nbl A)) (wd (bt (rst A ++ zs (64 - (rst A).size))) 64) (cv .u64 (A.size : Int)) true
def outL (h : Nat → Int) : Nat → List Int
 | 0 => []
 | j + 1 => outL h j ++ [cv .u8 (sr (h (j / 4)) (8 * (j % 4)))]
theorem outL_length (h : Nat → Int) : ∀ j, (outL h j).length = j
 | 0 => rfl
 | j + 1 => by
  unfold outL
  rw [List.length_append, outL_length h j]
  rfl
def docV (z : Nat) (A : ByteArray) (x : Nat → Int) : ByteArray := bs (outL (dfin A x) z)
def allV (key s : ByteArray) : ByteArray := if key.size = 0 then s else key ++ zs (64 - key.size) ++ s
def docS (z : Nat) (key s : ByteArray) : ByteArray := docV z (allV key s) (hs0 z key.size).ws
open Go.RowKit
theorem upd_congr {f g : Nat → Int} {k : Nat} {a b : Int} {t : Nat} (h : f t = g t) (e : a = b) : upd f k a t = upd g k b t := by
 unfold upd
 rw [h, e]
theorem mxF_congr {v u : Nat → Int} (h : ∀ t, t < 16 → v t = u t) (x y : Int) {i j k l : Nat} (hi : i < 16) (hj : j < 16) (hk : k < 16) (hl : l < 16) : ∀ t, t < 16 → mxF v x y i j k l t = mxF u x y i j k l t := by
 intro t ht
 have e1 : mA2 v x y i j k l = mA2 u x y i j k l := by simp only [mA2, mA1, mB1, mC1, mD1, h i hi, h j hj, h k hk, h l hl]
 have e2 : mB2 v x y i j k l = mB2 u x y i j k l := by simp only [mB2, mC2, mD2, mA2, mA1, mB1, mC1, mD1, h i hi, h j hj, h k hk, h l hl]
 have e3 : mC2 v x y i j k l = mC2 u x y i j k l := by simp only [mC2, mD2, mA2, mA1, mB1, mC1, mD1, h i hi, h j hj, h k hk, h l hl]
 have e4 : mD2 v x y i j k l = mD2 u x y i j k l := by simp only [mD2, mA2, mA1, mB1, mC1, mD1, h i hi, h j hj, h k hk, h l hl]
 unfold mxF
 exact upd_congr (upd_congr (upd_congr (upd_congr (h t ht) e1) e2) e3) e4
theorem rn_congr {m m' : Nat → Int} (hm : ∀ t, t < 16 → m t = m' t) {v u : Nat → Int} (h : ∀ t, t < 16 → v t = u t) (j : Nat) : ∀ t, t < 16 → rn8 m v j t = rn8 m' u j t := by
 have h1 : ∀ t, t < 16 → rn1 m v j t = rn1 m' u j t := by
  unfold rn1
  rw [hm _ (OF_lt _), hm _ (OF_lt _)]
  exact mxF_congr h _ _ (by decide) (by decide) (by decide) (by decide)
 have h2 : ∀ t, t < 16 → rn2 m v j t = rn2 m' u j t := by
  unfold rn2
  rw [hm _ (OF_lt _), hm _ (OF_lt _)]
  exact mxF_congr h1 _ _ (by decide) (by decide) (by decide) (by decide)
 have h3 : ∀ t, t < 16 → rn3 m v j t = rn3 m' u j t := by
  unfold rn3
  rw [hm _ (OF_lt _), hm _ (OF_lt _)]
  exact mxF_congr h2 _ _ (by decide) (by decide) (by decide) (by decide)
 have h4 : ∀ t, t < 16 → rn4 m v j t = rn4 m' u j t := by
  unfold rn4
  rw [hm _ (OF_lt _), hm _ (OF_lt _)]
  exact mxF_congr h3 _ _ (by decide) (by decide) (by decide) (by decide)
 have h5 : ∀ t, t < 16 → rn5 m v j t = rn5 m' u j t := by
  unfold rn5
  rw [hm _ (OF_lt _), hm _ (OF_lt _)]
  exact mxF_congr h4 _ _ (by decide) (by decide) (by decide) (by decide)
 have h6 : ∀ t, t < 16 → rn6 m v j t = rn6 m' u j t := by
  unfold rn6
  rw [hm _ (OF_lt _), hm _ (OF_lt _)]
  exact mxF_congr h5 _ _ (by decide) (by decide) (by decide) (by decide)
 have h7 : ∀ t, t < 16 → rn7 m v j t = rn7 m' u j t := by
  unfold rn7
  rw [hm _ (OF_lt _), hm _ (OF_lt _)]
  exact mxF_congr h6 _ _ (by decide) (by decide) (by decide) (by decide)
 have h8 : ∀ t, t < 16 → rn8 m v j t = rn8 m' u j t := by
  unfold rn8
  rw [hm _ (OF_lt _), hm _ (OF_lt _)]
  exact mxF_congr h7 _ _ (by decide) (by decide) (by decide) (by decide)
 exact h8
theorem rd_congr {m m' : Nat → Int} (hm : ∀ t, t < 16 → m t = m' t) {v u : Nat → Int} (h : ∀ t, t < 16 → v t = u t) : ∀ j, ∀ t, t < 16 → rd m v j t = rd m' u j t
 | 0 => h
 | j + 1 => rn_congr hm (rd_congr hm h j) j
theorem bs_ext (l : List Int) (n : Nat) : (bs l).extract 0 n = bs (l.take n) := by
 apply ByteArray.ext
 rw [ByteArray.data_extract]
 unfold bs
 apply Array.ext_getElem?
 intro i
 simp only [Array.getElem?_extract, List.getElem?_toArray, List.getElem?_map, List.getElem?_take]
 by_cases h : i < n
 ·simp [h]
  intro h2
  rw [List.getElem?_eq_none (by omega)]
  rfl
 ·simp [h]
  omega
theorem loI_congr {f g : Nat → Int} : ∀ n, (∀ i, i < n → f i = g i) → loI f n = loI g n
 | 0, _ => rfl
 | n + 1, h => by
  unfold loI
  rw [loI_congr n fun i hi => h i (by omega), h n (by omega)]
theorem sumV_eq (z : Nat) (H : HS) : sumV z H = bs ((loI (sumW H) 8).take z) := bs_ext _ _
def p4 (f : Nat → Int) (t : Nat) : Int := f (4 * t) + 256 * f (4 * t + 1) + 65536 * f (4 * t + 2) + 16777216 * f (4 * t + 3)
def cut (n : Nat) (f : Nat → Int) : Nat → Int := fun i => if i < n then f i else 0
theorem vo_sh (x c : Int) (hx0 : 0 ≤ x) (hx : x < 16777216) (hc0 : 0 ≤ c) (hc : c < 256) : vo (vl x 8) (cv .u32 c) = x * 256 + c := by
 rw [cv32 c hc0 hc]
 obtain ⟨a, rfl⟩ : ∃ a : Nat, x = (a : Int) := ⟨x.toNat, by omega⟩
 obtain ⟨b, rfl⟩ : ∃ b : Nat, c = (b : Int) := ⟨c.toNat, by omega⟩
 rw [vl_nat a 8 (by omega), vo_comm, show a * 2 ^ 8 = 2 ^ 8 * a by omega, vo_add 8 b a (by omega) (by omega)]
 omega
theorem wo_p4 (rs : Nat → Int) (hr : ∀ i, 0 ≤ rs i ∧ rs i < 256) : ∀ n, n ≤ 64 → ∀ t, wo rs n t = p4 (cut n rs) t
 | 0, _, t => by simp [p4, cut, wo]
 | n + 1, hn, t => by
  have ih := wo_p4 rs hr n (by omega)
  show upd (wo rs n) (n / 4) (vo (wo rs n (n / 4)) (vl (cv .u32 (rs n)) (n % 4 * 8))) t = _
  unfold upd
  by_cases e : t = n / 4
  ·rw [if_pos e, ← e, ih t]
   have c0 := hr (4 * t)
   have c1 := hr (4 * t + 1)
   have c2 := hr (4 * t + 2)
   have c3 := hr (4 * t + 3)
   rcases (show n % 4 = 0 ∨ n % 4 = 1 ∨ n % 4 = 2 ∨ n % 4 = 3 by omega) with h | h | h | h
   ·have hN : n = 4 * t := by omega
    subst hN
    have e1 : p4 (cut (4 * t) rs) t = 0 := by unfold p4 cut; split <;> split <;> split <;> split <;> omega
    have e2 : p4 (cut (4 * t + 1) rs) t = rs (4 * t) := by unfold p4 cut; split <;> split <;> split <;> split <;> omega
    rw [e1, e2, h, vo_vl0 _ _ (by omega) (by omega) c0.1 c0.2]
    omega
   ·have hN : n = 4 * t + 1 := by omega
    subst hN
    have e1 : p4 (cut (4 * t + 1) rs) t = rs (4 * t) := by unfold p4 cut; split <;> split <;> split <;> split <;> omega
    have e2 : p4 (cut (4 * t + 1 + 1) rs) t = rs (4 * t) + 256 * rs (4 * t + 1) := by unfold p4 cut; split <;> split <;> split <;> split <;> omega
    rw [e1, e2, h, vo_vl1 _ _ (by omega) (by omega) c1.1 c1.2]
   ·have hN : n = 4 * t + 2 := by omega
    subst hN
    have e1 : p4 (cut (4 * t + 2) rs) t = rs (4 * t) + 256 * rs (4 * t + 1) := by unfold p4 cut; split <;> split <;> split <;> split <;> omega
    have e2 : p4 (cut (4 * t + 2 + 1) rs) t = rs (4 * t) + 256 * rs (4 * t + 1) + 65536 * rs (4 * t + 2) := by unfold p4 cut; split <;> split <;> split <;> split <;> omega
    rw [e1, e2, h, vo_vl2 _ _ (by omega) (by omega) c2.1 c2.2]
   ·have hN : n = 4 * t + 3 := by omega
    subst hN
    have e1 : p4 (cut (4 * t + 3) rs) t = rs (4 * t) + 256 * rs (4 * t + 1) + 65536 * rs (4 * t + 2) := by unfold p4 cut; split <;> split <;> split <;> split <;> omega
    have e2 : p4 (cut (4 * t + 3 + 1) rs) t = rs (4 * t) + 256 * rs (4 * t + 1) + 65536 * rs (4 * t + 2) + 16777216 * rs (4 * t + 3) := by unfold p4 cut; split <;> split <;> split <;> split <;> omega
    rw [e1, e2, h, vo_vl3 _ _ (by omega) (by omega) c3.1 c3.2]
  ·rw [if_neg e, ih t]
   have hc : ∀ i, i ≠ n → cut n rs i = cut (n + 1) rs i := fun i hi => by
    unfold cut
    by_cases h1 : i < n
    ·rw [if_pos h1, if_pos (by omega)]
    ·rw [if_neg h1, if_neg (by omega)]
   unfold p4
   rw [hc _ (by omega), hc _ (by omega), hc _ (by omega), hc _ (by omega)]
theorem upd4 (f : Nat → Int) (k : Nat) (a b c d : Int) : upd (upd (upd (upd f k a) k b) k c) k d = upd f k d := by
 funext t
 unfold upd
 by_cases e : t = k
 ·rw [if_pos e, if_pos e]
 ·simp [e]
theorem wd_step (rs : Nat → Int) (hr : ∀ i, 0 ≤ rs i ∧ rs i < 256) (q : Nat) (hq : q < 16) (h0 : wd rs (4 * q) (15 - q) = 0) : wd rs (4 * q + 4) = upd (wd rs (4 * q)) (15 - q) (p4 rs (15 - q)) := by
 have i0 : (63 - 4 * q) / 4 = 15 - q := by omega
 have i1 : (63 - (4 * q + 1)) / 4 = 15 - q := by omega
 have i2 : (63 - (4 * q + 2)) / 4 = 15 - q := by omega
 have i3 : (63 - (4 * q + 3)) / 4 = 15 - q := by omega
 have j0 : 63 - 4 * q = 4 * (15 - q) + 3 := by omega
 have j1 : 63 - (4 * q + 1) = 4 * (15 - q) + 2 := by omega
 have j2 : 63 - (4 * q + 2) = 4 * (15 - q) + 1 := by omega
 have j3 : 63 - (4 * q + 3) = 4 * (15 - q) := by omega
 obtain ⟨u, hu⟩ : ∃ u, u = 15 - q := ⟨_, rfl⟩
 rw [← hu] at i0 i1 i2 i3 j0 j1 j2 j3 h0 ⊢
 have c0 := hr (4 * u)
 have c1 := hr (4 * u + 1)
 have c2 := hr (4 * u + 2)
 have c3 := hr (4 * u + 3)
 have w1 : wd rs (4 * q + 1) = upd (wd rs (4 * q)) u (rs (4 * u + 3)) := by
  show upd (wd rs (4 * q)) ((63 - 4 * q) / 4) (vo (vl (wd rs (4 * q) ((63 - 4 * q) / 4)) 8) (cv .u32 (rs (63 - 4 * q)))) = _
  rw [i0, j0, h0, vo_sh _ _ (by omega) (by omega) c3.1 c3.2]
  congr 1
  omega
 have w2 : wd rs (4 * q + 2) = upd (upd (wd rs (4 * q)) u (rs (4 * u + 3))) u (rs (4 * u + 2) + 256 * rs (4 * u + 3)) := by
  show upd (wd rs (4 * q + 1)) ((63 - (4 * q + 1)) / 4) (vo (vl (wd rs (4 * q + 1) ((63 - (4 * q + 1)) / 4)) 8) (cv .u32 (rs (63 - (4 * q + 1))))) = _
  have e : upd (wd rs (4 * q)) u (rs (4 * u + 3)) u = rs (4 * u + 3) := by simp [upd]
  rw [i1, j1, w1, e, vo_sh _ _ (by omega) (by omega) c2.1 c2.2]
  congr 1
  omega
 have w3 : wd rs (4 * q + 3) = upd (upd (upd (wd rs (4 * q)) u (rs (4 * u + 3))) u (rs (4 * u + 2) + 256 * rs (4 * u + 3))) u (rs (4 * u + 1) + 256 * rs (4 * u + 2) + 65536 * rs (4 * u + 3)) := by
  show upd (wd rs (4 * q + 2)) ((63 - (4 * q + 2)) / 4) (vo (vl (wd rs (4 * q + 2) ((63 - (4 * q + 2)) / 4)) 8) (cv .u32 (rs (63 - (4 * q + 2))))) = _
  have e : upd (upd (wd rs (4 * q)) u (rs (4 * u + 3))) u (rs (4 * u + 2) + 256 * rs (4 * u + 3)) u = rs (4 * u + 2) + 256 * rs (4 * u + 3) := by simp [upd]
  rw [i2, j2, w2, e, vo_sh _ _ (by omega) (by omega) c1.1 c1.2]
  congr 1
  omega
 show upd (wd rs (4 * q + 3)) ((63 - (4 * q + 3)) / 4) (vo (vl (wd rs (4 * q + 3) ((63 - (4 * q + 3)) / 4)) 8) (cv .u32 (rs (63 - (4 * q + 3))))) = _
 have e : upd (upd (upd (wd rs (4 * q)) u (rs (4 * u + 3))) u (rs (4 * u + 2) + 256 * rs (4 * u + 3))) u (rs (4 * u + 1) + 256 * rs (4 * u + 2) + 65536 * rs (4 * u + 3)) u = rs (4 * u + 1) + 256 * rs (4 * u + 2) + 65536 * rs (4 * u + 3) := by simp [upd]
 rw [i3, j3, w3, e, vo_sh _ _ (by omega) (by omega) c0.1 c0.2, upd4]
 congr 1
 unfold p4
 omega
theorem wd_at (rs : Nat → Int) (hr : ∀ i, 0 ≤ rs i ∧ rs i < 256) : ∀ q, q ≤ 16 → ∀ t, t < 16 → wd rs (4 * q) t = if 16 - q ≤ t then p4 rs t else 0
 | 0, _, t, ht => by rw [if_neg (by omega)]; rfl
 | q + 1, hq, t, ht => by
  have ih := wd_at rs hr q (by omega)
  have h0 := ih (15 - q) (by omega)
  rw [if_neg (by omega)] at h0
  show wd rs (4 * q + 4) t = _
  rw [wd_step rs hr q (by omega) h0]
  unfold upd
  by_cases e : t = 15 - q
  ·rw [if_pos e, if_pos (by omega), e]
  ·rw [if_neg e, ih t ht]
   by_cases h : 16 - q ≤ t
   ·rw [if_pos h, if_pos (by omega)]
   ·rw [if_neg h, if_neg (by omega)]
theorem wd_p4 (rs : Nat → Int) (hr : ∀ i, 0 ≤ rs i ∧ rs i < 256) (t : Nat) (ht : t < 16) : wd rs 64 t = p4 rs t := by
 have h := wd_at rs hr 16 (by omega) t ht
 rw [if_pos (by omega)] at h
 exact h
theorem spr_congr {x x' : Nat → Int} (h : ∀ i, i < 8 → x i = x' i) (ct : Int) (last : Bool) : ∀ t, t < 16 → spr x ct last t = spr x' ct last t := by
 have hB : ∀ t, spB x t = spB x' t := fun t => by
  unfold spB
  by_cases e : t < 8
  ·rw [if_pos e, if_pos e, h t e]
  ·rw [if_neg e, if_neg e]
 have hB2 : spB x = spB x' := funext hB
 intro t _
 unfold spr spC
 rw [hB2]
theorem mixW_congr {x x' m m' : Nat → Int} (h : ∀ i, i < 8 → x i = x' i) (hm : ∀ t, t < 16 → m t = m' t) (ct : Int) (last : Bool) : ∀ i, i < 8 → mixW x m ct last i = mixW x' m' ct last i := by
 intro i hi
 unfold mixW
 have hr := rd_congr hm (spr_congr h ct last) 10
 rw [h i hi, hr i (by omega), hr (8 + i) (by omega)]
theorem bt_ext (A : ByteArray) (a b i : Nat) (hb : b ≤ A.size) (hi : i < b - a) : bt (A.extract a b) i = bt A (a + i) := by
 unfold bt
 congr 2
 have hs : A.data.size = A.size := rfl
 rw [ByteArray.data_extract, Array.getElem?_extract, if_pos (by omega)]
theorem bt_out (A : ByteArray) (i : Nat) (h : A.size ≤ i) : bt A i = 0 := by
 have hs : A.data.size = A.size := rfl
 unfold bt
 rw [Array.getElem?_eq_none (by omega)]
 rfl
theorem bt_app (r s : ByteArray) (i : Nat) : bt (r ++ s) i = if i < r.size then bt r i else bt s (i - r.size) := by
 rw [bt_of_sb, sb_append, List.getD_eq_getElem?_getD]
 by_cases h : i < r.size
 ·rw [if_pos h, List.getElem?_append_left (by rw [sb_length]; exact h), ← List.getD_eq_getElem?_getD, ← bt_of_sb]
 ·rw [if_neg h, List.getElem?_append_right (by rw [sb_length]; omega), sb_length, ← List.getD_eq_getElem?_getD, ← bt_of_sb]
theorem bt_zs (c i : Nat) : bt (zs c) i = 0 := by
 unfold bt zs
 by_cases h : i < c
 ·simp [h]
 ·simp [h]
def seg (A : ByteArray) (a r : Nat) : List Int := (List.range r).map fun i => bt A (a + i)
theorem seg_length (A : ByteArray) (a r : Nat) : (seg A a r).length = r := by simp [seg]
theorem lf_seg (A : ByteArray) (a r i : Nat) : lf (seg A a r) i = if i < r then bt A (a + i) else 0 := by
 unfold lf seg
 rw [List.getD_eq_getElem?_getD, List.getElem?_map]
 by_cases h : i < r
 ·rw [if_pos h, List.getElem?_range h]
  rfl
 ·rw [if_neg h, List.getElem?_eq_none (by simp; omega)]
  rfl
theorem lf_seg_nn (A : ByteArray) (a r : Nat) : ∀ i, 0 ≤ lf (seg A a r) i ∧ lf (seg A a r) i < 256 := fun i => by
 rw [lf_seg]
 split
 ·exact bt_nn _ _
 ·omega
def PP (A : ByteArray) (x : Nat → Int) : Nat → (Nat → Int)
 | 0 => x
 | j + 1 => mixW (PP A x j) (wo (lf (seg A (64 * j) 64)) 64) ((64 * j + 64 : Nat) : Int) false
theorem ua_nat (a b : Nat) (h : a + b < 18446744073709551616) : ua (a : Int) (b : Int) = ((a + b : Nat) : Int) := by
 rw [ua_eq]
 omega
theorem tk_at (z kl : Nat) (A : ByteArray) : ∀ j, 64 * j < 1000000 → ∀ r, 0 < r → r ≤ 64 → tk (hs0 z kl) A (64 * j + r) = ⟨PP A (hs0 z kl).ws j, seg A (64 * j) r, ((64 * j : Nat) : Int)⟩
 | 0, _, r, h0, h1 => by
  have h := tk_run (hs0 z kl) A 0 r h0 (by
   rw [fl_id (H := tk (hs0 z kl) A 0) (show (hs0 z kl).wl.length < 64 by simp [hs0])]
   show (hs0 z kl).wl.length + r ≤ 64
   simpa [hs0] using h1)
  rw [fl_id (H := tk (hs0 z kl) A 0) (show (hs0 z kl).wl.length < 64 by simp [hs0])] at h
  rw [Nat.mul_zero, h]
  rfl
 | j + 1, hj, r, h0, h1 => by
  have ih := tk_at z kl A j (by omega) 64 (by omega) (by omega)
  have hf : fl (tk (hs0 z kl) A (64 * j + 64)) = ⟨PP A (hs0 z kl).ws (j + 1), [], ((64 * (j + 1) : Nat) : Int)⟩ := by
   rw [ih]
   unfold fl
   rw [if_pos (seg_length _ _ _)]
   simp only [seg_length, mixV_W]
   have e : ua ((64 * j : Nat) : Int) 64 = ((64 * j + 64 : Nat) : Int) := ua_nat (64 * j) 64 (by omega)
   rw [e]
   rfl
  have h := tk_run (hs0 z kl) A (64 * j + 64) r h0 (by rw [hf]; simpa using h1)
  rw [hf] at h
  rw [show 64 * (j + 1) + r = 64 * j + 64 + r by omega, h]
  rfl
theorem cut_seg (A : ByteArray) (a r : Nat) : cut r (lf (seg A a r)) = lf (seg A a r) := by
 funext i
 unfold cut
 split
 ·rfl
 ·rw [lf_seg, if_neg (by omega)]
theorem PP_pcs (A : ByteArray) (x : Nat → Int) : ∀ j, 64 * j ≤ A.size → A.size < 1000000 → ∀ i, i < 8 → PP A x j i = pcs A x j i
 | 0, _, _, _, _ => rfl
 | j + 1, hj, hA, i, hi => by
  have ih := PP_pcs A x j (by omega) hA
  unfold PP pcs
  rw [cv_u64 _ (by omega)]
  refine mixW_congr ih (fun t ht => ?_) _ _ i hi
  rw [wo_p4 _ (lf_seg_nn _ _ _) 64 (by omega) t, cut_seg, wd_p4 _ (bt_nn _) t ht]
  have hb : ∀ k, k < 64 → lf (seg A (64 * j) 64) k = bt (A.extract (64 * j) (64 * j + 64)) k := fun k hk => by
   rw [lf_seg, if_pos hk, bt_ext _ _ _ _ (by omega) (by omega)]
  unfold p4
  rw [hb _ (by omega), hb _ (by omega), hb _ (by omega), hb _ (by omega)]
theorem tk_app (H : HS) (s p : ByteArray) : ∀ k, tk (tk H s s.size) p k = tk H (s ++ p) (s.size + k)
 | 0 => by
  have h : ∀ k, k ≤ s.size → tk H (s ++ p) k = tk H s k := by
   intro k
   induction k with
   | zero => intro _; rfl
   | succ k ih =>
    intro hk
    show ab (tk H (s ++ p) k) (bt (s ++ p) k) = ab (tk H s k) (bt s k)
    rw [ih (by omega), bt_app, if_pos (by omega)]
  exact (h s.size (Nat.le_refl _)).symm
 | k + 1 => by
  show ab (tk (tk H s s.size) p k) (bt p k) = ab (tk H (s ++ p) (s.size + k)) (bt (s ++ p) (s.size + k))
  rw [tk_app H s p k, bt_app, if_neg (by omega), show s.size + k - s.size = k by omega]
theorem tk_all (H : HS) (s p : ByteArray) : tk H (s ++ p) (s ++ p).size = tk (tk H s s.size) p p.size := by
 rw [ByteArray.size_append, tk_app]
theorem tk_nw (z : Nat) (key s : ByteArray) : tk (nw z key) s s.size = tk (hs0 z key.size) (allV key s) (allV key s).size := by
 unfold nw allV
 split
 ·rfl
 ·exact (tk_all _ _ _).symm
theorem tk_end (z kl : Nat) (A : ByteArray) (hA : A.size < 1000000) : tk (hs0 z kl) A A.size = ⟨PP A (hs0 z kl).ws (nbl A), seg A (64 * nbl A) (A.size - 64 * nbl A), ((64 * nbl A : Nat) : Int)⟩ := by
 have hn : nbl A = (A.size - 1) / 64 := rfl
 by_cases h : A.size = 0
 ·have h0 : nbl A = 0 := by omega
  rw [h, h0]
  rfl
 ·have h1 := tk_at z kl A (nbl A) (by omega) (A.size - 64 * nbl A) (by omega) (by omega)
  rw [show 64 * nbl A + (A.size - 64 * nbl A) = A.size by omega] at h1
  exact h1
theorem sum_dfin (z kl : Nat) (A : ByteArray) (hA : A.size < 1000000) : ∀ i, i < 8 → sumW (tk (hs0 z kl) A A.size) i = dfin A (hs0 z kl).ws i := by
 intro i hi
 have hn : nbl A = (A.size - 1) / 64 := rfl
 rw [tk_end z kl A hA]
 unfold sumW dfin
 simp only [seg_length, mixV_W]
 rw [cv_u64 _ (by omega), cv_u64 _ (by omega), ua_nat _ _ (by omega), show 64 * nbl A + (A.size - 64 * nbl A) = A.size by omega]
 refine mixW_congr (PP_pcs A _ _ (by omega) hA) (fun t ht => ?_) _ _ i hi
 have hrs : (rst A).size = A.size - 64 * nbl A := by
  unfold rst
  rw [size_extract]
 rw [wo_p4 _ (lf_seg_nn _ _ _) _ (by omega) t, cut_seg, wd_p4 _ (bt_nn _) t ht]
 have hb : ∀ k, lf (seg A (64 * nbl A) (A.size - 64 * nbl A)) k = bt (rst A ++ zs (64 - (rst A).size)) k := fun k => by
  rw [lf_seg, bt_app, hrs]
  by_cases h : k < A.size - 64 * nbl A
  ·rw [if_pos h, if_pos h]
   unfold rst
   rw [bt_ext _ _ _ _ (by omega) h]
  ·rw [if_neg h, if_neg h, bt_zs]
 unfold p4
 rw [hb, hb, hb, hb]
theorem outL_step (h : Nat → Int) (j k : Nat) (hk : k < 4) : outL h (4 * j + k + 1) = outL h (4 * j + k) ++ [cv .u8 (sr (h j) (8 * k))] := by
 show outL h (4 * j + k) ++ _ = _
 rw [show (4 * j + k) / 4 = j by omega, show (4 * j + k) % 4 = k by omega]
theorem sr0 (x : Int) : sr x 0 = x := by
 unfold sr
 simp
theorem outL_loI (h : Nat → Int) : ∀ j, outL h (4 * j) = loI h j
 | 0 => rfl
 | j + 1 => by
  show outL h (4 * j + 3 + 1) = _
  rw [outL_step h j 3 (by omega), show 4 * j + 3 = 4 * j + 2 + 1 by rfl, outL_step h j 2 (by omega), show 4 * j + 2 = 4 * j + 1 + 1 by rfl, outL_step h j 1 (by omega), show 4 * j + 1 = 4 * j + 0 + 1 by rfl, outL_step h j 0 (by omega), Nat.add_zero, outL_loI h j]
  simp [loI, lo4, sr0]
theorem outL_take (h : Nat → Int) (z : Nat) : ∀ k, (outL h (z + k)).take z = outL h z
 | 0 => by rw [Nat.add_zero, List.take_of_length_le (by rw [outL_length]; exact Nat.le_refl _)]
 | k + 1 => by
  show (outL h (z + k) ++ _).take z = _
  rw [List.take_append_of_le_length (by rw [outL_length]; omega), outL_take h z k]
theorem doc_eq (z : Nat) (hz : z ≤ 32) (key s : ByteArray) (hs : s.size < 100000) (hk : key.size ≤ 32) : docS z key s = blV z key s := by
 have hA : (allV key s).size < 1000000 := by
  unfold allV
  split
  ·omega
  ·rw [ByteArray.size_append, ByteArray.size_append, zs_size]
   omega
 unfold docS docV blV
 rw [sumV_eq, tk_nw, loI_congr 8 (sum_dfin z key.size (allV key s) hA), ← outL_loI]
 congr 1
 have h := outL_take (dfin (allV key s) (hs0 z key.size).ws) z (32 - z)
 rw [show z + (32 - z) = 4 * 8 by omega] at h
 exact h.symm
open Go.RowKit
theorem inz160 : (Tryz.prog.info? 160).map (·.size) = some 64 := by kernel_rfl
theorem xb_nn (x y : Int) : 0 ≤ xb x y ∧ xb x y < 256 := cv8_nn _
def mkF (f : Nat → Int) (m : Int) : Nat → (Nat → Int)
 | 0 => f
 | j + 1 => upd (mkF f m j) j (xb (mkF f m j j) m)
theorem mkF_eq (f : Nat → Int) (m : Int) : ∀ j i, mkF f m j i = if i < j then xb (f i) m else f i
 | 0, i => by rw [if_neg (by omega)]; rfl
 | j + 1, i => by
  unfold mkF upd
  by_cases e : i = j
  ·subst e
   rw [if_pos rfl, if_pos (by omega), mkF_eq f m i i, if_neg (by omega)]
  ·rw [if_neg e, mkF_eq f m j i]
   by_cases h : i < j
   ·rw [if_pos h, if_pos (by omega)]
   ·rw [if_neg h, if_neg (by omega)]
def mk (f : Nat → Int) (m : Int) : ByteArray := bs ((List.range 64).map fun i => xb (f i) m)
theorem mk_size (f : Nat → Int) (m : Int) : (mk f m).size = 64 := by rw [mk, bs_size]; simp
theorem bl_size (s : ByteArray) : (blV 32 strE s).size = 32 := by
 unfold blV
 rw [sumV_eq, bs_size, List.length_take, loI_length]
 rfl
def keyV (key : ByteArray) : ByteArray := if 64 < key.size then blV 32 strE key else key
def tagV (f : Nat → Int) (s : ByteArray) : ByteArray := blV 32 strE (mk f 92 ++ blV 32 strE (mk f 54 ++ s))
theorem tagV_size (f : Nat → Int) (s : ByteArray) : (tagV f s).size = 32 := bl_size _
def hmV (key s : ByteArray) : ByteArray := tagV (bt (keyV key)) s
theorem bt_cp (s : ByteArray) (hs : s.size ≤ 64) : ∀ j, j < 64 → (if 0 ≤ j ∧ j < 0 + Nat.min s.size 64 then w8 (bt s) (j - 0) else w8 (fun _ => 0) j) = w8 (bt s) j := fun j _ => by
 have e : Nat.min s.size 64 = s.size := Nat.min_eq_left hs
 rw [e, Nat.sub_zero]
 unfold w8
 by_cases h : j < s.size
 ·rw [if_pos (by omega)]
 ·rw [if_neg (by omega), bt_out s j (by omega)]
theorem mk_back (f : Nat → Int) (m : Int) : bs ((List.range 64).map (mkF f m 64)) = mk f m := by
 unfold mk
 refine congrArg bs ?_
 refine List.map_congr_left fun i hi => ?_
 rw [mkF_eq, if_pos (List.mem_range.1 hi)]
theorem mk_nn (f : Nat → Int) (m : Int) : ∀ x ∈ (List.range 64).map (mkF f m 64), 0 ≤ x ∧ x < 256 := fun x hx => by
 obtain ⟨i, hi, rfl⟩ := List.mem_map.1 hx
 rw [mkF_eq, if_pos (List.mem_range.1 hi)]
 exact xb_nn _ _
theorem c_masked (f : Nat → Int) (m : Int) (w : World) (hL : Laid w)  : Cs 169 #[.agg (av 64 (w8 f)), .int .u8 m] w (.string (mk f m)) := by
 go_enter Tryz.func169, Tryz.ntmps169
 have M := Mem.start hL
 refine sR ?_
 refine pN M 2 (.cells (av 64 (w8 f)) 160) fun g1 u1 M => ?_
 refine rV 1 <| nT <| wp_seq <| sq ?_
 refine wp_block ?_
 refine au_loop (fun j a w' => ∃ v1 : Nat → Value, a = (fm ([.agg (av 64 (w8 f)), .int .u8 m, .pointer (some ⟨g1, 0, none⟩), undef, .string ⟨#[]⟩, v1 5, .int .i64 (j : Int)] ++ vr v1 7 9 ++ [undef, undef])) ∧ Mem ⟨w, []⟩ [⟨g1, .cells (av 64 (w8 (mkF f m j))) 160⟩] w') 64 (exS M) ?_ ?_
 ·intro j a u0 hj hI
  obtain ⟨v1, rfl, M⟩ := hI
  refine sR ?_
  refine ZT 7 ((j : Int) < 64) ?_
  refine nT <| wp_seq <| cT <| wp_skip <| au_then ?_
  refine wp_seq ?_
  refine wp_block ?_
  refine sq ?_
  refine rg_lit ?_
  refine rV 1 ?_
  refine ZX 10 .i64 g1 (j) 64 ?_
  refine ZE M 11 0 j ?_
  refine rV 2 ?_
  refine ZX 14 .i64 g1 (j) 64 ?_
  refine ZP8 M 0 j (xb (mkF f m j j) m) fun u2 M => ?_
  refine pl_nil ?_
  refine au_block ?_
  refine au_then ?_
  refine rg_lit ?_
  refine ZI 15 ((j : Int) + 1) ((j + 1 : Nat) : Int) ?_
  refine rV 1 <| nT ?_
  exact exS M
 ·intro a u0 hI
  obtain ⟨v1, rfl, M⟩ := hI
  refine sR ?_
  refine ZF 7 ((64 : Int) < 64) ?_
  refine nT <| wp_seq <| cF ?_
  refine wp_exit ?_
  refine au_then_exit ?_
  refine au_then_exit ?_
  refine au_block_exit ?_
  refine au_then <| sR <| rV 1 ?_
  refine pl_back M (want_no rfl) (some 17) rfl _ rfl 0 g1 64 64 (by kernel_rfl) _ rfl ((List.range 64).map (mkF f m 64)) 64 (sb_av 64 _ _) (by simp) (mk_nn f m) ?_
  rw [mk_back]
  refine rV 1 <| nT <| wp_ret ?_
  exact b1 M
theorem c_blockA (key : ByteArray) (hk : 64 < key.size) (w : World) (hL : Laid w)  : Cs 111 #[.string key] w (.agg (av 64 (w8 (bt (keyV key))))) := by
 go_enter Tryz.func111, Tryz.ntmps111
 have M := Mem.start hL
 obtain ⟨K, hK⟩ : ∃ K, blV 32 strE key = K := ⟨_, rfl⟩
 have hs : K.size ≤ 64 := by rw [← hK, bl_size]; decide
 refine sR ?_
 refine pN M 2 (.cells (av 64 (w8 (fun _ => 0))) 160) fun g1 u1 M => ?_
 refine nT <| wp_seq <| sR <| rV 2 ?_
 refine ZT 6 ((64 : Int) < (key.size : Int)) ?_
 refine nT <| cT ?_
 refine rg_lit ?_
 refine rV 1 ?_
 refine pC M 8 45 #[.string key] (.string K) (fun w M => (by rw [← hK]; exact c_of key w M.laid)) fun u2 M => ?_
 refine rV 1 <| nT <| sR ?_
 refine pN M 3 (.cells (av 64 (w8 (fun _ => 0))) 160) fun g2 u3 M => ?_
 refine nT <| sR <| rV 2 ?_
 refine pl_copyS M (want_no rfl) (some 11) rfl 61 9 3 5 Tryz.underlying61 inz5 1 g2 64 160 (w8 (fun _ => 0)) rfl 0 64 64 K (Nat.min K.size 64) rfl (by rw [Nat.zero_add]; exact Nat.min_le_right _ _) (w8 (bt K)) (bt_cp K hs) (fun _ => by kernel_rfl) fun u4 M => ?_
 refine nT <| sR ?_
 refine pA M 12 1 64 (w8 (bt K)) ?_
 refine ZG M 0 64 (w8 (bt K)) fun u5 M => ?_
 refine nT <| wp_ret ?_
 have e : keyV key = K := by unfold keyV; rw [if_pos hk, hK]
 rw [e]
 exact bodyPost_ret (v := .agg (av 64 (w8 (bt K)))) (results_cell_row Tryz.results111 _ _ g1 160 (av 64 (w8 (bt K))) (0, 0) _ (by kernel_rfl) (M.get 0 rfl) Tryz.underlying160 rfl (by rw [av_size]; exact inz160)) (by kernel_rfl) ⟨rfl, below_grown M.old⟩
theorem c_blockB (key : ByteArray) (hs : ¬ 64 < key.size) (w : World) (hL : Laid w)  : Cs 111 #[.string key] w (.agg (av 64 (w8 (bt (keyV key))))) := by
 go_enter Tryz.func111, Tryz.ntmps111
 have M := Mem.start hL
 have hs : key.size ≤ 64 := by omega
 refine sR ?_
 refine pN M 2 (.cells (av 64 (w8 (fun _ => 0))) 160) fun g1 u1 M => ?_
 refine nT <| wp_seq <| sR <| rV 2 ?_
 refine ZF 6 ((64 : Int) < (key.size : Int)) ?_
 refine nT <| cF <| wp_skip <| au_then <| sR ?_
 refine pN M 3 (.cells (av 64 (w8 (fun _ => 0))) 160) fun g2 u2 M => ?_
 refine nT <| sR <| rV 2 ?_
 refine pl_copyS M (want_no rfl) (some 11) rfl 61 9 3 5 Tryz.underlying61 inz5 1 g2 64 160 (w8 (fun _ => 0)) rfl 0 64 64 key (Nat.min key.size 64) rfl (by rw [Nat.zero_add]; exact Nat.min_le_right _ _) (w8 (bt key)) (bt_cp key hs) (fun _ => by kernel_rfl) fun u3 M => ?_
 refine nT <| sR ?_
 refine pA M 12 1 64 (w8 (bt key)) ?_
 refine ZG M 0 64 (w8 (bt key)) fun u4 M => ?_
 refine nT <| wp_ret ?_
 have e : keyV key = key := by unfold keyV; rw [if_neg (by omega)]
 rw [e]
 exact bodyPost_ret (v := .agg (av 64 (w8 (bt key)))) (results_cell_row Tryz.results111 _ _ g1 160 (av 64 (w8 (bt key))) (0, 0) _ (by kernel_rfl) (M.get 0 rfl) Tryz.underlying160 rfl (by rw [av_size]; exact inz160)) (by kernel_rfl) ⟨rfl, below_grown M.old⟩
theorem c_block (key : ByteArray) (w : World) (hL : Laid w) : Cs 111 #[.string key] w (.agg (av 64 (w8 (bt (keyV key))))) := by
 by_cases h : 64 < key.size
 ·exact c_blockA key h w hL
 ·exact c_blockB key h w hL
theorem c_tag (f : Nat → Int) (s : ByteArray) (hs : s.size < 100000) (w : World) (hL : Laid w)  : Cs 151 #[.agg (av 64 (w8 f)), .string s] w (.string (tagV f s)) := by
 go_enter Tryz.func151, Tryz.ntmps151
 have M := Mem.start hL
 refine sR ?_
 refine pN M 2 (.cells (av 64 (w8 f)) 160) fun g1 u1 M => ?_
 refine rV 1 <| nT <| wp_seq ?_
 refine rg_tail M 9 (by kernel_rfl) (by kernel_rfl) ?_
 simp only [List.take_succ_cons, List.take_zero]
 refine kA M 5 0 64 (w8 f) ?_
 refine eC M 6 (fun w M => c_masked f 92 w M.laid) ?_
 refine kA M 7 0 64 (w8 f) ?_
 refine eC M 8 (fun w M => c_masked f 54 w M.laid) ?_
 refine kR 1 ?_
 refine kH 10 (.string ((mk f 54) ++ s)) (run_cat 9 9 _ _ rfl (mk f 54) s (by kernel_rfl) (by kernel_rfl) (by rw [mk_size]; omega)) ?_
 refine kC M 11 45 #[.string ((mk f 54) ++ s)] (.string (blV 32 strE ((mk f 54) ++ s))) (fun w M => c_of _ w M.laid) ?_
 refine kH 12 (.string ((mk f 92) ++ (blV 32 strE (mk f 54 ++ s)))) (run_cat 9 9 _ _ rfl (mk f 92) (blV 32 strE (mk f 54 ++ s)) (by kernel_rfl) (by kernel_rfl) (by rw [mk_size, bl_size]; decide)) ?_
 refine kC M 13 45 #[.string ((mk f 92) ++ (blV 32 strE (mk f 54 ++ s)))] (.string (blV 32 strE ((mk f 92) ++ (blV 32 strE (mk f 54 ++ s))))) (fun w M => c_of _ w M.laid) ?_
 refine kl_nil fun u2 M => ?_
 refine rV 1 <| nT <| wp_ret ?_
 exact b1 M
theorem c_hmac (key s : ByteArray) (hs : s.size < 100000) (w : World) (hL : Laid w)  : Cs 113 #[.string key, .string s] w (.string (hmV key s)) := by
 go_enter Tryz.func113, Tryz.ntmps113
 have M := Mem.start hL
 refine sq <| sR <| rV 1 ?_
 refine ZC M 6 (fun w M => c_block key w M.laid) fun u1 M => ?_
 refine rV 1 ?_
 refine ZC M 8 (fun w M => c_tag (bt (keyV key)) s hs w M.laid) fun u2 M => ?_
 refine rV 1 <| nT <| wp_ret ?_
 exact b1 M
theorem c_extract (key s : ByteArray) (hs : s.size < 100000) (w : World) (hL : Laid w)  : Cs 83 #[.string key, .string s] w (.string (hmV key s)) := by
 go_enter Tryz.func83, Tryz.ntmps83
 have M := Mem.start hL
 refine sq <| sR <| rV 2 ?_
 refine ZC M 7 (fun w M => c_hmac key s hs w M.laid) fun u1 M => ?_
 refine rV 1 <| nT <| wp_ret ?_
 exact b1 M
open Go.RowKit
open Go.Shelf
section
variable {P : Program} {ops : Array Oper} {rest : List Oper} {o : Oper} {a : Act} {w : World} {c : Ctx} {L : List Blk} {Q : Exit → Act → World → Prop} {K : Act → World → Prop} {J : Act → World → Prop}
theorem au_then_goto {i : Nat} (h : Q (.goto i) a w) : Exit.then K Q (.goto i) a w := h
theorem au_scope_ret {i : Nat} (h : Q .ret a w) : Exit.jump i J Q .ret a w := h
end
structure BU (w : World) (f : Nat → Int) (g k : Nat) (l : List UInt8) (u : World) : Prop where
 bel : Below w.heap.size w u
 ge : w.heap.size ≤ g
 lt : g < k
 blk : u.heap[g]? = some (.cells (av 64 (w8 f)) 160)
 isb : Lib.IsBuilder 177 5 k k (Lib.byteCells l) u
theorem BU.ne {w u : World} {f : Nat → Int} {g k : Nat} {l : List UInt8} (h : BU w f g k l u) (hL : Laid w) : 2 < g := by have := hL.lt; have := h.ge; omega
theorem BU.mem {w u : World} {f : Nat → Int} {g k : Nat} {l : List UInt8} (h : BU w f g k l u) (hL : Laid w) : Mem ⟨u, [g]⟩ [⟨g, .cells (av 64 (w8 f)) 160⟩] u := Mem.startp (below_laid h.bel hL) h.blk (h.ne hL)
theorem BU.keep {w u : World} {f : Nat → Int} {g k : Nat} {l : List UInt8} (h : BU w f g k l u) {L : List Blk} {u' : World} (M : Mem ⟨u, [g]⟩ (⟨g, .cells (av 64 (w8 f)) 160⟩ :: L) u') : BU w f g k l u' :=
 have hb := same1 M.old h.blk (M.get 0 rfl)
 ⟨h.bel.trans (hb.mono h.bel.size), h.ge, h.lt, M.get 0 rfl, isb_keep h.isb hb⟩
theorem BU.start {w u : World} {f : Nat → Int} {g k : Nat} (M : Mem ⟨w, []⟩ [⟨g, .cells (av 64 (w8 f)) 160⟩, ⟨k, .cells (av 2 bF0) 177⟩] u) (hlt : g < k) : BU w f g k [] u :=
 ⟨below_grown M.old, (M.ge _ (List.mem_of_getElem? (i := 0) rfl)).elim id (fun h => by cases h), hlt, M.get 0 rfl, .inl ⟨Nat.le_refl _, .slice none 0 0, M.get 1 rfl, World.ownsRow_nil _ _ _ _, by simp [Value.ownBlock]⟩⟩
theorem c_len {w u : World} {f : Nat → Int} {g k : Nat} {l : List UInt8} (h : BU w f g k l u) : Cs 143 #[.pointer (some ⟨k, 0, none⟩)] u (.int .i64 (l.length : Int)) := by
 refine (Any.Builder_Len (P := Tryz.prog) (ρ := repRen) { repLays with } k k (Lib.byteCells l) u h.isb).mono ?_
 rintro r w' ⟨rfl, rfl⟩
 exact ⟨by rw [Lib.byteCells_length], Below.refl _ _⟩
theorem c_write {w u : World} {f : Nat → Int} {g k : Nat} {l : List UInt8} (h : BU w f g k l u) (s : ByteArray) (hl : l.length + s.size < 1000000) : Calls Tryz.prog 142 #[.pointer (some ⟨k, 0, none⟩), .string s] u fun r w' => r = .returned (.tuple #[.int .i64 s.size, .nilIface]) ∧ BU w f g k (l ++ s.data.toList) w' := by
 have hk := isb_lt h.isb
 refine (Any.Builder_WriteString (P := Tryz.prog) (ρ := repRen) { repLays with } repExtra k k (Lib.byteCells l) s u h.isb (by rw [Lib.byteCells_length]; omega) (by omega)).mono ?_
 rintro r w' ⟨rfl, h1, h2⟩
 exact ⟨rfl, h.bel.trans (h2.mono (by have := h.ge; have := h.lt; omega)), h.ge, h.lt, by rw [h2.block g h.lt]; exact h.blk, .inr (by rw [Lib.byteCells_append]; exact h1)⟩
theorem c_string {w u : World} {f : Nat → Int} {g k : Nat} {l : List UInt8} (h : BU w f g k l u) (s : ByteArray) (hs : s.data.toList = l) : Calls Tryz.prog 131 #[.pointer (some ⟨k, 0, none⟩)] u fun r w' => r = .returned (.string s) ∧ Below w.heap.size w w' := by
 have hk := isb_lt h.isb
 refine (Any.Builder_String_any (P := Tryz.prog) (ρ := repRen) { repLays with } repExtra k k l u h.isb (by omega)).mono ?_
 rintro r w' ⟨rfl, h2⟩
 refine ⟨?_, h.bel.trans (h2.mono (by have := h.ge; have := h.lt; omega))⟩
 rw [← hs]
def tg (f : Nat → Int) (info : ByteArray) : Nat → ByteArray
 | 0 => strE
 | i + 1 => tagV f (tg f info i ++ info ++ bs [((i + 1 : Nat) : Int)])
def al (f : Nat → Int) (info : ByteArray) : Nat → ByteArray
 | 0 => strE
 | i + 1 => al f info i ++ tg f info (i + 1)
theorem tg_size (f : Nat → Int) (info : ByteArray) (i : Nat) : (tg f info (i + 1)).size = 32 := tagV_size _ _
theorem tg_le (f : Nat → Int) (info : ByteArray) : ∀ i, (tg f info i).size ≤ 32
 | 0 => by show 0 ≤ 32; decide
 | i + 1 => by rw [tg_size]; decide
theorem al_size (f : Nat → Int) (info : ByteArray) : ∀ i, (al f info i).size = 32 * i
 | 0 => rfl
 | i + 1 => by
  unfold al
  rw [ByteArray.size_append, al_size f info i, tg_size]
  omega
theorem al_len (f : Nat → Int) (info : ByteArray) (i : Nat) : (al f info i).data.toList.length = 32 * i := by
 rw [← al_size f info i]
 rfl
theorem al_next (f : Nat → Int) (info : ByteArray) (i : Nat) : (al f info i).data.toList ++ (tg f info (i + 1)).data.toList = (al f info (i + 1)).data.toList := by
 show _ = (al f info i ++ tg f info (i + 1)).data.toList
 rw [ByteArray.data_append, Array.toList_append]
theorem sb_one (x : Int) (T : TypeId) : SB (.cells (av 1 (fun _ => .int .u8 x)) T) 1 (vs8 [x]) := ⟨_, T, (0, 0), rfl, by simp [vs8], by rw [av_size]; exact Nat.le_refl _, fun i hi => by
 simp [vs8] at hi
 subst hi
 rfl, fun i _ => by simp⟩
def numOf : Value → Int
 | .int _ x => x
 | _ => 0
def mu9 (N : Nat) (a : Act) : Nat := N - (numOf (a.tmps.getD 9 undef)).toNat
theorem mu9_lt {N : Nat} {a a' : Act} (x y : Nat) (h1 : a'.tmps.getD 9 undef = .int .u8 (y : Int)) (h2 : a.tmps.getD 9 undef = .int .u8 (x : Int)) (hxy : x < y) (hy : y ≤ N) : mu9 N a' < mu9 N a := by
 unfold mu9
 rw [h1, h2]
 show N - (y : Int).toNat < N - (x : Int).toNat
 omega
theorem add8 (j : Nat) (h : j < 255) : IntKind.wrap .u8 ((j : Int) + 1) = ((j + 1 : Nat) : Int) := by
 show ((j : Int) + 1) % 256 = _
 omega
theorem c_tags (f : Nat → Int) (info : ByteArray) (hi : info.size < 10000) (n : Nat) (hn : n ≤ 8160) (w : World) (hL : Laid w)  : Cs 112 #[.agg (av 64 (w8 f)), .string info, .int .i64 (n : Int)] w (.string (al f info ((n + 31) / 32))) := by
 go_enter Tryz.func112, Tryz.ntmps112
 have M := Mem.start hL
 obtain ⟨N, hN⟩ : ∃ N, N = (n + 31) / 32 := ⟨_, rfl⟩
 refine sR ?_
 refine pN M 3 (.cells (av 64 (w8 f)) 160) fun g1 u1 M => ?_
 refine rV 1 <| nT ?_
 refine wp_scope_jumps 0 (fun a u => ∃ (j gk : Nat) (v : Nat → Value), j ≤ N ∧ a = (fm ([.agg (av 64 (w8 f)), .string info, .int .i64 (n : Int), .pointer (some ⟨g1, 0, none⟩), undef, undef, v 6, .pointer (some ⟨gk, 0, none⟩), .string (tg f info j), .int .u8 (j : Int)] ++ vr v 10 17)) ∧ BU w f g1 gk (al f info j).data.toList u) (fun a _ => mu9 N a) rfl ?_ ?_
 ·refine sR ?_
  refine pl_newB M (want_no rfl) (some 7) rfl (.cells (av 2 bF0) 177) (fun _ => by kernel_rfl) ?_
  intro g2 u2 hlt M
  replace hlt : g1 < g2 := hlt _ (List.mem_of_getElem? (i := 0) rfl)
  refine nT <| sq <| wp_seq ?_
  refine wp_label ?_
  refine au_then ?_
  have hB : BU w f g1 g2 (al f info 0).data.toList u2 := BU.start M hlt
  generalize g2 = gk at hB
  clear M hlt
  by_cases hj : 0 < N
  ··skip
    have M := hB.mem hL
    refine wp_seq <| sR ?_
    refine ZC M 10 (fun w M => c_len (hB.keep M)) fun u3 M => ?_
    refine rV 1 ?_
    refine pH 12 (.bool true) (fun w => Eq.trans (b := .ok (.value (.bool (decide (((al f info 0).data.toList.length : Int) < (n : Int))))) w) (by kernel_rfl) (by rw [al_len, decide_eq_true (by omega)])) ?_
    refine nT <| cT <| sR <| rV 1 ?_
    refine ZQ 14 .u8 (IntKind.wrap .u8 ((0 : Nat) + 1 : Int)) (add8 0 (by omega)) ?_
    refine rV 1 <| nT <| sR ?_
    refine pA M 15 0 64 (w8 f) ?_
    refine rV 2 ?_
    refine pH 18 (.string ((tg f info 0) ++ info)) (run_cat 9 9 _ _ rfl (tg f info 0) info (by kernel_rfl) (by kernel_rfl) (by have := tg_le f info 0; omega)) ?_
    refine rV 1 ?_
    refine ZM M 20 (fun g3 => .slice (some ⟨g3, 0, none⟩) 1 1) (.cells (av 1 (fun _ => .int .u8 ((0 + 1 : Nat) : Int))) 5) fun g3 u4 M => ?_
    refine pl_back M (want_no rfl) (some 21) rfl _ rfl 1 g3 1 1 (by kernel_rfl) _ rfl [((0 + 1 : Nat) : Int)] 1 (sb_one _ _) rfl (by intro x hx; rw [List.mem_singleton.1 hx]; omega) ?_
    refine pH 22 (.string ((tg f info 0 ++ info) ++ (bs [((0 + 1 : Nat) : Int)]))) (run_cat 9 9 _ _ rfl (tg f info 0 ++ info) (bs [((0 + 1 : Nat) : Int)]) (by kernel_rfl) (by kernel_rfl) (by rw [ByteArray.size_append, bs_size]; have := tg_le f info 0; simp; omega)) ?_
    refine pC M 23 151 #[.agg (av 64 (w8 f)), .string ((tg f info 0 ++ info) ++ (bs [((0 + 1 : Nat) : Int)]))] (.string (tg f info (0 + 1))) (fun w M => c_tag f _ (by simp only [ByteArray.size_append, bs_size]; have := tg_le f info 0; simp; omega) w M.laid) fun u5 M => ?_
    refine rV 1 <| nT <| sR <| rV 1 ?_
    refine pl_callr (want_no rfl) (some 25) rfl 142 #[.pointer (some ⟨gk, 0, none⟩), .string (tg f info (0 + 1))] (.tuple #[.int .i64 (tg f info (0 + 1)).size, .nilIface]) _ (fun _ => by kernel_rfl) (c_write (hB.keep M) (tg f info (0 + 1)) (by rw [al_len, tg_size]; omega)) ?_
    intro u6 hB2
    rw [al_next] at hB2
    refine nT ?_
    refine wp_goto ?_
    refine au_then_goto ?_
    exact ⟨rfl, 0 + 1, gk, fun k_ => ([.string ⟨#[]⟩, undef, undef, undef, .int .i64 ((al f info 0).data.toList.length : Int), .int .i64 (n : Int), .bool true, .int .u8 ((0 : Nat) : Int), .int .u8 ((0 + 1 : Nat) : Int), .agg (av 64 (w8 f)), .string (tg f info 0), .string info, .string ((tg f info 0) ++ info), .int .u8 ((0 + 1 : Nat) : Int), .slice (some ⟨g3, 0, none⟩) 1 1, .string (bs [((0 + 1 : Nat) : Int)]), .string ((tg f info 0 ++ info) ++ (bs [((0 + 1 : Nat) : Int)])), .string (tg f info (0 + 1)), .string (tg f info (0 + 1)), .tuple #[.int .i64 (tg f info (0 + 1)).size, .nilIface], undef] : List Value).getD (k_ - 6) undef, by omega, by kernel_rfl, hB2⟩
  ·have hjN : N = 0 := by omega
   ·have M := hB.mem hL
    refine wp_seq <| sR ?_
    refine ZC M 10 (fun w M => c_len (hB.keep M)) fun u7 M => ?_
    refine rV 1 ?_
    refine pH 12 (.bool false) (fun w => Eq.trans (b := .ok (.value (.bool (decide (((al f info 0).data.toList.length : Int) < (n : Int))))) w) (by kernel_rfl) (by rw [al_len, decide_eq_false (by omega)])) ?_
    refine nT <| cF <| wp_skip <| au_then <| sR ?_
    refine pl_callr (want_no rfl) (some 26) rfl 131 #[.pointer (some ⟨gk, 0, none⟩)] (.string (al f info N)) _ (fun _ => by kernel_rfl) (c_string (hB.keep M) (al f info N) (by rw [hjN])) ?_
    intro u8 hB2
    refine rV 1 <| nT <| wp_ret ?_
    refine au_scope_ret ?_
    rw [← hN]
    exact bodyPost_ret (v := .string (al f info N)) (results_tmp1 Tryz.results112 _ _ _ (by kernel_rfl)) (by kernel_rfl) ⟨rfl, hB2⟩
 ·intro a u0 hJ
  obtain ⟨j, gk, v, hjn, rfl, hB⟩ := hJ
  refine wp_seq <| wp_skip <| au_then ?_
  by_cases hj : j < N
  ··skip
    have M := hB.mem hL
    refine wp_seq <| sR ?_
    refine ZC M 10 (fun w M => c_len (hB.keep M)) fun u9 M => ?_
    refine rV 1 ?_
    refine pH 12 (.bool true) (fun w => Eq.trans (b := .ok (.value (.bool (decide (((al f info j).data.toList.length : Int) < (n : Int))))) w) (by kernel_rfl) (by rw [al_len, decide_eq_true (by omega)])) ?_
    refine nT <| cT <| sR <| rV 1 ?_
    refine ZQ 14 .u8 (IntKind.wrap .u8 ((j : Nat) + 1 : Int)) (add8 j (by omega)) ?_
    refine rV 1 <| nT <| sR ?_
    refine pA M 15 0 64 (w8 f) ?_
    refine rV 2 ?_
    refine pH 18 (.string ((tg f info j) ++ info)) (run_cat 9 9 _ _ rfl (tg f info j) info (by kernel_rfl) (by kernel_rfl) (by have := tg_le f info j; omega)) ?_
    refine rV 1 ?_
    refine ZM M 20 (fun g4 => .slice (some ⟨g4, 0, none⟩) 1 1) (.cells (av 1 (fun _ => .int .u8 ((j + 1 : Nat) : Int))) 5) fun g4 u10 M => ?_
    refine pl_back M (want_no rfl) (some 21) rfl _ rfl 1 g4 1 1 (by kernel_rfl) _ rfl [((j + 1 : Nat) : Int)] 1 (sb_one _ _) rfl (by intro x hx; rw [List.mem_singleton.1 hx]; omega) ?_
    refine pH 22 (.string ((tg f info j ++ info) ++ (bs [((j + 1 : Nat) : Int)]))) (run_cat 9 9 _ _ rfl (tg f info j ++ info) (bs [((j + 1 : Nat) : Int)]) (by kernel_rfl) (by kernel_rfl) (by rw [ByteArray.size_append, bs_size]; have := tg_le f info j; simp; omega)) ?_
    refine pC M 23 151 #[.agg (av 64 (w8 f)), .string ((tg f info j ++ info) ++ (bs [((j + 1 : Nat) : Int)]))] (.string (tg f info (j + 1))) (fun w M => c_tag f _ (by simp only [ByteArray.size_append, bs_size]; have := tg_le f info j; simp; omega) w M.laid) fun u11 M => ?_
    refine rV 1 <| nT <| sR <| rV 1 ?_
    refine pl_callr (want_no rfl) (some 25) rfl 142 #[.pointer (some ⟨gk, 0, none⟩), .string (tg f info (j + 1))] (.tuple #[.int .i64 (tg f info (j + 1)).size, .nilIface]) _ (fun _ => by kernel_rfl) (c_write (hB.keep M) (tg f info (j + 1)) (by rw [al_len, tg_size]; omega)) ?_
    intro u12 hB2
    rw [al_next] at hB2
    refine nT ?_
    refine wp_goto ?_
    refine au_then_goto ?_
    exact ⟨rfl, ⟨j + 1, gk, fun k_ => ([v 6, undef, undef, undef, .int .i64 ((al f info j).data.toList.length : Int), .int .i64 (n : Int), .bool true, .int .u8 (j : Int), .int .u8 ((j + 1 : Nat) : Int), .agg (av 64 (w8 f)), .string (tg f info j), .string info, .string ((tg f info j) ++ info), .int .u8 ((j + 1 : Nat) : Int), .slice (some ⟨g4, 0, none⟩) 1 1, .string (bs [((j + 1 : Nat) : Int)]), .string ((tg f info j ++ info) ++ (bs [((j + 1 : Nat) : Int)])), .string (tg f info (j + 1)), .string (tg f info (j + 1)), .tuple #[.int .i64 (tg f info (j + 1)).size, .nilIface], v 26] : List Value).getD (k_ - 6) undef, by omega, by kernel_rfl, hB2⟩, mu9_lt j (j + 1) (by kernel_rfl) (by kernel_rfl) (by omega) (by omega)⟩
  ·have hjN : N = j := by omega
   ·have M := hB.mem hL
    refine wp_seq <| sR ?_
    refine ZC M 10 (fun w M => c_len (hB.keep M)) fun u13 M => ?_
    refine rV 1 ?_
    refine pH 12 (.bool false) (fun w => Eq.trans (b := .ok (.value (.bool (decide (((al f info j).data.toList.length : Int) < (n : Int))))) w) (by kernel_rfl) (by rw [al_len, decide_eq_false (by omega)])) ?_
    refine nT <| cF <| wp_skip <| au_then <| sR ?_
    refine pl_callr (want_no rfl) (some 26) rfl 131 #[.pointer (some ⟨gk, 0, none⟩)] (.string (al f info N)) _ (fun _ => by kernel_rfl) (c_string (hB.keep M) (al f info N) (by rw [hjN])) ?_
    intro u14 hB2
    refine rV 1 <| nT <| wp_ret ?_
    refine au_scope_ret ?_
    rw [← hN]
    exact bodyPost_ret (v := .string (al f info N)) (results_tmp1 Tryz.results112 _ _ _ (by kernel_rfl)) (by kernel_rfl) ⟨rfl, hB2⟩
open Go.RowKit
def ws (f : Nat → ByteArray) : Nat → Value := fun i => .string (f i)
theorem put_ws (f : Nat → ByteArray) (k : Nat) (v : ByteArray) (j : Nat) : (if j = k then .string v else ws f j) = ws (upd f k v) j := by
 unfold ws upd
 split <;> rfl
theorem info9_ex : (Tryz.prog.info? 9).isSome = true := by kernel_rfl
theorem info9_eq : Tryz.prog.info? 9 = some ((Tryz.prog.info? 9).get info9_ex) := (Option.some_get info9_ex).symm
theorem info9_z : ((Tryz.prog.info? 9).get info9_ex).zero = some (.string ⟨#[]⟩) := by kernel_rfl
theorem pl_makeS {ops : Array Oper} {rest : List Oper} {o : Oper} {a : Act} {w : World} {c : Ctx} {L : List Blk} {Q : Exit → Act → World → Prop} (M : Mem c L w) (hw : Region.wanted o (yielded ops a.tmps) = true) (d : Option Tmp) (hd : o.dst = d) (x y : Operand) (ho : o.op = .makeSlice 83 x y) (cap : Nat) (hx : a.eval x = .int .i64 (cap : Int)) (hy : a.eval y = .int .i64 (cap : Int)) (hc : cap < 1000000)
  (h : ∀ g w', Mem c (L ++ [⟨g, .cells (av cap (ws fun _ => ⟨#[]⟩)) 9⟩]) w' → PL Tryz.prog ops Q rest (a.put d (.slice (some ⟨g, 0, none⟩) cap cap)) w') : PL Tryz.prog ops Q (o :: rest) a w := by
 have hby : ((Tryz.prog.info? 9).get info9_ex).bytes ≤ 16 := by decide +kernel
 have hsz : ((Tryz.prog.info? 9).get info9_ex).size = 1 := by kernel_rfl
 have hr := run_make (P := Tryz.prog) w 83 9 _ (.string ⟨#[]⟩) Tryz.underlying83 info9_eq info9_z .i64 .i64 (cap : Int) (cap : Int) (by omega) (by omega) (by
  have := Int.mul_le_mul (show (((Tryz.prog.info? 9).get info9_ex).bytes : Int) ≤ 16 by omega) (show (cap : Int) ≤ 1000000 by omega) (by omega) (by omega)
  omega) (by omega)
 simp only [Int.toNat_natCast, hsz, Nat.mul_one] at hr
 have e : madeCells #[.string ⟨#[]⟩] cap = av cap (ws fun _ => ⟨#[]⟩) := by
  unfold madeCells av ws
  apply Array.ext_getElem?
  intro i
  by_cases hi : i < cap
  ·simp [hi, Nat.mod_one]
  ·simp [hi]
 refine pl_to hw d hd (.slice (some ⟨w.heap.size, 0, none⟩) cap cap) _ ?_ (h w.heap.size (w.alloc (.cells (av cap (ws fun _ => ⟨#[]⟩)) 9)) (M.new _ _ (new_below w _) (heap_alloc_new w _) (Nat.le_refl _)))
 unfold execOp
 simp only [ho, hx, hy, Sem.run_bind, Sem.run_pure]
 rw [hr, ← e]
 rfl
def exV (key info : ByteArray) (n : Nat) : ByteArray := (al (bt (keyV key)) info ((n + 31) / 32)).extract 0 n
theorem exV_size (key info : ByteArray) (n : Nat) : (exV key info n).size = n := by
 unfold exV
 rw [ByteArray.size_extract, al_size]
 omega
def txt (key s : ByteArray) (i : Nat) : ByteArray := tg (bt (keyV (hmV key s))) strE (i + 1)
theorem ba_app {A B : ByteArray} {i j : Nat} : (A ++ B).extract i j = A.extract i j ++ B.extract (i - A.size) (j - A.size) := by
 apply ByteArray.ext
 rw [ByteArray.data_extract, ByteArray.data_append, ByteArray.data_append, ByteArray.data_extract, ByteArray.data_extract, Array.extract_append]
 rfl
theorem ba_ext2 {A : ByteArray} {i j k l : Nat} : (A.extract i j).extract k l = A.extract (i + k) (min (i + l) j) := by
 apply ByteArray.ext
 rw [ByteArray.data_extract, ByteArray.data_extract, ByteArray.data_extract, Array.extract_extract]
theorem ba_none {A : ByteArray} {i j : Nat} (h : min j A.size ≤ i) : A.extract i j = ⟨#[]⟩ := by
 apply ByteArray.ext
 rw [ByteArray.data_extract]
 apply Array.eq_empty_of_size_eq_zero
 rw [Array.size_extract]
 have hs : A.data.size = A.size := rfl
 omega
theorem ba_whole {A : ByteArray} {j : Nat} (h : A.size ≤ j) : A.extract 0 j = A := by
 apply ByteArray.ext
 rw [ByteArray.data_extract]
 exact Array.extract_eq_self_of_le h
theorem al_cut (f : Nat → Int) (info : ByteArray) (j : Nat) : ∀ n, j < n → (al f info n).extract (j * 32) ((j + 1) * 32) = tg f info (j + 1)
 | 0, h => by omega
 | n + 1, h => by
  show (al f info n ++ tg f info (n + 1)).extract _ _ = _
  rw [ba_app, al_size]
  by_cases e : j = n
  ·subst e
   rw [ba_none (A := al f info j) (by rw [al_size]; omega), show j * 32 - 32 * j = 0 by omega, ba_whole (by rw [tg_size]; omega)]
   exact ByteArray.empty_append
  ·rw [al_cut f info j n (by omega), ba_none (A := tg f info (n + 1)) (by omega)]
   exact ByteArray.append_empty
theorem ex_cut (key s : ByteArray) (n j : Nat) (h : j < n) : (exV (hmV key s) strE (n * 32)).extract (j * 32) ((j + 1) * 32) = txt key s j := by
 unfold exV txt
 have h2 := Nat.mul_le_mul_right 32 (show j + 1 ≤ n by omega)
 rw [show (n * 32 + 31) / 32 = n by omega, ba_ext2, Nat.zero_add, Nat.zero_add, Nat.min_eq_left h2, al_cut _ _ j n h]
def chF (X : ByteArray) : Nat → (Nat → ByteArray)
 | 0 => fun _ => ⟨#[]⟩
 | j + 1 => upd (chF X j) j (X.extract (j * 32) ((j + 1) * 32))
theorem chF_eq (X : ByteArray) : ∀ n i, i < n → chF X n i = X.extract (i * 32) ((i + 1) * 32)
 | 0, i, h => by omega
 | n + 1, i, h => by
  unfold chF upd
  by_cases e : i = n
  ·subst e
   rw [if_pos rfl]
  ·rw [if_neg e, chF_eq X n i (by omega)]
theorem ch_av (key s : ByteArray) (n : Nat) : av n (ws (chF (exV (hmV key s) strE (n * 32)) n)) = av n (ws (txt key s)) := av_congr fun i hi => by
 unfold ws
 rw [chF_eq _ n i hi, ex_cut key s n i hi]
theorem c_exp (key info : ByteArray) (hi : info.size < 10000) (n : Nat) (hn : n ≤ 8160) (w : World) (hL : Laid w)  : Cs 82 #[.string key, .string info, .int .i64 (n : Int)] w (.tuple #[.string (exV key info n), .int .i64 0]) := by
 go_enter Tryz.func82, Tryz.ntmps82
 have M := Mem.start hL
 refine sq <| wp_seq <| sR <| rV 1 ?_
 refine ZF 9 ((n : Int) < 0) ?_
 refine rV 2 ?_
 refine pl_val (want_on 2 false rfl 10 rfl (by kernel_rfl)) (some 12) rfl (.bool false) (fun w => Eq.trans (b := .ok (.value (.bool (decide ((8160 : Int) < (n : Int))))) w) (by kernel_rfl) (by rw [decide_eq_false (by omega)])) ?_
 refine rV 1 <| nT <| cF <| wp_skip <| au_then ?_
 refine sR <| rV 1 ?_
 refine ZC M 15 (fun w M => c_block key w M.laid) fun u1 M => ?_
 refine rV 2 ?_
 refine pC M 18 112 #[.agg (av 64 (w8 (bt (keyV key)))), .string info, .int .i64 (n : Int)] (.string (al (bt (keyV key)) info ((n + 31) / 32))) (fun w M => c_tags _ info hi n hn w M.laid) fun u2 M => ?_
 refine rV 1 ?_
 refine pH 20 (.string (exV key info n)) (run_strh 9 Tryz.underlying9 _ _ rfl (al (bt (keyV key)) info ((n + 31) / 32)) (by kernel_rfl) .i64 n (by kernel_rfl) (by rw [al_size]; omega) _ rfl) ?_
 refine rV 2 <| nT <| wp_ret ?_
 exact b1 M
theorem c_ch (key s : ByteArray) (hs : s.size < 10000) (n : Nat) (h1 : 1 ≤ n) (h3 : n ≤ 3) (w : World) (hL : Laid w)  :
  Calls Tryz.prog 56 #[.string key, .string s, .int .i64 (n : Int)] w fun r w' => ∃ g, r = .returned (.tuple #[.slice (some ⟨g, 0, none⟩) n n, .int .i64 0]) ∧ w.heap.size ≤ g ∧ w'.heap[g]? = some (.cells (av n (ws (txt key s))) 9) ∧ Below w.heap.size w w' := by
 go_enter Tryz.func56, Tryz.ntmps56
 have M := Mem.start hL
 refine sq <| wp_seq <| sR <| rV 1 ?_
 refine ZF 13 ((n : Int) < 1) ?_
 refine rV 2 ?_
 refine pl_val (want_on 2 false rfl 14 rfl (by kernel_rfl)) (some 16) rfl (.bool false) (fun w => Eq.trans (b := .ok (.value (.bool (decide ((3 : Int) < (n : Int))))) w) (by kernel_rfl) (by rw [decide_eq_false (by omega)])) ?_
 refine rV 1 <| nT <| cF <| wp_skip <| au_then ?_
 refine sR <| rV 2 ?_
 refine ZC M 21 (fun w M => c_extract key s (by omega) w M.laid) fun u1 M => ?_
 refine rV 1 ?_
 refine ZI 23 ((n : Int) * 32) ((n * 32 : Nat) : Int) ?_
 refine ZC M 24 (fun w M => c_exp (hmV key s) strE (by decide) (n * 32) (by omega) w M.laid) fun u2 M => ?_
 refine rV 5 <| nT <| wp_seq <| sq <| cF ?_
 refine wp_skip <| au_then <| sR <| rV 1 ?_
 refine pl_makeS M (want_no rfl) (some 31) rfl _ _ rfl n (by kernel_rfl) (by kernel_rfl) (by omega) fun g1 u3 M => ?_
 refine rV 1 <| nT <| wp_seq <| sq ?_
 refine wp_block ?_
 refine au_loop (fun j a w' => ∃ v1 : Nat → Value, a = (fm ([.string key, .string s, .int .i64 (n : Int)] ++ und 3 ++ [.slice none 0 0, .int .i64 0, .string (exV (hmV key s) strE (n * 32)), .int .i64 0, .slice (some ⟨g1, 0, none⟩) n n, v1 11, .int .i64 (n : Int), .bool false, .bool false, .int .i64 (n : Int), .bool false, .bool false, .tuple #[.string (exV (hmV key s) strE (n * 32)), .int .i64 0], .string key, .string s, .string (hmV key s), .int .i64 (n : Int), .int .i64 ((n * 32 : Nat) : Int), .tuple #[.string (exV (hmV key s) strE (n * 32)), .int .i64 0], .string (exV (hmV key s) strE (n * 32)), .int .i64 0, .int .i64 0, .bool false, undef, .int .i64 (n : Int), .slice (some ⟨g1, 0, none⟩) n n, .slice (some ⟨g1, 0, none⟩) n n, .int .i64 (n : Int), .int .i64 (j : Int)] ++ vr v1 35 13 ++ [undef])) ∧ Mem ⟨w, []⟩ [⟨g1, .cells (av n (ws (chF (exV (hmV key s) strE (n * 32)) j))) 9⟩] w') n (exS M) ?_ ?_
 ·intro j a u0 hj hI
  obtain ⟨v1, rfl, M⟩ := hI
  refine sR ?_
  refine ZT 35 ((j : Int) < (n : Int)) ?_
  refine nT <| wp_seq <| cT <| wp_skip <| au_then ?_
  refine wp_seq ?_
  refine wp_block ?_
  refine sq ?_
  refine rg_lit ?_
  refine rV 4 ?_
  refine ZI 41 ((j : Int) * 32) ((j * 32 : Nat) : Int) ?_
  refine rV 1 ?_
  refine ZI 43 ((j : Int) + 1) ((j + 1 : Nat) : Int) ?_
  refine ZI 44 (((j + 1 : Nat) : Int) * 32) (((j + 1) * 32 : Nat) : Int) ?_
  refine pH 45 (.string ((exV (hmV key s) strE (n * 32)).extract (j * 32) ((j + 1) * 32))) (run_strlh 9 Tryz.underlying9 _ _ _ rfl (exV (hmV key s) strE (n * 32)) (by kernel_rfl) .i64 .i64 (j * 32) ((j + 1) * 32) (by kernel_rfl) (by kernel_rfl) (by omega) (by rw [exV_size]; omega)) ?_
  refine pH 46 (.pointer (some ⟨g1, j, none⟩)) (run_ix0 83 9 Tryz.underlying83 inz9 _ _ rfl g1 n n (by kernel_rfl) .i64 j (by kernel_rfl) (by omega)) ?_
  refine pP M 0 rfl j (.string ((exV (hmV key s) strE (n * 32)).extract (j * 32) ((j + 1) * 32))) (ws (upd (chF (exV (hmV key s) strE (n * 32)) j) j ((exV (hmV key s) strE (n * 32)).extract (j * 32) ((j + 1) * 32)))) (by omega) (fun j _ => put_ws _ _ _ j) fun u4 M => ?_
  refine pl_nil ?_
  refine au_block ?_
  refine au_then ?_
  refine rg_lit ?_
  refine ZI 47 ((j : Int) + 1) ((j + 1 : Nat) : Int) ?_
  refine rV 1 <| nT ?_
  exact exS M
 ·intro a u0 hI
  obtain ⟨v1, rfl, M⟩ := hI
  refine sR ?_
  refine ZF 35 ((n : Int) < (n : Int)) ?_
  refine nT <| wp_seq <| cF ?_
  refine wp_exit ?_
  refine au_then_exit ?_
  refine au_then_exit ?_
  refine au_block_exit ?_
  refine au_then <| sq <| wp_ret ?_
  exact bodyPost_ret (v := .tuple #[.slice (some ⟨g1, 0, none⟩) n n, .int .i64 0]) (results_tmp2 Tryz.results56 _ _ _ _ (by kernel_rfl) (by kernel_rfl)) (by kernel_rfl) ⟨g1, rfl, (M.ge _ (List.mem_of_getElem? (i := 0) rfl)).elim id (fun h => by cases h), by rw [← ch_av]; exact M.get 0 rfl, below_grown M.old⟩
end Go.Proofs.YtffimigpbcilbaaGreatDoor.Bla
