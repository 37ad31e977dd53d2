/- Part 10 of the walks and facts. -/
import Derived.Test.YtffimigpbcilbaaGreatDoorCpDef
import Derived.Test.YtffimigpbcilbaaGreatDoorCp4
import Derived.Shelf.Strings.Repeat
set_option maxHeartbeats 16000000
set_option maxRecDepth 100000
namespace Go.Proofs.YtffimigpbcilbaaGreatDoor.Bla
open Go.RowKit
theorem inz155 : (Tryz.prog.info? 155).map (·.size) = some 8 := by kernel_rfl
theorem inz214 : (Tryz.prog.info? 214).map (·.size) = some 16 := by kernel_rfl
theorem inz198 : (Tryz.prog.info? 198).map (·.size) = some 16 := by kernel_rfl
theorem inz215 : (Tryz.prog.info? 215).map (·.size) = some 160 := by kernel_rfl
theorem _root_.Go.Proofs.YtffimigpbcilbaaGreatDoor.Mem.oldcB {c : Ctx} {L : List Blk} {W : World} (M : Mem c L W) {g k : Nat} {v : Value} (hc : c.w.cell? ⟨g, k, none⟩ = some v) (hr : g ∉ c.r) : W.cell? ⟨g, k, none⟩ = some v := by
 have hlt : g < c.w.heap.size := by
  refine Classical.byContradiction fun hn => ?_
  have : c.w.heap[g]? = none := Array.getElem?_eq_none (by omega)
  simp [World.cell?, this] at hc
 rw [← hc]
 unfold World.cell?
 simp only
 rw [M.old.block g hlt hr]
theorem pl_laid {P : Program} {ops : Array Oper} {rest : List Oper} {o : Oper} {a : Act} {w : World} {c : Ctx} {L : List Blk} {Q : Exit → Act → World → Prop} (M : Mem c L w) (hw : Region.wanted o (yielded ops a.tmps) = true) (d : Option Tmp) (hd : o.dst = d) (ty : TypeId) (x : Operand) (ho : o.op = .load ty x) (hx : a.eval x = pJ 0) (t : TypeDesc) (hu : P.underlying ty = some t) (ht : t.isRow = true) (hz : (P.info? ty).map (·.size) = some 160)
  (h : PL P ops Q rest (a.put d (.agg (av 160 (w8 fun i => (OF i : Int))))) w) : PL P ops Q (o :: rest) a w := by
 refine pl_to hw d hd _ w ?_ h
 unfold execOp
 have hl := run_loadAt_mid (P := P) w 0 0 ty (av 160 (w8 fun i => (OF i : Int))).toList t (fun j v hv => by
  obtain ⟨hj, rfl⟩ := av_toList_get _ _ _ _ hv
  rw [Nat.zero_add]
  exact M.laid.o j hj) hu ht (by rw [hz]; simp [av_size])
 simp only [ho, hx, Sem.run_bind, hl, Result.andThen_ok, Sem.run_pure, Array.toArray_toList]
def rot (x : Int) (n : Nat) : Int := vo (vl x (32 - n)) (sr x n)
def r8 (a b c d e f g h : Int) : Nat → Int
 | 0 => a
 | 1 => b
 | 2 => c
 | 3 => d
 | 4 => e
 | 5 => f
 | 6 => g
 | 7 => h
 | _ => 0
def r4 (a b c d : Int) : Nat → Int
 | 0 => a
 | 1 => b
 | 2 => c
 | 3 => d
 | _ => 0
def HB : Nat → Int := r8 1779033703 3144134277 1013904242 2773480762 1359893119 2600822924 528734635 1541459225
def wo (rs : NI) : Nat → (Nat → Int)
 | 0 => fun _ => 0
 | j + 1 => upd (wo rs j) (j / 4) (vo (wo rs j (j / 4)) (vl (cv .u32 (rs j)) (j % 4 * 8)))
def spB (x : NI) : Nat → Int := fun i => if i < 8 then x i else HB (i - 8)
def spC (x : NI) (ct : Int) : Nat → Int := upd (upd (spB x) 12 (vx (spB x 12) (cv .u32 ct))) 13 (vx (upd (spB x) 12 (vx (spB x 12) (cv .u32 ct)) 13) (cv .u32 (sr ct 32)))
def spr (x : NI) (ct : Int) (last : Bool) : Nat → Int := if last then upd (spC x ct) 14 (vt (spC x ct 14)) else spC x ct
theorem c_rl16 (x : Int) (w : World) (hL : Laid w)  : Cs 172 #[.int .u32 x, .int .i64 (-16)] w (.int .u32 (rot x 16)) := by
 go_enter Tryz.func172, Tryz.ntmps172
 have M := Mem.start hL
 refine sq <| sq <| sq <| wp_ret ?_
 exact b1 M
theorem c_turned16 (x : Int) (w : World) (hL : Laid w)  : Cs 157 #[.int .u32 x, .int .i64 16] w (.int .u32 (rot x 16)) := by
 go_enter Tryz.func157, Tryz.ntmps157
 have M := Mem.start hL
 refine sq <| sR <| rV 3 <| ZC M 8 (fun w M => c_rl16 x w M.laid) fun u1 M => rV 1 <| nT <| wp_ret ?_
 exact b1 M
theorem c_rl12 (x : Int) (w : World) (hL : Laid w)  : Cs 172 #[.int .u32 x, .int .i64 (-12)] w (.int .u32 (rot x 12)) := by
 go_enter Tryz.func172, Tryz.ntmps172
 have M := Mem.start hL
 refine sq <| sq <| sq <| wp_ret ?_
 exact b1 M
theorem c_turned12 (x : Int) (w : World) (hL : Laid w)  : Cs 157 #[.int .u32 x, .int .i64 12] w (.int .u32 (rot x 12)) := by
 go_enter Tryz.func157, Tryz.ntmps157
 have M := Mem.start hL
 refine sq <| sR <| rV 3 <| ZC M 8 (fun w M => c_rl12 x w M.laid) fun u1 M => rV 1 <| nT <| wp_ret ?_
 exact b1 M
theorem c_rl8 (x : Int) (w : World) (hL : Laid w)  : Cs 172 #[.int .u32 x, .int .i64 (-8)] w (.int .u32 (rot x 8)) := by
 go_enter Tryz.func172, Tryz.ntmps172
 have M := Mem.start hL
 refine sq <| sq <| sq <| wp_ret ?_
 exact b1 M
theorem c_turned8 (x : Int) (w : World) (hL : Laid w)  : Cs 157 #[.int .u32 x, .int .i64 8] w (.int .u32 (rot x 8)) := by
 go_enter Tryz.func157, Tryz.ntmps157
 have M := Mem.start hL
 refine sq <| sR <| rV 3 <| ZC M 8 (fun w M => c_rl8 x w M.laid) fun u1 M => rV 1 <| nT <| wp_ret ?_
 exact b1 M
theorem c_rl7 (x : Int) (w : World) (hL : Laid w)  : Cs 172 #[.int .u32 x, .int .i64 (-7)] w (.int .u32 (rot x 7)) := by
 go_enter Tryz.func172, Tryz.ntmps172
 have M := Mem.start hL
 refine sq <| sq <| sq <| wp_ret ?_
 exact b1 M
theorem c_turned7 (x : Int) (w : World) (hL : Laid w)  : Cs 157 #[.int .u32 x, .int .i64 7] w (.int .u32 (rot x 7)) := by
 go_enter Tryz.func157, Tryz.ntmps157
 have M := Mem.start hL
 refine sq <| sR <| rV 3 <| ZC M 8 (fun w M => c_rl7 x w M.laid) fun u1 M => rV 1 <| nT <| wp_ret ?_
 exact b1 M
theorem c_first  (w : World) (hL : Laid w)  : Cs 114 #[] w (.agg (av 8 (w32 HB))) := by
 go_enter Tryz.func114, Tryz.ntmps114
 have M := Mem.start hL
 refine sR <| pN M 0 (.cells (av 8 (w32 (fun _ => 0))) 155) fun g1 u1 M => nT <| sR <| rV 1 <| ZG M 0 8 (w32 HB) fun u2 M => nT <| wp_ret ?_
 exact bc Tryz.results114 M 0 8 (w32 HB) ⟨rfl, below_grown M.old⟩
theorem c_words (rs : NI) (g n cap : Nat) (hn : n ≤ 64) (w : World) (hL : Laid w) (hc : ∀ i, i < n → w.cell? ⟨g, i, none⟩ = some (.int .u8 (rs i))) : Cs 154 #[.slice (some ⟨g, 0, none⟩) n cap] w (.agg (av 16 (w32 (wo rs n)))) := by
 go_enter Tryz.func154, Tryz.ntmps154
 have M := Mem.start hL
 refine sR <| pN M 2 (.cells (av 16 (w32 (fun _ => 0))) 148) fun g1 u1 M => nT <| sR <| pN M 3 (.cells (av 16 (w32 (fun _ => 0))) 148) fun g2 u2 M => nT <| wp_seq <| sq <| wp_block ?_
 refine au_loop (fun j a w' => ∃ v1 : NV, a = (fm ([.slice (some ⟨g, 0, none⟩) n cap, v1 1, pJ g1, pJ g2] ++ vr v1 4 2 ++ [.slice (some ⟨g, 0, none⟩) n cap, .int .i64 (n : Int), .int .i64 (j : Int)] ++ vr v1 9 18)) ∧ Mem ⟨w, []⟩ [⟨g1, .cells (av 16 (w32 (fun _ => 0))) 148⟩, ⟨g2, .cells (av 16 (w32 (wo rs j))) 148⟩] w') n (exS M) ?_ ?_
 ·intro j a u0 hj hI
  obtain ⟨v1, rfl, M⟩ := hI
  refine sR <| ZT 9 ((j : Int) < (n : Int)) <| nT <| wp_seq <| cT <| wp_skip <| au_then <| wp_seq <| wp_block <| sR <| rV 1 <| pH 11 (pJ g j) (fun w => Eq.trans (run_ixL 61 5 Tryz.underlying61 inz5 _ _ rfl g 0 n cap (by kernel_rfl) .i64 j (by kernel_rfl) hj w) (by rw [Nat.zero_add])) <| pE M 12 g j (.int .u8 (rs j)) (fun w M => M.oldcB (hc j hj) (by simp)) <| rV 2 <| nT <| rg_tail M 12 (by kernel_rfl) (by kernel_rfl) ?_
  simp only [List.take_succ_cons, List.take_zero]
  refine kR 1 <| eQ 14 .i64 (IntKind.wrap .i64 ((j : Int).tdiv 4)) (quo4 j (by omega)) <| eX 15 .i64 g2 ((j / 4 : Nat)) 16 <| eE M 16 1 ((j / 4 : Nat)) <| kR 3 <| eQ 20 .i64 (Int.tmod (j : Int) 4) (rem4 j) <| eI 21 (((j % 4 : Nat) : Int) * 8) ((j % 4 * 8 : Nat) : Int) <| kH 22 (.int .u32 (vl (cv .u32 (rs j)) (j % 4 * 8))) (run_shlV 91 3 _ _ rfl _ .i64 (j % 4 * 8) (by kernel_rfl) (by kernel_rfl) (by omega)) <| kR 1 <| eX 24 .i64 g2 ((j / 4 : Nat)) 16 <| kl_nil fun u3 M => ZP32 M 1 ((j / 4 : Nat)) (vo ((wo rs j) ((j / 4 : Nat))) (vl (cv .u32 (rs j)) (j % 4 * 8))) fun u4 M => pl_nil <| au_block <| au_then <| rg_lit ?_
  refine ZI 25 ((j : Int) + 1) ((j + 1 : Nat) : Int) <| rV 1 <| nT ?_
  exact exS M
 ·intro a u0 hI
  obtain ⟨v1, rfl, M⟩ := hI
  refine sR <| ZF 9 ((n : Int) < (n : Int)) <| nT <| wp_seq <| cF <| wp_exit <| au_then_exit <| au_then_exit <| au_block_exit <| au_then <| sR <| pA M 26 1 16 (w32 (wo rs n)) <| ZG M 0 16 (w32 (wo rs n)) fun u5 M => nT <| wp_ret ?_
  exact bc Tryz.results154 M 0 16 (w32 (wo rs n)) ⟨rfl, below_grown M.old⟩
def spA (x : NI) : Nat → Int := fun i => if i < 8 then x i else 0
theorem spA_cp (x : NI) : ∀ j, j < 16 → (if 0 ≤ j ∧ j < 0 + 8 then w32 x (0 + (j - 0)) else w32 (fun _ => 0) j) = w32 (spA x) j := fun j hj => by
 unfold w32 spA
 by_cases h : j < 8
 ·rw [if_pos (by omega), if_pos h]
  congr 2
  omega
 ·rw [if_neg (by omega), if_neg h]
theorem spB_cp (x : NI) : ∀ j, j < 16 → (if 8 ≤ j ∧ j < 8 + 8 then w32 HB (0 + (j - 8)) else w32 (spA x) j) = w32 (spB x) j := fun j hj => by
 unfold w32 spA spB
 by_cases h : j < 8
 ·rw [if_neg (by omega), if_pos h, if_pos h]
 ·rw [if_pos (by omega), if_neg h, Nat.zero_add]
theorem c_spread_true (x : NI) (ct : Int) (w : World) (hL : Laid w)  : Cs 155 #[.agg (av 8 (w32 x)), .int .u64 ct, .bool true] w (.agg (av 16 (w32 (spr x ct true)))) := by
 go_enter Tryz.func155, Tryz.ntmps155
 have M := Mem.start hL
 refine sR <| pN M 3 (.cells (av 8 (w32 x)) 155) fun g1 u1 M => pN M 6 (.cells (av 16 (w32 (fun _ => 0))) 148) fun g2 u2 M => nT <| sR <| pN M 7 (.cells (av 16 (w32 (fun _ => 0))) 148) fun g3 u3 M => nT <| sR <| ZC M 9 (fun w M => c_first w M.laid) fun u4 M => pN M 8 (.cells (av 8 (w32 (fun _ => 0))) 155) fun g4 u5 M => ZG M 3 8 (w32 HB) fun u6 M => nT <| wp_seq <| rg_tail M 2 (by kernel_rfl) (by kernel_rfl) ?_
 simp only [List.take_succ_cons, List.take_zero]
 refine kR 2 <| kl_nil fun u7 M => pl_copyB M (want_no rfl) (some 12) rfl 236 236 3 91 Tryz.underlying236 inz91 2 g3 16 148 (w32 (fun _ => 0)) rfl 0 g1 8 155 (w32 x) rfl 0 8 16 0 8 8 8 rfl (by decide) (by decide) (fun _ _ => rfl) (w32 (spA x)) (spA_cp x) (fun _ => by kernel_rfl) fun u8 M => nT <| wp_seq <| rg_tail M 2 (by kernel_rfl) (by kernel_rfl) ?_
 simp only [List.take_succ_cons, List.take_zero]
 refine kR 2 <| kl_nil fun u9 M => pl_copyB M (want_no rfl) (some 15) rfl 236 236 3 91 Tryz.underlying236 inz91 2 g3 16 148 (w32 (spA x)) rfl 3 g4 8 155 (w32 HB) rfl 8 8 8 0 8 8 8 rfl (by decide) (by decide) (fun _ _ => rfl) (w32 (spB x)) (spB_cp x) (fun _ => by kernel_rfl) fun u10 M => nT <| sR <| rV 1 <| ZE M 17 2 12 <| rV 4 ?_
 refine ZP32 M 2 12 (vx ((spB x) 12) (cv .u32 ct)) fun u11 M => nT <| sR <| rV 1 ?_
 refine ZE M 23 2 13 <| rV 5 <| ZP32 M 2 13 (vx ((upd (spB x) 12 (vx ((spB x) 12) (cv .u32 ct))) 13) (cv .u32 (sr ct 32))) fun u12 M => nT ?_
 refine wp_seq <| sq <| cT <| rg_lit <| rV 1 <| ZE M 31 2 14 <| rV 2 ?_
 refine ZP32 M 2 14 (vt ((upd (upd (spB x) 12 (vx ((spB x) 12) (cv .u32 ct))) 13 (vx ((upd (spB x) 12 (vx ((spB x) 12) (cv .u32 ct))) 13) (cv .u32 (sr ct 32)))) 14)) fun u13 M => nT <| sR ?_
 refine pA M 34 2 16 (w32 (upd (upd (upd (spB x) 12 (vx ((spB x) 12) (cv .u32 ct))) 13 (vx ((upd (spB x) 12 (vx ((spB x) 12) (cv .u32 ct))) 13) (cv .u32 (sr ct 32)))) 14 (vt ((upd (upd (spB x) 12 (vx ((spB x) 12) (cv .u32 ct))) 13 (vx ((upd (spB x) 12 (vx ((spB x) 12) (cv .u32 ct))) 13) (cv .u32 (sr ct 32)))) 14)))) <| ZG M 1 16 (w32 (upd (upd (upd (spB x) 12 (vx ((spB x) 12) (cv .u32 ct))) 13 (vx ((upd (spB x) 12 (vx ((spB x) 12) (cv .u32 ct))) 13) (cv .u32 (sr ct 32)))) 14 (vt ((upd (upd (spB x) 12 (vx ((spB x) 12) (cv .u32 ct))) 13 (vx ((upd (spB x) 12 (vx ((spB x) 12) (cv .u32 ct))) 13) (cv .u32 (sr ct 32)))) 14)))) fun u14 M => nT <| wp_ret ?_
 exact bc Tryz.results155 M 1 16 (w32 (spr x ct true)) ⟨rfl, below_grown M.old⟩
theorem c_spread_false (x : NI) (ct : Int) (w : World) (hL : Laid w)  : Cs 155 #[.agg (av 8 (w32 x)), .int .u64 ct, .bool false] w (.agg (av 16 (w32 (spr x ct false)))) := by
 go_enter Tryz.func155, Tryz.ntmps155
 have M := Mem.start hL
 refine sR <| pN M 3 (.cells (av 8 (w32 x)) 155) fun g1 u1 M => pN M 6 (.cells (av 16 (w32 (fun _ => 0))) 148) fun g2 u2 M => nT <| sR <| pN M 7 (.cells (av 16 (w32 (fun _ => 0))) 148) fun g3 u3 M => nT <| sR <| ZC M 9 (fun w M => c_first w M.laid) fun u4 M => pN M 8 (.cells (av 8 (w32 (fun _ => 0))) 155) fun g4 u5 M => ZG M 3 8 (w32 HB) fun u6 M => nT <| wp_seq <| rg_tail M 2 (by kernel_rfl) (by kernel_rfl) ?_
 simp only [List.take_succ_cons, List.take_zero]
 refine kR 2 <| kl_nil fun u7 M => pl_copyB M (want_no rfl) (some 12) rfl 236 236 3 91 Tryz.underlying236 inz91 2 g3 16 148 (w32 (fun _ => 0)) rfl 0 g1 8 155 (w32 x) rfl 0 8 16 0 8 8 8 rfl (by decide) (by decide) (fun _ _ => rfl) (w32 (spA x)) (spA_cp x) (fun _ => by kernel_rfl) fun u8 M => nT <| wp_seq <| rg_tail M 2 (by kernel_rfl) (by kernel_rfl) ?_
 simp only [List.take_succ_cons, List.take_zero]
 refine kR 2 <| kl_nil fun u9 M => pl_copyB M (want_no rfl) (some 15) rfl 236 236 3 91 Tryz.underlying236 inz91 2 g3 16 148 (w32 (spA x)) rfl 3 g4 8 155 (w32 HB) rfl 8 8 8 0 8 8 8 rfl (by decide) (by decide) (fun _ _ => rfl) (w32 (spB x)) (spB_cp x) (fun _ => by kernel_rfl) fun u10 M => nT <| sR <| rV 1 <| ZE M 17 2 12 <| rV 4 ?_
 refine ZP32 M 2 12 (vx ((spB x) 12) (cv .u32 ct)) fun u11 M => nT <| sR <| rV 1 ?_
 refine ZE M 23 2 13 <| rV 5 <| ZP32 M 2 13 (vx ((upd (spB x) 12 (vx ((spB x) 12) (cv .u32 ct))) 13) (cv .u32 (sr ct 32))) fun u12 M => nT ?_
 refine wp_seq <| sq <| cF <| wp_skip <| au_then <| sR <| pA M 34 2 16 (w32 (upd (upd (spB x) 12 (vx ((spB x) 12) (cv .u32 ct))) 13 (vx ((upd (spB x) 12 (vx ((spB x) 12) (cv .u32 ct))) 13) (cv .u32 (sr ct 32))))) <| ZG M 1 16 (w32 (upd (upd (spB x) 12 (vx ((spB x) 12) (cv .u32 ct))) 13 (vx ((upd (spB x) 12 (vx ((spB x) 12) (cv .u32 ct))) 13) (cv .u32 (sr ct 32))))) fun u13 M => nT <| wp_ret ?_
 exact bc Tryz.results155 M 1 16 (w32 (spr x ct false)) ⟨rfl, below_grown M.old⟩
theorem c_spread (x : NI) (ct : Int) (last : Bool) (w : World) (hL : Laid w) : Cs 155 #[.agg (av 8 (w32 x)), .int .u64 ct, .bool last] w (.agg (av 16 (w32 (spr x ct last)))) := by
 cases last
 ·exact c_spread_false x ct w hL
 ·exact c_spread_true x ct w hL
open Go.RowKit
def mA1 (v : NI) (x : Int) (i j : Nat) : Int := va (v i) (va (v j) x)
def mD1 (v : NI) (x : Int) (i j l : Nat) : Int := rot (vx (v l) (mA1 v x i j)) 16
def mC1 (v : NI) (x : Int) (i j k l : Nat) : Int := va (v k) (mD1 v x i j l)
def mB1 (v : NI) (x : Int) (i j k l : Nat) : Int := rot (vx (v j) (mC1 v x i j k l)) 12
def mA2 (v : NI) (x y : Int) (i j k l : Nat) : Int := va (mA1 v x i j) (va (mB1 v x i j k l) y)
def mD2 (v : NI) (x y : Int) (i j k l : Nat) : Int := rot (vx (mD1 v x i j l) (mA2 v x y i j k l)) 8
def mC2 (v : NI) (x y : Int) (i j k l : Nat) : Int := va (mC1 v x i j k l) (mD2 v x y i j k l)
def mB2 (v : NI) (x y : Int) (i j k l : Nat) : Int := rot (vx (mB1 v x i j k l) (mC2 v x y i j k l)) 7
def mxF (v : NI) (x y : Int) (i j k l : Nat) : Nat → Int := upd (upd (upd (upd v i (mA2 v x y i j k l)) j (mB2 v x y i j k l)) k (mC2 v x y i j k l)) l (mD2 v x y i j k l)
theorem c_mix (v : NI) (x y : Int) (p0 p1 p2 p3 : Nat) (h4 : p0 < 16) (h1 : p1 < 16) (h2 : p2 < 16) (h3 : p3 < 16) (g gt : Nat) (w : World) (hL : Laid w) (hg : w.heap[g]? = some (.cells (av 16 (w32 v)) 148)) (h0 : 2 < g) (hne : gt ≠ g) (ha0 : w.cell? ⟨gt, 0, none⟩ = some (.int .i64 (p0 : Int))) (ha1 : w.cell? ⟨gt, 1, none⟩ = some (.int .i64 (p1 : Int))) (ha2 : w.cell? ⟨gt, 2, none⟩ = some (.int .i64 (p2 : Int))) (ha3 : w.cell? ⟨gt, 3, none⟩ = some (.int .i64 (p3 : Int))) : Calls Tryz.prog 156 #[.int .u32 x, .int .u32 y, .slice (some ⟨gt, 0, none⟩) 4 4, pJ g] w fun r w' => r = .returned (.tuple #[]) ∧ Grw w w' [g] ∧ w'.heap[g]? = some (.cells (av 16 (w32 (mxF v x y p0 p1 p2 p3))) 148) := by
 go_enter Tryz.func156, Tryz.ntmps156
 have M := Mem.startp hL hg h0
 refine wp_seq <| rg_tail M 23 (by kernel_rfl) (by kernel_rfl) ?_
 simp only [List.take_succ_cons, List.take_zero]
 refine kR 2 <| kE M 13 gt 0 (.int .i64 (p0 : Int)) (fun w M => M.oldcB ha0 (by simpa using hne)) <| eX 14 .i64 g (p0) 16 <| eE M 15 0 p0 <| kR 2 <| kE M 18 gt 1 (.int .i64 (p1 : Int)) (fun w M => M.oldcB ha1 (by simpa using hne)) <| eX 19 .i64 g (p1) 16 <| eE M 20 0 p1 <| kR 2 <| kE M 23 gt 2 (.int .i64 (p2 : Int)) (fun w M => M.oldcB ha2 (by simpa using hne)) <| eX 24 .i64 g (p2) 16 <| eE M 25 0 p2 <| kR 2 <| kE M 28 gt 3 (.int .i64 (p3 : Int)) (fun w M => M.oldcB ha3 (by simpa using hne)) <| eX 29 .i64 g (p3) 16 <| eE M 30 0 p3 ?_
 refine kR 3 <| kl_nil fun u1 M => ?_
 replace M := M.nf
 refine rV 1 <| nT <| sq <| sR <| rV 3 <| pC M 39 157 #[.int .u32 (vx (v p3) (mA1 v x p0 p1)), .int .i64 16] (.int .u32 (mD1 v x p0 p1 p3)) (fun w M => c_turned16 _ w M.laid) fun u2 M => rV 1 <| nT <| sq <| sR <| rV 3 <| pC M 46 157 #[.int .u32 (vx (v p1) (mC1 v x p0 p1 p2 p3)), .int .i64 12] (.int .u32 (mB1 v x p0 p1 p2 p3)) (fun w M => c_turned12 _ w M.laid) fun u3 M => rV 1 <| nT <| sq <| sR ?_
 refine rV 3 <| pC M 55 157 #[.int .u32 (vx (mD1 v x p0 p1 p3) (mA2 v x y p0 p1 p2 p3)), .int .i64 8] (.int .u32 (mD2 v x y p0 p1 p2 p3)) (fun w M => c_turned8 _ w M.laid) fun u4 M => rV 1 <| nT <| sq <| sR <| rV 3 <| pC M 62 157 #[.int .u32 (vx (mB1 v x p0 p1 p2 p3) (mC2 v x y p0 p1 p2 p3)), .int .i64 7] (.int .u32 (mB2 v x y p0 p1 p2 p3)) (fun w M => c_turned7 _ w M.laid) fun u5 M => rV 1 <| nT <| rgh M [] 23 fun u6 M => ?_
 replace M := M.nf
 have qM := M.drop (.cons _ (.slnil))
 refine qV qM 0 63 (.slice (some ⟨gt, 0, none⟩) 4 4) <| qV qM 1 64 (pJ gt) <| qC qM 2 65 gt 0 (.int .i64 (p0 : Int)) (fun w M => M.oldcB ha0 (by simpa using hne)) <| qV qM 3 66 (.slice (some ⟨gt, 0, none⟩) 4 4) <| qV qM 4 67 (pJ gt 1) <| qC qM 5 68 gt 1 (.int .i64 (p1 : Int)) (fun w M => M.oldcB ha1 (by simpa using hne)) <| qV qM 6 69 (.slice (some ⟨gt, 0, none⟩) 4 4) <| qV qM 7 70 (pJ gt 2) <| qC qM 8 71 gt 2 (.int .i64 (p2 : Int)) (fun w M => M.oldcB ha2 (by simpa using hne)) <| qV qM 9 72 (.slice (some ⟨gt, 0, none⟩) 4 4) <| qV qM 10 73 (pJ gt 3) <| qC qM 11 74 gt 3 (.int .i64 (p3 : Int)) (fun w M => M.oldcB ha3 (by simpa using hne)) <| qV qM 12 75 (.int .u32 (mA2 v x y p0 p1 p2 p3)) <| qV qM 13 76 (.int .u32 (mB2 v x y p0 p1 p2 p3)) <| qV qM 14 77 (.int .u32 (mC2 v x y p0 p1 p2 p3)) <| qV qM 15 78 (.int .u32 (mD2 v x y p0 p1 p2 p3)) ?_
 refine qH qM 16 79 (pJ g p0) (fun w _ => (run_ix1 148 16 91 Tryz.underlying148 inz91 _ _ rfl g (by kernel_rfl) .i64 (p0) (by kernel_rfl) (by omega)) w) <| qO 17 ?_
 refine ZP32 M 0 p0 (mA2 v x y p0 p1 p2 p3) fun u7 M => ?_
 replace M := M.nf
 refine nT ?_
 refine ⟨(M.drop (.cons _ (.slnil))), ?_⟩
 refine qH (M.drop (.cons _ (.slnil))) 18 80 (pJ g p1) (fun w _ => (run_ix1 148 16 91 Tryz.underlying148 inz91 _ _ rfl g (by kernel_rfl) .i64 (p1) (by kernel_rfl) (by omega)) w) <| qO 19 ?_
 refine ZP32 M 0 p1 (mB2 v x y p0 p1 p2 p3) fun u8 M => ?_
 replace M := M.nf
 refine nT ?_
 refine ⟨(M.drop (.cons _ (.slnil))), ?_⟩
 refine qH (M.drop (.cons _ (.slnil))) 20 81 (pJ g p2) (fun w _ => (run_ix1 148 16 91 Tryz.underlying148 inz91 _ _ rfl g (by kernel_rfl) .i64 (p2) (by kernel_rfl) (by omega)) w) <| qO 21 ?_
 refine ZP32 M 0 p2 (mC2 v x y p0 p1 p2 p3) fun u9 M => ?_
 replace M := M.nf
 refine nT ?_
 refine ⟨(M.drop (.cons _ (.slnil))), ?_⟩
 refine qH (M.drop (.cons _ (.slnil))) 22 82 (pJ g p3) (fun w _ => (run_ix1 148 16 91 Tryz.underlying148 inz91 _ _ rfl g (by kernel_rfl) .i64 (p3) (by kernel_rfl) (by omega)) w) <| qZ ?_
 refine ZP32 M 0 p3 (mD2 v x y p0 p1 p2 p3) fun u10 M => ?_
 replace M := M.nf
 refine nT ?_
 exact bodyPost_end (v := .tuple #[]) (results_none Tryz.results156 _ _) (by kernel_rfl) ⟨rfl, M.old, M.get 0 rfl⟩
def ow (j : Nat) : Nat → Value := w8 fun i => (OF (j * 16 + i) : Int)
theorem OF_lt (i : Nat) : OF i < 16 := by
 by_cases h : i < 160
 ·have h2 : ((List.range 160).all fun i => decide (OF i < 16)) = true := by decide +kernel
  simpa using List.all_eq_true.1 h2 i (List.mem_range.2 h)
 ·unfold OF
  rw [List.getD_eq_getElem?_getD, List.getElem?_eq_none (by simp; omega)]
  decide
def rn1 (m v : NI) (j : Nat) : Nat → Int := mxF v (m (OF (j * 16 + 0))) (m (OF (j * 16 + 1))) 0 4 8 12
def rn2 (m v : NI) (j : Nat) : Nat → Int := mxF (rn1 m v j) (m (OF (j * 16 + 2))) (m (OF (j * 16 + 3))) 1 5 9 13
def rn3 (m v : NI) (j : Nat) : Nat → Int := mxF (rn2 m v j) (m (OF (j * 16 + 4))) (m (OF (j * 16 + 5))) 2 6 10 14
def rn4 (m v : NI) (j : Nat) : Nat → Int := mxF (rn3 m v j) (m (OF (j * 16 + 6))) (m (OF (j * 16 + 7))) 3 7 11 15
def rn5 (m v : NI) (j : Nat) : Nat → Int := mxF (rn4 m v j) (m (OF (j * 16 + 8))) (m (OF (j * 16 + 9))) 0 5 10 15
def rn6 (m v : NI) (j : Nat) : Nat → Int := mxF (rn5 m v j) (m (OF (j * 16 + 10))) (m (OF (j * 16 + 11))) 1 6 11 12
def rn7 (m v : NI) (j : Nat) : Nat → Int := mxF (rn6 m v j) (m (OF (j * 16 + 12))) (m (OF (j * 16 + 13))) 2 7 8 13
def rn8 (m v : NI) (j : Nat) : Nat → Int := mxF (rn7 m v j) (m (OF (j * 16 + 14))) (m (OF (j * 16 + 15))) 3 4 9 14
def rd (m v : NI) : Nat → (Nat → Int)
 | 0 => v
 | j + 1 => rn8 m (rd m v j) j
def ad (x y : NI) : Nat → (Nat → Int)
 | 0 => x
 | j + 1 => upd (ad x y j) j (vx (ad x y j j) (vx (y j) (y (8 + j))))
def mixV (x rs : NI) (n : Nat) (ct : Int) (last : Bool) : Nat → Int := fun i => vx (x i) (vx (rd (wo rs n) (spr x ct last) 10 i) (rd (wo rs n) (spr x ct last) 10 (8 + i)))
theorem lt8 {p : Nat → Prop} (h : p 0 ∧ p 1 ∧ p 2 ∧ p 3 ∧ p 4 ∧ p 5 ∧ p 6 ∧ p 7) : ∀ i, i < 8 → p i
 | 0, _ => h.1
 | 1, _ => h.2.1
 | 2, _ => h.2.2.1
 | 3, _ => h.2.2.2.1
 | 4, _ => h.2.2.2.2.1
 | 5, _ => h.2.2.2.2.2.1
 | 6, _ => h.2.2.2.2.2.2.1
 | 7, _ => h.2.2.2.2.2.2.2
 | n + 8, h => absurd h (by omega)
theorem ad_av (x y : NI) : av 8 (w32 (ad x y 8)) = av 8 (w32 fun i => vx (x i) (vx (y i) (y (8 + i)))) := by
 refine av_congr fun i hi => ?_
 unfold w32
 congr 1
 revert i
 exact lt8 ⟨by simp [ad, upd], by simp [ad, upd], by simp [ad, upd], by simp [ad, upd], by simp [ad, upd], by simp [ad, upd], by simp [ad, upd], by simp [ad, upd]⟩
theorem c_mixed (x rs : NI) (g n cap : Nat) (hn : n ≤ 64) (ct : Int) (last : Bool) (w : World) (hL : Laid w) (hc : ∀ i, i < n → w.cell? ⟨g, i, none⟩ = some (.int .u8 (rs i))) : Cs 116 #[.agg (av 8 (w32 x)), .slice (some ⟨g, 0, none⟩) n cap, .int .u64 ct, .bool (last)] w (.agg (av 8 (w32 (mixV x rs n ct last)))) := by
 go_enter Tryz.func116, Tryz.ntmps116
 have M := Mem.start hL
 refine sR <| pN M 4 (.cells (av 8 (w32 x)) 155) fun g1 u1 M => ?_
 replace M := M.nf
 refine pN M 8 (.cells (av 8 (w32 (fun _ => 0))) 155) fun g2 u2 M => ?_
 replace M := M.nf
 refine nT <| sR <| rV 1 <| ZC M 16 (fun w M => c_words rs g n cap hn w M.laid (fun i hi => M.oldcB (hc i hi) (by simp))) fun u3 M => pN M 9 (.cells (av 16 (w32 (fun _ => 0))) 148) fun g3 u4 M => ?_
 replace M := M.nf
 refine ZG M 2 16 (w32 (wo rs n)) fun u5 M => ?_
 replace M := M.nf
 refine nT <| sR <| pA M 17 0 8 (w32 x) <| rV 2 <| ZC M 20 (fun w M => c_spread x ct last w M.laid) fun u6 M => pN M 10 (.cells (av 16 (w32 (fun _ => 0))) 148) fun g4 u7 M => ?_
 replace M := M.nf
 refine ZG M 3 16 (w32 (spr x ct last)) fun u8 M => ?_
 replace M := M.nf
 refine nT <| sq <| wp_seq <| sR <| pl_laid M (want_no rfl) (some 22) rfl 215 _ rfl (by kernel_rfl) _ Tryz.underlying215 rfl inz215 <| rV 1 <| nT <| wp_block ?_
 refine au_loop (fun j a w' => ∃ v1 : NV, a = (fm ([.agg (av 8 (w32 x)), .slice (some ⟨g, 0, none⟩) n cap, .int .u64 ct, .bool (last), pJ g1] ++ vr v1 5 3 ++ [pJ g2, pJ g3, pJ g4, .func (.func 156) #[] #[pJ g4]] ++ vr v1 12 10 ++ [.agg (av 160 (w8 fun i => (OF i : Int))), .int .i64 (j : Int)] ++ vr v1 24 109)) ∧ Mem ⟨w, []⟩ [⟨g1, .cells (av 8 (w32 x)) 155⟩, ⟨g2, .cells (av 8 (w32 (fun _ => 0))) 155⟩, ⟨g3, .cells (av 16 (w32 (wo rs n))) 148⟩, ⟨g4, .cells (av 16 (w32 (rd (wo rs n) (spr x ct last) j))) 148⟩] w') 10 (exS M) ?_ ?_
 ·intro j a u0 hj hI
  obtain ⟨v1, rfl, M⟩ := hI
  refine sR <| ZT 24 ((j : Int) < 10) <| nT <| wp_seq <| cT <| wp_skip <| au_then <| wp_seq <| wp_block <| sR <| pH 25 (.agg (av 16 (ow j))) (run_ixP 215 10 214 16 Tryz.underlying215 inz214 (fun _ => by kernel_rfl) _ _ rfl (w8 fun i => (OF i : Int)) 160 (by kernel_rfl) .i64 j (by kernel_rfl) (by omega) (by omega)) <| pN M 13 (.cells (av 16 (w8 (fun _ => 0))) 214) fun g5 u9 M => ?_
  replace M := M.nf
  refine ZG M 4 16 (ow j) fun u10 M => ?_
  replace M := M.nf
  refine nT <| wp_seq <| rgh M [⟨g1, .cells (av 8 (w32 x)) 155⟩, ⟨g2, .cells (av 8 (w32 (fun _ => 0))) 155⟩, ⟨g3, .cells (av 16 (w32 (wo rs n))) 148⟩, ⟨g5, .cells (av 16 (ow j)) 214⟩] 10 fun u11 M => ?_
  replace M := M.nf
  have qM := M.drop (.cons_cons _ (.cons_cons _ (.cons_cons _ (.cons _ (.cons_cons _ (.slnil))))))
  refine qV qM 0 26 (.func (.func 156) #[] #[pJ g4]) <| qV qM 1 27 (pJ g5) <| qE qM 2 28 3 0 <| qH qM 3 29 (.pointer (some ⟨g3, (OF (j * 16 + 0)), none⟩)) (fun w _ => (run_ix1 148 16 91 Tryz.underlying148 inz91 _ _ rfl g3 (by kernel_rfl) .u8 (OF (j * 16 + 0)) (by kernel_rfl) (OF_lt _)) w) <| qC qM 4 30 g3 (OF (j * 16 + 0)) (.int .u32 ((wo rs n) (OF (j * 16 + 0)))) (fun w M => M.cell 2 rfl (OF_lt _) rfl) <| qV qM 5 31 (pJ g5 1) <| qE qM 6 32 3 1 <| qH qM 7 33 (.pointer (some ⟨g3, (OF (j * 16 + 1)), none⟩)) (fun w _ => (run_ix1 148 16 91 Tryz.underlying148 inz91 _ _ rfl g3 (by kernel_rfl) .u8 (OF (j * 16 + 1)) (by kernel_rfl) (OF_lt _)) w) <| qC qM 8 34 g3 (OF (j * 16 + 1)) (.int .u32 ((wo rs n) (OF (j * 16 + 1)))) (fun w M => M.cell 2 rfl (OF_lt _) rfl) <| qO 9 ?_
  refine ZM M 35 (fun g6 => .slice (some ⟨g6, 0, none⟩) 4 4) (.cells (av 4 (wi (r4 0 4 8 12))) 3) fun g6 u12 M => ?_
  replace M := M.nf
  refine nT ?_
  refine ⟨(M.drop (.cons_cons _ (.cons_cons _ (.cons_cons _ (.cons _ (.cons_cons _ (.cons _ (.slnil)))))))), ?_⟩
  refine qZ ?_
  refine ZY M 36 3 (.tuple #[]) (.cells (av 16 (w32 (rn1 (wo rs n) (rd (wo rs n) (spr x ct last) j) j))) 148) (fun w M => c_mix (rd (wo rs n) (spr x ct last) j) _ _ 0 4 8 12 (by decide) (by decide) (by decide) (by decide) g4 g6 w M.laid (M.get 3 rfl) (M.ne0 3 rfl) (nodup_at M.nodup (i := 5) (j := 3) rfl rfl (by decide)) (M.cell 5 rfl (by decide) rfl) (M.cell 5 rfl (by decide) rfl) (M.cell 5 rfl (by decide) rfl) (M.cell 5 rfl (by decide) rfl)) fun u13 M => ?_
  replace M := M.nf
  refine nT <| au_then <| wp_seq <| rgh M [⟨g1, .cells (av 8 (w32 x)) 155⟩, ⟨g2, .cells (av 8 (w32 (fun _ => 0))) 155⟩, ⟨g3, .cells (av 16 (w32 (wo rs n))) 148⟩, ⟨g5, .cells (av 16 (ow j)) 214⟩, ⟨g6, .cells (av 4 (wi (r4 0 4 8 12))) 3⟩] 10 fun u14 M => ?_
  replace M := M.nf
  have qM := M.drop (.cons_cons _ (.cons_cons _ (.cons_cons _ (.cons _ (.cons_cons _ (.cons_cons _ (.slnil)))))))
  refine qV qM 0 37 (.func (.func 156) #[] #[pJ g4]) <| qV qM 1 38 (pJ g5 2) <| qE qM 2 39 3 2 <| qH qM 3 40 (.pointer (some ⟨g3, (OF (j * 16 + 2)), none⟩)) (fun w _ => (run_ix1 148 16 91 Tryz.underlying148 inz91 _ _ rfl g3 (by kernel_rfl) .u8 (OF (j * 16 + 2)) (by kernel_rfl) (OF_lt _)) w) <| qC qM 4 41 g3 (OF (j * 16 + 2)) (.int .u32 ((wo rs n) (OF (j * 16 + 2)))) (fun w M => M.cell 2 rfl (OF_lt _) rfl) <| qV qM 5 42 (pJ g5 3) <| qE qM 6 43 3 3 <| qH qM 7 44 (.pointer (some ⟨g3, (OF (j * 16 + 3)), none⟩)) (fun w _ => (run_ix1 148 16 91 Tryz.underlying148 inz91 _ _ rfl g3 (by kernel_rfl) .u8 (OF (j * 16 + 3)) (by kernel_rfl) (OF_lt _)) w) <| qC qM 8 45 g3 (OF (j * 16 + 3)) (.int .u32 ((wo rs n) (OF (j * 16 + 3)))) (fun w M => M.cell 2 rfl (OF_lt _) rfl) <| qO 9 ?_
  refine ZM M 46 (fun g7 => .slice (some ⟨g7, 0, none⟩) 4 4) (.cells (av 4 (wi (r4 1 5 9 13))) 3) fun g7 u15 M => ?_
  replace M := M.nf
  refine nT ?_
  refine ⟨(M.drop (.cons_cons _ (.cons_cons _ (.cons_cons _ (.cons _ (.cons_cons _ (.cons_cons _ (.cons _ (.slnil))))))))), ?_⟩
  refine qZ ?_
  refine ZY M 47 3 (.tuple #[]) (.cells (av 16 (w32 (rn2 (wo rs n) (rd (wo rs n) (spr x ct last) j) j))) 148) (fun w M => c_mix (rn1 (wo rs n) (rd (wo rs n) (spr x ct last) j) j) _ _ 1 5 9 13 (by decide) (by decide) (by decide) (by decide) g4 g7 w M.laid (M.get 3 rfl) (M.ne0 3 rfl) (nodup_at M.nodup (i := 6) (j := 3) rfl rfl (by decide)) (M.cell 6 rfl (by decide) rfl) (M.cell 6 rfl (by decide) rfl) (M.cell 6 rfl (by decide) rfl) (M.cell 6 rfl (by decide) rfl)) fun u16 M => ?_
  replace M := M.nf
  refine nT <| au_then <| wp_seq <| rgh M [⟨g1, .cells (av 8 (w32 x)) 155⟩, ⟨g2, .cells (av 8 (w32 (fun _ => 0))) 155⟩, ⟨g3, .cells (av 16 (w32 (wo rs n))) 148⟩, ⟨g5, .cells (av 16 (ow j)) 214⟩, ⟨g6, .cells (av 4 (wi (r4 0 4 8 12))) 3⟩, ⟨g7, .cells (av 4 (wi (r4 1 5 9 13))) 3⟩] 10 fun u17 M => ?_
  replace M := M.nf
  have qM := M.drop (.cons_cons _ (.cons_cons _ (.cons_cons _ (.cons _ (.cons_cons _ (.cons_cons _ (.cons_cons _ (.slnil))))))))
  refine qV qM 0 48 (.func (.func 156) #[] #[pJ g4]) <| qV qM 1 49 (pJ g5 4) <| qE qM 2 50 3 4 <| qH qM 3 51 (.pointer (some ⟨g3, (OF (j * 16 + 4)), none⟩)) (fun w _ => (run_ix1 148 16 91 Tryz.underlying148 inz91 _ _ rfl g3 (by kernel_rfl) .u8 (OF (j * 16 + 4)) (by kernel_rfl) (OF_lt _)) w) <| qC qM 4 52 g3 (OF (j * 16 + 4)) (.int .u32 ((wo rs n) (OF (j * 16 + 4)))) (fun w M => M.cell 2 rfl (OF_lt _) rfl) <| qV qM 5 53 (pJ g5 5) <| qE qM 6 54 3 5 <| qH qM 7 55 (.pointer (some ⟨g3, (OF (j * 16 + 5)), none⟩)) (fun w _ => (run_ix1 148 16 91 Tryz.underlying148 inz91 _ _ rfl g3 (by kernel_rfl) .u8 (OF (j * 16 + 5)) (by kernel_rfl) (OF_lt _)) w) <| qC qM 8 56 g3 (OF (j * 16 + 5)) (.int .u32 ((wo rs n) (OF (j * 16 + 5)))) (fun w M => M.cell 2 rfl (OF_lt _) rfl) <| qO 9 ?_
  refine ZM M 57 (fun g8 => .slice (some ⟨g8, 0, none⟩) 4 4) (.cells (av 4 (wi (r4 2 6 10 14))) 3) fun g8 u18 M => ?_
  replace M := M.nf
  refine nT ?_
  refine ⟨(M.drop (.cons_cons _ (.cons_cons _ (.cons_cons _ (.cons _ (.cons_cons _ (.cons_cons _ (.cons_cons _ (.cons _ (.slnil)))))))))), ?_⟩
  refine qZ ?_
  refine ZY M 58 3 (.tuple #[]) (.cells (av 16 (w32 (rn3 (wo rs n) (rd (wo rs n) (spr x ct last) j) j))) 148) (fun w M => c_mix (rn2 (wo rs n) (rd (wo rs n) (spr x ct last) j) j) _ _ 2 6 10 14 (by decide) (by decide) (by decide) (by decide) g4 g8 w M.laid (M.get 3 rfl) (M.ne0 3 rfl) (nodup_at M.nodup (i := 7) (j := 3) rfl rfl (by decide)) (M.cell 7 rfl (by decide) rfl) (M.cell 7 rfl (by decide) rfl) (M.cell 7 rfl (by decide) rfl) (M.cell 7 rfl (by decide) rfl)) fun u19 M => ?_
  replace M := M.nf
  refine nT <| au_then <| wp_seq <| rgh M [⟨g1, .cells (av 8 (w32 x)) 155⟩, ⟨g2, .cells (av 8 (w32 (fun _ => 0))) 155⟩, ⟨g3, .cells (av 16 (w32 (wo rs n))) 148⟩, ⟨g5, .cells (av 16 (ow j)) 214⟩, ⟨g6, .cells (av 4 (wi (r4 0 4 8 12))) 3⟩, ⟨g7, .cells (av 4 (wi (r4 1 5 9 13))) 3⟩, ⟨g8, .cells (av 4 (wi (r4 2 6 10 14))) 3⟩] 10 fun u20 M => ?_
  replace M := M.nf
  have qM := M.drop (.cons_cons _ (.cons_cons _ (.cons_cons _ (.cons _ (.cons_cons _ (.cons_cons _ (.cons_cons _ (.cons_cons _ (.slnil)))))))))
  refine qV qM 0 59 (.func (.func 156) #[] #[pJ g4]) <| qV qM 1 60 (pJ g5 6) <| qE qM 2 61 3 6 <| qH qM 3 62 (.pointer (some ⟨g3, (OF (j * 16 + 6)), none⟩)) (fun w _ => (run_ix1 148 16 91 Tryz.underlying148 inz91 _ _ rfl g3 (by kernel_rfl) .u8 (OF (j * 16 + 6)) (by kernel_rfl) (OF_lt _)) w) <| qC qM 4 63 g3 (OF (j * 16 + 6)) (.int .u32 ((wo rs n) (OF (j * 16 + 6)))) (fun w M => M.cell 2 rfl (OF_lt _) rfl) <| qV qM 5 64 (pJ g5 7) <| qE qM 6 65 3 7 <| qH qM 7 66 (.pointer (some ⟨g3, (OF (j * 16 + 7)), none⟩)) (fun w _ => (run_ix1 148 16 91 Tryz.underlying148 inz91 _ _ rfl g3 (by kernel_rfl) .u8 (OF (j * 16 + 7)) (by kernel_rfl) (OF_lt _)) w) <| qC qM 8 67 g3 (OF (j * 16 + 7)) (.int .u32 ((wo rs n) (OF (j * 16 + 7)))) (fun w M => M.cell 2 rfl (OF_lt _) rfl) <| qO 9 ?_
  refine ZM M 68 (fun g9 => .slice (some ⟨g9, 0, none⟩) 4 4) (.cells (av 4 (wi (r4 3 7 11 15))) 3) fun g9 u21 M => ?_
  replace M := M.nf
  refine nT ?_
  refine ⟨(M.drop (.cons_cons _ (.cons_cons _ (.cons_cons _ (.cons _ (.cons_cons _ (.cons_cons _ (.cons_cons _ (.cons_cons _ (.cons _ (.slnil))))))))))), ?_⟩
  refine qZ ?_
  refine ZY M 69 3 (.tuple #[]) (.cells (av 16 (w32 (rn4 (wo rs n) (rd (wo rs n) (spr x ct last) j) j))) 148) (fun w M => c_mix (rn3 (wo rs n) (rd (wo rs n) (spr x ct last) j) j) _ _ 3 7 11 15 (by decide) (by decide) (by decide) (by decide) g4 g9 w M.laid (M.get 3 rfl) (M.ne0 3 rfl) (nodup_at M.nodup (i := 8) (j := 3) rfl rfl (by decide)) (M.cell 8 rfl (by decide) rfl) (M.cell 8 rfl (by decide) rfl) (M.cell 8 rfl (by decide) rfl) (M.cell 8 rfl (by decide) rfl)) fun u22 M => ?_
  replace M := M.nf
  refine nT <| au_then <| wp_seq <| rgh M [⟨g1, .cells (av 8 (w32 x)) 155⟩, ⟨g2, .cells (av 8 (w32 (fun _ => 0))) 155⟩, ⟨g3, .cells (av 16 (w32 (wo rs n))) 148⟩, ⟨g5, .cells (av 16 (ow j)) 214⟩, ⟨g6, .cells (av 4 (wi (r4 0 4 8 12))) 3⟩, ⟨g7, .cells (av 4 (wi (r4 1 5 9 13))) 3⟩, ⟨g8, .cells (av 4 (wi (r4 2 6 10 14))) 3⟩, ⟨g9, .cells (av 4 (wi (r4 3 7 11 15))) 3⟩] 10 fun u23 M => ?_
  replace M := M.nf
  have qM := M.drop (.cons_cons _ (.cons_cons _ (.cons_cons _ (.cons _ (.cons_cons _ (.cons_cons _ (.cons_cons _ (.cons_cons _ (.cons_cons _ (.slnil))))))))))
  refine qV qM 0 70 (.func (.func 156) #[] #[pJ g4]) <| qV qM 1 71 (pJ g5 8) <| qE qM 2 72 3 8 <| qH qM 3 73 (.pointer (some ⟨g3, (OF (j * 16 + 8)), none⟩)) (fun w _ => (run_ix1 148 16 91 Tryz.underlying148 inz91 _ _ rfl g3 (by kernel_rfl) .u8 (OF (j * 16 + 8)) (by kernel_rfl) (OF_lt _)) w) <| qC qM 4 74 g3 (OF (j * 16 + 8)) (.int .u32 ((wo rs n) (OF (j * 16 + 8)))) (fun w M => M.cell 2 rfl (OF_lt _) rfl) <| qV qM 5 75 (pJ g5 9) <| qE qM 6 76 3 9 <| qH qM 7 77 (.pointer (some ⟨g3, (OF (j * 16 + 9)), none⟩)) (fun w _ => (run_ix1 148 16 91 Tryz.underlying148 inz91 _ _ rfl g3 (by kernel_rfl) .u8 (OF (j * 16 + 9)) (by kernel_rfl) (OF_lt _)) w) <| qC qM 8 78 g3 (OF (j * 16 + 9)) (.int .u32 ((wo rs n) (OF (j * 16 + 9)))) (fun w M => M.cell 2 rfl (OF_lt _) rfl) <| qO 9 ?_
  refine ZM M 79 (fun g10 => .slice (some ⟨g10, 0, none⟩) 4 4) (.cells (av 4 (wi (r4 0 5 10 15))) 3) fun g10 u24 M => ?_
  replace M := M.nf
  refine nT ?_
  refine ⟨(M.drop (.cons_cons _ (.cons_cons _ (.cons_cons _ (.cons _ (.cons_cons _ (.cons_cons _ (.cons_cons _ (.cons_cons _ (.cons_cons _ (.cons _ (.slnil)))))))))))), ?_⟩
  refine qZ ?_
  refine ZY M 80 3 (.tuple #[]) (.cells (av 16 (w32 (rn5 (wo rs n) (rd (wo rs n) (spr x ct last) j) j))) 148) (fun w M => c_mix (rn4 (wo rs n) (rd (wo rs n) (spr x ct last) j) j) _ _ 0 5 10 15 (by decide) (by decide) (by decide) (by decide) g4 g10 w M.laid (M.get 3 rfl) (M.ne0 3 rfl) (nodup_at M.nodup (i := 9) (j := 3) rfl rfl (by decide)) (M.cell 9 rfl (by decide) rfl) (M.cell 9 rfl (by decide) rfl) (M.cell 9 rfl (by decide) rfl) (M.cell 9 rfl (by decide) rfl)) fun u25 M => ?_
  replace M := M.nf
  refine nT <| au_then <| wp_seq <| rgh M [⟨g1, .cells (av 8 (w32 x)) 155⟩, ⟨g2, .cells (av 8 (w32 (fun _ => 0))) 155⟩, ⟨g3, .cells (av 16 (w32 (wo rs n))) 148⟩, ⟨g5, .cells (av 16 (ow j)) 214⟩, ⟨g6, .cells (av 4 (wi (r4 0 4 8 12))) 3⟩, ⟨g7, .cells (av 4 (wi (r4 1 5 9 13))) 3⟩, ⟨g8, .cells (av 4 (wi (r4 2 6 10 14))) 3⟩, ⟨g9, .cells (av 4 (wi (r4 3 7 11 15))) 3⟩, ⟨g10, .cells (av 4 (wi (r4 0 5 10 15))) 3⟩] 10 fun u26 M => ?_
  replace M := M.nf
  have qM := M.drop (.cons_cons _ (.cons_cons _ (.cons_cons _ (.cons _ (.cons_cons _ (.cons_cons _ (.cons_cons _ (.cons_cons _ (.cons_cons _ (.cons_cons _ (.slnil)))))))))))
  refine qV qM 0 81 (.func (.func 156) #[] #[pJ g4]) <| qV qM 1 82 (pJ g5 10) <| qE qM 2 83 3 10 <| qH qM 3 84 (.pointer (some ⟨g3, (OF (j * 16 + 10)), none⟩)) (fun w _ => (run_ix1 148 16 91 Tryz.underlying148 inz91 _ _ rfl g3 (by kernel_rfl) .u8 (OF (j * 16 + 10)) (by kernel_rfl) (OF_lt _)) w) <| qC qM 4 85 g3 (OF (j * 16 + 10)) (.int .u32 ((wo rs n) (OF (j * 16 + 10)))) (fun w M => M.cell 2 rfl (OF_lt _) rfl) <| qV qM 5 86 (pJ g5 11) <| qE qM 6 87 3 11 <| qH qM 7 88 (.pointer (some ⟨g3, (OF (j * 16 + 11)), none⟩)) (fun w _ => (run_ix1 148 16 91 Tryz.underlying148 inz91 _ _ rfl g3 (by kernel_rfl) .u8 (OF (j * 16 + 11)) (by kernel_rfl) (OF_lt _)) w) <| qC qM 8 89 g3 (OF (j * 16 + 11)) (.int .u32 ((wo rs n) (OF (j * 16 + 11)))) (fun w M => M.cell 2 rfl (OF_lt _) rfl) <| qO 9 ?_
  refine ZM M 90 (fun g11 => .slice (some ⟨g11, 0, none⟩) 4 4) (.cells (av 4 (wi (r4 1 6 11 12))) 3) fun g11 u27 M => ?_
  replace M := M.nf
  refine nT ?_
  refine ⟨(M.drop (.cons_cons _ (.cons_cons _ (.cons_cons _ (.cons _ (.cons_cons _ (.cons_cons _ (.cons_cons _ (.cons_cons _ (.cons_cons _ (.cons_cons _ (.cons _ (.slnil))))))))))))), ?_⟩
  refine qZ ?_
  refine ZY M 91 3 (.tuple #[]) (.cells (av 16 (w32 (rn6 (wo rs n) (rd (wo rs n) (spr x ct last) j) j))) 148) (fun w M => c_mix (rn5 (wo rs n) (rd (wo rs n) (spr x ct last) j) j) _ _ 1 6 11 12 (by decide) (by decide) (by decide) (by decide) g4 g11 w M.laid (M.get 3 rfl) (M.ne0 3 rfl) (nodup_at M.nodup (i := 10) (j := 3) rfl rfl (by decide)) (M.cell 10 rfl (by decide) rfl) (M.cell 10 rfl (by decide) rfl) (M.cell 10 rfl (by decide) rfl) (M.cell 10 rfl (by decide) rfl)) fun u28 M => ?_
  replace M := M.nf
  refine nT <| au_then <| wp_seq <| rgh M [⟨g1, .cells (av 8 (w32 x)) 155⟩, ⟨g2, .cells (av 8 (w32 (fun _ => 0))) 155⟩, ⟨g3, .cells (av 16 (w32 (wo rs n))) 148⟩, ⟨g5, .cells (av 16 (ow j)) 214⟩, ⟨g6, .cells (av 4 (wi (r4 0 4 8 12))) 3⟩, ⟨g7, .cells (av 4 (wi (r4 1 5 9 13))) 3⟩, ⟨g8, .cells (av 4 (wi (r4 2 6 10 14))) 3⟩, ⟨g9, .cells (av 4 (wi (r4 3 7 11 15))) 3⟩, ⟨g10, .cells (av 4 (wi (r4 0 5 10 15))) 3⟩, ⟨g11, .cells (av 4 (wi (r4 1 6 11 12))) 3⟩] 10 fun u29 M => ?_
  replace M := M.nf
  have qM := M.drop (.cons_cons _ (.cons_cons _ (.cons_cons _ (.cons _ (.cons_cons _ (.cons_cons _ (.cons_cons _ (.cons_cons _ (.cons_cons _ (.cons_cons _ (.cons_cons _ (.slnil))))))))))))
  refine qV qM 0 92 (.func (.func 156) #[] #[pJ g4]) <| qV qM 1 93 (pJ g5 12) <| qE qM 2 94 3 12 <| qH qM 3 95 (.pointer (some ⟨g3, (OF (j * 16 + 12)), none⟩)) (fun w _ => (run_ix1 148 16 91 Tryz.underlying148 inz91 _ _ rfl g3 (by kernel_rfl) .u8 (OF (j * 16 + 12)) (by kernel_rfl) (OF_lt _)) w) <| qC qM 4 96 g3 (OF (j * 16 + 12)) (.int .u32 ((wo rs n) (OF (j * 16 + 12)))) (fun w M => M.cell 2 rfl (OF_lt _) rfl) <| qV qM 5 97 (pJ g5 13) <| qE qM 6 98 3 13 <| qH qM 7 99 (.pointer (some ⟨g3, (OF (j * 16 + 13)), none⟩)) (fun w _ => (run_ix1 148 16 91 Tryz.underlying148 inz91 _ _ rfl g3 (by kernel_rfl) .u8 (OF (j * 16 + 13)) (by kernel_rfl) (OF_lt _)) w) <| qC qM 8 100 g3 (OF (j * 16 + 13)) (.int .u32 ((wo rs n) (OF (j * 16 + 13)))) (fun w M => M.cell 2 rfl (OF_lt _) rfl) <| qO 9 ?_
  refine ZM M 101 (fun g12 => .slice (some ⟨g12, 0, none⟩) 4 4) (.cells (av 4 (wi (r4 2 7 8 13))) 3) fun g12 u30 M => ?_
  replace M := M.nf
  refine nT ?_
  refine ⟨(M.drop (.cons_cons _ (.cons_cons _ (.cons_cons _ (.cons _ (.cons_cons _ (.cons_cons _ (.cons_cons _ (.cons_cons _ (.cons_cons _ (.cons_cons _ (.cons_cons _ (.cons _ (.slnil)))))))))))))), ?_⟩
  refine qZ ?_
  refine ZY M 102 3 (.tuple #[]) (.cells (av 16 (w32 (rn7 (wo rs n) (rd (wo rs n) (spr x ct last) j) j))) 148) (fun w M => c_mix (rn6 (wo rs n) (rd (wo rs n) (spr x ct last) j) j) _ _ 2 7 8 13 (by decide) (by decide) (by decide) (by decide) g4 g12 w M.laid (M.get 3 rfl) (M.ne0 3 rfl) (nodup_at M.nodup (i := 11) (j := 3) rfl rfl (by decide)) (M.cell 11 rfl (by decide) rfl) (M.cell 11 rfl (by decide) rfl) (M.cell 11 rfl (by decide) rfl) (M.cell 11 rfl (by decide) rfl)) fun u31 M => ?_
  replace M := M.nf
  refine nT <| au_then <| rgh M [⟨g1, .cells (av 8 (w32 x)) 155⟩, ⟨g2, .cells (av 8 (w32 (fun _ => 0))) 155⟩, ⟨g3, .cells (av 16 (w32 (wo rs n))) 148⟩, ⟨g5, .cells (av 16 (ow j)) 214⟩, ⟨g6, .cells (av 4 (wi (r4 0 4 8 12))) 3⟩, ⟨g7, .cells (av 4 (wi (r4 1 5 9 13))) 3⟩, ⟨g8, .cells (av 4 (wi (r4 2 6 10 14))) 3⟩, ⟨g9, .cells (av 4 (wi (r4 3 7 11 15))) 3⟩, ⟨g10, .cells (av 4 (wi (r4 0 5 10 15))) 3⟩, ⟨g11, .cells (av 4 (wi (r4 1 6 11 12))) 3⟩, ⟨g12, .cells (av 4 (wi (r4 2 7 8 13))) 3⟩] 10 fun u32 M => ?_
  replace M := M.nf
  have qM := M.drop (.cons_cons _ (.cons_cons _ (.cons_cons _ (.cons _ (.cons_cons _ (.cons_cons _ (.cons_cons _ (.cons_cons _ (.cons_cons _ (.cons_cons _ (.cons_cons _ (.cons_cons _ (.slnil)))))))))))))
  refine qV qM 0 103 (.func (.func 156) #[] #[pJ g4]) <| qV qM 1 104 (pJ g5 14) <| qE qM 2 105 3 14 <| qH qM 3 106 (.pointer (some ⟨g3, (OF (j * 16 + 14)), none⟩)) (fun w _ => (run_ix1 148 16 91 Tryz.underlying148 inz91 _ _ rfl g3 (by kernel_rfl) .u8 (OF (j * 16 + 14)) (by kernel_rfl) (OF_lt _)) w) <| qC qM 4 107 g3 (OF (j * 16 + 14)) (.int .u32 ((wo rs n) (OF (j * 16 + 14)))) (fun w M => M.cell 2 rfl (OF_lt _) rfl) <| qV qM 5 108 (pJ g5 15) <| qE qM 6 109 3 15 <| qH qM 7 110 (.pointer (some ⟨g3, (OF (j * 16 + 15)), none⟩)) (fun w _ => (run_ix1 148 16 91 Tryz.underlying148 inz91 _ _ rfl g3 (by kernel_rfl) .u8 (OF (j * 16 + 15)) (by kernel_rfl) (OF_lt _)) w) <| qC qM 8 111 g3 (OF (j * 16 + 15)) (.int .u32 ((wo rs n) (OF (j * 16 + 15)))) (fun w M => M.cell 2 rfl (OF_lt _) rfl) <| qO 9 ?_
  refine ZM M 112 (fun g13 => .slice (some ⟨g13, 0, none⟩) 4 4) (.cells (av 4 (wi (r4 3 4 9 14))) 3) fun g13 u33 M => ?_
  replace M := M.nf
  refine nT ?_
  refine ⟨(M.drop (.cons_cons _ (.cons_cons _ (.cons_cons _ (.cons _ (.cons_cons _ (.cons_cons _ (.cons_cons _ (.cons_cons _ (.cons_cons _ (.cons_cons _ (.cons_cons _ (.cons_cons _ (.cons _ (.slnil))))))))))))))), ?_⟩
  refine qZ ?_
  refine ZY M 113 3 (.tuple #[]) (.cells (av 16 (w32 (rn8 (wo rs n) (rd (wo rs n) (spr x ct last) j) j))) 148) (fun w M => c_mix (rn7 (wo rs n) (rd (wo rs n) (spr x ct last) j) j) _ _ 3 4 9 14 (by decide) (by decide) (by decide) (by decide) g4 g13 w M.laid (M.get 3 rfl) (M.ne0 3 rfl) (nodup_at M.nodup (i := 12) (j := 3) rfl rfl (by decide)) (M.cell 12 rfl (by decide) rfl) (M.cell 12 rfl (by decide) rfl) (M.cell 12 rfl (by decide) rfl) (M.cell 12 rfl (by decide) rfl)) fun u34 M => ?_
  replace M := M.nf
  refine nT <| au_block <| au_then <| rg_lit <| ZI 114 ((j : Int) + 1) ((j + 1 : Nat) : Int) <| rV 1 <| nT ?_
  exact exS (M.drop (.cons_cons _ (.cons_cons _ (.cons_cons _ (.cons_cons _ (.cons _ (.cons _ (.cons _ (.cons _ (.cons _ (.cons _ (.cons _ (.cons _ (.cons _ (.slnil)))))))))))))))
 ·intro a u0 hI
  obtain ⟨v1, rfl, M⟩ := hI
  refine sR <| ZF 24 (10 < 10) <| nT <| wp_seq <| cF <| wp_exit <| au_then_exit <| au_then_exit <| au_block_exit <| au_then <| wp_seq <| sq <| wp_block ?_
  refine au_loop (fun j a w' => ∃ v2 : NV, a = (fm ([.agg (av 8 (w32 x)), .slice (some ⟨g, 0, none⟩) n cap, .int .u64 ct, .bool (last), pJ g1] ++ vr v2 5 3 ++ [pJ g2, pJ g3, pJ g4, .func (.func 156) #[] #[pJ g4]] ++ vr v2 12 10 ++ [.agg (av 160 (w8 fun i => (OF i : Int))), .int .i64 (10 : Int)] ++ vr v2 24 91 ++ [.int .i64 (j : Int)] ++ vr v2 116 17)) ∧ Mem ⟨w, []⟩ [⟨g1, .cells (av 8 (w32 (ad x (rd (wo rs n) (spr x ct last) 10) j))) 155⟩, ⟨g2, .cells (av 8 (w32 (fun _ => 0))) 155⟩, ⟨g3, .cells (av 16 (w32 (wo rs n))) 148⟩, ⟨g4, .cells (av 16 (w32 (rd (wo rs n) (spr x ct last) 10))) 148⟩] w') 8 (exS M) ?_ ?_
  ·intro j a u0 hj hI
   obtain ⟨v2, rfl, M⟩ := hI
   refine sR <| ZT 116 ((j : Int) < 8) <| nT <| wp_seq <| cT <| wp_skip <| au_then <| wp_seq <| wp_block <| sq <| rg_tail M 13 (by kernel_rfl) (by kernel_rfl) ?_
   simp only [List.take_succ_cons, List.take_zero]
   refine kR 1 <| eX 119 .i64 g1 (j) 8 <| eE M 120 0 j <| kR 1 <| eX 122 .i64 g4 (j) 16 <| eE M 123 3 j <| kR 1 <| eI 125 (8 + (j : Int)) ((8 + j : Nat) : Int) <| eX 126 .i64 g4 ((8 + j : Nat)) 16 <| eE M 127 3 ((8 + j : Nat)) <| kR 2 <| eX 130 .i64 g1 (j) 8 <| kl_nil fun u35 M => ?_
   replace M := M.nf
   refine ZP32 M 0 j (vx ((ad x (rd (wo rs n) (spr x ct last) 10) j) j) (vx ((rd (wo rs n) (spr x ct last) 10) j) ((rd (wo rs n) (spr x ct last) 10) ((8 + j : Nat))))) fun u36 M => ?_
   replace M := M.nf
   refine pl_nil <| au_block <| au_then <| rg_lit <| ZI 131 ((j : Int) + 1) ((j + 1 : Nat) : Int) <| rV 1 <| nT ?_
   exact exS M
  ·intro a u0 hI
   obtain ⟨v2, rfl, M⟩ := hI
   refine sR <| ZF 116 (8 < 8) <| nT <| wp_seq <| cF <| wp_exit <| au_then_exit <| au_then_exit <| au_block_exit <| au_then <| sR <| pA M 132 0 8 (w32 (ad x (rd (wo rs n) (spr x ct last) 10) 8)) <| ZG M 1 8 (w32 (ad x (rd (wo rs n) (spr x ct last) 10) 8)) fun u37 M => ?_
   replace M := M.nf
   refine nT <| wp_ret ?_
   refine bodyPost_ret (v := .agg (av 8 (w32 (mixV x rs n ct last)))) (Eq.trans (b := .ok (.agg (av 8 (w32 (ad x (rd (wo rs n) (spr x ct last) 10) 8)))) _) (results_cell_row Tryz.results116 _ _ g2 155 (av 8 (w32 (ad x (rd (wo rs n) (spr x ct last) 10) 8))) (0, 0) _ (by kernel_rfl) (M.get 1 rfl) Tryz.underlying155 rfl (by rw [av_size]; exact inz155)) (by rw [ad_av]; rfl)) (by kernel_rfl) ⟨rfl, below_grown M.old⟩
open Go.RowKit
def hF (sz : Int) (ws : NI) (gw n : Nat) (ct : Int) : Nat → Value := fun i => if i = 0 then .int .i64 sz else if i < 9 then .int .u32 (ws (i - 1)) else if i = 9 then .slice (some ⟨gw, 0, none⟩) n 64 else .int .u64 ct
theorem hF_words (sz : Int) (ws : NI) (gw n : Nat) (ct : Int) : ∀ j, j < 8 → hF sz ws gw n ct (1 + j) = w32 ws j := fun j hj => by
 unfold hF w32
 rw [if_neg (by omega), if_pos (by omega), show 1 + j - 1 = j by omega]
theorem hF_ext {sz' : Int} {ws' : NI} {gw n' : Nat} {ct' : Int} (F : NV) (h0 : F 0 = .int .i64 sz') (hw : ∀ j, j < 8 → F (1 + j) = .int .u32 (ws' j)) (h9 : F 9 = .slice (some ⟨gw, 0, none⟩) n' 64) (h10 : F 10 = .int .u64 ct') : ∀ j, j < 11 → F j = hF sz' ws' gw n' ct' j := fun j hj => by
 unfold hF
 by_cases e0 : j = 0
 ·subst e0
  rw [h0, if_pos rfl]
 ·rw [if_neg e0]
  by_cases e8 : j < 9
  ·have := hw (j - 1) (by omega)
   rw [show 1 + (j - 1) = j by omega] at this
   rw [if_pos e8, this]
  ·rw [if_neg e8]
   by_cases e9 : j = 9
   ·subst e9
    rw [if_pos rfl, h9]
   ·have e10 : j = 10 := by omega
    subst e10
    rw [if_neg e9, h10]
theorem hF_putw (sz : Int) (ws : NI) (gw n : Nat) (ct : Int) (f : NI) : ∀ j, j < 11 → (if 1 ≤ j ∧ j < 1 + 8 then w32 f (j - 1) else hF sz ws gw n ct j) = hF sz f gw n ct j :=
 hF_ext (fun j => if 1 ≤ j ∧ j < 1 + 8 then w32 f (j - 1) else hF sz ws gw n ct j) rfl (fun j hj => by
  show (if 1 ≤ 1 + j ∧ 1 + j < 1 + 8 then w32 f (1 + j - 1) else _) = _
  rw [if_pos (by omega), show 1 + j - 1 = j by omega]
  rfl) rfl rfl
theorem hF_put1 (sz : Int) (ws : NI) (gw n : Nat) (ct : Int) (v : Int) : ∀ j, j < 11 → (if j = 1 then .int .u32 v else hF sz ws gw n ct j) = hF sz (upd ws 0 v) gw n ct j :=
 hF_ext (fun j => if j = 1 then .int .u32 v else hF sz ws gw n ct j) rfl (fun j hj => by
  show (if 1 + j = 1 then _ else hF sz ws gw n ct (1 + j)) = _
  unfold upd
  by_cases e : j = 0
  ·subst e
   rfl
  ·rw [if_neg (by omega), if_neg e, hF_words sz ws gw n ct j hj]
   rfl) rfl rfl
theorem hF_putc (sz : Int) (ws : NI) (gw n : Nat) (ct : Int) (c' : Int) : ∀ j, j < 11 → (if j = 10 then .int .u64 c' else hF sz ws gw n ct j) = hF sz ws gw n c' j :=
 hF_ext (fun j => if j = 10 then .int .u64 c' else hF sz ws gw n ct j) rfl (fun j hj => by
  show (if 1 + j = 10 then _ else hF sz ws gw n ct (1 + j)) = _
  rw [if_neg (by omega), hF_words sz ws gw n ct j hj]
  rfl) rfl rfl
theorem hF_puts (sz : Int) (ws : NI) (gw n : Nat) (ct : Int) (n' : Nat) : ∀ j, j < 11 → (if j = 9 then .slice (some ⟨gw, 0, none⟩) n' 64 else hF sz ws gw n ct j) = hF sz ws gw n' ct j :=
 hF_ext (fun j => if j = 9 then .slice (some ⟨gw, 0, none⟩) n' 64 else hF sz ws gw n ct j) rfl (fun j hj => by
  show (if 1 + j = 9 then _ else hF sz ws gw n ct (1 + j)) = _
  rw [if_neg (by omega), hF_words sz ws gw n ct j hj]
  rfl) rfl rfl
def lf (l : List Int) : Nat → Int := fun i => l.getD i 0
theorem vs8_cell (l : List Int) (i : Nat) (h : i < l.length) : (vs8 l)[i]? = some (.int .u8 (lf l i)) := by
 unfold vs8 lf
 rw [List.getElem?_map, List.getD_eq_getElem?_getD, List.getElem?_eq_getElem h]
 rfl
theorem byte_vs8 (s : Yb) : byteCells s = vs8 (sb s) := by
 unfold byteCells vs8 sb
 rw [List.map_map]
 rfl
theorem vs8_append (l m : List Int) : vs8 l ++ vs8 m = vs8 (l ++ m) := by simp [vs8]
theorem ua_eq (x y : Int) : ua x y = (x + y) % 18446744073709551616 := by
 unfold ua
 simp [IntKind.wrap, IntKind.signed, IntKind.bits]
theorem cv_u64 (n : Nat) (h : n < 18446744073709551616) : cv .u64 (n : Int) = (n : Int) := by
 unfold cv
 simp [IntKind.wrap, IntKind.signed, IntKind.bits]
 omega
def lo4 (x : Int) : List Int := [cv .u8 x, cv .u8 (sr x 8), cv .u8 (sr x 16), cv .u8 (sr x 24)]
def loI (f : NI) : Nat → List Int
 | 0 => []
 | j + 1 => loI f j ++ lo4 (f j)
theorem loI_length (f : NI) : ∀ j, (loI f j).length = 4 * j
 | 0 => rfl
 | j + 1 => by
  unfold loI
  rw [List.length_append, loI_length f j]
  simp [lo4]
  omega
theorem loI_nn (f : NI) : ∀ j, ∀ x ∈ loI f j, 0 ≤ x ∧ x < 256
 | 0, x, h => by simp [loI] at h
 | j + 1, x, h => by
  unfold loI at h
  rcases List.mem_append.1 h with h | h
  ·exact loI_nn f j x h
  ·simp only [lo4, List.mem_cons, List.not_mem_nil, or_false] at h
   rcases h with rfl | rfl | rfl | rfl <;> exact cv8_nn _
theorem src4 {c : Ctx} {L : List Blk} {w : World} (M : Mem c L w) (i gx Tx : Nat) (a b d e : Int) (hi : L[i]? = some ⟨gx, .cells (av 4 (w8 (r4 a b d e))) Tx⟩) : Src Tryz.prog 1 61 (.slice (some ⟨gx, 0, none⟩) 4 4) 4 (vs8 [a, b, d, e]) w :=
 Src.ofSlice w Tryz.underlying61 ⟨gx, 0, none⟩ 4 4 _ rfl (fun j u hu => by
  rw [add_at, Nat.zero_add]
  have hj : j < 4 := by
   have := (List.getElem?_eq_some_iff.1 hu).1
   simpa [vs8] using this
  rw [cell_av (M.get i hi) hj, ← hu]
  rcases j with _ | _ | _ | _ | j
  ·rfl
  ·rfl
  ·rfl
  ·rfl
  ·omega) (fun u hu => by
  obtain ⟨x, _, rfl⟩ := List.mem_map.1 hu
  rfl)
theorem info5_ex : (Tryz.prog.info? 5).isSome = true := by kernel_rfl
theorem info5_eq : Tryz.prog.info? 5 = some ((Tryz.prog.info? 5).get info5_ex) := (Option.some_get info5_ex).symm
theorem info5_z : ((Tryz.prog.info? 5).get info5_ex).zero = some (.int .u8 0) := by kernel_rfl
theorem c_low (f : NI) (w : World) (hL : Laid w)  : Cs 117 #[.agg (av 8 (w32 f))] w (.string (bs (loI f 8))) := by
 go_enter Tryz.func117, Tryz.ntmps117
 have M := Mem.start hL
 refine sR <| pN M 1 (.cells (av 8 (w32 f)) 155) fun g1 u1 M => rV 1 <| nT <| sR <| pl_make M (want_no rfl) (some 6) rfl 61 5 _ (.int .u8 0) Tryz.underlying61 info5_eq info5_z (by kernel_rfl) (by decide +kernel) _ _ rfl .i64 .i64 (by kernel_rfl) 32 (by kernel_rfl) (by omega) ?_
 intro g2 Zg2 u2 hZ M
 refine rV 1 <| nT <| wp_seq <| sR <| pA M 7 0 8 (w32 f) <| rV 1 <| nT <| wp_block ?_
 refine au_loop (fun j a w' => ∃ (v : NV) (Z : Obj), a = (fm ([.agg (av 8 (w32 f)), pJ g1, .string ⟨#[]⟩, .slice (some ⟨g2, 0, none⟩) (4 * j) 32, undef, v 5, .slice (some ⟨g2, 0, none⟩) 0 32, .agg (av 8 (w32 f)), .int .i64 (j : Int)] ++ vr v 9 17 ++ [undef, undef])) ∧ SB Z 32 (vs8 (loI f j)) ∧ Mem ⟨w, []⟩ [⟨g1, .cells (av 8 (w32 f)) 155⟩, ⟨g2, Z⟩] w') 8 (exS2 Zg2 ⟨hZ, M⟩) ?_ ?_
 ·intro j a u0 hj hI
  obtain ⟨v, Z, rfl, hZ, M⟩ := hI
  refine sR <| ZT 9 ((j : Int) < 8) <| nT <| wp_seq <| cT <| wp_skip <| au_then <| wp_seq <| wp_block <| sR <| pH 10 (.int .u32 (f (j))) (run_ixA 155 8 91 Tryz.underlying155 inz91 (fun _ => by kernel_rfl) _ _ rfl (w32 f) (by kernel_rfl) .i64 (j) (by kernel_rfl) (by omega) rfl) <| rV 1 <| nT <| rg_lit <| rV 12 <| ZM M 23 (fun g3 => .slice (some ⟨g3, 0, none⟩) 4 4) (.cells (av 4 (w8 (r4 (cv .u8 (f j)) (cv .u8 (sr (f j) 8)) (cv .u8 (sr (f j) 16)) (cv .u8 (sr (f j) 24))))) 5) fun g3 u3 M => ?_
  refine pl_appX M (want_no rfl) (some 24) rfl 61 61 61 5 _ Tryz.underlying61 info5_eq (by kernel_rfl) 1 g2 (4 * j) 32 Z (vs8 (loI f j)) rfl hZ (by rw [vs8_length, loI_length]) (.slice (some ⟨g3, 0, none⟩) 4 4) 4 (vs8 (lo4 (f j))) (fun w M => src4 M 2 g3 5 (cv .u8 (f j)) (cv .u8 (sr (f j) 8)) (cv .u8 (sr (f j) 16)) (cv .u8 (sr (f j) 24)) rfl) rfl (by omega) (fun _ => by kernel_rfl) ?_
  intro Y1 u4 hY M
  rw [vs8_append] at hY
  refine rV 1 <| pl_nil <| au_block <| au_then <| rg_lit <| ZI 25 ((j : Int) + 1) ((j + 1 : Nat) : Int) <| rV 1 <| nT ?_
  exact exS2 Y1 ⟨hY, M.drop (.cons_cons _ (.cons_cons _ (.cons _ .slnil)))⟩
 ·intro a u0 hI
  obtain ⟨v, Z, rfl, hZ, M⟩ := hI
  refine sq <| wp_seq <| cF <| wp_exit <| au_then_exit <| au_then_exit <| au_block_exit <| au_then <| sR <| rV 1 <| pl_back M (want_no rfl) (some 27) rfl _ rfl 1 g2 (4 * 8) 32 (by kernel_rfl) Z rfl (loI f 8) 32 hZ (loI_length f 8) (loI_nn f 8) <| rV 1 <| nT <| wp_ret ?_
  exact b1 M
structure HS where
 ws : Nat → Int
 wl : List Int
 ct : Int
structure HS.ok (H : HS) : Prop where
 le : H.wl.length ≤ 64
 nn : ∀ x ∈ H.wl, 0 ≤ x ∧ x < 256
def fl (H : HS) : HS := if H.wl.length = 64 then ⟨mixV H.ws (lf H.wl) H.wl.length (ua H.ct 64) false, [], ua H.ct 64⟩ else H
def ab (H : HS) (b : Int) : HS := ⟨(fl H).ws, (fl H).wl ++ [b], (fl H).ct⟩
def tk (H : HS) (s : Yb) : Nat → HS
 | 0 => H
 | k + 1 => ab (tk H s k) (bt s k)
theorem fl_lt (H : HS) (h : H.ok) : (fl H).wl.length < 64 := by
 unfold fl
 split
 ·simp
 ·have := h.le
  omega
theorem fl_ok {H : HS} (h : H.ok) : (fl H).ok := by
 unfold fl
 split
 ·exact ⟨by simp, by simp⟩
 ·exact h
theorem ab_ok {H : HS} (h : H.ok) (b : Int) (hb : 0 ≤ b ∧ b < 256) : (ab H b).ok := by
 have h1 := fl_lt H h
 refine ⟨by show ((fl H).wl ++ [b]).length ≤ 64; simp; omega, fun x hx => ?_⟩
 rcases List.mem_append.1 hx with hx | hx
 ·exact (fl_ok h).nn x hx
 ·rw [List.mem_singleton.1 hx]
  exact hb
theorem tk_ok {H : HS} (h : H.ok) (s : Yb) : ∀ k, (tk H s k).ok
 | 0 => h
 | k + 1 => ab_ok (tk_ok h s k) _ (bt_nn s k)
theorem fl_id {H : HS} (h : H.wl.length < 64) : fl H = H := by
 unfold fl
 rw [if_neg (by omega)]
theorem tk_run (H : HS) (s : Yb) (k : Nat) : ∀ n, 0 < n → (fl (tk H s k)).wl.length + n ≤ 64 → tk H s (k + n) = ⟨(fl (tk H s k)).ws, (fl (tk H s k)).wl ++ (List.range n).map (fun i => bt s (k + i)), (fl (tk H s k)).ct⟩
 | 0, h, _ => absurd h (by omega)
 | 1, _, _ => rfl
 | n + 2, _, hle => by
  have ih := tk_run H s k (n + 1) (by omega) (by omega)
  show ab (tk H s (k + (n + 1))) (bt s (k + (n + 1))) = _
  unfold ab
  rw [fl_id (by rw [ih]; simp; omega), ih]
  simp only [HS.mk.injEq, true_and, and_true]
  rw [List.append_assoc, List.range_succ (n := n + 1), List.map_append]
  rfl
theorem bt_extract (s : Yb) (k : Nat) (i : Nat) : bt (s.extract k s.size) i = bt s (k + i) := by
 unfold bt
 congr 2
 have e : (s.extract k s.size).data[i]? = s.data[k + i]? := by
  have hs : s.data.size = s.size := rfl
  rw [ByteArray.data_extract, Array.getElem?_extract]
  by_cases h : k + i < s.size
  ·rw [if_pos (by omega)]
  ·rw [if_neg (by omega), Array.getElem?_eq_none (by omega)]
 rw [e]
theorem size_extract (s : Yb) (k : Nat) : (s.extract k s.size).size = s.size - k := by simp [ByteArray.size_extract]
theorem extract_extract (s : Yb) (k q : Nat) (hk : k + q ≤ s.size) : (s.extract k s.size).extract q (s.extract k s.size).size = s.extract (k + q) s.size := by
 have hs : s.size = s.data.size := rfl
 apply ByteArray.ext
 rw [ByteArray.data_extract, ByteArray.data_extract, ByteArray.data_extract, size_extract]
 apply Array.ext_getElem?
 intro i
 rw [Array.getElem?_extract, Array.getElem?_extract, Array.getElem?_extract]
 by_cases h : k + q + i < s.size
 ·rw [if_pos (by simp; omega), if_pos (by omega), if_pos (by omega), Nat.add_assoc]
 ·rw [if_neg (by simp; omega), if_neg (by omega)]
theorem extract_all (s : Yb) : s.extract 0 s.size = s := by simp
theorem sb_ext (r : Yb) (a b : Nat) (h : b ≤ r.size) : sb (r.extract a b) = (List.range (b - a)).map (fun i => bt r (a + i)) := by
 have hs : r.size = r.data.size := rfl
 apply List.ext_getElem?
 intro i
 unfold sb bt
 rw [List.getElem?_map, Array.getElem?_toList, ByteArray.data_extract, Array.getElem?_extract, List.getElem?_map]
 by_cases hi : i < b - a
 ·rw [if_pos (by omega), List.getElem?_range hi, Array.getElem?_eq_getElem (by omega), Option.map_some, Option.map_some, Array.getElem?_eq_getElem (by omega)]
  rfl
 ·rw [if_neg (by omega), List.getElem?_eq_none (by simp; omega)]
  rfl
theorem c_take (H : HS) (hH : H.ok) (z g gw : Nat) (Z : Obj) (s : Yb) (w : World) (hL : Laid w) (hg : w.heap[g]? = some (.cells (av 11 (hF (z : Int) H.ws gw H.wl.length H.ct)) 164)) (h0 : 2 < g) (hk : w.heap[gw]? = some Z) (k0 : 2 < gw) (hne : g ≠ gw) (hZ : SB Z 64 (vs8 H.wl)) : Calls Tryz.prog 88 #[pJ g, .string s] w fun r w' => ∃ Y, r = .returned (.tuple #[]) ∧ Grw w w' [g, gw] ∧ w'.heap[g]? = some (.cells (av 11 (hF (z : Int) (tk H s s.size).ws gw (tk H s s.size).wl.length (tk H s s.size).ct)) 164) ∧ w'.heap[gw]? = some Y ∧ SB Y 64 (vs8 (tk H s s.size).wl) := by
 go_enter Tryz.func88, Tryz.ntmps88
 have M := Mem.startp2 hL hg h0 hk k0 hne
 refine wp_block <| wp_loop_ghost (fun n a w' => ∃ (v : NV) (k : Nat) (rem : Yb) (Y : Obj), k + n = s.size ∧ rem = s.extract k s.size ∧ a = (fm ([pJ g, .string rem, undef, undef] ++ vr v 4 64)) ∧ SB Y 64 (vs8 (tk H s k).wl) ∧ Mem ⟨w, [g, gw]⟩ [⟨g, .cells (av 11 (hF (z : Int) (tk H s k).ws gw (tk H s k).wl.length (tk H s k).ct)) 164⟩, ⟨gw, Y⟩] w') s.size ⟨fun _ => undef, 0, s, Z, by omega, (extract_all s).symm, by kernel_rfl, hZ, M⟩ ?_
 intro n a u0 hI
 obtain ⟨v, k, rem, Y, hk2, hrem, rfl, hY, M⟩ := hI
 have hsz : rem.size = n := by rw [hrem, size_extract]; omega
 obtain ⟨G, hG⟩ : ∃ G, G = tk H s k := ⟨_, rfl⟩
 have hok : G.ok := by rw [hG]; exact tk_ok hH s k
 rw [← hG] at M hY
 rcases Nat.eq_zero_or_pos n with hn | hn
 ·refine wp_seq <| sR <| rV 2 <| ZF 7 ((0 : Int) < (rem.size : Int)) <| nT <| cF <| wp_exit <| au_then_exit <| au_then_exit <| au_block_exit ?_
  have ek : k = s.size := by omega
  rw [hG, ek] at M hY
  exact bodyPost_end (v := .tuple #[]) (results_none Tryz.results88 _ _) (by kernel_rfl) ⟨Y, rfl, M.old, M.get 0 rfl, M.get 1 rfl, hY⟩
 by_cases hf : G.wl.length = 64
 ·have hfl : fl G = ⟨mixV G.ws (lf G.wl) G.wl.length (ua G.ct 64) false, [], ua G.ct 64⟩ := by unfold fl; rw [if_pos hf]
  obtain ⟨p, hp⟩ : ∃ p, p = 0 := ⟨_, rfl⟩
  have hp1 : p < 64 := by omega
  obtain ⟨q, hq⟩ : ∃ q, q = Nat.min rem.size (64 - p) := ⟨_, rfl⟩
  have hq1 : q ≤ n := by rw [hq, hsz]; exact Nat.min_le_left _ _
  have hq2 : q ≤ 64 - p := by rw [hq]; exact Nat.min_le_right _ _
  have hq3 : 0 < q := by rw [hq, hsz]; exact Nat.lt_min.2 ⟨hn, by omega⟩
  have hmin : (if ((64 - p : Nat) : Int) < (rem.size : Int) then ((64 - p : Nat) : Int) else (rem.size : Int)) = (q : Int) := by
   have hq4 : q = if 64 - p < rem.size then 64 - p else rem.size := by rw [hq]; simp only [Nat.min_def]; split <;> split <;> omega
   rw [hq4]; split <;> split <;> omega
  have hes : (rem.extract 0 q).size = q := by rw [ByteArray.size_extract]; omega
  have hsrc : ∀ w, Src Tryz.prog 1 9 (.string (rem.extract 0 q)) q (byteCells (rem.extract 0 q)) w := fun w => by have h := Src.ofString (P := Tryz.prog) w (tx := 9) Tryz.underlying9 (rem.extract 0 q); rw [hes] at h; exact h
  have hrun := tk_run H s k q hq3 (by rw [← hG, hfl]; show 0 + q ≤ 64; omega)
  rw [← hG, hfl] at hrun
  have hbs : sb (rem.extract 0 q) = (List.range q).map (fun i => bt s (k + i)) := by rw [sb_ext _ _ _ (by omega), Nat.sub_zero]; refine List.map_congr_left fun i _ => ?_; rw [Nat.zero_add, hrem, bt_extract]
  refine wp_seq <| sR <| rV 2 <| ZT 7 ((0 : Int) < (rem.size : Int)) <| nT <| cT <| wp_skip <| au_then <| wp_block <| wp_seq <| sR <| rV 3 <| ZE M 11 0 9 <| rV 1 <| ZT 13 ((G.wl.length : Int) = 64) <| nT ?_
  refine cT <| sR <| rV 3 <| ZE M 17 0 10 <| rV 3 <| pP M 0 rfl 10 (.int .u64 (ua G.ct 64)) (hF (z : Int) G.ws gw G.wl.length (ua G.ct 64)) (by decide) (hF_putc (z : Int) G.ws gw G.wl.length G.ct (ua G.ct 64)) fun u1 M => nT <| wp_seq <| rg_tail M 16 (by kernel_rfl) (by kernel_rfl) ?_
  simp only [List.take_succ_cons, List.take_zero]
  refine kR 4 <| kL M 25 0 rfl 1 8 (w32 G.ws) (hF_words (z : Int) G.ws gw G.wl.length (ua G.ct 64)) <| kR 3 <| eE M 29 0 9 <| kR 3 <| eE M 33 0 10 <| eC M 34 (fun w M => c_mixed G.ws (lf G.wl) gw G.wl.length 64 hok.le (ua G.ct 64) false w M.laid (fun i hi => hY.cell (M.get 1 rfl) (vs8_cell G.wl i hi))) <| kR 2 <| kl_nil fun u2 M => pl_put M (want_no rfl) rfl 155 _ _ rfl 0 g 1 (by kernel_rfl) 11 164 (hF (z : Int) G.ws gw G.wl.length (ua G.ct 64)) rfl 8 (w32 (mixV G.ws (lf G.wl) G.wl.length (ua G.ct 64) false)) (hF (z : Int) (mixV G.ws (lf G.wl) G.wl.length (ua G.ct 64) false) gw G.wl.length (ua G.ct 64)) (by kernel_rfl) inz155 (by decide) (fun _ _ => rfl) (hF_putw (z : Int) G.ws gw G.wl.length (ua G.ct 64) (mixV G.ws (lf G.wl) G.wl.length (ua G.ct 64) false)) fun u3 M => nT <| rg_lit <| rV 4 <| ZE M 41 0 9 <| rV 3 <| pP M 0 rfl 9 (.slice (some ⟨gw, 0, none⟩) 0 64) (hF (z : Int) (mixV G.ws (lf G.wl) G.wl.length (ua G.ct 64) false) gw 0 (ua G.ct 64)) (by decide) (hF_puts (z : Int) (mixV G.ws (lf G.wl) G.wl.length (ua G.ct 64) false) gw G.wl.length (ua G.ct 64) 0) fun u4 M => ?_
  refine nT <| sR <| rV 5 <| ZE M 50 0 9 <| rV 1 <| ZI 52 (64 - ((0 : Nat) : Int)) ((64 - p : Nat) : Int) <| zJ 53 (.int .i64 (q : Int)) (.int .i64 (if ((64 - p : Nat) : Int) < (rem.size : Int) then ((64 - p : Nat) : Int) else (rem.size : Int))) (by rw [hmin]) <| rV 1 <| nT <| wp_seq <| rgh M [] 11 fun u5 M => ?_
  have qM := M.drop (.cons _ (.cons _ (.slnil)))
  refine qV qM 0 54 (pJ g) <| qV qM 1 55 (pJ g) <| qV qM 2 56 (pJ g) <| qV qM 3 57 (pJ g 9) <| qV qM 5 59 (.string rem) <| qV qM 6 60 (.int .i64 (q : Int)) <| qH qM 7 61 (.string (rem.extract 0 q)) (fun w _ => (run_strh 9 Tryz.underlying9 _ _ rfl rem (by kernel_rfl) .i64 q (by kernel_rfl) (by omega) _ rfl) w) <| qO 4 ?_
  refine ZE M 58 0 9 <| nT ?_
  refine ⟨(M.drop (.cons _ (.cons _ (.slnil)))), ?_⟩
  refine qO 8 ?_
  refine pl_appX M (want_no rfl) (some 62) rfl 61 9 61 5 _ Tryz.underlying61 info5_eq (by kernel_rfl) 1 gw 0 64 Y (vs8 []) rfl hY.take (vs8_length _) (.string (rem.extract 0 q)) q (byteCells (rem.extract 0 q)) (fun w _ => hsrc w) (by rw [byteCells_length]; exact hes) (by omega) (fun _ => by kernel_rfl) ?_
  intro Y2 u6 hY2 M
  rw [byte_vs8, vs8_append] at hY2
  refine nT ?_
  refine ⟨(M.drop (.cons _ (.cons _ (.slnil)))), ?_⟩
  have qM := M.drop (.cons _ (.cons _ (.slnil)))
  refine qV qM 9 63 (pJ g) <| qV qM 10 64 (pJ g 9) <| qZ ?_
  refine pP M 0 rfl 9 (.slice (some ⟨gw, 0, none⟩) (0 + q) 64) (hF (z : Int) (mixV G.ws (lf G.wl) G.wl.length (ua G.ct 64) false) gw (0 + q) (ua G.ct 64)) (by decide) (hF_puts (z : Int) (mixV G.ws (lf G.wl) G.wl.length (ua G.ct 64) false) gw 0 (ua G.ct 64) (0 + q)) fun u7 M => nT <| au_then <| rg_lit <| rV 2 ?_
  refine pH 67 (.string (s.extract (k + q) s.size)) (run_strl 9 Tryz.underlying9 _ _ rfl rem (by kernel_rfl) .i64 q (by kernel_rfl) (by omega) _ (by rw [hrem]; exact extract_extract s k q (by omega))) ?_
  refine rV 1 <| pl_nil <| au_block <| au_then ?_
  have E : (hF (z : Int) (mixV G.ws (lf G.wl) G.wl.length (ua G.ct 64) false) gw (0 + q) (ua G.ct 64)) = hF (z : Int) (tk H s (k + q)).ws gw (tk H s (k + q)).wl.length (tk H s (k + q)).ct := by rw [hrun]; simp
  have E2 : ([] ++ sb (rem.extract 0 q)) = (tk H s (k + q)).wl := by rw [hrun, hbs]
  rw [E] at M
  rw [E2] at hY2
  exact ⟨n - q, by omega, fun k_ => ([.int .i64 (q : Int), .string rem, .int .i64 (rem.size : Int), .bool true, pJ g, pJ g, pJ g 9, .slice (some ⟨gw, 0, none⟩) G.wl.length 64, .int .i64 ((G.wl.length : Nat) : Int), .bool true, pJ g, pJ g, pJ g 10, .int .u64 G.ct, .int .u64 (ua G.ct 64), pJ g, pJ g 10, pJ g, pJ g, pJ g, pJ g 1, .agg (av 8 (w32 G.ws)), pJ g, pJ g, pJ g 9, .slice (some ⟨gw, 0, none⟩) G.wl.length 64, pJ g, pJ g, pJ g 10, .int .u64 (ua G.ct 64), .agg (av 8 (w32 (mixV G.ws (lf G.wl) G.wl.length (ua G.ct 64) false))), pJ g, pJ g 1, pJ g, pJ g, pJ g, pJ g 9, .slice (some ⟨gw, 0, none⟩) G.wl.length 64, .slice (some ⟨gw, 0, none⟩) 0 64, pJ g, pJ g 9, .string rem, .int .i64 (rem.size : Int), pJ g, pJ g, pJ g 9, .slice (some ⟨gw, 0, none⟩) 0 64, .int .i64 (0 : Int), .int .i64 ((64 - p : Nat) : Int), .int .i64 (q : Int), pJ g, pJ g, pJ g, pJ g 9, .slice (some ⟨gw, 0, none⟩) 0 64, .string rem, .int .i64 (q : Int), .string (rem.extract 0 q), .slice (some ⟨gw, 0, none⟩) (0 + q) 64, pJ g, pJ g 9, .string rem, .int .i64 (q : Int), .string (s.extract (k + q) s.size)] : List Value).getD (k_ - 4) undef, k + q, s.extract (k + q) s.size, Y2, by omega, rfl, by kernel_rfl, hY2, M⟩
 ·have hfl : fl G = G := fl_id (by have := hok.le; omega)
  obtain ⟨p, hp⟩ : ∃ p, p = G.wl.length := ⟨_, rfl⟩
  have hlt := hok.le
  have hp1 : p < 64 := by omega
  obtain ⟨q, hq⟩ : ∃ q, q = Nat.min rem.size (64 - p) := ⟨_, rfl⟩
  have hq1 : q ≤ n := by rw [hq, hsz]; exact Nat.min_le_left _ _
  have hq2 : q ≤ 64 - p := by rw [hq]; exact Nat.min_le_right _ _
  have hq3 : 0 < q := by rw [hq, hsz]; exact Nat.lt_min.2 ⟨hn, by omega⟩
  have hmin : (if ((64 - p : Nat) : Int) < (rem.size : Int) then ((64 - p : Nat) : Int) else (rem.size : Int)) = (q : Int) := by
   have hq4 : q = if 64 - p < rem.size then 64 - p else rem.size := by rw [hq]; simp only [Nat.min_def]; split <;> split <;> omega
   rw [hq4]; split <;> split <;> omega
  have hes : (rem.extract 0 q).size = q := by rw [ByteArray.size_extract]; omega
  have hsrc : ∀ w, Src Tryz.prog 1 9 (.string (rem.extract 0 q)) q (byteCells (rem.extract 0 q)) w := fun w => by have h := Src.ofString (P := Tryz.prog) w (tx := 9) Tryz.underlying9 (rem.extract 0 q); rw [hes] at h; exact h
  have hrun := tk_run H s k q hq3 (by rw [← hG, hfl]; show G.wl.length + q ≤ 64; omega)
  rw [← hG, hfl] at hrun
  have hbs : sb (rem.extract 0 q) = (List.range q).map (fun i => bt s (k + i)) := by rw [sb_ext _ _ _ (by omega), Nat.sub_zero]; refine List.map_congr_left fun i _ => ?_; rw [Nat.zero_add, hrem, bt_extract]
  refine wp_seq <| sR <| rV 2 <| ZT 7 ((0 : Int) < (rem.size : Int)) <| nT <| cT <| wp_skip <| au_then <| wp_block <| wp_seq <| sR <| rV 3 <| ZE M 11 0 9 <| rV 1 <| ZF 13 ((G.wl.length : Int) = 64) <| nT ?_
  refine cF <| wp_skip <| au_then <| sR <| rV 5 <| ZE M 50 0 9 <| rV 1 <| ZI 52 (64 - (G.wl.length : Int)) ((64 - p : Nat) : Int) <| zJ 53 (.int .i64 (q : Int)) (.int .i64 (if ((64 - p : Nat) : Int) < (rem.size : Int) then ((64 - p : Nat) : Int) else (rem.size : Int))) (by rw [hmin]) <| rV 1 <| nT <| wp_seq <| rgh M [] 11 fun u8 M => ?_
  have qM := M.drop (.cons _ (.cons _ (.slnil)))
  refine qV qM 0 54 (pJ g) <| qV qM 1 55 (pJ g) <| qV qM 2 56 (pJ g) <| qV qM 3 57 (pJ g 9) <| qV qM 5 59 (.string rem) <| qV qM 6 60 (.int .i64 (q : Int)) <| qH qM 7 61 (.string (rem.extract 0 q)) (fun w _ => (run_strh 9 Tryz.underlying9 _ _ rfl rem (by kernel_rfl) .i64 q (by kernel_rfl) (by omega) _ rfl) w) <| qO 4 ?_
  refine ZE M 58 0 9 <| nT ?_
  refine ⟨(M.drop (.cons _ (.cons _ (.slnil)))), ?_⟩
  refine qO 8 ?_
  refine pl_appX M (want_no rfl) (some 62) rfl 61 9 61 5 _ Tryz.underlying61 info5_eq (by kernel_rfl) 1 gw G.wl.length 64 Y (vs8 G.wl) rfl hY (vs8_length _) (.string (rem.extract 0 q)) q (byteCells (rem.extract 0 q)) (fun w _ => hsrc w) (by rw [byteCells_length]; exact hes) (by omega) (fun _ => by kernel_rfl) ?_
  intro Y2 u9 hY2 M
  rw [byte_vs8, vs8_append] at hY2
  refine nT ?_
  refine ⟨(M.drop (.cons _ (.cons _ (.slnil)))), ?_⟩
  have qM := M.drop (.cons _ (.cons _ (.slnil)))
  refine qV qM 9 63 (pJ g) <| qV qM 10 64 (pJ g 9) <| qZ ?_
  refine pP M 0 rfl 9 (.slice (some ⟨gw, 0, none⟩) (G.wl.length + q) 64) (hF (z : Int) G.ws gw (G.wl.length + q) G.ct) (by decide) (hF_puts (z : Int) G.ws gw G.wl.length G.ct (G.wl.length + q)) fun u10 M => nT <| au_then <| rg_lit <| rV 2 ?_
  refine pH 67 (.string (s.extract (k + q) s.size)) (run_strl 9 Tryz.underlying9 _ _ rfl rem (by kernel_rfl) .i64 q (by kernel_rfl) (by omega) _ (by rw [hrem]; exact extract_extract s k q (by omega))) ?_
  refine rV 1 <| pl_nil <| au_block <| au_then ?_
  have E : (hF (z : Int) G.ws gw (G.wl.length + q) G.ct) = hF (z : Int) (tk H s (k + q)).ws gw (tk H s (k + q)).wl.length (tk H s (k + q)).ct := by rw [hrun]; simp
  have E2 : (G.wl ++ sb (rem.extract 0 q)) = (tk H s (k + q)).wl := by rw [hrun, hbs]
  rw [E] at M
  rw [E2] at hY2
  exact ⟨n - q, by omega, fun k_ => ([.int .i64 (q : Int), .string rem, .int .i64 (rem.size : Int), .bool true, pJ g, pJ g, pJ g 9, .slice (some ⟨gw, 0, none⟩) G.wl.length 64, .int .i64 ((G.wl.length : Nat) : Int), .bool false, v 14, v 15, v 16, v 17, v 18, v 19, v 20, v 21, v 22, v 23, v 24, v 25, v 26, v 27, v 28, v 29, v 30, v 31, v 32, v 33, v 34, v 35, v 36, v 37, v 38, v 39, v 40, v 41, v 42, v 43, v 44, .string rem, .int .i64 (rem.size : Int), pJ g, pJ g, pJ g 9, .slice (some ⟨gw, 0, none⟩) G.wl.length 64, .int .i64 ((G.wl.length : Nat) : Int), .int .i64 ((64 - p : Nat) : Int), .int .i64 (q : Int), pJ g, pJ g, pJ g, pJ g 9, .slice (some ⟨gw, 0, none⟩) G.wl.length 64, .string rem, .int .i64 (q : Int), .string (rem.extract 0 q), .slice (some ⟨gw, 0, none⟩) (G.wl.length + q) 64, pJ g, pJ g 9, .string rem, .int .i64 (q : Int), .string (s.extract (k + q) s.size)] : List Value).getD (k_ - 4) undef, k + q, s.extract (k + q) s.size, Y2, by omega, rfl, by kernel_rfl, hY2, M⟩
open Go.Shelf Go.RowKit
def repRen : Go.Shelf.Ren := ⟨fun | 105 => 115 | 212 => 152 | 99 => 153 | 165 => 128 | 166 => 142 | 170 => 143 | 169 => 131 | 263 => 170 | 264 => 158 | 206 => 171 | 240 => 160 | 241 => 161 | 276 => 173 | 277 => 174 | n => n, fun | 9 => 9 | 3 => 3 | 4 => 4 | 20 => 20 | 0 => 0 | 46 => 92 | 109 => 207 | 5 => 5 | 72 => 177 | 76 => 195 | 51 => 91 | 146 => 234 | 53 => 86 | 148 => 216 | 70 => 175 | 37 => 61 | 75 => 183 | 127 => 220 | 164 => 237 | 80 => 95 | n => n, fun | n => n⟩
theorem repLays : Go.Proofs.Lays.n105 Tryz.prog repRen := {
 mixed := by kernel_rfl
 f99 := Tryz.func153.trans (congrArg some (by kernel_rfl))
 f105 := Tryz.func115.trans (congrArg some (by kernel_rfl))
 f165 := Tryz.func128.trans (congrArg some (by kernel_rfl))
 f166 := Tryz.func142.trans (congrArg some (by kernel_rfl))
 f169 := Tryz.func131.trans (congrArg some (by kernel_rfl))
 f170 := Tryz.func143.trans (congrArg some (by kernel_rfl))
 f206 := Tryz.func171.trans (congrArg some (by kernel_rfl))
 f212 := Tryz.func152.trans (congrArg some (by kernel_rfl))
 f240 := Tryz.func160.trans (congrArg some (by kernel_rfl))
 f241 := Tryz.func161.trans (congrArg some (by kernel_rfl))
 f263 := Tryz.func170.trans (congrArg some (by kernel_rfl))
 f264 := Tryz.func158.trans (congrArg some (by kernel_rfl))
 f276 := Tryz.func173.trans (congrArg some (by kernel_rfl))
 f277 := Tryz.func174.trans (congrArg some (by kernel_rfl))
 t0 := Tryz.underlying0
 a0 := Tryz.isAgg0
 z0 := Tryz.sizeOf0
 v0 := Tryz.zeroValue0
 t3 := Tryz.underlying3
 a3 := Tryz.isAgg3
 z3 := Tryz.sizeOf3
 v3 := Tryz.zeroValue3
 t4 := Tryz.underlying4
 a4 := Tryz.isAgg4
 z4 := Tryz.sizeOf4
 v4 := Tryz.zeroValue4
 t5 := Tryz.underlying5
 a5 := Tryz.isAgg5
 z5 := Tryz.sizeOf5
 v5 := Tryz.zeroValue5
 t9 := Tryz.underlying9
 a9 := Tryz.isAgg9
 z9 := Tryz.sizeOf9
 v9 := Tryz.zeroValue9
 t20 := Tryz.underlying20
 a20 := Tryz.isAgg20
 z20 := Tryz.sizeOf20
 v20 := Tryz.zeroValue20
 t37 := Tryz.underlying61
 a37 := Tryz.isAgg61
 z37 := Tryz.sizeOf61
 v37 := Tryz.zeroValue61
 t46 := Tryz.underlying92
 a46 := Tryz.isAgg92
 z46 := Tryz.sizeOf92
 v46 := Tryz.zeroValue92
 t51 := Tryz.underlying91
 a51 := Tryz.isAgg91
 z51 := Tryz.sizeOf91
 v51 := Tryz.zeroValue91
 t53 := Tryz.underlying86
 a53 := Tryz.isAgg86
 z53 := Tryz.sizeOf86
 v53 := Tryz.zeroValue86
 t70 := Tryz.underlying175
 a70 := Tryz.isAgg175
 z70 := Tryz.sizeOf175
 v70 := Tryz.zeroValue175
 t72 := Tryz.underlying177
 a72 := Tryz.isAgg177
 z72 := Tryz.sizeOf177
 v72 := Tryz.zeroValue177
 t75 := Tryz.underlying183
 a75 := Tryz.isAgg183
 z75 := Tryz.sizeOf183
 v75 := Tryz.zeroValue183
 t76 := Tryz.underlying195
 a76 := Tryz.isAgg195
 z76 := Tryz.sizeOf195
 v76 := Tryz.zeroValue195
 t109 := Tryz.underlying207
 a109 := Tryz.isAgg207
 z109 := Tryz.sizeOf207
 v109 := Tryz.zeroValue207
 t127 := Tryz.underlying220
 a127 := Tryz.isAgg220
 z127 := Tryz.sizeOf220
 v127 := Tryz.zeroValue220
 t146 := Tryz.underlying234
 a146 := Tryz.isAgg234
 z146 := Tryz.sizeOf234
 v146 := Tryz.zeroValue234
 t148 := Tryz.underlying216
 a148 := Tryz.isAgg216
 z148 := Tryz.sizeOf216
 v148 := Tryz.zeroValue216
 t164 := Tryz.underlying237
 a164 := Tryz.isAgg237
 z164 := Tryz.sizeOf237
 v164 := Tryz.zeroValue237 }
theorem repExtra : Builder.Extra Tryz.prog repRen := {
 sizeBuilder := by kernel_rfl
 liesBuilder := by kernel_rfl
 t5 := Tryz.underlying5
 a5 := Tryz.isAgg5
 z5 := Tryz.sizeOf5
 v5 := Tryz.zeroValue5
 infoByte := by kernel_rfl
 cellsByte := by kernel_rfl
 sizeByte := by kernel_rfl
 neB5 := by decide }
def zs (c : Nat) : ByteArray := ⟨(List.replicate c (0 : UInt8)).toArray⟩
theorem repeatL_one (c : Nat) : Lib.repeatL [0] c = List.replicate c 0 := by
 induction c with
 | zero => rfl
 | succ c ih => rw [Lib.repeatL, ih]; rfl
theorem c_rep (c : Nat) (w : World) (hc : c < 1000) : Cs 115 #[.string ⟨#[0]⟩, .int .i64 (c : Int)] w (.string (zs c)) := by
 have h := Any.strings_Repeat repLays repExtra ⟨#[0]⟩ c w (by omega) (by show 1 * c ≤ _; omega)
 have e : (⟨(Lib.repeatL (⟨#[0]⟩ : Yb).data.toList c).toArray⟩ : Yb) = zs c := by
  unfold zs
  rw [show (⟨#[0]⟩ : Yb).data.toList = [0] from rfl, repeatL_one]
 rw [e] at h
 exact h
open Go.RowKit
theorem pl_calln2 {P : Program} {ops : Array Oper} {rest : List Oper} {o : Oper} {a : Act} {w : World} {c : Ctx} {L : List Blk} {Q : Exit → Act → World → Prop} (M : Mem c L w) (hw : Region.wanted o (yielded ops a.tmps) = true) (d : Option Tmp) (hd : o.dst = d) (f : FuncId) (args : Array Value) (v : NV) (Zf : Nat → Obj) (R : Obj → Prop) (hrun : ∀ w, (execOp a.eval o).run P w = .ok (.enter f args) w)
  (hc : ∀ w, Mem c L w → Calls P f args w fun e w' => ∃ g k Y, e = .returned (v g) ∧ w.heap.size ≤ g ∧ w.heap.size ≤ k ∧ g ≠ k ∧ w'.heap[g]? = some (Zf k) ∧ w'.heap[k]? = some Y ∧ R Y ∧ Below w.heap.size w w') (h : ∀ g k Y w', R Y → Mem c (L ++ [⟨g, Zf k⟩, ⟨k, Y⟩]) w' → PL P ops Q rest (a.put d (v g)) w') : PL P ops Q (o :: rest) a w :=
 pl_callq hw d hd f args hrun ((hc w M).mono fun _ w' ⟨g, k, Y, he, h1, h2, h3, h4, h5, h6, hb⟩ => ⟨v g, he, h g k Y w' h6 (M.news hb (by simpa using ⟨h4, h5⟩) (by simpa using ⟨h1, h2⟩) (by simpa using h3))⟩)
theorem zs_size (c : Nat) : (zs c).size = c := by simp [zs, ByteArray.size]
theorem sb_new : SB (.cells (av 64 (w8 fun _ => 0)) 5) 64 (vs8 []) := ⟨_, 5, (0, 0), rfl, by simp [vs8], by rw [av_size]; exact Nat.le_refl _, fun i hi => by simp [vs8] at hi, fun i _ => by simp⟩
theorem key_ne (k : Yb) (h : k.size ≠ 0) : (k.toList == (⟨#[]⟩ : Yb).toList) = false := by
 have hs : k.size = k.data.size := rfl
 rw [ByteArray.toList_eq, ByteArray.toList_eq, beq_eq_false_iff_ne]
 intro e
 have := congrArg List.length e
 simp at this
 exact h (by rw [hs, this]; rfl)
theorem key_e (k : Yb) (h : k.size = 0) : k = ⟨#[]⟩ := by
 have hs : k.size = k.data.size := rfl
 apply ByteArray.ext
 exact Array.eq_empty_of_size_eq_zero (by omega)
theorem below_same {w w' : World} {g k : Nat} {Z Y : Obj} (h : Grw w w' [g, k]) (h1 : w.heap[g]? = some Z) (h2 : w'.heap[g]? = some Z) (h3 : w.heap[k]? = some Y) (h4 : w'.heap[k]? = some Y) : Below w.heap.size w w' := ⟨h.os, h.tape, h.output, h.size, fun j hj => by
 by_cases e : j = g
 ·subst e
  rw [h1, h2]
 ·by_cases e2 : j = k
  ·subst e2
   rw [h3, h4]
  ·exact h.block j hj (by simp [e, e2])⟩
def hs0 (z kl : Nat) : HS := ⟨upd HB 0 (vx (HB 0) (vx (vx 16842752 (vl (cv .u32 (kl : Int)) 8)) (cv .u32 (z : Int)))), [], 0⟩
def nw (z : Nat) (key : Yb) : HS := if key.size = 0 then hs0 z key.size else tk (hs0 z key.size) (key ++ zs (64 - key.size)) (key ++ zs (64 - key.size)).size
theorem hs0_ok (z kl : Nat) : (hs0 z kl).ok := ⟨by simp [hs0], by simp [hs0]⟩
theorem nw_ok (z : Nat) (key : Yb) : (nw z key).ok := by
 unfold nw
 split
 ·exact hs0_ok _ _
 ·exact tk_ok (hs0_ok _ _) _ _
def sumW (H : HS) : Nat → Int := mixV H.ws (lf H.wl) H.wl.length (ua H.ct (cv .u64 (H.wl.length : Int))) true
def sumV (z : Nat) (H : HS) : ByteArray := (bs (loI (sumW H) 8)).extract 0 z
def blV (z : Nat) (key s : Yb) : ByteArray := sumV z (tk (nw z key) s s.size)
theorem c_new0 (z : Nat) (key : Yb) (h1 : 1 ≤ z) (h2 : z ≤ 32) (_h3 : key.size ≤ 32) (hz : key.size = 0) (w : World) (hL : Laid w) : Calls Tryz.prog 87 #[.int .i64 (z : Int), .string key] w fun r w' => ∃ g gw Y, r = .returned (.tuple #[pJ g, .int .i64 0]) ∧ w.heap.size ≤ g ∧ w.heap.size ≤ gw ∧ g ≠ gw ∧ w'.heap[g]? = some (.cells (av 11 (hF (z : Int) (nw z key).ws gw (nw z key).wl.length (nw z key).ct)) 164) ∧ w'.heap[gw]? = some Y ∧ SB Y 64 (vs8 (nw z key).wl) ∧ Below w.heap.size w w' := by
 go_enter Tryz.func87, Tryz.ntmps87
 have M := Mem.start hL
 refine sq <| wp_seq <| sR <| rV 1 <| ZF 8 ((z : Int) < 1) <| rV 2 <| ZF 11 ((32 : Int) < (z : Int)) <| rV 4 <| ZF 16 ((32 : Int) < (key.size : Int)) <| rV 1 <| nT <| cF <| wp_skip <| au_then <| wp_seq <| rg_allocs M 2 [(20, fun g => .slice (some ⟨g, 0, none⟩) 0 64, .cells (av 64 (w8 fun _ => 0)) 5)] (by kernel_rfl) (by kernel_rfl) (⟨rfl, rfl, fun _ _ => by kernel_rfl, trivial⟩) (by decide) ?_
 simp only [List.take_succ_cons, List.take_zero]
 refine kR 1 <| eC M 19 (fun w M => c_first w M.laid) <| kl_nil fun u1 g1 M => rV 1 <| pN M 22 (.cells (av 11 (hF (z : Int) HB g1 0 0)) 164) fun g2 u2 M => rV 1 <| nT <| wp_seq <| rg_tail M 17 (by kernel_rfl) (by kernel_rfl) ?_
 simp only [List.take_succ_cons, List.take_zero]
 refine kR 4 <| eE M 27 1 1 <| kR 12 <| kl_nil fun u3 M => pP M 1 rfl 1 (.int .u32 (vx (HB 0) (vx (vx 16842752 (vl (cv .u32 (key.size : Int)) 8)) (cv .u32 (z : Int))))) (hF (z : Int) (upd HB 0 (vx (HB 0) (vx (vx 16842752 (vl (cv .u32 (key.size : Int)) 8)) (cv .u32 (z : Int))))) g1 0 0) (by decide) (hF_put1 (z : Int) HB g1 0 0 (vx (HB 0) (vx (vx 16842752 (vl (cv .u32 (key.size : Int)) 8)) (cv .u32 (z : Int))))) fun u4 M => nT <| wp_seq <| sR <| rV 1 <| zJ 41 (.bool false) (.bool (!(key.toList == (⟨#[]⟩ : Yb).toList))) (by rw [key_e key hz, beq_self_eq_true]; rfl) <| nT <| cF <| wp_skip <| au_then <| sq <| wp_ret ?_
 have e : nw z key = hs0 z key.size := by unfold nw; rw [if_pos hz]
 rw [e]
 exact bX (.tuple #[pJ g2, .int .i64 0]) ⟨g2, g1, (.cells (av 64 (w8 fun _ => 0)) 5), rfl, (M.ge _ (List.mem_of_getElem? (i := 1) rfl)).elim id (fun h => by cases h), (M.ge _ (List.mem_of_getElem? (i := 0) rfl)).elim id (fun h => by cases h), nodup_at M.nodup (i := 1) (j := 0) rfl rfl (by decide), M.get 1 rfl, M.get 0 rfl, sb_new, below_grown M.old⟩
theorem c_new1 (z : Nat) (key : Yb) (h1 : 1 ≤ z) (h2 : z ≤ 32) (h3 : key.size ≤ 32) (hz : ¬ key.size = 0) (w : World) (hL : Laid w) : Calls Tryz.prog 87 #[.int .i64 (z : Int), .string key] w fun r w' => ∃ g gw Y, r = .returned (.tuple #[pJ g, .int .i64 0]) ∧ w.heap.size ≤ g ∧ w.heap.size ≤ gw ∧ g ≠ gw ∧ w'.heap[g]? = some (.cells (av 11 (hF (z : Int) (nw z key).ws gw (nw z key).wl.length (nw z key).ct)) 164) ∧ w'.heap[gw]? = some Y ∧ SB Y 64 (vs8 (nw z key).wl) ∧ Below w.heap.size w w' := by
 go_enter Tryz.func87, Tryz.ntmps87
 have M := Mem.start hL
 refine sq <| wp_seq <| sR <| rV 1 <| ZF 8 ((z : Int) < 1) <| rV 2 <| ZF 11 ((32 : Int) < (z : Int)) <| rV 4 <| ZF 16 ((32 : Int) < (key.size : Int)) <| rV 1 <| nT <| cF <| wp_skip <| au_then <| wp_seq <| rg_allocs M 2 [(20, fun g => .slice (some ⟨g, 0, none⟩) 0 64, .cells (av 64 (w8 fun _ => 0)) 5)] (by kernel_rfl) (by kernel_rfl) (⟨rfl, rfl, fun _ _ => by kernel_rfl, trivial⟩) (by decide) ?_
 simp only [List.take_succ_cons, List.take_zero]
 refine kR 1 <| eC M 19 (fun w M => c_first w M.laid) <| kl_nil fun u1 g1 M => rV 1 <| pN M 22 (.cells (av 11 (hF (z : Int) HB g1 0 0)) 164) fun g2 u2 M => rV 1 <| nT <| wp_seq <| rg_tail M 17 (by kernel_rfl) (by kernel_rfl) ?_
 simp only [List.take_succ_cons, List.take_zero]
 refine kR 4 <| eE M 27 1 1 <| kR 12 <| kl_nil fun u3 M => pP M 1 rfl 1 (.int .u32 (vx (HB 0) (vx (vx 16842752 (vl (cv .u32 (key.size : Int)) 8)) (cv .u32 (z : Int))))) (hF (z : Int) (upd HB 0 (vx (HB 0) (vx (vx 16842752 (vl (cv .u32 (key.size : Int)) 8)) (cv .u32 (z : Int))))) g1 0 0) (by decide) (hF_put1 (z : Int) HB g1 0 0 (vx (HB 0) (vx (vx 16842752 (vl (cv .u32 (key.size : Int)) 8)) (cv .u32 (z : Int))))) fun u4 M => nT <| wp_seq <| sR <| rV 1 <| zJ 41 (.bool true) (.bool (!(key.toList == (⟨#[]⟩ : Yb).toList))) (by rw [key_ne key hz]; rfl) <| nT <| cT <| rg_lit <| rV 4 <| ZI 46 (64 - (key.size : Int)) ((64 - key.size : Nat) : Int) <| ZC M 47 (fun w M => c_rep (64 - key.size) w (by omega)) fun u5 M => ?_
 refine pH 48 (.string (key ++ zs (64 - key.size))) (run_cat 9 9 _ _ rfl key (zs (64 - key.size)) (by kernel_rfl) (by kernel_rfl) (by rw [zs_size]; omega)) <| pl_callp2 M (want_no rfl) (some 49) rfl 88 #[pJ g2, .string (key ++ zs (64 - key.size))] (.tuple #[]) 1 0 g2 g1 (.cells (av 11 (hF (z : Int) (upd HB 0 (vx (HB 0) (vx (vx 16842752 (vl (cv .u32 (key.size : Int)) 8)) (cv .u32 (z : Int))))) g1 0 0)) 164) (.cells (av 64 (w8 fun _ => 0)) 5) (.cells (av 11 (hF (z : Int) (tk (hs0 z key.size) (key ++ zs (64 - key.size)) (key ++ zs (64 - key.size)).size).ws g1 (tk (hs0 z key.size) (key ++ zs (64 - key.size)) (key ++ zs (64 - key.size)).size).wl.length (tk (hs0 z key.size) (key ++ zs (64 - key.size)) (key ++ zs (64 - key.size)).size).ct)) 164) (fun Y => SB Y 64 (vs8 (tk (hs0 z key.size) (key ++ zs (64 - key.size)) (key ++ zs (64 - key.size)).size).wl)) rfl rfl (fun _ => by kernel_rfl) (fun w M => c_take (hs0 z key.size) (hs0_ok _ _) z g2 g1 (.cells (av 64 (w8 fun _ => 0)) 5) (key ++ zs (64 - key.size)) w M.laid (M.get 1 rfl) (M.ne0 1 rfl) (M.get 0 rfl) (M.ne0 0 rfl) (nodup_at M.nodup (i := 1) (j := 0) rfl rfl (by decide)) sb_new) ?_
 intro Y1 u6 hY1 M
 refine nT <| sq <| wp_ret ?_
 have e : nw z key = tk (hs0 z key.size) (key ++ zs (64 - key.size)) (key ++ zs (64 - key.size)).size := by unfold nw; rw [if_neg hz]
 rw [e]
 exact bX (.tuple #[pJ g2, .int .i64 0]) ⟨g2, g1, Y1, rfl, (M.ge _ (List.mem_of_getElem? (i := 1) rfl)).elim id (fun h => by cases h), (M.ge _ (List.mem_of_getElem? (i := 0) rfl)).elim id (fun h => by cases h), nodup_at M.nodup (i := 1) (j := 0) rfl rfl (by decide), M.get 1 rfl, M.get 0 rfl, hY1, below_grown M.old⟩
theorem c_new (z : Nat) (key : Yb) (h1 : 1 ≤ z) (h2 : z ≤ 32) (h3 : key.size ≤ 32) (w : World) (hL : Laid w) : Calls Tryz.prog 87 #[.int .i64 (z : Int), .string key] w fun r w' => ∃ g gw Y, r = .returned (.tuple #[pJ g, .int .i64 0]) ∧ w.heap.size ≤ g ∧ w.heap.size ≤ gw ∧ g ≠ gw ∧ w'.heap[g]? = some (.cells (av 11 (hF (z : Int) (nw z key).ws gw (nw z key).wl.length (nw z key).ct)) 164) ∧ w'.heap[gw]? = some Y ∧ SB Y 64 (vs8 (nw z key).wl) ∧ Below w.heap.size w w' := by
 by_cases hz : key.size = 0
 ·exact c_new0 z key h1 h2 h3 hz w hL
 ·exact c_new1 z key h1 h2 h3 hz w hL
theorem c_sum (H : HS) (hH : H.ok) (z : Nat) (h1 : 1 ≤ z) (h2 : z ≤ 32) (g gw : Nat) (Z : Obj) (w : World) (hL : Laid w) (hg : w.heap[g]? = some (.cells (av 11 (hF (z : Int) H.ws gw H.wl.length H.ct)) 164)) (h0 : 2 < g) (hk : w.heap[gw]? = some Z) (k0 : 2 < gw) (hne : g ≠ gw) (hZ : SB Z 64 (vs8 H.wl)) : Cs 89 #[pJ g] w (.string (sumV z H)) := by
 go_enter Tryz.func89, Tryz.ntmps89
 have M := Mem.startp2 hL hg h0 hk k0 hne
 refine sq <| wp_seq <| sR <| rV 6 <| ZE M 10 0 0 <| ZF 11 ((z : Int) = 0) <| rV 1 <| nT <| cF <| wp_skip <| au_then <| wp_seq <| rg_allocs M 20 [(3, fun g => pJ g, .cells (av 8 (w32 (fun _ => 0))) 155)] (by kernel_rfl) (by kernel_rfl) (⟨rfl, rfl, fun _ _ => by kernel_rfl, trivial⟩) (by decide) ?_
 simp only [List.take_succ_cons, List.take_zero]
 refine kR 3 <| kL M 16 0 rfl 1 8 (w32 H.ws) (hF_words (z : Int) H.ws gw H.wl.length H.ct) <| kR 3 <| eE M 20 0 9 <| kR 3 <| eE M 24 0 10 <| kR 3 <| eE M 28 0 9 <| kR 3 <| eC M 32 (fun w M => c_mixed H.ws (lf H.wl) gw H.wl.length 64 hH.le (ua H.ct (cv .u64 (H.wl.length : Int))) true w M.laid (fun i hi => hZ.cell (M.get 1 rfl) (vs8_cell H.wl i hi))) <| kl_nil fun u1 g1 M => ZG M 2 8 (w32 (sumW H)) fun u2 M => nT <| wp_seq <| rg_tail M 7 (by kernel_rfl) (by kernel_rfl) ?_
 simp only [List.take_succ_cons, List.take_zero]
 refine kA M 33 2 8 (w32 (sumW H)) <| eC M 34 (fun w M => c_low (sumW H) w M.laid) <| kR 3 <| eE M 38 0 0 <| kH 39 (.string (sumV z H)) (run_strh 9 Tryz.underlying9 _ _ rfl (bs (loI (sumW H) 8)) (by kernel_rfl) .i64 z (by kernel_rfl) (by rw [bs_size, loI_length]; omega) _ rfl) <| kl_nil fun u3 M => rV 1 <| nT <| wp_ret ?_
 exact bX (.string (sumV z H)) ⟨rfl, below_same M.old hg (M.get 0 rfl) hk (M.get 1 rfl)⟩
theorem c_blsum (z : Nat) (key s : Yb) (h1 : 1 ≤ z) (h2 : z ≤ 32) (h3 : key.size ≤ 32) (w : World) (hL : Laid w)  : Cs 65 #[.int .i64 (z : Int), .string key, .string s] w (.tuple #[.string (blV z key s), .int .i64 0]) := by
 go_enter Tryz.func65, Tryz.ntmps65
 have M := Mem.start hL
 refine sq <| sR <| rV 2 <| pl_calln2 M (want_no rfl) (some 13) rfl 87 #[.int .i64 (z : Int), .string key] (fun g1 => .tuple #[pJ g1, .int .i64 0]) (fun g2 => .cells (av 11 (hF (z : Int) (nw z key).ws g2 (nw z key).wl.length (nw z key).ct)) 164) (fun Y => SB Y 64 (vs8 (nw z key).wl)) (fun _ => by kernel_rfl) (fun w M => c_new z key h1 h2 h3 w M.laid) ?_
 intro g1 g2 Y1 u1 hY1 M
 refine rV 5 <| nT <| wp_seq <| sq <| cF <| wp_skip <| au_then <| sR <| rV 2 <| pl_callp2 M (want_no rfl) (some 21) rfl 88 #[pJ g1, .string s] (.tuple #[]) 0 1 g1 g2 (.cells (av 11 (hF (z : Int) (nw z key).ws g2 (nw z key).wl.length (nw z key).ct)) 164) Y1 (.cells (av 11 (hF (z : Int) (tk (nw z key) s s.size).ws g2 (tk (nw z key) s s.size).wl.length (tk (nw z key) s s.size).ct)) 164) (fun Y => SB Y 64 (vs8 (tk (nw z key) s s.size).wl)) rfl rfl (fun _ => by kernel_rfl) (fun w M => c_take (nw z key) (nw_ok _ _) z g1 g2 Y1 s w M.laid (M.get 0 rfl) (M.ne0 0 rfl) (M.get 1 rfl) (M.ne0 1 rfl) (nodup_at M.nodup (i := 0) (j := 1) rfl rfl (by decide)) hY1) ?_
 intro Y2 u2 hY2 M
 refine nT <| sR <| rV 1 <| pC M 23 89 #[pJ g1] (.string (blV z key s)) (fun w M => c_sum (tk (nw z key) s s.size) (tk_ok (nw_ok _ _) _ _) z h1 h2 g1 g2 Y2 w M.laid (M.get 0 rfl) (M.ne0 0 rfl) (M.get 1 rfl) (M.ne0 1 rfl) (nodup_at M.nodup (i := 0) (j := 1) rfl rfl (by decide)) hY2) fun u3 M => rV 2 <| nT <| wp_ret ?_
 exact b1 M
theorem c_of (s : Yb) (w : World) (hL : Laid w)  : Cs 45 #[.string s] w (.string (blV 32 strE s)) := by
 go_enter Tryz.func45, Tryz.ntmps45
 have M := Mem.start hL
 refine sq <| sR <| rV 1 <| ZC M 7 (fun w M => c_blsum 32 strE s (by decide) (by decide) (by decide) w M.laid) fun u1 M => rV 5 <| nT <| sq <| wp_ret ?_
 exact b1 M
open Go.RowKit
theorem va_assoc (x y z : Int) : va (va x y) z = va x (va y z) := by
 rw [va_eq, va_eq, va_eq, va_eq]
 omega
def OS : Nat → ByteArray := fun j => ([⟨#[48, 49, 50, 51, 52, 53, 54, 55, 56, 57, 97, 98, 99, 100, 101, 102]⟩, ⟨#[101, 97, 52, 56, 57, 102, 100, 54, 49, 99, 48, 50, 98, 55, 53, 51]⟩, ⟨#[98, 56, 99, 48, 53, 50, 102, 100, 97, 101, 51, 54, 55, 49, 57, 52]⟩, ⟨#[55, 57, 51, 49, 100, 99, 98, 101, 50, 54, 53, 97, 52, 48, 102, 56]⟩, ⟨#[57, 48, 53, 55, 50, 52, 97, 102, 101, 49, 98, 99, 54, 56, 51, 100]⟩, ⟨#[50, 99, 54, 97, 48, 98, 56, 51, 52, 100, 55, 53, 102, 101, 49, 57]⟩, ⟨#[99, 53, 49, 102, 101, 100, 52, 97, 48, 55, 54, 51, 57, 50, 56, 98]⟩, ⟨#[100, 98, 55, 101, 99, 49, 51, 57, 53, 48, 102, 52, 56, 54, 50, 97]⟩, ⟨#[54, 102, 101, 57, 98, 51, 48, 56, 99, 50, 100, 55, 49, 52, 97, 53]⟩, ⟨#[97, 50, 56, 52, 55, 54, 49, 53, 102, 98, 57, 101, 51, 99, 100, 48]⟩] : List ByteArray).getD j ⟨#[]⟩
def zF : Nat → Value := fun j => .string (OS j)
theorem OS_size (j : Nat) (hj : j < 10) : (OS j).size = 16 := by
 have h : ((List.range 10).all fun j => (OS j).size == 16) = true := by decide +kernel
 exact eq_of_beq (List.all_eq_true.1 h j (List.mem_range.2 hj))
theorem ordA (j i : Nat) (hj : j < 10) (hi : i < 16) (h : 97 ≤ bt (OS j) i) : IntKind.wrap .i64 (cv .i64 (cv .u8 (bt (OS j) i - 97)) + 10) = (OF (j * 16 + i) : Int) := by
 have h0 : ((List.range 10).all fun j => (List.range 16).all fun i => !(decide (97 ≤ bt (OS j) i)) || IntKind.wrap .i64 (cv .i64 (cv .u8 (bt (OS j) i - 97)) + 10) == (OF (j * 16 + i) : Int)) = true := by decide +kernel
 have h1 := List.all_eq_true.1 (List.all_eq_true.1 h0 j (List.mem_range.2 hj)) i (List.mem_range.2 hi)
 simpa [h] using h1
theorem ordB (j i : Nat) (hj : j < 10) (hi : i < 16) (h : ¬ 97 ≤ bt (OS j) i) : cv .i64 (cv .u8 (bt (OS j) i - 48)) = (OF (j * 16 + i) : Int) := by
 have h0 : ((List.range 10).all fun j => (List.range 16).all fun i => decide (97 ≤ bt (OS j) i) || cv .i64 (cv .u8 (bt (OS j) i - 48)) == (OF (j * 16 + i) : Int)) = true := by decide +kernel
 have h1 := List.all_eq_true.1 (List.all_eq_true.1 h0 j (List.mem_range.2 hj)) i (List.mem_range.2 hi)
 simpa [h] using h1
def od (j : Nat) : Nat → (Nat → Int)
 | 0 => fun _ => 0
 | i + 1 => upd (od j i) i (OF (j * 16 + i) : Int)
theorem od_at (j : Nat) : ∀ n, ∀ i, i < n → od j n i = (OF (j * 16 + i) : Int)
 | 0, i, h => absurd h (by omega)
 | n + 1, i, h => by
  unfold od upd
  by_cases e : i = n
  ·rw [if_pos e, e]
  ·rw [if_neg e, od_at j n i (by omega)]
def oi (j : Nat) : Nat → Value := wi fun i => (OF (j * 16 + i) : Int)
theorem od_av (j : Nat) : av 16 (wi (od j 16)) = av 16 (oi j) := av_congr fun i hi => by
 unfold oi wi
 rw [od_at j 16 i hi]
theorem run_ixS {P : Program} {a : Act} {o : Oper} (t : TypeId) (hu : P.underlying t = some .string) (x ix : Operand) (ho : o.op = .index t x ix) (s : Yb) (hx : a.eval x = .string s) (k : IntKind) (i : Nat) (hi : a.eval ix = .int k (i : Int)) (hlt : i < s.size) (w : World) :
  (execOp a.eval o).run P w = .ok (.value (.int .u8 (bt s i))) w := by
 have e : s[i]? = some s[i] := ByteArray.getElem?_lt' s i hlt
 have e2 : bt s i = (s[i].toNat : Int) := by
  unfold bt
  rw [Array.getElem?_eq_getElem hlt]
  rfl
 unfold execOp
 simp [ho, hx, hi, Instr.index, asIntOf, run_underlying hu, e, e2]
theorem d_turn16 (x : Int) (w : World) (hL : Laid w)  : Cs 168 #[.int .u32 x, .int .u64 16] w (.int .u32 (rot x 16)) := by
 go_enter Tryz.func168, Tryz.ntmps168
 have M := Mem.start hL
 refine sq <| sq <| wp_ret ?_
 refine bodyPost_ret (v := .int .u32 (rot x 16)) (Eq.trans (b := .ok (.int .u32 (vo (sr x 16) (vl x 16))) _) (results_tmp1 Tryz.results168 _ _ _ (by kernel_rfl)) (by unfold rot; rw [vo_comm])) (by kernel_rfl) ⟨rfl, below_grown M.old⟩
theorem d_turn12 (x : Int) (w : World) (hL : Laid w)  : Cs 168 #[.int .u32 x, .int .u64 12] w (.int .u32 (rot x 12)) := by
 go_enter Tryz.func168, Tryz.ntmps168
 have M := Mem.start hL
 refine sq <| sq <| wp_ret ?_
 refine bodyPost_ret (v := .int .u32 (rot x 12)) (Eq.trans (b := .ok (.int .u32 (vo (sr x 12) (vl x 20))) _) (results_tmp1 Tryz.results168 _ _ _ (by kernel_rfl)) (by unfold rot; rw [vo_comm])) (by kernel_rfl) ⟨rfl, below_grown M.old⟩
theorem d_turn8 (x : Int) (w : World) (hL : Laid w)  : Cs 168 #[.int .u32 x, .int .u64 8] w (.int .u32 (rot x 8)) := by
 go_enter Tryz.func168, Tryz.ntmps168
 have M := Mem.start hL
 refine sq <| sq <| wp_ret ?_
 refine bodyPost_ret (v := .int .u32 (rot x 8)) (Eq.trans (b := .ok (.int .u32 (vo (sr x 8) (vl x 24))) _) (results_tmp1 Tryz.results168 _ _ _ (by kernel_rfl)) (by unfold rot; rw [vo_comm])) (by kernel_rfl) ⟨rfl, below_grown M.old⟩
theorem d_turn7 (x : Int) (w : World) (hL : Laid w)  : Cs 168 #[.int .u32 x, .int .u64 7] w (.int .u32 (rot x 7)) := by
 go_enter Tryz.func168, Tryz.ntmps168
 have M := Mem.start hL
 refine sq <| sq <| wp_ret ?_
 refine bodyPost_ret (v := .int .u32 (rot x 7)) (Eq.trans (b := .ok (.int .u32 (vo (sr x 7) (vl x 25))) _) (results_tmp1 Tryz.results168 _ _ _ (by kernel_rfl)) (by unfold rot; rw [vo_comm])) (by kernel_rfl) ⟨rfl, below_grown M.old⟩
theorem d_begin  (w : World) (hL : Laid w)  : Cs 106 #[] w (.agg (av 8 (w32 HB))) := by
 go_enter Tryz.func106, Tryz.ntmps106
 have M := Mem.start hL
 refine sR <| pN M 0 (.cells (av 8 (w32 (fun _ => 0))) 155) fun g1 u1 M => nT <| sR <| rV 1 <| ZG M 0 8 (w32 HB) fun u2 M => nT <| wp_ret ?_
 exact bc Tryz.results106 M 0 8 (w32 HB) ⟨rfl, below_grown M.old⟩
theorem d_order (j : Nat) (hj : j < 10) (w : World) (hL : Laid w)  : Cs 144 #[.int .i64 (j : Int)] w (.agg (av 16 (oi j))) := by
 go_enter Tryz.func144, Tryz.ntmps144
 have M := Mem.start hL
 refine sR <| pN M 2 (.cells (av 16 (wi (fun _ => 0))) 198) fun g1 u1 M => nT <| sR <| rV 1 <| pN M 3 (.cells (av 10 (fun _ => .string ⟨#[]⟩)) 231) fun g2 u2 M => ZG M 1 10 zF fun u3 M => nT <| sR <| pN M 4 (.cells (av 16 (wi (fun _ => 0))) 198) fun g3 u4 M => nT <| wp_seq <| sq <| wp_block ?_
 refine au_loop (fun i a w' => ∃ v : NV, a = (fm ([.int .i64 (j : Int), v 1, pJ g1, pJ g2, pJ g3, .int .i64 (i : Int)] ++ vr v 6 25)) ∧ Mem ⟨w, []⟩ [⟨g1, .cells (av 16 (wi (fun _ => 0))) 198⟩, ⟨g2, .cells (av 10 zF) 231⟩, ⟨g3, .cells (av 16 (wi (od j i))) 198⟩] w') 16 (exS M) ?_ ?_
 ·intro i a u0 hi hI
  obtain ⟨v, rfl, M⟩ := hI
  by_cases h97 : 97 ≤ bt (OS j) i
  ·refine wp_seq <| sR <| rV 1 <| ZT 9 ((i : Int) < 16) <| nT <| cT <| wp_skip <| au_then <| wp_seq <| wp_block <| sR <| rV 1 <| ZX 13 .i64 g2 (j) 10 <| ZE M 14 1 j <| rV 1 <| pH 16 (.int .u8 (bt (OS j) i)) (run_ixS 9 Tryz.underlying9 _ _ rfl (OS j) (by kernel_rfl) .i64 i (by kernel_rfl) (by rw [OS_size j hj]; exact hi)) ?_
   refine rV 1 <| nT <| sR <| rV 1 <| wT 18 h97 <| nT <| cT <| rg_lit <| rV 4 <| zJ 23 (.int .i64 (OF (j * 16 + i) : Int)) (.int .i64 (IntKind.wrap .i64 (cv .i64 (cv .u8 (bt (OS j) i - 97)) + 10))) (by rw [ordA j i hj hi h97]) <| ZX 24 .i64 g3 (i) 16 <| pP M 2 rfl i (.int .i64 (OF (j * 16 + i) : Int)) (wi (upd (od j i) i (OF (j * 16 + i) : Int))) (by omega) (fun j _ => put_wi _ _ _ j) fun u5 M => pl_nil <| au_block <| au_then <| rg_lit ?_
   refine rV 1 <| ZI 11 ((i : Int) + 1) ((i + 1 : Nat) : Int) <| rV 1 <| nT ?_
   exact exS M
  ·refine wp_seq <| sR <| rV 1 <| ZT 9 ((i : Int) < 16) <| nT <| cT <| wp_skip <| au_then <| wp_seq <| wp_block <| sR <| rV 1 <| ZX 13 .i64 g2 (j) 10 <| ZE M 14 1 j <| rV 1 <| pH 16 (.int .u8 (bt (OS j) i)) (run_ixS 9 Tryz.underlying9 _ _ rfl (OS j) (by kernel_rfl) .i64 i (by kernel_rfl) (by rw [OS_size j hj]; exact hi)) ?_
   refine rV 1 <| nT <| sR <| rV 1 <| wF 18 h97 <| nT <| cF <| rg_lit <| rV 3 <| zJ 28 (.int .i64 (OF (j * 16 + i) : Int)) (.int .i64 (cv .i64 (cv .u8 (bt (OS j) i - 48)))) (by rw [ordB j i hj hi h97]) <| ZX 29 .i64 g3 (i) 16 <| pP M 2 rfl i (.int .i64 (OF (j * 16 + i) : Int)) (wi (upd (od j i) i (OF (j * 16 + i) : Int))) (by omega) (fun j _ => put_wi _ _ _ j) fun u6 M => pl_nil <| au_block <| au_then <| rg_lit ?_
   refine rV 1 <| ZI 11 ((i : Int) + 1) ((i + 1 : Nat) : Int) <| rV 1 <| nT ?_
   exact exS M
 ·intro a u0 hI
  obtain ⟨v, rfl, M⟩ := hI
  refine wp_seq <| sq <| cF <| wp_exit <| au_then_exit <| au_then_exit <| au_block_exit <| au_then <| sR <| pA M 30 2 16 (wi (od j 16)) <| ZG M 0 16 (wi (od j 16)) fun u7 M => nT <| wp_ret ?_
  refine bodyPost_ret (v := .agg (av 16 (oi j))) (Eq.trans (b := .ok (.agg (av 16 (wi (od j 16)))) _) (results_cell_row Tryz.results144 _ _ g1 198 (av 16 (wi (od j 16))) (0, 0) _ (by kernel_rfl) (M.get 0 rfl) Tryz.underlying198 rfl (by rw [av_size]; exact inz198)) (by rw [od_av])) (by kernel_rfl) ⟨rfl, below_grown M.old⟩
def dA (u : NI) (x : Int) (i j : Nat) : Nat → Int := upd u i (va (va (u i) (u j)) x)
def dD (u : NI) (l i n : Nat) : Nat → Int := upd u l (rot (vx (u l) (u i)) n)
def dC (u : NI) (k l : Nat) : Nat → Int := upd u k (va (u k) (u l))
def e1 (v : NI) (x : Int) (p0 p1 : Nat) : Nat → Int := dA v x p0 p1
def e2 (v : NI) (x : Int) (p0 p1 p3 : Nat) : Nat → Int := dD (e1 v x p0 p1) p3 p0 16
def e3 (v : NI) (x : Int) (p0 p1 p2 p3 : Nat) : Nat → Int := dC (e2 v x p0 p1 p3) p2 p3
def e4 (v : NI) (x : Int) (p0 p1 p2 p3 : Nat) : Nat → Int := dD (e3 v x p0 p1 p2 p3) p1 p2 12
def e5 (v : NI) (x y : Int) (p0 p1 p2 p3 : Nat) : Nat → Int := dA (e4 v x p0 p1 p2 p3) y p0 p1
def e6 (v : NI) (x y : Int) (p0 p1 p2 p3 : Nat) : Nat → Int := dD (e5 v x y p0 p1 p2 p3) p3 p0 8
def e7 (v : NI) (x y : Int) (p0 p1 p2 p3 : Nat) : Nat → Int := dC (e6 v x y p0 p1 p2 p3) p2 p3
def e8 (v : NI) (x y : Int) (p0 p1 p2 p3 : Nat) : Nat → Int := dD (e7 v x y p0 p1 p2 p3) p1 p2 7
theorem e8_eq (v : NI) (x y : Int) (i j k l : Nat) (hij : i ≠ j) (hik : i ≠ k) (hil : i ≠ l) (hjk : j ≠ k) (hjl : j ≠ l) (hkl : k ≠ l) : e8 v x y i j k l = mxF v x y i j k l := by
 have a1 : e1 v x i j = upd v i (mA1 v x i j) := by
  unfold e1 dA mA1
  rw [va_assoc]
 have a2 : e2 v x i j l = upd (upd v i (mA1 v x i j)) l (mD1 v x i j l) := by
  unfold e2 dD mD1
  rw [a1]
  simp only [upd, if_true, if_neg (Ne.symm hil)]
 have a3 : e3 v x i j k l = upd (upd (upd v i (mA1 v x i j)) l (mD1 v x i j l)) k (mC1 v x i j k l) := by
  unfold e3 dC mC1
  rw [a2]
  simp only [upd, if_true, if_neg hkl, if_neg (Ne.symm hik)]
 have a4 : e4 v x i j k l = upd (upd (upd (upd v i (mA1 v x i j)) l (mD1 v x i j l)) k (mC1 v x i j k l)) j (mB1 v x i j k l) := by
  unfold e4 dD mB1
  rw [a3]
  simp only [upd, if_true, if_neg hjk, if_neg hjl, if_neg (Ne.symm hij)]
 have a5 : e5 v x y i j k l = upd (e4 v x i j k l) i (mA2 v x y i j k l) := by
  unfold e5 dA mA2
  rw [va_assoc, a4]
  simp only [upd, if_true, if_neg hij, if_neg hik, if_neg hil]
 have a6 : e6 v x y i j k l = upd (e5 v x y i j k l) l (mD2 v x y i j k l) := by
  unfold e6 dD mD2
  rw [a5, a4]
  simp only [upd, if_true, if_neg (Ne.symm hil), if_neg (Ne.symm hjl), if_neg (Ne.symm hkl)]
 have a7 : e7 v x y i j k l = upd (e6 v x y i j k l) k (mC2 v x y i j k l) := by
  unfold e7 dC mC2
  rw [a6, a5, a4]
  simp only [upd, if_true, if_neg hkl, if_neg (Ne.symm hik), if_neg (Ne.symm hjk)]
 have a8 : e8 v x y i j k l = upd (e7 v x y i j k l) j (mB2 v x y i j k l) := by
  unfold e8 dD mB2
  rw [a7, a6, a5, a4]
  simp only [upd, if_true, if_neg hjk, if_neg hjl, if_neg (Ne.symm hij)]
 rw [a8, a7, a6, a5, a4]
 funext t
 unfold mxF upd
 by_cases h1 : t = l
 ·subst h1
  simp [Ne.symm hjl, Ne.symm hkl]
 ·by_cases h2 : t = k
  ·subst h2
   simp [h1, Ne.symm hjk]
  ·by_cases h3 : t = j
   ·subst h3
    simp [h1, h2]
   ·by_cases h4 : t = i
    ·subst h4
     simp [h1, h2, h3]
    ·simp [h1, h2, h3, h4]
theorem d_mix (v : NI) (x y : Int) (p0 p1 p2 p3 : Nat) (h0 : p0 < 16) (h1 : p1 < 16) (h2 : p2 < 16) (h3 : p3 < 16) (d0 : p0 ≠ p1) (d1 : p0 ≠ p2) (d2 : p0 ≠ p3) (d3 : p1 ≠ p2) (d4 : p1 ≠ p3) (d5 : p2 ≠ p3) (w : World) (hL : Laid w)  : Cs 145 #[.agg (av 16 (w32 v)), .int .i64 (p0 : Int), .int .i64 (p1 : Int), .int .i64 (p2 : Int), .int .i64 (p3 : Int), .int .u32 x, .int .u32 y] w (.agg (av 16 (w32 (mxF v x y p0 p1 p2 p3)))) := by
 go_enter Tryz.func145, Tryz.ntmps145
 have M := Mem.start hL
 refine sR <| pN M 7 (.cells (av 16 (w32 v)) 148) fun g1 u1 M => pN M 14 (.cells (av 16 (w32 (fun _ => 0))) 148) fun g2 u2 M => nT <| wp_seq <| rg_tail M 11 (by kernel_rfl) (by kernel_rfl) ?_
 simp only [List.take_succ_cons, List.take_zero]
 refine kR 2 <| eX 17 .i64 g1 (p0) 16 <| eE M 18 0 p0 <| kR 1 <| eX 20 .i64 g1 (p1) 16 <| eE M 21 0 p1 <| kR 3 <| eX 25 .i64 g1 (p0) 16 <| kl_nil fun u3 M => ZP32 M 0 p0 (va (va (v p0) (v p1)) x) fun u4 M => nT <| wp_seq <| rg_tail M 10 (by kernel_rfl) (by kernel_rfl) ?_
 simp only [List.take_succ_cons, List.take_zero]
 refine kR 2 <| eX 28 .i64 g1 (p3) 16 <| eE M 29 0 p3 <| kR 1 <| eX 31 .i64 g1 (p0) 16 <| eE M 32 0 p0 <| kR 1 <| kC M 34 168 #[.int .u32 (vx ((e1 v x p0 p1) p3) ((e1 v x p0 p1) p0)), .int .u64 16] (.int .u32 (rot (vx ((e1 v x p0 p1) p3) ((e1 v x p0 p1) p0)) 16)) (fun w M => d_turn16 _ w M.laid) <| eX 35 .i64 g1 (p3) 16 <| kl_nil fun u5 M => ZP32 M 0 p3 (rot (vx ((e1 v x p0 p1) p3) ((e1 v x p0 p1) p0)) 16) fun u6 M => nT <| wp_seq <| rg_tail M 9 (by kernel_rfl) (by kernel_rfl) ?_
 simp only [List.take_succ_cons, List.take_zero]
 refine kR 2 <| eX 38 .i64 g1 (p2) 16 <| eE M 39 0 p2 <| kR 1 <| eX 41 .i64 g1 (p3) 16 <| eE M 42 0 p3 <| kR 1 <| eX 44 .i64 g1 (p2) 16 <| kl_nil fun u7 M => ZP32 M 0 p2 (va ((e2 v x p0 p1 p3) p2) ((e2 v x p0 p1 p3) p3)) fun u8 M => nT <| wp_seq <| rg_tail M 10 (by kernel_rfl) (by kernel_rfl) ?_
 simp only [List.take_succ_cons, List.take_zero]
 refine kR 2 <| eX 47 .i64 g1 (p1) 16 <| eE M 48 0 p1 <| kR 1 <| eX 50 .i64 g1 (p2) 16 <| eE M 51 0 p2 <| kR 1 <| kC M 53 168 #[.int .u32 (vx ((e3 v x p0 p1 p2 p3) p1) ((e3 v x p0 p1 p2 p3) p2)), .int .u64 12] (.int .u32 (rot (vx ((e3 v x p0 p1 p2 p3) p1) ((e3 v x p0 p1 p2 p3) p2)) 12)) (fun w M => d_turn12 _ w M.laid) <| eX 54 .i64 g1 (p1) 16 <| kl_nil fun u9 M => ZP32 M 0 p1 (rot (vx ((e3 v x p0 p1 p2 p3) p1) ((e3 v x p0 p1 p2 p3) p2)) 12) fun u10 M => nT <| wp_seq <| rg_tail M 11 (by kernel_rfl) (by kernel_rfl) ?_
 simp only [List.take_succ_cons, List.take_zero]
 refine kR 2 <| eX 57 .i64 g1 (p0) 16 <| eE M 58 0 p0 <| kR 1 <| eX 60 .i64 g1 (p1) 16 <| eE M 61 0 p1 <| kR 3 <| eX 65 .i64 g1 (p0) 16 <| kl_nil fun u11 M => ZP32 M 0 p0 (va (va ((e4 v x p0 p1 p2 p3) p0) ((e4 v x p0 p1 p2 p3) p1)) y) fun u12 M => nT <| wp_seq <| rg_tail M 10 (by kernel_rfl) (by kernel_rfl) ?_
 simp only [List.take_succ_cons, List.take_zero]
 refine kR 2 <| eX 68 .i64 g1 (p3) 16 <| eE M 69 0 p3 <| kR 1 <| eX 71 .i64 g1 (p0) 16 <| eE M 72 0 p0 <| kR 1 <| kC M 74 168 #[.int .u32 (vx ((e5 v x y p0 p1 p2 p3) p3) ((e5 v x y p0 p1 p2 p3) p0)), .int .u64 8] (.int .u32 (rot (vx ((e5 v x y p0 p1 p2 p3) p3) ((e5 v x y p0 p1 p2 p3) p0)) 8)) (fun w M => d_turn8 _ w M.laid) <| eX 75 .i64 g1 (p3) 16 <| kl_nil fun u13 M => ZP32 M 0 p3 (rot (vx ((e5 v x y p0 p1 p2 p3) p3) ((e5 v x y p0 p1 p2 p3) p0)) 8) fun u14 M => nT <| wp_seq <| rg_tail M 9 (by kernel_rfl) (by kernel_rfl) ?_
 simp only [List.take_succ_cons, List.take_zero]
 refine kR 2 <| eX 78 .i64 g1 (p2) 16 <| eE M 79 0 p2 <| kR 1 <| eX 81 .i64 g1 (p3) 16 <| eE M 82 0 p3 <| kR 1 <| eX 84 .i64 g1 (p2) 16 <| kl_nil fun u15 M => ZP32 M 0 p2 (va ((e6 v x y p0 p1 p2 p3) p2) ((e6 v x y p0 p1 p2 p3) p3)) fun u16 M => nT <| wp_seq <| rg_tail M 10 (by kernel_rfl) (by kernel_rfl) ?_
 simp only [List.take_succ_cons, List.take_zero]
 refine kR 2 <| eX 87 .i64 g1 (p1) 16 <| eE M 88 0 p1 <| kR 1 <| eX 90 .i64 g1 (p2) 16 <| eE M 91 0 p2 <| kR 1 <| kC M 93 168 #[.int .u32 (vx ((e7 v x y p0 p1 p2 p3) p1) ((e7 v x y p0 p1 p2 p3) p2)), .int .u64 7] (.int .u32 (rot (vx ((e7 v x y p0 p1 p2 p3) p1) ((e7 v x y p0 p1 p2 p3) p2)) 7)) (fun w M => d_turn7 _ w M.laid) <| eX 94 .i64 g1 (p1) 16 <| kl_nil fun u17 M => ZP32 M 0 p1 (rot (vx ((e7 v x y p0 p1 p2 p3) p1) ((e7 v x y p0 p1 p2 p3) p2)) 7) fun u18 M => nT <| sR <| pA M 95 0 16 (w32 (e8 v x y p0 p1 p2 p3)) <| ZG M 1 16 (w32 (e8 v x y p0 p1 p2 p3)) fun u19 M => nT ?_
 refine wp_ret ?_
 refine bodyPost_ret (v := .agg (av 16 (w32 (mxF v x y p0 p1 p2 p3)))) (Eq.trans (b := .ok (.agg (av 16 (w32 (e8 v x y p0 p1 p2 p3)))) _) (results_cell_row Tryz.results145 _ _ g2 148 (av 16 (w32 (e8 v x y p0 p1 p2 p3))) (0, 0) _ (by kernel_rfl) (M.get 1 rfl) Tryz.underlying148 rfl (by rw [av_size]; exact inz148)) (by rw [e8_eq v x y p0 p1 p2 p3 d0 d1 d2 d3 d4 d5])) (by kernel_rfl) ⟨rfl, below_grown M.old⟩
end Go.Proofs.YtffimigpbcilbaaGreatDoor.Bla
