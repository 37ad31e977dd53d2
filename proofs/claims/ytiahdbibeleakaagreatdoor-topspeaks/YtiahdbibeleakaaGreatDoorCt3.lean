/- Part 3 of the walks and facts. -/
import Derived.Test.YtiahdbibeleakaaGreatDoorCt2
import Derived.ScopeJumps
import Derived.Shelf.Strings.Repeat
set_option maxHeartbeats 16000000
set_option maxRecDepth 100000
set_option linter.unusedSimpArgs false
set_option linter.unusedVariables false
namespace Go.Proofs.YtiahdbibeleakaaGreatDoor.Bla
open Go.RowKit
def mA1 (v : NI) (x : Int) (i j : Nat) : Int := va (v i) (va (v j) x)
def mD1 (v : NI) (x : Int) (i j l : Nat) : Int := rot (vx (v l) (mA1 v x i j)) 16
def mC1 (v : NI) (x : Int) (i j k l : Nat) : Int := va (v k) (mD1 v x i j l)
def mB1 (v : NI) (x : Int) (i j k l : Nat) : Int := rot (vx (v j) (mC1 v x i j k l)) 12
def mA2 (v : NI) (x y : Int) (i j k l : Nat) : Int := va (mA1 v x i j) (va (mB1 v x i j k l) y)
def mD2 (v : NI) (x y : Int) (i j k l : Nat) : Int := rot (vx (mD1 v x i j l) (mA2 v x y i j k l)) 8
def mC2 (v : NI) (x y : Int) (i j k l : Nat) : Int := va (mC1 v x i j k l) (mD2 v x y i j k l)
def mB2 (v : NI) (x y : Int) (i j k l : Nat) : Int := rot (vx (mB1 v x i j k l) (mC2 v x y i j k l)) 7
def mxF (v : NI) (x y : Int) (i j k l : Nat) : Nat → Int := upd (upd (upd (upd v i (mA2 v x y i j k l)) j (mB2 v x y i j k l)) k (mC2 v x y i j k l)) l (mD2 v x y i j k l)
theorem c_mix (v : NI) (x y : Int) (p0 p1 p2 p3 : Nat) (h4 : p0 < 16) (h1 : p1 < 16) (h2 : p2 < 16) (h3 : p3 < 16) (g gt : Nat) (w : World) (hL : Laid w) (hg : w.heap[g]? = some (.cells (av 16 (w32 v)) 131)) (h0 : 2 < g) (hne : gt ≠ g) (ha0 : w.cell? ⟨gt, 0, none⟩ = some (.int .i64 (p0 : Int))) (ha1 : w.cell? ⟨gt, 1, none⟩ = some (.int .i64 (p1 : Int))) (ha2 : w.cell? ⟨gt, 2, none⟩ = some (.int .i64 (p2 : Int))) (ha3 : w.cell? ⟨gt, 3, none⟩ = some (.int .i64 (p3 : Int))) : Calls Tryz.prog 169 #[.int .u32 x, .int .u32 y, .slice (some ⟨gt, 0, none⟩) 4 4, .pointer (some ⟨g, 0, none⟩)] w fun r w' => r = .returned (.tuple #[]) ∧ Grw w w' [g] ∧ w'.heap[g]? = some (.cells (av 16 (w32 (mxF v x y p0 p1 p2 p3))) 131) := by
 go_enter Tryz.func169, Tryz.ntmps169
 have M := Mem.startp hL hg h0
 refine wp_seq ?_
 refine rg_tail M 23 (by kernel_rfl) (by kernel_rfl) ?_
 simp only [List.take_succ_cons, List.take_zero]
 refine kR 2 ?_
 refine kE M 13 gt 0 (.int .i64 (p0 : Int)) (fun w M => M.oldcB ha0 (by simpa using hne)) ?_
 refine eX 14 .i64 g (p0) 16 ?_
 refine eE M 15 0 p0 ?_
 refine kR 2 ?_
 refine kE M 18 gt 1 (.int .i64 (p1 : Int)) (fun w M => M.oldcB ha1 (by simpa using hne)) ?_
 refine eX 19 .i64 g (p1) 16 ?_
 refine eE M 20 0 p1 ?_
 refine kR 2 ?_
 refine kE M 23 gt 2 (.int .i64 (p2 : Int)) (fun w M => M.oldcB ha2 (by simpa using hne)) ?_
 refine eX 24 .i64 g (p2) 16 ?_
 refine eE M 25 0 p2 ?_
 refine kR 2 ?_
 refine kE M 28 gt 3 (.int .i64 (p3 : Int)) (fun w M => M.oldcB ha3 (by simpa using hne)) ?_
 refine eX 29 .i64 g (p3) 16 ?_
 refine eE M 30 0 p3 ?_
 refine kR 3 ?_
 refine kl_nil fun u1 M => ?_
 replace M := M.nf
 refine rV 1 <| nT <| sq <| sR <| rV 3 ?_
 refine pC M 39 170 #[.int .u32 (vx (v p3) (mA1 v x p0 p1)), .int .i64 16] (.int .u32 (mD1 v x p0 p1 p3)) (fun w M => c_turned16 _ w M.laid) fun u2 M => ?_
 refine rV 1 <| nT <| sq <| sR <| rV 3 ?_
 refine pC M 46 170 #[.int .u32 (vx (v p1) (mC1 v x p0 p1 p2 p3)), .int .i64 12] (.int .u32 (mB1 v x p0 p1 p2 p3)) (fun w M => c_turned12 _ w M.laid) fun u3 M => ?_
 refine rV 1 <| nT <| sq <| sR <| rV 3 ?_
 refine pC M 55 170 #[.int .u32 (vx (mD1 v x p0 p1 p3) (mA2 v x y p0 p1 p2 p3)), .int .i64 8] (.int .u32 (mD2 v x y p0 p1 p2 p3)) (fun w M => c_turned8 _ w M.laid) fun u4 M => ?_
 refine rV 1 <| nT <| sq <| sR <| rV 3 ?_
 refine pC M 62 170 #[.int .u32 (vx (mB1 v x p0 p1 p2 p3) (mC2 v x y p0 p1 p2 p3)), .int .i64 7] (.int .u32 (mB2 v x y p0 p1 p2 p3)) (fun w M => c_turned7 _ w M.laid) fun u5 M => ?_
 refine rV 1 <| nT ?_
 refine rgh M [] 23 fun u6 M => ?_
 replace M := M.nf
 have qM := M.drop (.cons _ (.slnil))
 refine qV qM 0 63 (.slice (some ⟨gt, 0, none⟩) 4 4) ?_
 refine qV qM 1 64 (.pointer (some ⟨gt, 0, none⟩)) ?_
 refine qC qM 2 65 gt 0 (.int .i64 (p0 : Int)) (fun w M => M.oldcB ha0 (by simpa using hne)) ?_
 refine qV qM 3 66 (.slice (some ⟨gt, 0, none⟩) 4 4) ?_
 refine qV qM 4 67 (.pointer (some ⟨gt, 1, none⟩)) ?_
 refine qC qM 5 68 gt 1 (.int .i64 (p1 : Int)) (fun w M => M.oldcB ha1 (by simpa using hne)) ?_
 refine qV qM 6 69 (.slice (some ⟨gt, 0, none⟩) 4 4) ?_
 refine qV qM 7 70 (.pointer (some ⟨gt, 2, none⟩)) ?_
 refine qC qM 8 71 gt 2 (.int .i64 (p2 : Int)) (fun w M => M.oldcB ha2 (by simpa using hne)) ?_
 refine qV qM 9 72 (.slice (some ⟨gt, 0, none⟩) 4 4) ?_
 refine qV qM 10 73 (.pointer (some ⟨gt, 3, none⟩)) ?_
 refine qC qM 11 74 gt 3 (.int .i64 (p3 : Int)) (fun w M => M.oldcB ha3 (by simpa using hne)) ?_
 refine qV qM 12 75 (.int .u32 (mA2 v x y p0 p1 p2 p3)) ?_
 refine qV qM 13 76 (.int .u32 (mB2 v x y p0 p1 p2 p3)) ?_
 refine qV qM 14 77 (.int .u32 (mC2 v x y p0 p1 p2 p3)) ?_
 refine qV qM 15 78 (.int .u32 (mD2 v x y p0 p1 p2 p3)) ?_
 refine qH qM 16 79 (.pointer (some ⟨g, p0, none⟩)) (fun w _ => (run_ix1 131 16 84 Tryz.underlying131 inz84 _ _ rfl g (by kernel_rfl) .i64 (p0) (by kernel_rfl) (by omega)) w) ?_
 refine qO 17 ?_
 refine ZP32 M 0 p0 (mA2 v x y p0 p1 p2 p3) fun u7 M => ?_
 replace M := M.nf
 refine nT ?_
 refine ⟨(M.drop (.cons _ (.slnil))), ?_⟩
 refine qH (M.drop (.cons _ (.slnil))) 18 80 (.pointer (some ⟨g, p1, none⟩)) (fun w _ => (run_ix1 131 16 84 Tryz.underlying131 inz84 _ _ rfl g (by kernel_rfl) .i64 (p1) (by kernel_rfl) (by omega)) w) ?_
 refine qO 19 ?_
 refine ZP32 M 0 p1 (mB2 v x y p0 p1 p2 p3) fun u8 M => ?_
 replace M := M.nf
 refine nT ?_
 refine ⟨(M.drop (.cons _ (.slnil))), ?_⟩
 refine qH (M.drop (.cons _ (.slnil))) 20 81 (.pointer (some ⟨g, p2, none⟩)) (fun w _ => (run_ix1 131 16 84 Tryz.underlying131 inz84 _ _ rfl g (by kernel_rfl) .i64 (p2) (by kernel_rfl) (by omega)) w) ?_
 refine qO 21 ?_
 refine ZP32 M 0 p2 (mC2 v x y p0 p1 p2 p3) fun u9 M => ?_
 replace M := M.nf
 refine nT ?_
 refine ⟨(M.drop (.cons _ (.slnil))), ?_⟩
 refine qH (M.drop (.cons _ (.slnil))) 22 82 (.pointer (some ⟨g, p3, none⟩)) (fun w _ => (run_ix1 131 16 84 Tryz.underlying131 inz84 _ _ rfl g (by kernel_rfl) .i64 (p3) (by kernel_rfl) (by omega)) w) ?_
 refine qZ ?_
 refine ZP32 M 0 p3 (mD2 v x y p0 p1 p2 p3) fun u10 M => ?_
 replace M := M.nf
 refine nT ?_
 exact bodyPost_end (v := .tuple #[]) (results_none Tryz.results169 _ _) (by kernel_rfl) ⟨rfl, M.old, M.get 0 rfl⟩
def ow (j : Nat) : Nat → Value := w8 fun i => (OF (j * 16 + i) : Int)
theorem OF_lt (i : Nat) : OF i < 16 := by
 by_cases h : i < 160
 ·have h2 : ((List.range 160).all fun i => decide (OF i < 16)) = true := by decide +kernel
  simpa using List.all_eq_true.1 h2 i (List.mem_range.2 h)
 ·unfold OF
  rw [List.getD_eq_getElem?_getD, List.getElem?_eq_none (by simp; omega)]
  decide
def rn1 (m v : NI) (j : Nat) : Nat → Int := mxF v (m (OF (j * 16 + 0))) (m (OF (j * 16 + 1))) 0 4 8 12
def rn2 (m v : NI) (j : Nat) : Nat → Int := mxF (rn1 m v j) (m (OF (j * 16 + 2))) (m (OF (j * 16 + 3))) 1 5 9 13
def rn3 (m v : NI) (j : Nat) : Nat → Int := mxF (rn2 m v j) (m (OF (j * 16 + 4))) (m (OF (j * 16 + 5))) 2 6 10 14
def rn4 (m v : NI) (j : Nat) : Nat → Int := mxF (rn3 m v j) (m (OF (j * 16 + 6))) (m (OF (j * 16 + 7))) 3 7 11 15
def rn5 (m v : NI) (j : Nat) : Nat → Int := mxF (rn4 m v j) (m (OF (j * 16 + 8))) (m (OF (j * 16 + 9))) 0 5 10 15
def rn6 (m v : NI) (j : Nat) : Nat → Int := mxF (rn5 m v j) (m (OF (j * 16 + 10))) (m (OF (j * 16 + 11))) 1 6 11 12
def rn7 (m v : NI) (j : Nat) : Nat → Int := mxF (rn6 m v j) (m (OF (j * 16 + 12))) (m (OF (j * 16 + 13))) 2 7 8 13
def rn8 (m v : NI) (j : Nat) : Nat → Int := mxF (rn7 m v j) (m (OF (j * 16 + 14))) (m (OF (j * 16 + 15))) 3 4 9 14
def rd (m v : NI) : Nat → (Nat → Int)
 | 0 => v
 | j + 1 => rn8 m (rd m v j) j
def ad (x y : NI) : Nat → (Nat → Int)
 | 0 => x
 | j + 1 => upd (ad x y j) j (vx (ad x y j j) (vx (y j) (y (8 + j))))
def mixV (x rs : NI) (n : Nat) (ct : Int) (last : Bool) : Nat → Int := fun i => vx (x i) (vx (rd (wo rs n) (spr x ct last) 10 i) (rd (wo rs n) (spr x ct last) 10 (8 + i)))
theorem lt8 {p : Nat → Prop} (h : p 0 ∧ p 1 ∧ p 2 ∧ p 3 ∧ p 4 ∧ p 5 ∧ p 6 ∧ p 7) : ∀ i, i < 8 → p i
 | 0, _ => h.1
 | 1, _ => h.2.1
 | 2, _ => h.2.2.1
 | 3, _ => h.2.2.2.1
 | 4, _ => h.2.2.2.2.1
 | 5, _ => h.2.2.2.2.2.1
 | 6, _ => h.2.2.2.2.2.2.1
 | 7, _ => h.2.2.2.2.2.2.2
 | n + 8, h => absurd h (by omega)
theorem ad_av (x y : NI) : av 8 (w32 (ad x y 8)) = av 8 (w32 fun i => vx (x i) (vx (y i) (y (8 + i)))) := by
 refine av_congr fun i hi => ?_
 unfold w32
 congr 1
 revert i
 exact lt8 ⟨by simp [ad, upd], by simp [ad, upd], by simp [ad, upd], by simp [ad, upd], by simp [ad, upd], by simp [ad, upd], by simp [ad, upd], by simp [ad, upd]⟩
theorem c_mixed (x rs : NI) (g n cap : Nat) (hn : n ≤ 64) (ct : Int) (last : Bool) (w : World) (hL : Laid w) (hc : ∀ i, i < n → w.cell? ⟨g, i, none⟩ = some (.int .u8 (rs i))) : Cs 144 #[.agg (av 8 (w32 x)), .slice (some ⟨g, 0, none⟩) n cap, .int .u64 ct, .bool (last)] w (.agg (av 8 (w32 (mixV x rs n ct last)))) := by
 go_enter Tryz.func144, Tryz.ntmps144
 have M := Mem.start hL
 refine sR ?_
 refine pN M 4 (.cells (av 8 (w32 x)) 203) fun g1 u1 M => ?_
 replace M := M.nf
 refine pN M 8 (.cells (av 8 (w32 (fun _ => 0))) 203) fun g2 u2 M => ?_
 replace M := M.nf
 refine nT <| sR <| rV 1 ?_
 refine ZC M 16 (fun w M => c_words rs g n cap hn w M.laid (fun i hi => M.oldcB (hc i hi) (by simp))) fun u3 M => ?_
 refine pN M 9 (.cells (av 16 (w32 (fun _ => 0))) 131) fun g3 u4 M => ?_
 replace M := M.nf
 refine ZG M 2 16 (w32 (wo rs n)) fun u5 M => ?_
 replace M := M.nf
 refine nT <| sR ?_
 refine pA M 17 0 8 (w32 x) ?_
 refine rV 2 ?_
 refine ZC M 20 (fun w M => c_spread x ct last w M.laid) fun u6 M => ?_
 refine pN M 10 (.cells (av 16 (w32 (fun _ => 0))) 131) fun g4 u7 M => ?_
 replace M := M.nf
 refine ZG M 3 16 (w32 (spr x ct last)) fun u8 M => ?_
 replace M := M.nf
 refine nT <| sq <| wp_seq <| sR ?_
 refine pl_laid M (want_no rfl) (some 22) rfl 236 _ rfl (by kernel_rfl) _ Tryz.underlying236 rfl inz236 ?_
 refine rV 1 <| nT ?_
 refine wp_block ?_
 refine au_loop (fun j a w' => ∃ v1 : NV, a = (fm ([.agg (av 8 (w32 x)), .slice (some ⟨g, 0, none⟩) n cap, .int .u64 ct, .bool (last), .pointer (some ⟨g1, 0, none⟩)] ++ vr v1 5 3 ++ [.pointer (some ⟨g2, 0, none⟩), .pointer (some ⟨g3, 0, none⟩), .pointer (some ⟨g4, 0, none⟩), .func (.func 169) #[] #[.pointer (some ⟨g4, 0, none⟩)]] ++ vr v1 12 10 ++ [.agg (av 160 (w8 fun i => (OF i : Int))), .int .i64 (j : Int)] ++ vr v1 24 109)) ∧ Mem ⟨w, []⟩ [⟨g1, .cells (av 8 (w32 x)) 203⟩, ⟨g2, .cells (av 8 (w32 (fun _ => 0))) 203⟩, ⟨g3, .cells (av 16 (w32 (wo rs n))) 131⟩, ⟨g4, .cells (av 16 (w32 (rd (wo rs n) (spr x ct last) j))) 131⟩] w') 10 (exS M) ?_ ?_
 ·intro j a u0 hj hI
  obtain ⟨v1, rfl, M⟩ := hI
  refine sR ?_
  refine ZT 24 ((j : Int) < 10) ?_
  refine nT <| wp_seq <| cT <| wp_skip <| au_then ?_
  refine wp_seq ?_
  refine wp_block ?_
  refine sR ?_
  refine pH 25 (.agg (av 16 (ow j))) (run_ixP 236 10 228 16 Tryz.underlying236 inz228 (fun _ => by kernel_rfl) _ _ rfl (w8 fun i => (OF i : Int)) 160 (by kernel_rfl) .i64 j (by kernel_rfl) (by omega) (by omega)) ?_
  refine pN M 13 (.cells (av 16 (w8 (fun _ => 0))) 228) fun g5 u9 M => ?_
  replace M := M.nf
  refine ZG M 4 16 (ow j) fun u10 M => ?_
  replace M := M.nf
  refine nT <| wp_seq ?_
  refine rgh M [⟨g1, .cells (av 8 (w32 x)) 203⟩, ⟨g2, .cells (av 8 (w32 (fun _ => 0))) 203⟩, ⟨g3, .cells (av 16 (w32 (wo rs n))) 131⟩, ⟨g5, .cells (av 16 (ow j)) 228⟩] 10 fun u11 M => ?_
  replace M := M.nf
  have qM := M.drop (.cons_cons _ (.cons_cons _ (.cons_cons _ (.cons _ (.cons_cons _ (.slnil))))))
  refine qV qM 0 26 (.func (.func 169) #[] #[.pointer (some ⟨g4, 0, none⟩)]) ?_
  refine qV qM 1 27 (.pointer (some ⟨g5, 0, none⟩)) ?_
  refine qE qM 2 28 3 0 ?_
  refine qH qM 3 29 (.pointer (some ⟨g3, (OF (j * 16 + 0)), none⟩)) (fun w _ => (run_ix1 131 16 84 Tryz.underlying131 inz84 _ _ rfl g3 (by kernel_rfl) .u8 (OF (j * 16 + 0)) (by kernel_rfl) (OF_lt _)) w) ?_
  refine qC qM 4 30 g3 (OF (j * 16 + 0)) (.int .u32 ((wo rs n) (OF (j * 16 + 0)))) (fun w M => M.cell 2 rfl (OF_lt _) rfl) ?_
  refine qV qM 5 31 (.pointer (some ⟨g5, 1, none⟩)) ?_
  refine qE qM 6 32 3 1 ?_
  refine qH qM 7 33 (.pointer (some ⟨g3, (OF (j * 16 + 1)), none⟩)) (fun w _ => (run_ix1 131 16 84 Tryz.underlying131 inz84 _ _ rfl g3 (by kernel_rfl) .u8 (OF (j * 16 + 1)) (by kernel_rfl) (OF_lt _)) w) ?_
  refine qC qM 8 34 g3 (OF (j * 16 + 1)) (.int .u32 ((wo rs n) (OF (j * 16 + 1)))) (fun w M => M.cell 2 rfl (OF_lt _) rfl) ?_
  refine qO 9 ?_
  refine ZM M 35 (fun g6 => .slice (some ⟨g6, 0, none⟩) 4 4) (.cells (av 4 (wi (r4 0 4 8 12))) 3) fun g6 u12 M => ?_
  replace M := M.nf
  refine nT ?_
  refine ⟨(M.drop (.cons_cons _ (.cons_cons _ (.cons_cons _ (.cons _ (.cons_cons _ (.cons _ (.slnil)))))))), ?_⟩
  refine qZ ?_
  refine ZY M 36 3 (.tuple #[]) (.cells (av 16 (w32 (rn1 (wo rs n) (rd (wo rs n) (spr x ct last) j) j))) 131) (fun w M => c_mix (rd (wo rs n) (spr x ct last) j) _ _ 0 4 8 12 (by decide) (by decide) (by decide) (by decide) g4 g6 w M.laid (M.get 3 rfl) (M.ne0 3 rfl) (nodup_at M.nodup (i := 5) (j := 3) rfl rfl (by decide)) (M.cell 5 rfl (by decide) rfl) (M.cell 5 rfl (by decide) rfl) (M.cell 5 rfl (by decide) rfl) (M.cell 5 rfl (by decide) rfl)) fun u13 M => ?_
  replace M := M.nf
  refine nT <| au_then <| wp_seq ?_
  refine rgh M [⟨g1, .cells (av 8 (w32 x)) 203⟩, ⟨g2, .cells (av 8 (w32 (fun _ => 0))) 203⟩, ⟨g3, .cells (av 16 (w32 (wo rs n))) 131⟩, ⟨g5, .cells (av 16 (ow j)) 228⟩, ⟨g6, .cells (av 4 (wi (r4 0 4 8 12))) 3⟩] 10 fun u14 M => ?_
  replace M := M.nf
  have qM := M.drop (.cons_cons _ (.cons_cons _ (.cons_cons _ (.cons _ (.cons_cons _ (.cons_cons _ (.slnil)))))))
  refine qV qM 0 37 (.func (.func 169) #[] #[.pointer (some ⟨g4, 0, none⟩)]) ?_
  refine qV qM 1 38 (.pointer (some ⟨g5, 2, none⟩)) ?_
  refine qE qM 2 39 3 2 ?_
  refine qH qM 3 40 (.pointer (some ⟨g3, (OF (j * 16 + 2)), none⟩)) (fun w _ => (run_ix1 131 16 84 Tryz.underlying131 inz84 _ _ rfl g3 (by kernel_rfl) .u8 (OF (j * 16 + 2)) (by kernel_rfl) (OF_lt _)) w) ?_
  refine qC qM 4 41 g3 (OF (j * 16 + 2)) (.int .u32 ((wo rs n) (OF (j * 16 + 2)))) (fun w M => M.cell 2 rfl (OF_lt _) rfl) ?_
  refine qV qM 5 42 (.pointer (some ⟨g5, 3, none⟩)) ?_
  refine qE qM 6 43 3 3 ?_
  refine qH qM 7 44 (.pointer (some ⟨g3, (OF (j * 16 + 3)), none⟩)) (fun w _ => (run_ix1 131 16 84 Tryz.underlying131 inz84 _ _ rfl g3 (by kernel_rfl) .u8 (OF (j * 16 + 3)) (by kernel_rfl) (OF_lt _)) w) ?_
  refine qC qM 8 45 g3 (OF (j * 16 + 3)) (.int .u32 ((wo rs n) (OF (j * 16 + 3)))) (fun w M => M.cell 2 rfl (OF_lt _) rfl) ?_
  refine qO 9 ?_
  refine ZM M 46 (fun g7 => .slice (some ⟨g7, 0, none⟩) 4 4) (.cells (av 4 (wi (r4 1 5 9 13))) 3) fun g7 u15 M => ?_
  replace M := M.nf
  refine nT ?_
  refine ⟨(M.drop (.cons_cons _ (.cons_cons _ (.cons_cons _ (.cons _ (.cons_cons _ (.cons_cons _ (.cons _ (.slnil))))))))), ?_⟩
  refine qZ ?_
  refine ZY M 47 3 (.tuple #[]) (.cells (av 16 (w32 (rn2 (wo rs n) (rd (wo rs n) (spr x ct last) j) j))) 131) (fun w M => c_mix (rn1 (wo rs n) (rd (wo rs n) (spr x ct last) j) j) _ _ 1 5 9 13 (by decide) (by decide) (by decide) (by decide) g4 g7 w M.laid (M.get 3 rfl) (M.ne0 3 rfl) (nodup_at M.nodup (i := 6) (j := 3) rfl rfl (by decide)) (M.cell 6 rfl (by decide) rfl) (M.cell 6 rfl (by decide) rfl) (M.cell 6 rfl (by decide) rfl) (M.cell 6 rfl (by decide) rfl)) fun u16 M => ?_
  replace M := M.nf
  refine nT <| au_then <| wp_seq ?_
  refine rgh M [⟨g1, .cells (av 8 (w32 x)) 203⟩, ⟨g2, .cells (av 8 (w32 (fun _ => 0))) 203⟩, ⟨g3, .cells (av 16 (w32 (wo rs n))) 131⟩, ⟨g5, .cells (av 16 (ow j)) 228⟩, ⟨g6, .cells (av 4 (wi (r4 0 4 8 12))) 3⟩, ⟨g7, .cells (av 4 (wi (r4 1 5 9 13))) 3⟩] 10 fun u17 M => ?_
  replace M := M.nf
  have qM := M.drop (.cons_cons _ (.cons_cons _ (.cons_cons _ (.cons _ (.cons_cons _ (.cons_cons _ (.cons_cons _ (.slnil))))))))
  refine qV qM 0 48 (.func (.func 169) #[] #[.pointer (some ⟨g4, 0, none⟩)]) ?_
  refine qV qM 1 49 (.pointer (some ⟨g5, 4, none⟩)) ?_
  refine qE qM 2 50 3 4 ?_
  refine qH qM 3 51 (.pointer (some ⟨g3, (OF (j * 16 + 4)), none⟩)) (fun w _ => (run_ix1 131 16 84 Tryz.underlying131 inz84 _ _ rfl g3 (by kernel_rfl) .u8 (OF (j * 16 + 4)) (by kernel_rfl) (OF_lt _)) w) ?_
  refine qC qM 4 52 g3 (OF (j * 16 + 4)) (.int .u32 ((wo rs n) (OF (j * 16 + 4)))) (fun w M => M.cell 2 rfl (OF_lt _) rfl) ?_
  refine qV qM 5 53 (.pointer (some ⟨g5, 5, none⟩)) ?_
  refine qE qM 6 54 3 5 ?_
  refine qH qM 7 55 (.pointer (some ⟨g3, (OF (j * 16 + 5)), none⟩)) (fun w _ => (run_ix1 131 16 84 Tryz.underlying131 inz84 _ _ rfl g3 (by kernel_rfl) .u8 (OF (j * 16 + 5)) (by kernel_rfl) (OF_lt _)) w) ?_
  refine qC qM 8 56 g3 (OF (j * 16 + 5)) (.int .u32 ((wo rs n) (OF (j * 16 + 5)))) (fun w M => M.cell 2 rfl (OF_lt _) rfl) ?_
  refine qO 9 ?_
  refine ZM M 57 (fun g8 => .slice (some ⟨g8, 0, none⟩) 4 4) (.cells (av 4 (wi (r4 2 6 10 14))) 3) fun g8 u18 M => ?_
  replace M := M.nf
  refine nT ?_
  refine ⟨(M.drop (.cons_cons _ (.cons_cons _ (.cons_cons _ (.cons _ (.cons_cons _ (.cons_cons _ (.cons_cons _ (.cons _ (.slnil)))))))))), ?_⟩
  refine qZ ?_
  refine ZY M 58 3 (.tuple #[]) (.cells (av 16 (w32 (rn3 (wo rs n) (rd (wo rs n) (spr x ct last) j) j))) 131) (fun w M => c_mix (rn2 (wo rs n) (rd (wo rs n) (spr x ct last) j) j) _ _ 2 6 10 14 (by decide) (by decide) (by decide) (by decide) g4 g8 w M.laid (M.get 3 rfl) (M.ne0 3 rfl) (nodup_at M.nodup (i := 7) (j := 3) rfl rfl (by decide)) (M.cell 7 rfl (by decide) rfl) (M.cell 7 rfl (by decide) rfl) (M.cell 7 rfl (by decide) rfl) (M.cell 7 rfl (by decide) rfl)) fun u19 M => ?_
  replace M := M.nf
  refine nT <| au_then <| wp_seq ?_
  refine rgh M [⟨g1, .cells (av 8 (w32 x)) 203⟩, ⟨g2, .cells (av 8 (w32 (fun _ => 0))) 203⟩, ⟨g3, .cells (av 16 (w32 (wo rs n))) 131⟩, ⟨g5, .cells (av 16 (ow j)) 228⟩, ⟨g6, .cells (av 4 (wi (r4 0 4 8 12))) 3⟩, ⟨g7, .cells (av 4 (wi (r4 1 5 9 13))) 3⟩, ⟨g8, .cells (av 4 (wi (r4 2 6 10 14))) 3⟩] 10 fun u20 M => ?_
  replace M := M.nf
  have qM := M.drop (.cons_cons _ (.cons_cons _ (.cons_cons _ (.cons _ (.cons_cons _ (.cons_cons _ (.cons_cons _ (.cons_cons _ (.slnil)))))))))
  refine qV qM 0 59 (.func (.func 169) #[] #[.pointer (some ⟨g4, 0, none⟩)]) ?_
  refine qV qM 1 60 (.pointer (some ⟨g5, 6, none⟩)) ?_
  refine qE qM 2 61 3 6 ?_
  refine qH qM 3 62 (.pointer (some ⟨g3, (OF (j * 16 + 6)), none⟩)) (fun w _ => (run_ix1 131 16 84 Tryz.underlying131 inz84 _ _ rfl g3 (by kernel_rfl) .u8 (OF (j * 16 + 6)) (by kernel_rfl) (OF_lt _)) w) ?_
  refine qC qM 4 63 g3 (OF (j * 16 + 6)) (.int .u32 ((wo rs n) (OF (j * 16 + 6)))) (fun w M => M.cell 2 rfl (OF_lt _) rfl) ?_
  refine qV qM 5 64 (.pointer (some ⟨g5, 7, none⟩)) ?_
  refine qE qM 6 65 3 7 ?_
  refine qH qM 7 66 (.pointer (some ⟨g3, (OF (j * 16 + 7)), none⟩)) (fun w _ => (run_ix1 131 16 84 Tryz.underlying131 inz84 _ _ rfl g3 (by kernel_rfl) .u8 (OF (j * 16 + 7)) (by kernel_rfl) (OF_lt _)) w) ?_
  refine qC qM 8 67 g3 (OF (j * 16 + 7)) (.int .u32 ((wo rs n) (OF (j * 16 + 7)))) (fun w M => M.cell 2 rfl (OF_lt _) rfl) ?_
  refine qO 9 ?_
  refine ZM M 68 (fun g9 => .slice (some ⟨g9, 0, none⟩) 4 4) (.cells (av 4 (wi (r4 3 7 11 15))) 3) fun g9 u21 M => ?_
  replace M := M.nf
  refine nT ?_
  refine ⟨(M.drop (.cons_cons _ (.cons_cons _ (.cons_cons _ (.cons _ (.cons_cons _ (.cons_cons _ (.cons_cons _ (.cons_cons _ (.cons _ (.slnil))))))))))), ?_⟩
  refine qZ ?_
  refine ZY M 69 3 (.tuple #[]) (.cells (av 16 (w32 (rn4 (wo rs n) (rd (wo rs n) (spr x ct last) j) j))) 131) (fun w M => c_mix (rn3 (wo rs n) (rd (wo rs n) (spr x ct last) j) j) _ _ 3 7 11 15 (by decide) (by decide) (by decide) (by decide) g4 g9 w M.laid (M.get 3 rfl) (M.ne0 3 rfl) (nodup_at M.nodup (i := 8) (j := 3) rfl rfl (by decide)) (M.cell 8 rfl (by decide) rfl) (M.cell 8 rfl (by decide) rfl) (M.cell 8 rfl (by decide) rfl) (M.cell 8 rfl (by decide) rfl)) fun u22 M => ?_
  replace M := M.nf
  refine nT <| au_then <| wp_seq ?_
  refine rgh M [⟨g1, .cells (av 8 (w32 x)) 203⟩, ⟨g2, .cells (av 8 (w32 (fun _ => 0))) 203⟩, ⟨g3, .cells (av 16 (w32 (wo rs n))) 131⟩, ⟨g5, .cells (av 16 (ow j)) 228⟩, ⟨g6, .cells (av 4 (wi (r4 0 4 8 12))) 3⟩, ⟨g7, .cells (av 4 (wi (r4 1 5 9 13))) 3⟩, ⟨g8, .cells (av 4 (wi (r4 2 6 10 14))) 3⟩, ⟨g9, .cells (av 4 (wi (r4 3 7 11 15))) 3⟩] 10 fun u23 M => ?_
  replace M := M.nf
  have qM := M.drop (.cons_cons _ (.cons_cons _ (.cons_cons _ (.cons _ (.cons_cons _ (.cons_cons _ (.cons_cons _ (.cons_cons _ (.cons_cons _ (.slnil))))))))))
  refine qV qM 0 70 (.func (.func 169) #[] #[.pointer (some ⟨g4, 0, none⟩)]) ?_
  refine qV qM 1 71 (.pointer (some ⟨g5, 8, none⟩)) ?_
  refine qE qM 2 72 3 8 ?_
  refine qH qM 3 73 (.pointer (some ⟨g3, (OF (j * 16 + 8)), none⟩)) (fun w _ => (run_ix1 131 16 84 Tryz.underlying131 inz84 _ _ rfl g3 (by kernel_rfl) .u8 (OF (j * 16 + 8)) (by kernel_rfl) (OF_lt _)) w) ?_
  refine qC qM 4 74 g3 (OF (j * 16 + 8)) (.int .u32 ((wo rs n) (OF (j * 16 + 8)))) (fun w M => M.cell 2 rfl (OF_lt _) rfl) ?_
  refine qV qM 5 75 (.pointer (some ⟨g5, 9, none⟩)) ?_
  refine qE qM 6 76 3 9 ?_
  refine qH qM 7 77 (.pointer (some ⟨g3, (OF (j * 16 + 9)), none⟩)) (fun w _ => (run_ix1 131 16 84 Tryz.underlying131 inz84 _ _ rfl g3 (by kernel_rfl) .u8 (OF (j * 16 + 9)) (by kernel_rfl) (OF_lt _)) w) ?_
  refine qC qM 8 78 g3 (OF (j * 16 + 9)) (.int .u32 ((wo rs n) (OF (j * 16 + 9)))) (fun w M => M.cell 2 rfl (OF_lt _) rfl) ?_
  refine qO 9 ?_
  refine ZM M 79 (fun g10 => .slice (some ⟨g10, 0, none⟩) 4 4) (.cells (av 4 (wi (r4 0 5 10 15))) 3) fun g10 u24 M => ?_
  replace M := M.nf
  refine nT ?_
  refine ⟨(M.drop (.cons_cons _ (.cons_cons _ (.cons_cons _ (.cons _ (.cons_cons _ (.cons_cons _ (.cons_cons _ (.cons_cons _ (.cons_cons _ (.cons _ (.slnil)))))))))))), ?_⟩
  refine qZ ?_
  refine ZY M 80 3 (.tuple #[]) (.cells (av 16 (w32 (rn5 (wo rs n) (rd (wo rs n) (spr x ct last) j) j))) 131) (fun w M => c_mix (rn4 (wo rs n) (rd (wo rs n) (spr x ct last) j) j) _ _ 0 5 10 15 (by decide) (by decide) (by decide) (by decide) g4 g10 w M.laid (M.get 3 rfl) (M.ne0 3 rfl) (nodup_at M.nodup (i := 9) (j := 3) rfl rfl (by decide)) (M.cell 9 rfl (by decide) rfl) (M.cell 9 rfl (by decide) rfl) (M.cell 9 rfl (by decide) rfl) (M.cell 9 rfl (by decide) rfl)) fun u25 M => ?_
  replace M := M.nf
  refine nT <| au_then <| wp_seq ?_
  refine rgh M [⟨g1, .cells (av 8 (w32 x)) 203⟩, ⟨g2, .cells (av 8 (w32 (fun _ => 0))) 203⟩, ⟨g3, .cells (av 16 (w32 (wo rs n))) 131⟩, ⟨g5, .cells (av 16 (ow j)) 228⟩, ⟨g6, .cells (av 4 (wi (r4 0 4 8 12))) 3⟩, ⟨g7, .cells (av 4 (wi (r4 1 5 9 13))) 3⟩, ⟨g8, .cells (av 4 (wi (r4 2 6 10 14))) 3⟩, ⟨g9, .cells (av 4 (wi (r4 3 7 11 15))) 3⟩, ⟨g10, .cells (av 4 (wi (r4 0 5 10 15))) 3⟩] 10 fun u26 M => ?_
  replace M := M.nf
  have qM := M.drop (.cons_cons _ (.cons_cons _ (.cons_cons _ (.cons _ (.cons_cons _ (.cons_cons _ (.cons_cons _ (.cons_cons _ (.cons_cons _ (.cons_cons _ (.slnil)))))))))))
  refine qV qM 0 81 (.func (.func 169) #[] #[.pointer (some ⟨g4, 0, none⟩)]) ?_
  refine qV qM 1 82 (.pointer (some ⟨g5, 10, none⟩)) ?_
  refine qE qM 2 83 3 10 ?_
  refine qH qM 3 84 (.pointer (some ⟨g3, (OF (j * 16 + 10)), none⟩)) (fun w _ => (run_ix1 131 16 84 Tryz.underlying131 inz84 _ _ rfl g3 (by kernel_rfl) .u8 (OF (j * 16 + 10)) (by kernel_rfl) (OF_lt _)) w) ?_
  refine qC qM 4 85 g3 (OF (j * 16 + 10)) (.int .u32 ((wo rs n) (OF (j * 16 + 10)))) (fun w M => M.cell 2 rfl (OF_lt _) rfl) ?_
  refine qV qM 5 86 (.pointer (some ⟨g5, 11, none⟩)) ?_
  refine qE qM 6 87 3 11 ?_
  refine qH qM 7 88 (.pointer (some ⟨g3, (OF (j * 16 + 11)), none⟩)) (fun w _ => (run_ix1 131 16 84 Tryz.underlying131 inz84 _ _ rfl g3 (by kernel_rfl) .u8 (OF (j * 16 + 11)) (by kernel_rfl) (OF_lt _)) w) ?_
  refine qC qM 8 89 g3 (OF (j * 16 + 11)) (.int .u32 ((wo rs n) (OF (j * 16 + 11)))) (fun w M => M.cell 2 rfl (OF_lt _) rfl) ?_
  refine qO 9 ?_
  refine ZM M 90 (fun g11 => .slice (some ⟨g11, 0, none⟩) 4 4) (.cells (av 4 (wi (r4 1 6 11 12))) 3) fun g11 u27 M => ?_
  replace M := M.nf
  refine nT ?_
  refine ⟨(M.drop (.cons_cons _ (.cons_cons _ (.cons_cons _ (.cons _ (.cons_cons _ (.cons_cons _ (.cons_cons _ (.cons_cons _ (.cons_cons _ (.cons_cons _ (.cons _ (.slnil))))))))))))), ?_⟩
  refine qZ ?_
  refine ZY M 91 3 (.tuple #[]) (.cells (av 16 (w32 (rn6 (wo rs n) (rd (wo rs n) (spr x ct last) j) j))) 131) (fun w M => c_mix (rn5 (wo rs n) (rd (wo rs n) (spr x ct last) j) j) _ _ 1 6 11 12 (by decide) (by decide) (by decide) (by decide) g4 g11 w M.laid (M.get 3 rfl) (M.ne0 3 rfl) (nodup_at M.nodup (i := 10) (j := 3) rfl rfl (by decide)) (M.cell 10 rfl (by decide) rfl) (M.cell 10 rfl (by decide) rfl) (M.cell 10 rfl (by decide) rfl) (M.cell 10 rfl (by decide) rfl)) fun u28 M => ?_
  replace M := M.nf
  refine nT <| au_then <| wp_seq ?_
  refine rgh M [⟨g1, .cells (av 8 (w32 x)) 203⟩, ⟨g2, .cells (av 8 (w32 (fun _ => 0))) 203⟩, ⟨g3, .cells (av 16 (w32 (wo rs n))) 131⟩, ⟨g5, .cells (av 16 (ow j)) 228⟩, ⟨g6, .cells (av 4 (wi (r4 0 4 8 12))) 3⟩, ⟨g7, .cells (av 4 (wi (r4 1 5 9 13))) 3⟩, ⟨g8, .cells (av 4 (wi (r4 2 6 10 14))) 3⟩, ⟨g9, .cells (av 4 (wi (r4 3 7 11 15))) 3⟩, ⟨g10, .cells (av 4 (wi (r4 0 5 10 15))) 3⟩, ⟨g11, .cells (av 4 (wi (r4 1 6 11 12))) 3⟩] 10 fun u29 M => ?_
  replace M := M.nf
  have qM := M.drop (.cons_cons _ (.cons_cons _ (.cons_cons _ (.cons _ (.cons_cons _ (.cons_cons _ (.cons_cons _ (.cons_cons _ (.cons_cons _ (.cons_cons _ (.cons_cons _ (.slnil))))))))))))
  refine qV qM 0 92 (.func (.func 169) #[] #[.pointer (some ⟨g4, 0, none⟩)]) ?_
  refine qV qM 1 93 (.pointer (some ⟨g5, 12, none⟩)) ?_
  refine qE qM 2 94 3 12 ?_
  refine qH qM 3 95 (.pointer (some ⟨g3, (OF (j * 16 + 12)), none⟩)) (fun w _ => (run_ix1 131 16 84 Tryz.underlying131 inz84 _ _ rfl g3 (by kernel_rfl) .u8 (OF (j * 16 + 12)) (by kernel_rfl) (OF_lt _)) w) ?_
  refine qC qM 4 96 g3 (OF (j * 16 + 12)) (.int .u32 ((wo rs n) (OF (j * 16 + 12)))) (fun w M => M.cell 2 rfl (OF_lt _) rfl) ?_
  refine qV qM 5 97 (.pointer (some ⟨g5, 13, none⟩)) ?_
  refine qE qM 6 98 3 13 ?_
  refine qH qM 7 99 (.pointer (some ⟨g3, (OF (j * 16 + 13)), none⟩)) (fun w _ => (run_ix1 131 16 84 Tryz.underlying131 inz84 _ _ rfl g3 (by kernel_rfl) .u8 (OF (j * 16 + 13)) (by kernel_rfl) (OF_lt _)) w) ?_
  refine qC qM 8 100 g3 (OF (j * 16 + 13)) (.int .u32 ((wo rs n) (OF (j * 16 + 13)))) (fun w M => M.cell 2 rfl (OF_lt _) rfl) ?_
  refine qO 9 ?_
  refine ZM M 101 (fun g12 => .slice (some ⟨g12, 0, none⟩) 4 4) (.cells (av 4 (wi (r4 2 7 8 13))) 3) fun g12 u30 M => ?_
  replace M := M.nf
  refine nT ?_
  refine ⟨(M.drop (.cons_cons _ (.cons_cons _ (.cons_cons _ (.cons _ (.cons_cons _ (.cons_cons _ (.cons_cons _ (.cons_cons _ (.cons_cons _ (.cons_cons _ (.cons_cons _ (.cons _ (.slnil)))))))))))))), ?_⟩
  refine qZ ?_
  refine ZY M 102 3 (.tuple #[]) (.cells (av 16 (w32 (rn7 (wo rs n) (rd (wo rs n) (spr x ct last) j) j))) 131) (fun w M => c_mix (rn6 (wo rs n) (rd (wo rs n) (spr x ct last) j) j) _ _ 2 7 8 13 (by decide) (by decide) (by decide) (by decide) g4 g12 w M.laid (M.get 3 rfl) (M.ne0 3 rfl) (nodup_at M.nodup (i := 11) (j := 3) rfl rfl (by decide)) (M.cell 11 rfl (by decide) rfl) (M.cell 11 rfl (by decide) rfl) (M.cell 11 rfl (by decide) rfl) (M.cell 11 rfl (by decide) rfl)) fun u31 M => ?_
  replace M := M.nf
  refine nT <| au_then ?_
  refine rgh M [⟨g1, .cells (av 8 (w32 x)) 203⟩, ⟨g2, .cells (av 8 (w32 (fun _ => 0))) 203⟩, ⟨g3, .cells (av 16 (w32 (wo rs n))) 131⟩, ⟨g5, .cells (av 16 (ow j)) 228⟩, ⟨g6, .cells (av 4 (wi (r4 0 4 8 12))) 3⟩, ⟨g7, .cells (av 4 (wi (r4 1 5 9 13))) 3⟩, ⟨g8, .cells (av 4 (wi (r4 2 6 10 14))) 3⟩, ⟨g9, .cells (av 4 (wi (r4 3 7 11 15))) 3⟩, ⟨g10, .cells (av 4 (wi (r4 0 5 10 15))) 3⟩, ⟨g11, .cells (av 4 (wi (r4 1 6 11 12))) 3⟩, ⟨g12, .cells (av 4 (wi (r4 2 7 8 13))) 3⟩] 10 fun u32 M => ?_
  replace M := M.nf
  have qM := M.drop (.cons_cons _ (.cons_cons _ (.cons_cons _ (.cons _ (.cons_cons _ (.cons_cons _ (.cons_cons _ (.cons_cons _ (.cons_cons _ (.cons_cons _ (.cons_cons _ (.cons_cons _ (.slnil)))))))))))))
  refine qV qM 0 103 (.func (.func 169) #[] #[.pointer (some ⟨g4, 0, none⟩)]) ?_
  refine qV qM 1 104 (.pointer (some ⟨g5, 14, none⟩)) ?_
  refine qE qM 2 105 3 14 ?_
  refine qH qM 3 106 (.pointer (some ⟨g3, (OF (j * 16 + 14)), none⟩)) (fun w _ => (run_ix1 131 16 84 Tryz.underlying131 inz84 _ _ rfl g3 (by kernel_rfl) .u8 (OF (j * 16 + 14)) (by kernel_rfl) (OF_lt _)) w) ?_
  refine qC qM 4 107 g3 (OF (j * 16 + 14)) (.int .u32 ((wo rs n) (OF (j * 16 + 14)))) (fun w M => M.cell 2 rfl (OF_lt _) rfl) ?_
  refine qV qM 5 108 (.pointer (some ⟨g5, 15, none⟩)) ?_
  refine qE qM 6 109 3 15 ?_
  refine qH qM 7 110 (.pointer (some ⟨g3, (OF (j * 16 + 15)), none⟩)) (fun w _ => (run_ix1 131 16 84 Tryz.underlying131 inz84 _ _ rfl g3 (by kernel_rfl) .u8 (OF (j * 16 + 15)) (by kernel_rfl) (OF_lt _)) w) ?_
  refine qC qM 8 111 g3 (OF (j * 16 + 15)) (.int .u32 ((wo rs n) (OF (j * 16 + 15)))) (fun w M => M.cell 2 rfl (OF_lt _) rfl) ?_
  refine qO 9 ?_
  refine ZM M 112 (fun g13 => .slice (some ⟨g13, 0, none⟩) 4 4) (.cells (av 4 (wi (r4 3 4 9 14))) 3) fun g13 u33 M => ?_
  replace M := M.nf
  refine nT ?_
  refine ⟨(M.drop (.cons_cons _ (.cons_cons _ (.cons_cons _ (.cons _ (.cons_cons _ (.cons_cons _ (.cons_cons _ (.cons_cons _ (.cons_cons _ (.cons_cons _ (.cons_cons _ (.cons_cons _ (.cons _ (.slnil))))))))))))))), ?_⟩
  refine qZ ?_
  refine ZY M 113 3 (.tuple #[]) (.cells (av 16 (w32 (rn8 (wo rs n) (rd (wo rs n) (spr x ct last) j) j))) 131) (fun w M => c_mix (rn7 (wo rs n) (rd (wo rs n) (spr x ct last) j) j) _ _ 3 4 9 14 (by decide) (by decide) (by decide) (by decide) g4 g13 w M.laid (M.get 3 rfl) (M.ne0 3 rfl) (nodup_at M.nodup (i := 12) (j := 3) rfl rfl (by decide)) (M.cell 12 rfl (by decide) rfl) (M.cell 12 rfl (by decide) rfl) (M.cell 12 rfl (by decide) rfl) (M.cell 12 rfl (by decide) rfl)) fun u34 M => ?_
  replace M := M.nf
  refine nT ?_
  refine au_block ?_
  refine au_then ?_
  refine rg_lit ?_
  refine ZI 114 ((j : Int) + 1) ((j + 1 : Nat) : Int) ?_
  refine rV 1 <| nT ?_
  exact exS (M.drop (.cons_cons _ (.cons_cons _ (.cons_cons _ (.cons_cons _ (.cons _ (.cons _ (.cons _ (.cons _ (.cons _ (.cons _ (.cons _ (.cons _ (.cons _ (.slnil)))))))))))))))
 ·intro a u0 hI
  obtain ⟨v1, rfl, M⟩ := hI
  refine sR ?_
  refine ZF 24 (10 < 10) ?_
  refine nT <| wp_seq <| cF ?_
  refine wp_exit ?_
  refine au_then_exit ?_
  refine au_then_exit ?_
  refine au_block_exit ?_
  refine au_then <| wp_seq <| sq ?_
  refine wp_block ?_
  refine au_loop (fun j a w' => ∃ v2 : NV, a = (fm ([.agg (av 8 (w32 x)), .slice (some ⟨g, 0, none⟩) n cap, .int .u64 ct, .bool (last), .pointer (some ⟨g1, 0, none⟩)] ++ vr v2 5 3 ++ [.pointer (some ⟨g2, 0, none⟩), .pointer (some ⟨g3, 0, none⟩), .pointer (some ⟨g4, 0, none⟩), .func (.func 169) #[] #[.pointer (some ⟨g4, 0, none⟩)]] ++ vr v2 12 10 ++ [.agg (av 160 (w8 fun i => (OF i : Int))), .int .i64 (10 : Int)] ++ vr v2 24 91 ++ [.int .i64 (j : Int)] ++ vr v2 116 17)) ∧ Mem ⟨w, []⟩ [⟨g1, .cells (av 8 (w32 (ad x (rd (wo rs n) (spr x ct last) 10) j))) 203⟩, ⟨g2, .cells (av 8 (w32 (fun _ => 0))) 203⟩, ⟨g3, .cells (av 16 (w32 (wo rs n))) 131⟩, ⟨g4, .cells (av 16 (w32 (rd (wo rs n) (spr x ct last) 10))) 131⟩] w') 8 (exS M) ?_ ?_
  ·intro j a u0 hj hI
   obtain ⟨v2, rfl, M⟩ := hI
   refine sR ?_
   refine ZT 116 ((j : Int) < 8) ?_
   refine nT <| wp_seq <| cT <| wp_skip <| au_then ?_
   refine wp_seq ?_
   refine wp_block ?_
   refine sq ?_
   refine rg_tail M 13 (by kernel_rfl) (by kernel_rfl) ?_
   simp only [List.take_succ_cons, List.take_zero]
   refine kR 1 ?_
   refine eX 119 .i64 g1 (j) 8 ?_
   refine eE M 120 0 j ?_
   refine kR 1 ?_
   refine eX 122 .i64 g4 (j) 16 ?_
   refine eE M 123 3 j ?_
   refine kR 1 ?_
   refine eI 125 (8 + (j : Int)) ((8 + j : Nat) : Int) ?_
   refine eX 126 .i64 g4 ((8 + j : Nat)) 16 ?_
   refine eE M 127 3 ((8 + j : Nat)) ?_
   refine kR 2 ?_
   refine eX 130 .i64 g1 (j) 8 ?_
   refine kl_nil fun u35 M => ?_
   replace M := M.nf
   refine ZP32 M 0 j (vx ((ad x (rd (wo rs n) (spr x ct last) 10) j) j) (vx ((rd (wo rs n) (spr x ct last) 10) j) ((rd (wo rs n) (spr x ct last) 10) ((8 + j : Nat))))) fun u36 M => ?_
   replace M := M.nf
   refine pl_nil ?_
   refine au_block ?_
   refine au_then ?_
   refine rg_lit ?_
   refine ZI 131 ((j : Int) + 1) ((j + 1 : Nat) : Int) ?_
   refine rV 1 <| nT ?_
   exact exS M
  ·intro a u0 hI
   obtain ⟨v2, rfl, M⟩ := hI
   refine sR ?_
   refine ZF 116 (8 < 8) ?_
   refine nT <| wp_seq <| cF ?_
   refine wp_exit ?_
   refine au_then_exit ?_
   refine au_then_exit ?_
   refine au_block_exit ?_
   refine au_then <| sR ?_
   refine pA M 132 0 8 (w32 (ad x (rd (wo rs n) (spr x ct last) 10) 8)) ?_
   refine ZG M 1 8 (w32 (ad x (rd (wo rs n) (spr x ct last) 10) 8)) fun u37 M => ?_
   replace M := M.nf
   refine nT <| wp_ret ?_
   refine bodyPost_ret (v := .agg (av 8 (w32 (mixV x rs n ct last)))) (Eq.trans (b := .ok (.agg (av 8 (w32 (ad x (rd (wo rs n) (spr x ct last) 10) 8)))) _) (results_cell_row Tryz.results144 _ _ g2 203 (av 8 (w32 (ad x (rd (wo rs n) (spr x ct last) 10) 8))) (0, 0) _ (by kernel_rfl) (M.get 1 rfl) Tryz.underlying203 rfl (by rw [av_size]; exact inz203)) (by rw [ad_av]; rfl)) (by kernel_rfl) ⟨rfl, below_grown M.old⟩
open Go.RowKit
def hF (sz : Int) (ws : NI) (gw n : Nat) (ct : Int) : Nat → Value := fun i => if i = 0 then .int .i64 sz else if i < 9 then .int .u32 (ws (i - 1)) else if i = 9 then .slice (some ⟨gw, 0, none⟩) n 64 else .int .u64 ct
theorem hF_words (sz : Int) (ws : NI) (gw n : Nat) (ct : Int) : ∀ j, j < 8 → hF sz ws gw n ct (1 + j) = w32 ws j := fun j hj => by
 unfold hF w32
 rw [if_neg (by omega), if_pos (by omega), show 1 + j - 1 = j by omega]
theorem hF_ext {sz' : Int} {ws' : NI} {gw n' : Nat} {ct' : Int} (F : NV) (h0 : F 0 = .int .i64 sz') (hw : ∀ j, j < 8 → F (1 + j) = .int .u32 (ws' j)) (h9 : F 9 = .slice (some ⟨gw, 0, none⟩) n' 64) (h10 : F 10 = .int .u64 ct') : ∀ j, j < 11 → F j = hF sz' ws' gw n' ct' j := fun j hj => by
 unfold hF
 by_cases e0 : j = 0
 ·subst e0
  rw [h0, if_pos rfl]
 ·rw [if_neg e0]
  by_cases e8 : j < 9
  ·have := hw (j - 1) (by omega)
   rw [show 1 + (j - 1) = j by omega] at this
   rw [if_pos e8, this]
  ·rw [if_neg e8]
   by_cases e9 : j = 9
   ·subst e9
    rw [if_pos rfl, h9]
   ·have e10 : j = 10 := by omega
    subst e10
    rw [if_neg e9, h10]
theorem hF_putw (sz : Int) (ws : NI) (gw n : Nat) (ct : Int) (f : NI) : ∀ j, j < 11 → (if 1 ≤ j ∧ j < 1 + 8 then w32 f (j - 1) else hF sz ws gw n ct j) = hF sz f gw n ct j :=
 hF_ext (fun j => if 1 ≤ j ∧ j < 1 + 8 then w32 f (j - 1) else hF sz ws gw n ct j) rfl (fun j hj => by
  show (if 1 ≤ 1 + j ∧ 1 + j < 1 + 8 then w32 f (1 + j - 1) else _) = _
  rw [if_pos (by omega), show 1 + j - 1 = j by omega]
  rfl) rfl rfl
theorem hF_put1 (sz : Int) (ws : NI) (gw n : Nat) (ct : Int) (v : Int) : ∀ j, j < 11 → (if j = 1 then .int .u32 v else hF sz ws gw n ct j) = hF sz (upd ws 0 v) gw n ct j :=
 hF_ext (fun j => if j = 1 then .int .u32 v else hF sz ws gw n ct j) rfl (fun j hj => by
  show (if 1 + j = 1 then _ else hF sz ws gw n ct (1 + j)) = _
  unfold upd
  by_cases e : j = 0
  ·subst e
   rfl
  ·rw [if_neg (by omega), if_neg e, hF_words sz ws gw n ct j hj]
   rfl) rfl rfl
theorem hF_putc (sz : Int) (ws : NI) (gw n : Nat) (ct : Int) (c' : Int) : ∀ j, j < 11 → (if j = 10 then .int .u64 c' else hF sz ws gw n ct j) = hF sz ws gw n c' j :=
 hF_ext (fun j => if j = 10 then .int .u64 c' else hF sz ws gw n ct j) rfl (fun j hj => by
  show (if 1 + j = 10 then _ else hF sz ws gw n ct (1 + j)) = _
  rw [if_neg (by omega), hF_words sz ws gw n ct j hj]
  rfl) rfl rfl
theorem hF_puts (sz : Int) (ws : NI) (gw n : Nat) (ct : Int) (n' : Nat) : ∀ j, j < 11 → (if j = 9 then .slice (some ⟨gw, 0, none⟩) n' 64 else hF sz ws gw n ct j) = hF sz ws gw n' ct j :=
 hF_ext (fun j => if j = 9 then .slice (some ⟨gw, 0, none⟩) n' 64 else hF sz ws gw n ct j) rfl (fun j hj => by
  show (if 1 + j = 9 then _ else hF sz ws gw n ct (1 + j)) = _
  rw [if_neg (by omega), hF_words sz ws gw n ct j hj]
  rfl) rfl rfl
def lf (l : List Int) : Nat → Int := fun i => l.getD i 0
theorem vs8_cell (l : List Int) (i : Nat) (h : i < l.length) : (vs8 l)[i]? = some (.int .u8 (lf l i)) := by
 unfold vs8 lf
 rw [List.getElem?_map, List.getD_eq_getElem?_getD, List.getElem?_eq_getElem h]
 rfl
theorem byte_vs8 (s : Yb) : byteCells s = vs8 (sb s) := by
 unfold byteCells vs8 sb
 rw [List.map_map]
 rfl
theorem vs8_append (l m : List Int) : vs8 l ++ vs8 m = vs8 (l ++ m) := by simp [vs8]
theorem cv8_nn (x : Int) : 0 ≤ cv .u8 x ∧ cv .u8 x < 256 := by
 unfold cv
 simp [IntKind.wrap, IntKind.signed, IntKind.bits]
 omega
def lo4 (x : Int) : List Int := [cv .u8 x, cv .u8 (sr x 8), cv .u8 (sr x 16), cv .u8 (sr x 24)]
def loI (f : NI) : Nat → List Int
 | 0 => []
 | j + 1 => loI f j ++ lo4 (f j)
theorem loI_length (f : NI) : ∀ j, (loI f j).length = 4 * j
 | 0 => rfl
 | j + 1 => by
  unfold loI
  rw [List.length_append, loI_length f j]
  simp [lo4]
  omega
theorem loI_nn (f : NI) : ∀ j, ∀ x ∈ loI f j, 0 ≤ x ∧ x < 256
 | 0, x, h => by simp [loI] at h
 | j + 1, x, h => by
  unfold loI at h
  rcases List.mem_append.1 h with h | h
  ·exact loI_nn f j x h
  ·simp only [lo4, List.mem_cons, List.not_mem_nil, or_false] at h
   rcases h with rfl | rfl | rfl | rfl <;> exact cv8_nn _
theorem src4 {c : Ctx} {L : List Blk} {w : World} (M : Mem c L w) (i gx Tx : Nat) (a b d e : Int) (hi : L[i]? = some ⟨gx, .cells (av 4 (w8 (r4 a b d e))) Tx⟩) : Src Tryz.prog 1 44 (.slice (some ⟨gx, 0, none⟩) 4 4) 4 (vs8 [a, b, d, e]) w :=
 Src.ofSlice w Tryz.underlying44 ⟨gx, 0, none⟩ 4 4 _ rfl (fun j u hu => by
  rw [add_at, Nat.zero_add]
  have hj : j < 4 := by
   have := (List.getElem?_eq_some_iff.1 hu).1
   simpa [vs8] using this
  rw [cell_av (M.get i hi) hj, ← hu]
  rcases j with _ | _ | _ | _ | j
  ·rfl
  ·rfl
  ·rfl
  ·rfl
  ·omega) (fun u hu => by
  obtain ⟨x, _, rfl⟩ := List.mem_map.1 hu
  rfl)
theorem info5_ex : (Tryz.prog.info? 5).isSome = true := by kernel_rfl
theorem info5_eq : Tryz.prog.info? 5 = some ((Tryz.prog.info? 5).get info5_ex) := (Option.some_get info5_ex).symm
theorem info5_z : ((Tryz.prog.info? 5).get info5_ex).zero = some (.int .u8 0) := by kernel_rfl
theorem c_low (f : NI) (w : World) (hL : Laid w)  : Cs 145 #[.agg (av 8 (w32 f))] w (.string (bs (loI f 8))) := by
 go_enter Tryz.func145, Tryz.ntmps145
 have M := Mem.start hL
 refine sR ?_
 refine pN M 1 (.cells (av 8 (w32 f)) 203) fun g1 u1 M => ?_
 refine rV 1 <| nT <| sR ?_
 refine pl_make M (want_no rfl) (some 6) rfl 44 5 _ (.int .u8 0) Tryz.underlying44 info5_eq info5_z (by kernel_rfl) (by decide +kernel) _ _ rfl .i64 .i64 (by kernel_rfl) 32 (by kernel_rfl) (by omega) ?_
 intro g2 Zg2 u2 hZ M
 refine rV 1 <| nT <| wp_seq <| sR ?_
 refine pA M 7 0 8 (w32 f) ?_
 refine rV 1 <| nT ?_
 refine wp_block ?_
 refine au_loop (fun j a w' => ∃ (v : NV) (Z : Obj), a = (fm ([.agg (av 8 (w32 f)), .pointer (some ⟨g1, 0, none⟩), .string ⟨#[]⟩, .slice (some ⟨g2, 0, none⟩) (4 * j) 32, undef, v 5, .slice (some ⟨g2, 0, none⟩) 0 32, .agg (av 8 (w32 f)), .int .i64 (j : Int)] ++ vr v 9 17 ++ [undef, undef])) ∧ SB Z 32 (vs8 (loI f j)) ∧ Mem ⟨w, []⟩ [⟨g1, .cells (av 8 (w32 f)) 203⟩, ⟨g2, Z⟩] w') 8 (exS2 Zg2 ⟨hZ, M⟩) ?_ ?_
 ·intro j a u0 hj hI
  obtain ⟨v, Z, rfl, hZ, M⟩ := hI
  refine sR ?_
  refine ZT 9 ((j : Int) < 8) ?_
  refine nT <| wp_seq <| cT <| wp_skip <| au_then ?_
  refine wp_seq ?_
  refine wp_block ?_
  refine sR ?_
  refine pH 10 (.int .u32 (f (j))) (run_ixA 203 8 84 Tryz.underlying203 inz84 (fun _ => by kernel_rfl) _ _ rfl (w32 f) (by kernel_rfl) .i64 (j) (by kernel_rfl) (by omega) rfl) ?_
  refine rV 1 <| nT ?_
  refine rg_lit ?_
  refine rV 12 ?_
  refine ZM M 23 (fun g3 => .slice (some ⟨g3, 0, none⟩) 4 4) (.cells (av 4 (w8 (r4 (cv .u8 (f j)) (cv .u8 (sr (f j) 8)) (cv .u8 (sr (f j) 16)) (cv .u8 (sr (f j) 24))))) 5) fun g3 u3 M => ?_
  refine pl_appX M (want_no rfl) (some 24) rfl 44 44 44 5 _ Tryz.underlying44 info5_eq (by kernel_rfl) 1 g2 (4 * j) 32 Z (vs8 (loI f j)) rfl hZ (by rw [vs8_length, loI_length]) (.slice (some ⟨g3, 0, none⟩) 4 4) 4 (vs8 (lo4 (f j))) (fun w M => src4 M 2 g3 5 (cv .u8 (f j)) (cv .u8 (sr (f j) 8)) (cv .u8 (sr (f j) 16)) (cv .u8 (sr (f j) 24)) rfl) rfl (by omega) (fun _ => by kernel_rfl) ?_
  intro Y1 u4 hY M
  rw [vs8_append] at hY
  refine rV 1 ?_
  refine pl_nil ?_
  refine au_block ?_
  refine au_then ?_
  refine rg_lit ?_
  refine ZI 25 ((j : Int) + 1) ((j + 1 : Nat) : Int) ?_
  refine rV 1 <| nT ?_
  exact exS2 Y1 ⟨hY, M.drop (.cons_cons _ (.cons_cons _ (.cons _ .slnil)))⟩
 ·intro a u0 hI
  obtain ⟨v, Z, rfl, hZ, M⟩ := hI
  refine sq <| wp_seq <| cF ?_
  refine wp_exit ?_
  refine au_then_exit ?_
  refine au_then_exit ?_
  refine au_block_exit ?_
  refine au_then <| sR <| rV 1 ?_
  refine pl_back M (want_no rfl) (some 27) rfl _ rfl 1 g2 (4 * 8) 32 (by kernel_rfl) Z rfl (loI f 8) 32 hZ (loI_length f 8) (loI_nn f 8) ?_
  refine rV 1 <| nT <| wp_ret ?_
  exact b1 M
structure HS where
 ws : Nat → Int
 wl : List Int
 ct : Int
structure HS.ok (H : HS) : Prop where
 le : H.wl.length ≤ 64
 nn : ∀ x ∈ H.wl, 0 ≤ x ∧ x < 256
def fl (H : HS) : HS := if H.wl.length = 64 then ⟨mixV H.ws (lf H.wl) H.wl.length (ua H.ct 64) false, [], ua H.ct 64⟩ else H
def ab (H : HS) (b : Int) : HS := ⟨(fl H).ws, (fl H).wl ++ [b], (fl H).ct⟩
def tk (H : HS) (s : Yb) : Nat → HS
 | 0 => H
 | k + 1 => ab (tk H s k) (bt s k)
theorem fl_lt (H : HS) (h : H.ok) : (fl H).wl.length < 64 := by
 unfold fl
 split
 ·simp
 ·have := h.le
  omega
theorem fl_ok {H : HS} (h : H.ok) : (fl H).ok := by
 unfold fl
 split
 ·exact ⟨by simp, by simp⟩
 ·exact h
theorem ab_ok {H : HS} (h : H.ok) (b : Int) (hb : 0 ≤ b ∧ b < 256) : (ab H b).ok := by
 have h1 := fl_lt H h
 refine ⟨by show ((fl H).wl ++ [b]).length ≤ 64; simp; omega, fun x hx => ?_⟩
 rcases List.mem_append.1 hx with hx | hx
 ·exact (fl_ok h).nn x hx
 ·rw [List.mem_singleton.1 hx]
  exact hb
theorem tk_ok {H : HS} (h : H.ok) (s : Yb) : ∀ k, (tk H s k).ok
 | 0 => h
 | k + 1 => ab_ok (tk_ok h s k) _ (bt_nn s k)
theorem fl_id {H : HS} (h : H.wl.length < 64) : fl H = H := by
 unfold fl
 rw [if_neg (by omega)]
theorem tk_run (H : HS) (s : Yb) (k : Nat) : ∀ n, 0 < n → (fl (tk H s k)).wl.length + n ≤ 64 → tk H s (k + n) = ⟨(fl (tk H s k)).ws, (fl (tk H s k)).wl ++ (List.range n).map (fun i => bt s (k + i)), (fl (tk H s k)).ct⟩
 | 0, h, _ => absurd h (by omega)
 | 1, _, _ => rfl
 | n + 2, _, hle => by
  have ih := tk_run H s k (n + 1) (by omega) (by omega)
  show ab (tk H s (k + (n + 1))) (bt s (k + (n + 1))) = _
  unfold ab
  rw [fl_id (by rw [ih]; simp; omega), ih]
  simp only [HS.mk.injEq, true_and, and_true]
  rw [List.append_assoc, List.range_succ (n := n + 1), List.map_append]
  rfl
theorem bt_extract (s : Yb) (k : Nat) (i : Nat) : bt (s.extract k s.size) i = bt s (k + i) := by
 unfold bt
 congr 2
 have e : (s.extract k s.size).data[i]? = s.data[k + i]? := by
  have hs : s.data.size = s.size := rfl
  rw [ByteArray.data_extract, Array.getElem?_extract]
  by_cases h : k + i < s.size
  ·rw [if_pos (by omega)]
  ·rw [if_neg (by omega), Array.getElem?_eq_none (by omega)]
 rw [e]
theorem size_extract (s : Yb) (k : Nat) : (s.extract k s.size).size = s.size - k := by simp [ByteArray.size_extract]
theorem extract_extract (s : Yb) (k q : Nat) (hk : k + q ≤ s.size) : (s.extract k s.size).extract q (s.extract k s.size).size = s.extract (k + q) s.size := by
 have hs : s.size = s.data.size := rfl
 apply ByteArray.ext
 rw [ByteArray.data_extract, ByteArray.data_extract, ByteArray.data_extract, size_extract]
 apply Array.ext_getElem?
 intro i
 rw [Array.getElem?_extract, Array.getElem?_extract, Array.getElem?_extract]
 by_cases h : k + q + i < s.size
 ·rw [if_pos (by simp; omega), if_pos (by omega), if_pos (by omega), Nat.add_assoc]
 ·rw [if_neg (by simp; omega), if_neg (by omega)]
theorem extract_all (s : Yb) : s.extract 0 s.size = s := by simp
theorem sb_ext (r : Yb) (a b : Nat) (h : b ≤ r.size) : sb (r.extract a b) = (List.range (b - a)).map (fun i => bt r (a + i)) := by
 have hs : r.size = r.data.size := rfl
 apply List.ext_getElem?
 intro i
 unfold sb bt
 rw [List.getElem?_map, Array.getElem?_toList, ByteArray.data_extract, Array.getElem?_extract, List.getElem?_map]
 by_cases hi : i < b - a
 ·rw [if_pos (by omega), List.getElem?_range hi, Array.getElem?_eq_getElem (by omega), Option.map_some, Option.map_some, Array.getElem?_eq_getElem (by omega)]
  rfl
 ·rw [if_neg (by omega), List.getElem?_eq_none (by simp; omega)]
  rfl
theorem run_strl {P : Program} {a : Act} {o : Oper} (t : TypeId) (hu : P.underlying t = some .string) (x lo : Operand) (ho : o.op = .slice t x (some lo) none none) (s : Yb) (hx : a.eval x = .string s) (k : IntKind) (i : Nat) (hi : a.eval lo = .int k (i : Int)) (hle : i ≤ s.size) (v : Yb) (hv : s.extract i s.size = v) (w : World) :
  (execOp a.eval o).run P w = .ok (.value (.string v)) w := by
 subst hv
 unfold execOp
 simp [ho, hx, hi, run_sliceAt_string w t (.string s) (some (.int k i)) none none hu, run_slice_string_l w t s hu k i (by omega) (by omega)]
theorem run_strh {P : Program} {a : Act} {o : Oper} (t : TypeId) (hu : P.underlying t = some .string) (x hi : Operand) (ho : o.op = .slice t x none (some hi) none) (s : Yb) (hx : a.eval x = .string s) (k : IntKind) (i : Nat) (hh : a.eval hi = .int k (i : Int)) (hle : i ≤ s.size) (v : Yb) (hv : s.extract 0 i = v) (w : World) :
  (execOp a.eval o).run P w = .ok (.value (.string v)) w := by
 subst hv
 unfold execOp
 simp [ho, hx, hh, run_sliceAt_string w t (.string s) none (some (.int k i)) none hu, run_slice_string_h w t s hu k i (by omega) (by omega)]
theorem c_take (H : HS) (hH : H.ok) (z g gw : Nat) (Z : Obj) (s : Yb) (w : World) (hL : Laid w) (hg : w.heap[g]? = some (.cells (av 11 (hF (z : Int) H.ws gw H.wl.length H.ct)) 206)) (h0 : 2 < g) (hk : w.heap[gw]? = some Z) (k0 : 2 < gw) (hne : g ≠ gw) (hZ : SB Z 64 (vs8 H.wl)) : Calls Tryz.prog 112 #[.pointer (some ⟨g, 0, none⟩), .string s] w fun r w' => ∃ Y, r = .returned (.tuple #[]) ∧ Grw w w' [g, gw] ∧ w'.heap[g]? = some (.cells (av 11 (hF (z : Int) (tk H s s.size).ws gw (tk H s s.size).wl.length (tk H s s.size).ct)) 206) ∧ w'.heap[gw]? = some Y ∧ SB Y 64 (vs8 (tk H s s.size).wl) := by
 go_enter Tryz.func112, Tryz.ntmps112
 have M := Mem.startp2 hL hg h0 hk k0 hne
 refine wp_block ?_
 refine wp_loop_ghost (fun n a w' => ∃ (v : NV) (k : Nat) (rem : Yb) (Y : Obj), k + n = s.size ∧ rem = s.extract k s.size ∧ a = (fm ([.pointer (some ⟨g, 0, none⟩), .string rem, undef, undef] ++ vr v 4 64)) ∧ SB Y 64 (vs8 (tk H s k).wl) ∧ Mem ⟨w, [g, gw]⟩ [⟨g, .cells (av 11 (hF (z : Int) (tk H s k).ws gw (tk H s k).wl.length (tk H s k).ct)) 206⟩, ⟨gw, Y⟩] w') s.size ⟨fun _ => undef, 0, s, Z, by omega, (extract_all s).symm, by kernel_rfl, hZ, M⟩ ?_
 intro n a u0 hI
 obtain ⟨v, k, rem, Y, hk2, hrem, rfl, hY, M⟩ := hI
 have hsz : rem.size = n := by rw [hrem, size_extract]; omega
 obtain ⟨G, hG⟩ : ∃ G, G = tk H s k := ⟨_, rfl⟩
 have hok : G.ok := by rw [hG]; exact tk_ok hH s k
 rw [← hG] at M hY
 rcases Nat.eq_zero_or_pos n with hn | hn
 ·refine wp_seq <| sR <| rV 2 ?_
  refine ZF 7 ((0 : Int) < (rem.size : Int)) ?_
  refine nT <| cF ?_
  refine wp_exit ?_
  refine au_then_exit ?_
  refine au_then_exit ?_
  refine au_block_exit ?_
  have ek : k = s.size := by omega
  rw [hG, ek] at M hY
  exact bodyPost_end (v := .tuple #[]) (results_none Tryz.results112 _ _) (by kernel_rfl) ⟨Y, rfl, M.old, M.get 0 rfl, M.get 1 rfl, hY⟩
 by_cases hf : G.wl.length = 64
 ·have hfl : fl G = ⟨mixV G.ws (lf G.wl) G.wl.length (ua G.ct 64) false, [], ua G.ct 64⟩ := by unfold fl; rw [if_pos hf]
  obtain ⟨p, hp⟩ : ∃ p, p = 0 := ⟨_, rfl⟩
  have hp1 : p < 64 := by omega
  obtain ⟨q, hq⟩ : ∃ q, q = Nat.min rem.size (64 - p) := ⟨_, rfl⟩
  have hq1 : q ≤ n := by rw [hq, hsz]; exact Nat.min_le_left _ _
  have hq2 : q ≤ 64 - p := by rw [hq]; exact Nat.min_le_right _ _
  have hq3 : 0 < q := by rw [hq, hsz]; exact Nat.lt_min.2 ⟨hn, by omega⟩
  have hmin : (if ((64 - p : Nat) : Int) < (rem.size : Int) then ((64 - p : Nat) : Int) else (rem.size : Int)) = (q : Int) := by
   have hq4 : q = if 64 - p < rem.size then 64 - p else rem.size := by rw [hq]; simp only [Nat.min_def]; split <;> split <;> omega
   rw [hq4]; split <;> split <;> omega
  have hes : (rem.extract 0 q).size = q := by rw [ByteArray.size_extract]; omega
  have hsrc : ∀ w, Src Tryz.prog 1 9 (.string (rem.extract 0 q)) q (byteCells (rem.extract 0 q)) w := fun w => by have h := Src.ofString (P := Tryz.prog) w (tx := 9) Tryz.underlying9 (rem.extract 0 q); rw [hes] at h; exact h
  have hrun := tk_run H s k q hq3 (by rw [← hG, hfl]; show 0 + q ≤ 64; omega)
  rw [← hG, hfl] at hrun
  have hbs : sb (rem.extract 0 q) = (List.range q).map (fun i => bt s (k + i)) := by rw [sb_ext _ _ _ (by omega), Nat.sub_zero]; refine List.map_congr_left fun i _ => ?_; rw [Nat.zero_add, hrem, bt_extract]
  refine wp_seq <| sR <| rV 2 ?_
  refine ZT 7 ((0 : Int) < (rem.size : Int)) ?_
  refine nT <| cT <| wp_skip <| au_then ?_
  refine wp_block ?_
  refine wp_seq <| sR <| rV 3 <| ZE M 11 0 9 <| rV 1 ?_
  refine ZT 13 ((G.wl.length : Int) = 64) ?_
  refine nT <| cT <| sR <| rV 3 <| ZE M 17 0 10 ?_
  refine rV 3 ?_
  refine pP M 0 rfl 10 (.int .u64 (ua G.ct 64)) (hF (z : Int) G.ws gw G.wl.length (ua G.ct 64)) (by decide) (hF_putc (z : Int) G.ws gw G.wl.length G.ct (ua G.ct 64)) fun u1 M => ?_
  refine nT <| wp_seq ?_
  refine rg_tail M 16 (by kernel_rfl) (by kernel_rfl) ?_
  simp only [List.take_succ_cons, List.take_zero]
  refine kR 4 ?_
  refine kL M 25 0 rfl 1 8 (w32 G.ws) (hF_words (z : Int) G.ws gw G.wl.length (ua G.ct 64)) ?_
  refine kR 3 <| eE M 29 0 9 <| kR 3 <| eE M 33 0 10 ?_
  refine eC M 34 (fun w M => c_mixed G.ws (lf G.wl) gw G.wl.length 64 hok.le (ua G.ct 64) false w M.laid (fun i hi => hY.cell (M.get 1 rfl) (vs8_cell G.wl i hi))) ?_
  refine kR 2 ?_
  refine kl_nil fun u2 M => ?_
  refine pl_put M (want_no rfl) rfl 203 _ _ rfl 0 g 1 (by kernel_rfl) 11 206 (hF (z : Int) G.ws gw G.wl.length (ua G.ct 64)) rfl 8 (w32 (mixV G.ws (lf G.wl) G.wl.length (ua G.ct 64) false)) (hF (z : Int) (mixV G.ws (lf G.wl) G.wl.length (ua G.ct 64) false) gw G.wl.length (ua G.ct 64)) (by kernel_rfl) inz203 (by decide) (fun _ _ => rfl) (hF_putw (z : Int) G.ws gw G.wl.length (ua G.ct 64) (mixV G.ws (lf G.wl) G.wl.length (ua G.ct 64) false)) fun u3 M => ?_
  refine nT ?_
  refine rg_lit ?_
  refine rV 4 <| ZE M 41 0 9 <| rV 3 ?_
  refine pP M 0 rfl 9 (.slice (some ⟨gw, 0, none⟩) 0 64) (hF (z : Int) (mixV G.ws (lf G.wl) G.wl.length (ua G.ct 64) false) gw 0 (ua G.ct 64)) (by decide) (hF_puts (z : Int) (mixV G.ws (lf G.wl) G.wl.length (ua G.ct 64) false) gw G.wl.length (ua G.ct 64) 0) fun u4 M => ?_
  refine nT <| sR <| rV 5 <| ZE M 50 0 9 <| rV 1 ?_
  refine ZI 52 (64 - ((0 : Nat) : Int)) ((64 - p : Nat) : Int) ?_
  refine zJ 53 (.int .i64 (q : Int)) (.int .i64 (if ((64 - p : Nat) : Int) < (rem.size : Int) then ((64 - p : Nat) : Int) else (rem.size : Int))) (by rw [hmin]) ?_
  refine rV 1 <| nT <| wp_seq ?_
  refine rgh M [] 11 fun u5 M => ?_
  have qM := M.drop (.cons _ (.cons _ (.slnil)))
  refine qV qM 0 54 (.pointer (some ⟨g, 0, none⟩)) ?_
  refine qV qM 1 55 (.pointer (some ⟨g, 0, none⟩)) ?_
  refine qV qM 2 56 (.pointer (some ⟨g, 0, none⟩)) ?_
  refine qV qM 3 57 (.pointer (some ⟨g, 9, none⟩)) ?_
  refine qV qM 5 59 (.string rem) ?_
  refine qV qM 6 60 (.int .i64 (q : Int)) ?_
  refine qH qM 7 61 (.string (rem.extract 0 q)) (fun w _ => (run_strh 9 Tryz.underlying9 _ _ rfl rem (by kernel_rfl) .i64 q (by kernel_rfl) (by omega) _ rfl) w) ?_
  refine qO 4 ?_
  refine ZE M 58 0 9 <| nT ?_
  refine ⟨(M.drop (.cons _ (.cons _ (.slnil)))), ?_⟩
  refine qO 8 ?_
  refine pl_appX M (want_no rfl) (some 62) rfl 44 9 44 5 _ Tryz.underlying44 info5_eq (by kernel_rfl) 1 gw 0 64 Y (vs8 []) rfl hY.take (vs8_length _) (.string (rem.extract 0 q)) q (byteCells (rem.extract 0 q)) (fun w _ => hsrc w) (by rw [byteCells_length]; exact hes) (by omega) (fun _ => by kernel_rfl) ?_
  intro Y2 u6 hY2 M
  rw [byte_vs8, vs8_append] at hY2
  refine nT ?_
  refine ⟨(M.drop (.cons _ (.cons _ (.slnil)))), ?_⟩
  have qM := M.drop (.cons _ (.cons _ (.slnil)))
  refine qV qM 9 63 (.pointer (some ⟨g, 0, none⟩)) ?_
  refine qV qM 10 64 (.pointer (some ⟨g, 9, none⟩)) ?_
  refine qZ ?_
  refine pP M 0 rfl 9 (.slice (some ⟨gw, 0, none⟩) (0 + q) 64) (hF (z : Int) (mixV G.ws (lf G.wl) G.wl.length (ua G.ct 64) false) gw (0 + q) (ua G.ct 64)) (by decide) (hF_puts (z : Int) (mixV G.ws (lf G.wl) G.wl.length (ua G.ct 64) false) gw 0 (ua G.ct 64) (0 + q)) fun u7 M => ?_
  refine nT <| au_then ?_
  refine rg_lit ?_
  refine rV 2 ?_
  refine pH 67 (.string (s.extract (k + q) s.size)) (run_strl 9 Tryz.underlying9 _ _ rfl rem (by kernel_rfl) .i64 q (by kernel_rfl) (by omega) _ (by rw [hrem]; exact extract_extract s k q (by omega))) ?_
  refine rV 1 ?_
  refine pl_nil ?_
  refine au_block ?_
  refine au_then ?_
  have E : (hF (z : Int) (mixV G.ws (lf G.wl) G.wl.length (ua G.ct 64) false) gw (0 + q) (ua G.ct 64)) = hF (z : Int) (tk H s (k + q)).ws gw (tk H s (k + q)).wl.length (tk H s (k + q)).ct := by rw [hrun]; simp
  have E2 : ([] ++ sb (rem.extract 0 q)) = (tk H s (k + q)).wl := by rw [hrun, hbs]
  rw [E] at M
  rw [E2] at hY2
  exact ⟨n - q, by omega, fun k_ => ([.int .i64 (q : Int), .string rem, .int .i64 (rem.size : Int), .bool true, .pointer (some ⟨g, 0, none⟩), .pointer (some ⟨g, 0, none⟩), .pointer (some ⟨g, 9, none⟩), .slice (some ⟨gw, 0, none⟩) G.wl.length 64, .int .i64 ((G.wl.length : Nat) : Int), .bool true, .pointer (some ⟨g, 0, none⟩), .pointer (some ⟨g, 0, none⟩), .pointer (some ⟨g, 10, none⟩), .int .u64 G.ct, .int .u64 (ua G.ct 64), .pointer (some ⟨g, 0, none⟩), .pointer (some ⟨g, 10, none⟩), .pointer (some ⟨g, 0, none⟩), .pointer (some ⟨g, 0, none⟩), .pointer (some ⟨g, 0, none⟩), .pointer (some ⟨g, 1, none⟩), .agg (av 8 (w32 G.ws)), .pointer (some ⟨g, 0, none⟩), .pointer (some ⟨g, 0, none⟩), .pointer (some ⟨g, 9, none⟩), .slice (some ⟨gw, 0, none⟩) G.wl.length 64, .pointer (some ⟨g, 0, none⟩), .pointer (some ⟨g, 0, none⟩), .pointer (some ⟨g, 10, none⟩), .int .u64 (ua G.ct 64), .agg (av 8 (w32 (mixV G.ws (lf G.wl) G.wl.length (ua G.ct 64) false))), .pointer (some ⟨g, 0, none⟩), .pointer (some ⟨g, 1, none⟩), .pointer (some ⟨g, 0, none⟩), .pointer (some ⟨g, 0, none⟩), .pointer (some ⟨g, 0, none⟩), .pointer (some ⟨g, 9, none⟩), .slice (some ⟨gw, 0, none⟩) G.wl.length 64, .slice (some ⟨gw, 0, none⟩) 0 64, .pointer (some ⟨g, 0, none⟩), .pointer (some ⟨g, 9, none⟩), .string rem, .int .i64 (rem.size : Int), .pointer (some ⟨g, 0, none⟩), .pointer (some ⟨g, 0, none⟩), .pointer (some ⟨g, 9, none⟩), .slice (some ⟨gw, 0, none⟩) 0 64, .int .i64 (0 : Int), .int .i64 ((64 - p : Nat) : Int), .int .i64 (q : Int), .pointer (some ⟨g, 0, none⟩), .pointer (some ⟨g, 0, none⟩), .pointer (some ⟨g, 0, none⟩), .pointer (some ⟨g, 9, none⟩), .slice (some ⟨gw, 0, none⟩) 0 64, .string rem, .int .i64 (q : Int), .string (rem.extract 0 q), .slice (some ⟨gw, 0, none⟩) (0 + q) 64, .pointer (some ⟨g, 0, none⟩), .pointer (some ⟨g, 9, none⟩), .string rem, .int .i64 (q : Int), .string (s.extract (k + q) s.size)] : List Value).getD (k_ - 4) undef, k + q, s.extract (k + q) s.size, Y2, by omega, rfl, by kernel_rfl, hY2, M⟩
 ·have hfl : fl G = G := fl_id (by have := hok.le; omega)
  obtain ⟨p, hp⟩ : ∃ p, p = G.wl.length := ⟨_, rfl⟩
  have hlt := hok.le
  have hp1 : p < 64 := by omega
  obtain ⟨q, hq⟩ : ∃ q, q = Nat.min rem.size (64 - p) := ⟨_, rfl⟩
  have hq1 : q ≤ n := by rw [hq, hsz]; exact Nat.min_le_left _ _
  have hq2 : q ≤ 64 - p := by rw [hq]; exact Nat.min_le_right _ _
  have hq3 : 0 < q := by rw [hq, hsz]; exact Nat.lt_min.2 ⟨hn, by omega⟩
  have hmin : (if ((64 - p : Nat) : Int) < (rem.size : Int) then ((64 - p : Nat) : Int) else (rem.size : Int)) = (q : Int) := by
   have hq4 : q = if 64 - p < rem.size then 64 - p else rem.size := by rw [hq]; simp only [Nat.min_def]; split <;> split <;> omega
   rw [hq4]; split <;> split <;> omega
  have hes : (rem.extract 0 q).size = q := by rw [ByteArray.size_extract]; omega
  have hsrc : ∀ w, Src Tryz.prog 1 9 (.string (rem.extract 0 q)) q (byteCells (rem.extract 0 q)) w := fun w => by have h := Src.ofString (P := Tryz.prog) w (tx := 9) Tryz.underlying9 (rem.extract 0 q); rw [hes] at h; exact h
  have hrun := tk_run H s k q hq3 (by rw [← hG, hfl]; show G.wl.length + q ≤ 64; omega)
  rw [← hG, hfl] at hrun
  have hbs : sb (rem.extract 0 q) = (List.range q).map (fun i => bt s (k + i)) := by rw [sb_ext _ _ _ (by omega), Nat.sub_zero]; refine List.map_congr_left fun i _ => ?_; rw [Nat.zero_add, hrem, bt_extract]
  refine wp_seq <| sR <| rV 2 ?_
  refine ZT 7 ((0 : Int) < (rem.size : Int)) ?_
  refine nT <| cT <| wp_skip <| au_then ?_
  refine wp_block ?_
  refine wp_seq <| sR <| rV 3 <| ZE M 11 0 9 <| rV 1 ?_
  refine ZF 13 ((G.wl.length : Int) = 64) ?_
  refine nT <| cF <| wp_skip <| au_then <| sR ?_
  refine rV 5 <| ZE M 50 0 9 <| rV 1 ?_
  refine ZI 52 (64 - (G.wl.length : Int)) ((64 - p : Nat) : Int) ?_
  refine zJ 53 (.int .i64 (q : Int)) (.int .i64 (if ((64 - p : Nat) : Int) < (rem.size : Int) then ((64 - p : Nat) : Int) else (rem.size : Int))) (by rw [hmin]) ?_
  refine rV 1 <| nT <| wp_seq ?_
  refine rgh M [] 11 fun u8 M => ?_
  have qM := M.drop (.cons _ (.cons _ (.slnil)))
  refine qV qM 0 54 (.pointer (some ⟨g, 0, none⟩)) ?_
  refine qV qM 1 55 (.pointer (some ⟨g, 0, none⟩)) ?_
  refine qV qM 2 56 (.pointer (some ⟨g, 0, none⟩)) ?_
  refine qV qM 3 57 (.pointer (some ⟨g, 9, none⟩)) ?_
  refine qV qM 5 59 (.string rem) ?_
  refine qV qM 6 60 (.int .i64 (q : Int)) ?_
  refine qH qM 7 61 (.string (rem.extract 0 q)) (fun w _ => (run_strh 9 Tryz.underlying9 _ _ rfl rem (by kernel_rfl) .i64 q (by kernel_rfl) (by omega) _ rfl) w) ?_
  refine qO 4 ?_
  refine ZE M 58 0 9 <| nT ?_
  refine ⟨(M.drop (.cons _ (.cons _ (.slnil)))), ?_⟩
  refine qO 8 ?_
  refine pl_appX M (want_no rfl) (some 62) rfl 44 9 44 5 _ Tryz.underlying44 info5_eq (by kernel_rfl) 1 gw G.wl.length 64 Y (vs8 G.wl) rfl hY (vs8_length _) (.string (rem.extract 0 q)) q (byteCells (rem.extract 0 q)) (fun w _ => hsrc w) (by rw [byteCells_length]; exact hes) (by omega) (fun _ => by kernel_rfl) ?_
  intro Y2 u9 hY2 M
  rw [byte_vs8, vs8_append] at hY2
  refine nT ?_
  refine ⟨(M.drop (.cons _ (.cons _ (.slnil)))), ?_⟩
  have qM := M.drop (.cons _ (.cons _ (.slnil)))
  refine qV qM 9 63 (.pointer (some ⟨g, 0, none⟩)) ?_
  refine qV qM 10 64 (.pointer (some ⟨g, 9, none⟩)) ?_
  refine qZ ?_
  refine pP M 0 rfl 9 (.slice (some ⟨gw, 0, none⟩) (G.wl.length + q) 64) (hF (z : Int) G.ws gw (G.wl.length + q) G.ct) (by decide) (hF_puts (z : Int) G.ws gw G.wl.length G.ct (G.wl.length + q)) fun u10 M => ?_
  refine nT <| au_then ?_
  refine rg_lit ?_
  refine rV 2 ?_
  refine pH 67 (.string (s.extract (k + q) s.size)) (run_strl 9 Tryz.underlying9 _ _ rfl rem (by kernel_rfl) .i64 q (by kernel_rfl) (by omega) _ (by rw [hrem]; exact extract_extract s k q (by omega))) ?_
  refine rV 1 ?_
  refine pl_nil ?_
  refine au_block ?_
  refine au_then ?_
  have E : (hF (z : Int) G.ws gw (G.wl.length + q) G.ct) = hF (z : Int) (tk H s (k + q)).ws gw (tk H s (k + q)).wl.length (tk H s (k + q)).ct := by rw [hrun]; simp
  have E2 : (G.wl ++ sb (rem.extract 0 q)) = (tk H s (k + q)).wl := by rw [hrun, hbs]
  rw [E] at M
  rw [E2] at hY2
  exact ⟨n - q, by omega, fun k_ => ([.int .i64 (q : Int), .string rem, .int .i64 (rem.size : Int), .bool true, .pointer (some ⟨g, 0, none⟩), .pointer (some ⟨g, 0, none⟩), .pointer (some ⟨g, 9, none⟩), .slice (some ⟨gw, 0, none⟩) G.wl.length 64, .int .i64 ((G.wl.length : Nat) : Int), .bool false, v 14, v 15, v 16, v 17, v 18, v 19, v 20, v 21, v 22, v 23, v 24, v 25, v 26, v 27, v 28, v 29, v 30, v 31, v 32, v 33, v 34, v 35, v 36, v 37, v 38, v 39, v 40, v 41, v 42, v 43, v 44, .string rem, .int .i64 (rem.size : Int), .pointer (some ⟨g, 0, none⟩), .pointer (some ⟨g, 0, none⟩), .pointer (some ⟨g, 9, none⟩), .slice (some ⟨gw, 0, none⟩) G.wl.length 64, .int .i64 ((G.wl.length : Nat) : Int), .int .i64 ((64 - p : Nat) : Int), .int .i64 (q : Int), .pointer (some ⟨g, 0, none⟩), .pointer (some ⟨g, 0, none⟩), .pointer (some ⟨g, 0, none⟩), .pointer (some ⟨g, 9, none⟩), .slice (some ⟨gw, 0, none⟩) G.wl.length 64, .string rem, .int .i64 (q : Int), .string (rem.extract 0 q), .slice (some ⟨gw, 0, none⟩) (G.wl.length + q) 64, .pointer (some ⟨g, 0, none⟩), .pointer (some ⟨g, 9, none⟩), .string rem, .int .i64 (q : Int), .string (s.extract (k + q) s.size)] : List Value).getD (k_ - 4) undef, k + q, s.extract (k + q) s.size, Y2, by omega, rfl, by kernel_rfl, hY2, M⟩
open Go.Shelf Go.RowKit
def repRen : Go.Shelf.Ren := ⟨fun | 105 => 143 | 212 => 165 | 99 => 166 | 165 => 126 | 166 => 140 | 170 => 141 | 169 => 129 | 263 => 177 | 264 => 171 | 206 => 178 | 240 => 157 | 241 => 158 | 276 => 174 | 277 => 175 | n => n, fun | 9 => 9 | 3 => 3 | 4 => 4 | 20 => 20 | 0 => 0 | 46 => 106 | 109 => 229 | 5 => 5 | 72 => 182 | 76 => 200 | 51 => 84 | 146 => 244 | 53 => 33 | 148 => 237 | 70 => 180 | 37 => 44 | 75 => 188 | 127 => 218 | 164 => 240 | 80 => 113 | n => n, fun | n => n⟩
theorem repLays : Go.Proofs.Lays.n105 Tryz.prog repRen := {
 mixed := by kernel_rfl
 f99 := Tryz.func166.trans (congrArg some (by kernel_rfl))
 f105 := Tryz.func143.trans (congrArg some (by kernel_rfl))
 f165 := Tryz.func126.trans (congrArg some (by kernel_rfl))
 f166 := Tryz.func140.trans (congrArg some (by kernel_rfl))
 f169 := Tryz.func129.trans (congrArg some (by kernel_rfl))
 f170 := Tryz.func141.trans (congrArg some (by kernel_rfl))
 f206 := Tryz.func178.trans (congrArg some (by kernel_rfl))
 f212 := Tryz.func165.trans (congrArg some (by kernel_rfl))
 f240 := Tryz.func157.trans (congrArg some (by kernel_rfl))
 f241 := Tryz.func158.trans (congrArg some (by kernel_rfl))
 f263 := Tryz.func177.trans (congrArg some (by kernel_rfl))
 f264 := Tryz.func171.trans (congrArg some (by kernel_rfl))
 f276 := Tryz.func174.trans (congrArg some (by kernel_rfl))
 f277 := Tryz.func175.trans (congrArg some (by kernel_rfl))
 t0 := Tryz.underlying0
 a0 := Tryz.isAgg0
 z0 := Tryz.sizeOf0
 v0 := Tryz.zeroValue0
 t3 := Tryz.underlying3
 a3 := Tryz.isAgg3
 z3 := Tryz.sizeOf3
 v3 := Tryz.zeroValue3
 t4 := Tryz.underlying4
 a4 := Tryz.isAgg4
 z4 := Tryz.sizeOf4
 v4 := Tryz.zeroValue4
 t5 := Tryz.underlying5
 a5 := Tryz.isAgg5
 z5 := Tryz.sizeOf5
 v5 := Tryz.zeroValue5
 t9 := Tryz.underlying9
 a9 := Tryz.isAgg9
 z9 := Tryz.sizeOf9
 v9 := Tryz.zeroValue9
 t20 := Tryz.underlying20
 a20 := Tryz.isAgg20
 z20 := Tryz.sizeOf20
 v20 := Tryz.zeroValue20
 t37 := Tryz.underlying44
 a37 := Tryz.isAgg44
 z37 := Tryz.sizeOf44
 v37 := Tryz.zeroValue44
 t46 := Tryz.underlying106
 a46 := Tryz.isAgg106
 z46 := Tryz.sizeOf106
 v46 := Tryz.zeroValue106
 t51 := Tryz.underlying84
 a51 := Tryz.isAgg84
 z51 := Tryz.sizeOf84
 v51 := Tryz.zeroValue84
 t53 := Tryz.underlying33
 a53 := Tryz.isAgg33
 z53 := Tryz.sizeOf33
 v53 := Tryz.zeroValue33
 t70 := Tryz.underlying180
 a70 := Tryz.isAgg180
 z70 := Tryz.sizeOf180
 v70 := Tryz.zeroValue180
 t72 := Tryz.underlying182
 a72 := Tryz.isAgg182
 z72 := Tryz.sizeOf182
 v72 := Tryz.zeroValue182
 t75 := Tryz.underlying188
 a75 := Tryz.isAgg188
 z75 := Tryz.sizeOf188
 v75 := Tryz.zeroValue188
 t76 := Tryz.underlying200
 a76 := Tryz.isAgg200
 z76 := Tryz.sizeOf200
 v76 := Tryz.zeroValue200
 t109 := Tryz.underlying229
 a109 := Tryz.isAgg229
 z109 := Tryz.sizeOf229
 v109 := Tryz.zeroValue229
 t127 := Tryz.underlying218
 a127 := Tryz.isAgg218
 z127 := Tryz.sizeOf218
 v127 := Tryz.zeroValue218
 t146 := Tryz.underlying244
 a146 := Tryz.isAgg244
 z146 := Tryz.sizeOf244
 v146 := Tryz.zeroValue244
 t148 := Tryz.underlying237
 a148 := Tryz.isAgg237
 z148 := Tryz.sizeOf237
 v148 := Tryz.zeroValue237
 t164 := Tryz.underlying240
 a164 := Tryz.isAgg240
 z164 := Tryz.sizeOf240
 v164 := Tryz.zeroValue240 }
theorem repExtra : Builder.Extra Tryz.prog repRen := {
 sizeBuilder := by kernel_rfl
 liesBuilder := by kernel_rfl
 t5 := Tryz.underlying5
 a5 := Tryz.isAgg5
 z5 := Tryz.sizeOf5
 v5 := Tryz.zeroValue5
 infoByte := by kernel_rfl
 cellsByte := by kernel_rfl
 sizeByte := by kernel_rfl
 neB5 := by decide }
def zs (c : Nat) : ByteArray := ⟨(List.replicate c (0 : UInt8)).toArray⟩
theorem repeatL_one (c : Nat) : Lib.repeatL [0] c = List.replicate c 0 := by
 induction c with
 | zero => rfl
 | succ c ih => rw [Lib.repeatL, ih]; rfl
theorem c_rep (c : Nat) (w : World) (hc : c < 1000) : Cs 143 #[.string ⟨#[0]⟩, .int .i64 (c : Int)] w (.string (zs c)) := by
 have h := Any.strings_Repeat repLays repExtra ⟨#[0]⟩ c w (by omega) (by show 1 * c ≤ _; omega)
 have e : (⟨(Lib.repeatL (⟨#[0]⟩ : Yb).data.toList c).toArray⟩ : Yb) = zs c := by
  unfold zs
  rw [show (⟨#[0]⟩ : Yb).data.toList = [0] from rfl, repeatL_one]
 rw [e] at h
 exact h
open Go.RowKit
theorem pl_calln2 {P : Program} {ops : Array Oper} {rest : List Oper} {o : Oper} {a : Act} {w : World} {c : Ctx} {L : List Blk} {Q : Exit → Act → World → Prop} (M : Mem c L w) (hw : Region.wanted o (yielded ops a.tmps) = true) (d : Option Tmp) (hd : o.dst = d) (f : FuncId) (args : Array Value) (v : NV) (Zf : Nat → Obj) (R : Obj → Prop) (hrun : ∀ w, (execOp a.eval o).run P w = .ok (.enter f args) w)
  (hc : ∀ w, Mem c L w → Calls P f args w fun e w' => ∃ g k Y, e = .returned (v g) ∧ w.heap.size ≤ g ∧ w.heap.size ≤ k ∧ g ≠ k ∧ w'.heap[g]? = some (Zf k) ∧ w'.heap[k]? = some Y ∧ R Y ∧ Below w.heap.size w w') (h : ∀ g k Y w', R Y → Mem c (L ++ [⟨g, Zf k⟩, ⟨k, Y⟩]) w' → PL P ops Q rest (a.put d (v g)) w') : PL P ops Q (o :: rest) a w :=
 pl_callq hw d hd f args hrun ((hc w M).mono fun _ w' ⟨g, k, Y, he, h1, h2, h3, h4, h5, h6, hb⟩ => ⟨v g, he, h g k Y w' h6 (M.news hb (by simpa using ⟨h4, h5⟩) (by simpa using ⟨h1, h2⟩) (by simpa using h3))⟩)
theorem run_cat {P : Program} {a : Act} {o : Oper} (t rt : TypeId) (x y : Operand) (ho : o.op = .binOp .add t x y rt) (s u : Yb) (hx : a.eval x = .string s) (hy : a.eval y = .string u) (hb : s.size + u.size ≤ 9223372036854775807) (w : World) :
  (execOp a.eval o).run P w = .ok (.value (.string (s ++ u))) w := by
 have h := run_string_add_sum (P := P) (w := w) s u hb
 unfold execOp
 simp [ho, hx, hy, eqGuard, binOp, h]
theorem zs_size (c : Nat) : (zs c).size = c := by simp [zs, ByteArray.size]
theorem sb_new : SB (.cells (av 64 (w8 fun _ => 0)) 5) 64 (vs8 []) := ⟨_, 5, (0, 0), rfl, by simp [vs8], by rw [av_size]; exact Nat.le_refl _, fun i hi => by simp [vs8] at hi, fun i _ => by simp⟩
theorem key_ne (k : Yb) (h : k.size ≠ 0) : (k.toList == (⟨#[]⟩ : Yb).toList) = false := by
 have hs : k.size = k.data.size := rfl
 rw [ByteArray.toList_eq, ByteArray.toList_eq, beq_eq_false_iff_ne]
 intro e
 have := congrArg List.length e
 simp at this
 exact h (by rw [hs, this]; rfl)
theorem key_e (k : Yb) (h : k.size = 0) : k = ⟨#[]⟩ := by
 have hs : k.size = k.data.size := rfl
 apply ByteArray.ext
 exact Array.eq_empty_of_size_eq_zero (by omega)
theorem below_same {w w' : World} {g k : Nat} {Z Y : Obj} (h : Grw w w' [g, k]) (h1 : w.heap[g]? = some Z) (h2 : w'.heap[g]? = some Z) (h3 : w.heap[k]? = some Y) (h4 : w'.heap[k]? = some Y) : Below w.heap.size w w' := ⟨h.os, h.tape, h.output, h.size, fun j hj => by
 by_cases e : j = g
 ·subst e
  rw [h1, h2]
 ·by_cases e2 : j = k
  ·subst e2
   rw [h3, h4]
  ·exact h.block j hj (by simp [e, e2])⟩
def hs0 (z kl : Nat) : HS := ⟨upd HB 0 (vx (HB 0) (vx (vx 16842752 (vl (cv .u32 (kl : Int)) 8)) (cv .u32 (z : Int)))), [], 0⟩
def nw (z : Nat) (key : Yb) : HS := if key.size = 0 then hs0 z key.size else tk (hs0 z key.size) (key ++ zs (64 - key.size)) (key ++ zs (64 - key.size)).size
theorem hs0_ok (z kl : Nat) : (hs0 z kl).ok := ⟨by simp [hs0], by simp [hs0]⟩
theorem nw_ok (z : Nat) (key : Yb) : (nw z key).ok := by
 unfold nw
 split
 ·exact hs0_ok _ _
 ·exact tk_ok (hs0_ok _ _) _ _
def sumW (H : HS) : Nat → Int := mixV H.ws (lf H.wl) H.wl.length (ua H.ct (cv .u64 (H.wl.length : Int))) true
def sumV (z : Nat) (H : HS) : ByteArray := (bs (loI (sumW H) 8)).extract 0 z
def blV (z : Nat) (key s : Yb) : ByteArray := sumV z (tk (nw z key) s s.size)
theorem c_new0 (z : Nat) (key : Yb) (h1 : 1 ≤ z) (h2 : z ≤ 32) (_h3 : key.size ≤ 32) (hz : key.size = 0) (w : World) (hL : Laid w) : Calls Tryz.prog 111 #[.int .i64 (z : Int), .string key] w fun r w' => ∃ g gw Y, r = .returned (.tuple #[.pointer (some ⟨g, 0, none⟩), .int .i64 0]) ∧ w.heap.size ≤ g ∧ w.heap.size ≤ gw ∧ g ≠ gw ∧ w'.heap[g]? = some (.cells (av 11 (hF (z : Int) (nw z key).ws gw (nw z key).wl.length (nw z key).ct)) 206) ∧ w'.heap[gw]? = some Y ∧ SB Y 64 (vs8 (nw z key).wl) ∧ Below w.heap.size w w' := by
 go_enter Tryz.func111, Tryz.ntmps111
 have M := Mem.start hL
 refine sq <| wp_seq <| sR <| rV 1 ?_
 refine ZF 8 ((z : Int) < 1) ?_
 refine rV 2 ?_
 refine ZF 11 ((32 : Int) < (z : Int)) ?_
 refine rV 4 ?_
 refine ZF 16 ((32 : Int) < (key.size : Int)) ?_
 refine rV 1 <| nT <| cF <| wp_skip <| au_then ?_
 refine wp_seq ?_
 refine rg_allocs M 2 [(20, fun g => .slice (some ⟨g, 0, none⟩) 0 64, .cells (av 64 (w8 fun _ => 0)) 5)] (by kernel_rfl) (by kernel_rfl) (⟨rfl, rfl, fun _ _ => by kernel_rfl, trivial⟩) (by decide) ?_
 simp only [List.take_succ_cons, List.take_zero]
 refine kR 1 ?_
 refine eC M 19 (fun w M => c_first w M.laid) ?_
 refine kl_nil fun u1 g1 M => ?_
 refine rV 1 ?_
 refine pN M 22 (.cells (av 11 (hF (z : Int) HB g1 0 0)) 206) fun g2 u2 M => ?_
 refine rV 1 <| nT <| wp_seq ?_
 refine rg_tail M 17 (by kernel_rfl) (by kernel_rfl) ?_
 simp only [List.take_succ_cons, List.take_zero]
 refine kR 4 <| eE M 27 1 1 <| kR 12 ?_
 refine kl_nil fun u3 M => ?_
 refine pP M 1 rfl 1 (.int .u32 (vx (HB 0) (vx (vx 16842752 (vl (cv .u32 (key.size : Int)) 8)) (cv .u32 (z : Int))))) (hF (z : Int) (upd HB 0 (vx (HB 0) (vx (vx 16842752 (vl (cv .u32 (key.size : Int)) 8)) (cv .u32 (z : Int))))) g1 0 0) (by decide) (hF_put1 (z : Int) HB g1 0 0 (vx (HB 0) (vx (vx 16842752 (vl (cv .u32 (key.size : Int)) 8)) (cv .u32 (z : Int))))) fun u4 M => ?_
 refine nT <| wp_seq <| sR <| rV 1 ?_
 refine zJ 41 (.bool false) (.bool (!(key.toList == (⟨#[]⟩ : Yb).toList))) (by rw [key_e key hz, beq_self_eq_true]; rfl) ?_
 refine nT <| cF <| wp_skip <| au_then <| sq ?_
 refine wp_ret ?_
 have e : nw z key = hs0 z key.size := by unfold nw; rw [if_pos hz]
 rw [e]
 exact bX (.tuple #[.pointer (some ⟨g2, 0, none⟩), .int .i64 0]) ⟨g2, g1, (.cells (av 64 (w8 fun _ => 0)) 5), rfl, (M.ge _ (List.mem_of_getElem? (i := 1) rfl)).elim id (fun h => by cases h), (M.ge _ (List.mem_of_getElem? (i := 0) rfl)).elim id (fun h => by cases h), nodup_at M.nodup (i := 1) (j := 0) rfl rfl (by decide), M.get 1 rfl, M.get 0 rfl, sb_new, below_grown M.old⟩
theorem c_new1 (z : Nat) (key : Yb) (h1 : 1 ≤ z) (h2 : z ≤ 32) (h3 : key.size ≤ 32) (hz : ¬ key.size = 0) (w : World) (hL : Laid w) : Calls Tryz.prog 111 #[.int .i64 (z : Int), .string key] w fun r w' => ∃ g gw Y, r = .returned (.tuple #[.pointer (some ⟨g, 0, none⟩), .int .i64 0]) ∧ w.heap.size ≤ g ∧ w.heap.size ≤ gw ∧ g ≠ gw ∧ w'.heap[g]? = some (.cells (av 11 (hF (z : Int) (nw z key).ws gw (nw z key).wl.length (nw z key).ct)) 206) ∧ w'.heap[gw]? = some Y ∧ SB Y 64 (vs8 (nw z key).wl) ∧ Below w.heap.size w w' := by
 go_enter Tryz.func111, Tryz.ntmps111
 have M := Mem.start hL
 refine sq <| wp_seq <| sR <| rV 1 ?_
 refine ZF 8 ((z : Int) < 1) ?_
 refine rV 2 ?_
 refine ZF 11 ((32 : Int) < (z : Int)) ?_
 refine rV 4 ?_
 refine ZF 16 ((32 : Int) < (key.size : Int)) ?_
 refine rV 1 <| nT <| cF <| wp_skip <| au_then ?_
 refine wp_seq ?_
 refine rg_allocs M 2 [(20, fun g => .slice (some ⟨g, 0, none⟩) 0 64, .cells (av 64 (w8 fun _ => 0)) 5)] (by kernel_rfl) (by kernel_rfl) (⟨rfl, rfl, fun _ _ => by kernel_rfl, trivial⟩) (by decide) ?_
 simp only [List.take_succ_cons, List.take_zero]
 refine kR 1 ?_
 refine eC M 19 (fun w M => c_first w M.laid) ?_
 refine kl_nil fun u1 g1 M => ?_
 refine rV 1 ?_
 refine pN M 22 (.cells (av 11 (hF (z : Int) HB g1 0 0)) 206) fun g2 u2 M => ?_
 refine rV 1 <| nT <| wp_seq ?_
 refine rg_tail M 17 (by kernel_rfl) (by kernel_rfl) ?_
 simp only [List.take_succ_cons, List.take_zero]
 refine kR 4 <| eE M 27 1 1 <| kR 12 ?_
 refine kl_nil fun u3 M => ?_
 refine pP M 1 rfl 1 (.int .u32 (vx (HB 0) (vx (vx 16842752 (vl (cv .u32 (key.size : Int)) 8)) (cv .u32 (z : Int))))) (hF (z : Int) (upd HB 0 (vx (HB 0) (vx (vx 16842752 (vl (cv .u32 (key.size : Int)) 8)) (cv .u32 (z : Int))))) g1 0 0) (by decide) (hF_put1 (z : Int) HB g1 0 0 (vx (HB 0) (vx (vx 16842752 (vl (cv .u32 (key.size : Int)) 8)) (cv .u32 (z : Int))))) fun u4 M => ?_
 refine nT <| wp_seq <| sR <| rV 1 ?_
 refine zJ 41 (.bool true) (.bool (!(key.toList == (⟨#[]⟩ : Yb).toList))) (by rw [key_ne key hz]; rfl) ?_
 refine nT <| cT ?_
 refine rg_lit ?_
 refine rV 4 ?_
 refine ZI 46 (64 - (key.size : Int)) ((64 - key.size : Nat) : Int) ?_
 refine ZC M 47 (fun w M => c_rep (64 - key.size) w (by omega)) fun u5 M => ?_
 refine pH 48 (.string (key ++ zs (64 - key.size))) (run_cat 9 9 _ _ rfl key (zs (64 - key.size)) (by kernel_rfl) (by kernel_rfl) (by rw [zs_size]; omega)) ?_
 refine pl_callp2 M (want_no rfl) (some 49) rfl 112 #[.pointer (some ⟨g2, 0, none⟩), .string (key ++ zs (64 - key.size))] (.tuple #[]) 1 0 g2 g1 (.cells (av 11 (hF (z : Int) (upd HB 0 (vx (HB 0) (vx (vx 16842752 (vl (cv .u32 (key.size : Int)) 8)) (cv .u32 (z : Int))))) g1 0 0)) 206) (.cells (av 64 (w8 fun _ => 0)) 5) (.cells (av 11 (hF (z : Int) (tk (hs0 z key.size) (key ++ zs (64 - key.size)) (key ++ zs (64 - key.size)).size).ws g1 (tk (hs0 z key.size) (key ++ zs (64 - key.size)) (key ++ zs (64 - key.size)).size).wl.length (tk (hs0 z key.size) (key ++ zs (64 - key.size)) (key ++ zs (64 - key.size)).size).ct)) 206) (fun Y => SB Y 64 (vs8 (tk (hs0 z key.size) (key ++ zs (64 - key.size)) (key ++ zs (64 - key.size)).size).wl)) rfl rfl (fun _ => by kernel_rfl) (fun w M => c_take (hs0 z key.size) (hs0_ok _ _) z g2 g1 (.cells (av 64 (w8 fun _ => 0)) 5) (key ++ zs (64 - key.size)) w M.laid (M.get 1 rfl) (M.ne0 1 rfl) (M.get 0 rfl) (M.ne0 0 rfl) (nodup_at M.nodup (i := 1) (j := 0) rfl rfl (by decide)) sb_new) ?_
 intro Y1 u6 hY1 M
 refine nT <| sq <| wp_ret ?_
 have e : nw z key = tk (hs0 z key.size) (key ++ zs (64 - key.size)) (key ++ zs (64 - key.size)).size := by unfold nw; rw [if_neg hz]
 rw [e]
 exact bX (.tuple #[.pointer (some ⟨g2, 0, none⟩), .int .i64 0]) ⟨g2, g1, Y1, rfl, (M.ge _ (List.mem_of_getElem? (i := 1) rfl)).elim id (fun h => by cases h), (M.ge _ (List.mem_of_getElem? (i := 0) rfl)).elim id (fun h => by cases h), nodup_at M.nodup (i := 1) (j := 0) rfl rfl (by decide), M.get 1 rfl, M.get 0 rfl, hY1, below_grown M.old⟩
theorem c_new (z : Nat) (key : Yb) (h1 : 1 ≤ z) (h2 : z ≤ 32) (h3 : key.size ≤ 32) (w : World) (hL : Laid w) : Calls Tryz.prog 111 #[.int .i64 (z : Int), .string key] w fun r w' => ∃ g gw Y, r = .returned (.tuple #[.pointer (some ⟨g, 0, none⟩), .int .i64 0]) ∧ w.heap.size ≤ g ∧ w.heap.size ≤ gw ∧ g ≠ gw ∧ w'.heap[g]? = some (.cells (av 11 (hF (z : Int) (nw z key).ws gw (nw z key).wl.length (nw z key).ct)) 206) ∧ w'.heap[gw]? = some Y ∧ SB Y 64 (vs8 (nw z key).wl) ∧ Below w.heap.size w w' := by
 by_cases hz : key.size = 0
 ·exact c_new0 z key h1 h2 h3 hz w hL
 ·exact c_new1 z key h1 h2 h3 hz w hL
theorem c_sum (H : HS) (hH : H.ok) (z : Nat) (h1 : 1 ≤ z) (h2 : z ≤ 32) (g gw : Nat) (Z : Obj) (w : World) (hL : Laid w) (hg : w.heap[g]? = some (.cells (av 11 (hF (z : Int) H.ws gw H.wl.length H.ct)) 206)) (h0 : 2 < g) (hk : w.heap[gw]? = some Z) (k0 : 2 < gw) (hne : g ≠ gw) (hZ : SB Z 64 (vs8 H.wl)) : Cs 113 #[.pointer (some ⟨g, 0, none⟩)] w (.string (sumV z H)) := by
 go_enter Tryz.func113, Tryz.ntmps113
 have M := Mem.startp2 hL hg h0 hk k0 hne
 refine sq <| wp_seq <| sR <| rV 6 <| ZE M 10 0 0 ?_
 refine ZF 11 ((z : Int) = 0) ?_
 refine rV 1 <| nT <| cF <| wp_skip <| au_then ?_
 refine wp_seq ?_
 refine rg_allocs M 20 [(3, fun g => .pointer (some ⟨g, 0, none⟩), .cells (av 8 (w32 (fun _ => 0))) 203)] (by kernel_rfl) (by kernel_rfl) (⟨rfl, rfl, fun _ _ => by kernel_rfl, trivial⟩) (by decide) ?_
 simp only [List.take_succ_cons, List.take_zero]
 refine kR 3 ?_
 refine kL M 16 0 rfl 1 8 (w32 H.ws) (hF_words (z : Int) H.ws gw H.wl.length H.ct) ?_
 refine kR 3 <| eE M 20 0 9 <| kR 3 <| eE M 24 0 10 <| kR 3 ?_
 refine eE M 28 0 9 <| kR 3 ?_
 refine eC M 32 (fun w M => c_mixed H.ws (lf H.wl) gw H.wl.length 64 hH.le (ua H.ct (cv .u64 (H.wl.length : Int))) true w M.laid (fun i hi => hZ.cell (M.get 1 rfl) (vs8_cell H.wl i hi))) ?_
 refine kl_nil fun u1 g1 M => ?_
 refine ZG M 2 8 (w32 (sumW H)) fun u2 M => ?_
 refine nT <| wp_seq ?_
 refine rg_tail M 7 (by kernel_rfl) (by kernel_rfl) ?_
 simp only [List.take_succ_cons, List.take_zero]
 refine kA M 33 2 8 (w32 (sumW H)) ?_
 refine eC M 34 (fun w M => c_low (sumW H) w M.laid) ?_
 refine kR 3 <| eE M 38 0 0 ?_
 refine kH 39 (.string (sumV z H)) (run_strh 9 Tryz.underlying9 _ _ rfl (bs (loI (sumW H) 8)) (by kernel_rfl) .i64 z (by kernel_rfl) (by rw [bs_size, loI_length]; omega) _ rfl) ?_
 refine kl_nil fun u3 M => ?_
 refine rV 1 <| nT <| wp_ret ?_
 exact bX (.string (sumV z H)) ⟨rfl, below_same M.old hg (M.get 0 rfl) hk (M.get 1 rfl)⟩
theorem c_blsum (z : Nat) (key s : Yb) (h1 : 1 ≤ z) (h2 : z ≤ 32) (h3 : key.size ≤ 32) (w : World) (hL : Laid w)  : Cs 90 #[.int .i64 (z : Int), .string key, .string s] w (.tuple #[.string (blV z key s), .int .i64 0]) := by
 go_enter Tryz.func90, Tryz.ntmps90
 have M := Mem.start hL
 refine sq <| sR <| rV 2 ?_
 refine pl_calln2 M (want_no rfl) (some 13) rfl 111 #[.int .i64 (z : Int), .string key] (fun g1 => .tuple #[.pointer (some ⟨g1, 0, none⟩), .int .i64 0]) (fun g2 => .cells (av 11 (hF (z : Int) (nw z key).ws g2 (nw z key).wl.length (nw z key).ct)) 206) (fun Y => SB Y 64 (vs8 (nw z key).wl)) (fun _ => by kernel_rfl) (fun w M => c_new z key h1 h2 h3 w M.laid) ?_
 intro g1 g2 Y1 u1 hY1 M
 refine rV 5 <| nT <| wp_seq <| sq <| cF ?_
 refine wp_skip <| au_then <| sR <| rV 2 ?_
 refine pl_callp2 M (want_no rfl) (some 21) rfl 112 #[.pointer (some ⟨g1, 0, none⟩), .string s] (.tuple #[]) 0 1 g1 g2 (.cells (av 11 (hF (z : Int) (nw z key).ws g2 (nw z key).wl.length (nw z key).ct)) 206) Y1 (.cells (av 11 (hF (z : Int) (tk (nw z key) s s.size).ws g2 (tk (nw z key) s s.size).wl.length (tk (nw z key) s s.size).ct)) 206) (fun Y => SB Y 64 (vs8 (tk (nw z key) s s.size).wl)) rfl rfl (fun _ => by kernel_rfl) (fun w M => c_take (nw z key) (nw_ok _ _) z g1 g2 Y1 s w M.laid (M.get 0 rfl) (M.ne0 0 rfl) (M.get 1 rfl) (M.ne0 1 rfl) (nodup_at M.nodup (i := 0) (j := 1) rfl rfl (by decide)) hY1) ?_
 intro Y2 u2 hY2 M
 refine nT <| sR <| rV 1 ?_
 refine pC M 23 113 #[.pointer (some ⟨g1, 0, none⟩)] (.string (blV z key s)) (fun w M => c_sum (tk (nw z key) s s.size) (tk_ok (nw_ok _ _) _ _) z h1 h2 g1 g2 Y2 w M.laid (M.get 0 rfl) (M.ne0 0 rfl) (M.get 1 rfl) (M.ne0 1 rfl) (nodup_at M.nodup (i := 0) (j := 1) rfl rfl (by decide)) hY2) fun u3 M => ?_
 refine rV 2 <| nT <| wp_ret ?_
 exact b1 M
def strE : ByteArray := ⟨#[]⟩
theorem c_of (s : Yb) (w : World) (hL : Laid w)  : Cs 62 #[.string s] w (.string (blV 32 strE s)) := by
 go_enter Tryz.func62, Tryz.ntmps62
 have M := Mem.start hL
 refine sq <| sR <| rV 1 ?_
 refine ZC M 7 (fun w M => c_blsum 32 strE s (by decide) (by decide) (by decide) w M.laid) fun u1 M => ?_
 refine rV 5 <| nT <| sq <| wp_ret ?_
 exact b1 M
open Go.RowKit
theorem run_strlh {P : Program} {a : Act} {o : Oper} (t : TypeId) (hu : P.underlying t = some .string) (x lo hi : Operand) (ho : o.op = .slice t x (some lo) (some hi) none) (s : Yb) (hx : a.eval x = .string s) (k k' : IntKind) (i j : Nat) (hl : a.eval lo = .int k (i : Int)) (hh : a.eval hi = .int k' (j : Int)) (hij : i ≤ j) (hle : j ≤ s.size) (w : World) :
  (execOp a.eval o).run P w = .ok (.value (.string (s.extract i j))) w := by
 unfold execOp
 simp [ho, hx, hl, hh, run_sliceAt_string w t (.string s) (some (.int k i)) (some (.int k' j)) none hu, run_slice_string w t s k k' i j hu (by omega) (by omega) (by omega)]
open Go.RowKit
theorem bs_ext (l : List Int) (n : Nat) : (bs l).extract 0 n = bs (l.take n) := by
 apply ByteArray.ext
 rw [ByteArray.data_extract]
 unfold bs
 apply Array.ext_getElem?
 intro i
 simp only [Array.getElem?_extract, List.getElem?_toArray, List.getElem?_map, List.getElem?_take]
 by_cases h : i < n
 ·simp [h]
  intro h2
  rw [List.getElem?_eq_none (by omega)]
  rfl
 ·simp [h]
  omega
theorem sumV_eq (z : Nat) (H : HS) : sumV z H = bs ((loI (sumW H) 8).take z) := bs_ext _ _
theorem bt_out (A : Yb) (i : Nat) (h : A.size ≤ i) : bt A i = 0 := by
 have hs : A.data.size = A.size := rfl
 unfold bt
 rw [Array.getElem?_eq_none (by omega)]
 rfl
open Go.RowKit
def xb (x y : Int) : Int := IntKind.wrap .u8 (BitVec.ofInt 8 x ^^^ BitVec.ofInt 8 y).toNat
theorem xb_nn (x y : Int) : 0 ≤ xb x y ∧ xb x y < 256 := cv8_nn _
def mkF (f : NI) (m : Int) : Nat → (Nat → Int)
 | 0 => f
 | j + 1 => upd (mkF f m j) j (xb (mkF f m j j) m)
theorem mkF_eq (f : NI) (m : Int) : ∀ j i, mkF f m j i = if i < j then xb (f i) m else f i
 | 0, i => by rw [if_neg (by omega)]; rfl
 | j + 1, i => by
  unfold mkF upd
  by_cases e : i = j
  ·subst e
   rw [if_pos rfl, if_pos (by omega), mkF_eq f m i i, if_neg (by omega)]
  ·rw [if_neg e, mkF_eq f m j i]
   by_cases h : i < j
   ·rw [if_pos h, if_pos (by omega)]
   ·rw [if_neg h, if_neg (by omega)]
def mk (f : NI) (m : Int) : ByteArray := bs ((List.range 64).map fun i => xb (f i) m)
theorem mk_size (f : NI) (m : Int) : (mk f m).size = 64 := by rw [mk, bs_size]; simp
theorem sb_av (n : Nat) (F : NI) (T : TypeId) : SB (.cells (av n (w8 F)) T) n (vs8 ((List.range n).map F)) := ⟨_, T, (0, 0), rfl, by simp [vs8], by rw [av_size]; exact Nat.le_refl _, fun i hi => by
 simp [vs8] at hi
 simp [vs8, av, w8, hi], fun i _ => by simp⟩
theorem bl_size (s : Yb) : (blV 32 strE s).size = 32 := by
 unfold blV
 rw [sumV_eq, bs_size, List.length_take, loI_length]
 rfl
def keyV (key : Yb) : ByteArray := if 64 < key.size then blV 32 strE key else key
def tagV (f : NI) (s : Yb) : ByteArray := blV 32 strE (mk f 92 ++ blV 32 strE (mk f 54 ++ s))
theorem tagV_size (f : NI) (s : Yb) : (tagV f s).size = 32 := bl_size _
def hmV (key s : Yb) : ByteArray := tagV (bt (keyV key)) s
theorem bt_cp (s : Yb) (hs : s.size ≤ 64) : ∀ j, j < 64 → (if 0 ≤ j ∧ j < 0 + Nat.min s.size 64 then w8 (bt s) (j - 0) else w8 (fun _ => 0) j) = w8 (bt s) j := fun j _ => by
 have e : Nat.min s.size 64 = s.size := Nat.min_eq_left hs
 rw [e, Nat.sub_zero]
 unfold w8
 by_cases h : j < s.size
 ·rw [if_pos (by omega)]
 ·rw [if_neg (by omega), bt_out s j (by omega)]
theorem mk_back (f : NI) (m : Int) : bs ((List.range 64).map (mkF f m 64)) = mk f m := by
 unfold mk
 refine congrArg bs ?_
 refine List.map_congr_left fun i hi => ?_
 rw [mkF_eq, if_pos (List.mem_range.1 hi)]
theorem mk_nn (f : NI) (m : Int) : ∀ x ∈ (List.range 64).map (mkF f m 64), 0 ≤ x ∧ x < 256 := fun x hx => by
 obtain ⟨i, hi, rfl⟩ := List.mem_map.1 hx
 rw [mkF_eq, if_pos (List.mem_range.1 hi)]
 exact xb_nn _ _
theorem c_masked (f : NI) (m : Int) (w : World) (hL : Laid w)  : Cs 173 #[.agg (av 64 (w8 f)), .int .u8 m] w (.string (mk f m)) := by
 go_enter Tryz.func173, Tryz.ntmps173
 have M := Mem.start hL
 refine sR ?_
 refine pN M 2 (.cells (av 64 (w8 f)) 177) fun g1 u1 M => ?_
 refine rV 1 <| nT <| wp_seq <| sq ?_
 refine wp_block ?_
 refine au_loop (fun j a w' => ∃ v1 : NV, a = (fm ([.agg (av 64 (w8 f)), .int .u8 m, .pointer (some ⟨g1, 0, none⟩), v1 3, .string ⟨#[]⟩, v1 5, .int .i64 (j : Int)] ++ vr v1 7 11)) ∧ Mem ⟨w, []⟩ [⟨g1, .cells (av 64 (w8 (mkF f m j))) 177⟩] w') 64 (exS M) ?_ ?_
 ·intro j a u0 hj hI
  obtain ⟨v1, rfl, M⟩ := hI
  refine sR ?_
  refine ZT 7 ((j : Int) < 64) ?_
  refine nT <| wp_seq <| cT <| wp_skip <| au_then ?_
  refine wp_seq ?_
  refine wp_block ?_
  refine sq ?_
  refine rg_lit ?_
  refine rV 1 ?_
  refine ZX 10 .i64 g1 (j) 64 ?_
  refine ZE M 11 0 j ?_
  refine rV 2 ?_
  refine ZX 14 .i64 g1 (j) 64 ?_
  refine ZP8 M 0 j (xb (mkF f m j j) m) fun u2 M => ?_
  refine pl_nil ?_
  refine au_block ?_
  refine au_then ?_
  refine rg_lit ?_
  refine ZI 15 ((j : Int) + 1) ((j + 1 : Nat) : Int) ?_
  refine rV 1 <| nT ?_
  exact exS M
 ·intro a u0 hI
  obtain ⟨v1, rfl, M⟩ := hI
  refine sR ?_
  refine ZF 7 ((64 : Int) < 64) ?_
  refine nT <| wp_seq <| cF ?_
  refine wp_exit ?_
  refine au_then_exit ?_
  refine au_then_exit ?_
  refine au_block_exit ?_
  refine au_then <| sR <| rV 1 ?_
  refine pl_back M (want_no rfl) (some 17) rfl _ rfl 0 g1 64 64 (by kernel_rfl) _ rfl ((List.range 64).map (mkF f m 64)) 64 (sb_av 64 _ _) (by simp) (mk_nn f m) ?_
  rw [mk_back]
  refine rV 1 <| nT <| wp_ret ?_
  exact b1 M
theorem c_blockA (key : Yb) (hk : 64 < key.size) (w : World) (hL : Laid w)  : Cs 123 #[.string key] w (.agg (av 64 (w8 (bt (keyV key))))) := by
 go_enter Tryz.func123, Tryz.ntmps123
 have M := Mem.start hL
 obtain ⟨K, hK⟩ : ∃ K, blV 32 strE key = K := ⟨_, rfl⟩
 have hs : K.size ≤ 64 := by rw [← hK, bl_size]; decide
 refine sR ?_
 refine pN M 2 (.cells (av 64 (w8 (fun _ => 0))) 177) fun g1 u1 M => ?_
 refine nT <| wp_seq <| sR <| rV 2 ?_
 refine ZT 6 ((64 : Int) < (key.size : Int)) ?_
 refine nT <| cT ?_
 refine rg_lit ?_
 refine rV 1 ?_
 refine pC M 8 62 #[.string key] (.string K) (fun w M => (by rw [← hK]; exact c_of key w M.laid)) fun u2 M => ?_
 refine rV 1 <| nT <| sR ?_
 refine pN M 3 (.cells (av 64 (w8 (fun _ => 0))) 177) fun g2 u3 M => ?_
 refine nT <| sR <| rV 2 ?_
 refine pl_copyS M (want_no rfl) (some 11) rfl 44 9 3 5 Tryz.underlying44 inz5 1 g2 64 177 (w8 (fun _ => 0)) rfl 0 64 64 K (Nat.min K.size 64) rfl (by rw [Nat.zero_add]; exact Nat.min_le_right _ _) (w8 (bt K)) (bt_cp K hs) (fun _ => by kernel_rfl) fun u4 M => ?_
 refine nT <| sR ?_
 refine pA M 12 1 64 (w8 (bt K)) ?_
 refine ZG M 0 64 (w8 (bt K)) fun u5 M => ?_
 refine nT <| wp_ret ?_
 have e : keyV key = K := by unfold keyV; rw [if_pos hk, hK]
 rw [e]
 exact bc Tryz.results123 M 0 64 (w8 (bt K)) ⟨rfl, below_grown M.old⟩
theorem c_blockB (key : Yb) (hs : ¬ 64 < key.size) (w : World) (hL : Laid w)  : Cs 123 #[.string key] w (.agg (av 64 (w8 (bt (keyV key))))) := by
 go_enter Tryz.func123, Tryz.ntmps123
 have M := Mem.start hL
 have hs : key.size ≤ 64 := by omega
 refine sR ?_
 refine pN M 2 (.cells (av 64 (w8 (fun _ => 0))) 177) fun g1 u1 M => ?_
 refine nT <| wp_seq <| sR <| rV 2 ?_
 refine ZF 6 ((64 : Int) < (key.size : Int)) ?_
 refine nT <| cF <| wp_skip <| au_then <| sR ?_
 refine pN M 3 (.cells (av 64 (w8 (fun _ => 0))) 177) fun g2 u2 M => ?_
 refine nT <| sR <| rV 2 ?_
 refine pl_copyS M (want_no rfl) (some 11) rfl 44 9 3 5 Tryz.underlying44 inz5 1 g2 64 177 (w8 (fun _ => 0)) rfl 0 64 64 key (Nat.min key.size 64) rfl (by rw [Nat.zero_add]; exact Nat.min_le_right _ _) (w8 (bt key)) (bt_cp key hs) (fun _ => by kernel_rfl) fun u3 M => ?_
 refine nT <| sR ?_
 refine pA M 12 1 64 (w8 (bt key)) ?_
 refine ZG M 0 64 (w8 (bt key)) fun u4 M => ?_
 refine nT <| wp_ret ?_
 have e : keyV key = key := by unfold keyV; rw [if_neg (by omega)]
 rw [e]
 exact bc Tryz.results123 M 0 64 (w8 (bt key)) ⟨rfl, below_grown M.old⟩
theorem c_block (key : Yb) (w : World) (hL : Laid w) : Cs 123 #[.string key] w (.agg (av 64 (w8 (bt (keyV key))))) := by
 by_cases h : 64 < key.size
 ·exact c_blockA key h w hL
 ·exact c_blockB key h w hL
theorem c_tag (f : NI) (s : Yb) (hs : s.size < 100000) (w : World) (hL : Laid w)  : Cs 156 #[.agg (av 64 (w8 f)), .string s] w (.string (tagV f s)) := by
 go_enter Tryz.func156, Tryz.ntmps156
 have M := Mem.start hL
 refine sR ?_
 refine pN M 2 (.cells (av 64 (w8 f)) 177) fun g1 u1 M => ?_
 refine rV 1 <| nT <| wp_seq ?_
 refine rg_tail M 9 (by kernel_rfl) (by kernel_rfl) ?_
 simp only [List.take_succ_cons, List.take_zero]
 refine kA M 5 0 64 (w8 f) ?_
 refine eC M 6 (fun w M => c_masked f 92 w M.laid) ?_
 refine kA M 7 0 64 (w8 f) ?_
 refine eC M 8 (fun w M => c_masked f 54 w M.laid) ?_
 refine kR 1 ?_
 refine kH 10 (.string ((mk f 54) ++ s)) (run_cat 9 9 _ _ rfl (mk f 54) s (by kernel_rfl) (by kernel_rfl) (by rw [mk_size]; omega)) ?_
 refine kC M 11 62 #[.string ((mk f 54) ++ s)] (.string (blV 32 strE ((mk f 54) ++ s))) (fun w M => c_of _ w M.laid) ?_
 refine kH 12 (.string ((mk f 92) ++ (blV 32 strE (mk f 54 ++ s)))) (run_cat 9 9 _ _ rfl (mk f 92) (blV 32 strE (mk f 54 ++ s)) (by kernel_rfl) (by kernel_rfl) (by rw [mk_size, bl_size]; decide)) ?_
 refine kC M 13 62 #[.string ((mk f 92) ++ (blV 32 strE (mk f 54 ++ s)))] (.string (blV 32 strE ((mk f 92) ++ (blV 32 strE (mk f 54 ++ s))))) (fun w M => c_of _ w M.laid) ?_
 refine kl_nil fun u2 M => ?_
 refine rV 1 <| nT <| wp_ret ?_
 exact b1 M
theorem c_hmac (key s : Yb) (hs : s.size < 100000) (w : World) (hL : Laid w)  : Cs 125 #[.string key, .string s] w (.string (hmV key s)) := by
 go_enter Tryz.func125, Tryz.ntmps125
 have M := Mem.start hL
 refine sq <| sR <| rV 1 ?_
 refine ZC M 6 (fun w M => c_block key w M.laid) fun u1 M => ?_
 refine rV 1 ?_
 refine ZC M 8 (fun w M => c_tag (bt (keyV key)) s hs w M.laid) fun u2 M => ?_
 refine rV 1 <| nT <| wp_ret ?_
 exact b1 M
theorem c_extract (key s : Yb) (hs : s.size < 100000) (w : World) (hL : Laid w)  : Cs 98 #[.string key, .string s] w (.string (hmV key s)) := by
 go_enter Tryz.func98, Tryz.ntmps98
 have M := Mem.start hL
 refine sq <| sR <| rV 2 ?_
 refine ZC M 7 (fun w M => c_hmac key s hs w M.laid) fun u1 M => ?_
 refine rV 1 <| nT <| wp_ret ?_
 exact b1 M
open Go.RowKit
open Go.Shelf
def bF0 : Nat → Value := fun i => if i = 0 then .pointer none else .slice none 0 0
section
variable {P : Program} {ops : Array Oper} {rest : List Oper} {o : Oper} {a : Act} {w : World} {c : Ctx} {L : List Blk} {Q : Exit → Act → World → Prop} {K : Act → World → Prop} {J : Act → World → Prop}
theorem au_then_goto {i : Nat} (h : Q (.goto i) a w) : Exit.then K Q (.goto i) a w := h
theorem au_scope_ret {i : Nat} (h : Q .ret a w) : Exit.jump i J Q .ret a w := h
theorem pl_newB (M : Mem c L w) (hw : Region.wanted o (yielded ops a.tmps) = true) (d : Option Tmp) (hd : o.dst = d) (Z : Obj) (hrun : ∀ w, (execOp a.eval o).run P w = .ok (.value (.pointer (some ⟨w.heap.size, 0, none⟩))) (w.alloc Z))
  (h : ∀ g w', (∀ b ∈ L, b.g < g) → Mem c (L ++ [⟨g, Z⟩]) w' → PL P ops Q rest (a.put d (.pointer (some ⟨g, 0, none⟩))) w') : PL P ops Q (o :: rest) a w :=
 pl_to hw d hd _ _ (hrun w) (h w.heap.size _ (fun _ hb => M.lt hb) (M.new _ _ (new_below w _) (heap_alloc_new w _) (Nat.le_refl _)))
theorem pl_callr (hw : Region.wanted o (yielded ops a.tmps) = true) (d : Option Tmp) (hd : o.dst = d) (f : FuncId) (args : Array Value) (v : Value) (R : World → Prop) (hrun : ∀ w, (execOp a.eval o).run P w = .ok (.enter f args) w)
  (hc : Calls P f args w fun e w' => e = .returned v ∧ R w') (h : ∀ w', R w' → PL P ops Q rest (a.put d v) w') : PL P ops Q (o :: rest) a w :=
 pl_callq hw d hd f args hrun (hc.mono fun _ w' ⟨he, hr⟩ => ⟨v, he, h w' hr⟩)
end
theorem owns_keep {w w' : World} {B : Nat} {e : TypeId} {v : Value} {n : Nat} {xs : List Value} (h : w.ownsRow B e 1 v n xs) (hb : Below w.heap.size w w') : w'.ownsRow B e 1 v n xs := by
 obtain ⟨h1, h2⟩ := h
 refine ⟨h1, ?_⟩
 rcases h2 with h2 | ⟨g, cap, cur, h3, h4, h5, h6⟩
 ·exact .inl h2
 ·exact .inr ⟨g, cap, cur, h3, h4, by rw [hb.block g (Array.getElem?_eq_some_iff.1 h5).1]; exact h5, h6⟩
theorem bat_keep {w w' : World} {T e : TypeId} {B b : Nat} {p : Value} {xs : List Value} (h : Lib.BuilderAt T e B b p xs w) (hb : Below w.heap.size w w') : Lib.BuilderAt T e B b p xs w' := by
 obtain ⟨h1, v, h2, h3, h4⟩ := h
 exact ⟨h1, v, by rw [hb.block b (Array.getElem?_eq_some_iff.1 h2).1]; exact h2, owns_keep h3 hb, h4⟩
theorem isb_keep {w w' : World} {T e : TypeId} {B b : Nat} {xs : List Value} (h : Lib.IsBuilder T e B b xs w) (hb : Below w.heap.size w w') : Lib.IsBuilder T e B b xs w' := h.imp (bat_keep · hb) (bat_keep · hb)
theorem isb_lt {w : World} {T e : TypeId} {B b : Nat} {xs : List Value} (h : Lib.IsBuilder T e B b xs w) : b < w.heap.size := h.elim Lib.BuilderAt.lt Lib.BuilderAt.lt
structure BU (w : World) (f : NI) (g k : Nat) (l : List UInt8) (u : World) : Prop where
 bel : Below w.heap.size w u
 ge : w.heap.size ≤ g
 lt : g < k
 blk : u.heap[g]? = some (.cells (av 64 (w8 f)) 177)
 isb : Lib.IsBuilder 182 5 k k (Lib.byteCells l) u
theorem same1 {w w' : World} {g : Nat} {Z : Obj} (h : Grw w w' [g]) (h1 : w.heap[g]? = some Z) (h2 : w'.heap[g]? = some Z) : Below w.heap.size w w' := ⟨h.os, h.tape, h.output, h.size, fun j hj => by
 by_cases e : j = g
 ·subst e
  rw [h1, h2]
 ·exact h.block j hj (by simp [e])⟩
theorem below_laid {w u : World} (h : Below w.heap.size w u) (hL : Laid w) : Laid u := hL.of fun k hk => h.block k (Nat.lt_of_lt_of_le hk hL.lt)
theorem BU.ne {w u : World} {f : NI} {g k : Nat} {l : List UInt8} (h : BU w f g k l u) (hL : Laid w) : 2 < g := by have := hL.lt; have := h.ge; omega
theorem BU.mem {w u : World} {f : NI} {g k : Nat} {l : List UInt8} (h : BU w f g k l u) (hL : Laid w) : Mem ⟨u, [g]⟩ [⟨g, .cells (av 64 (w8 f)) 177⟩] u := Mem.startp (below_laid h.bel hL) h.blk (h.ne hL)
theorem BU.keep {w u : World} {f : NI} {g k : Nat} {l : List UInt8} (h : BU w f g k l u) {L : List Blk} {u' : World} (M : Mem ⟨u, [g]⟩ (⟨g, .cells (av 64 (w8 f)) 177⟩ :: L) u') : BU w f g k l u' :=
 have hb := same1 M.old h.blk (M.get 0 rfl)
 ⟨h.bel.trans (hb.mono h.bel.size), h.ge, h.lt, M.get 0 rfl, isb_keep h.isb hb⟩
theorem BU.start {w u : World} {f : NI} {g k : Nat} (M : Mem ⟨w, []⟩ [⟨g, .cells (av 64 (w8 f)) 177⟩, ⟨k, .cells (av 2 bF0) 182⟩] u) (hlt : g < k) : BU w f g k [] u :=
 ⟨below_grown M.old, (M.ge _ (List.mem_of_getElem? (i := 0) rfl)).elim id (fun h => by cases h), hlt, M.get 0 rfl, .inl ⟨Nat.le_refl _, .slice none 0 0, M.get 1 rfl, World.ownsRow_nil _ _ _ _, by simp [Value.ownBlock]⟩⟩
theorem c_len {w u : World} {f : NI} {g k : Nat} {l : List UInt8} (h : BU w f g k l u) : Cs 141 #[.pointer (some ⟨k, 0, none⟩)] u (.int .i64 (l.length : Int)) := by
 refine (Any.Builder_Len (P := Tryz.prog) (ρ := repRen) { repLays with } k k (Lib.byteCells l) u h.isb).mono ?_
 rintro r w' ⟨rfl, rfl⟩
 exact ⟨by rw [Lib.byteCells_length], Below.refl _ _⟩
theorem c_write {w u : World} {f : NI} {g k : Nat} {l : List UInt8} (h : BU w f g k l u) (s : Yb) (hl : l.length + s.size < 1000000) : Calls Tryz.prog 140 #[.pointer (some ⟨k, 0, none⟩), .string s] u fun r w' => r = .returned (.tuple #[.int .i64 s.size, .nilIface]) ∧ BU w f g k (l ++ s.data.toList) w' := by
 have hk := isb_lt h.isb
 refine (Any.Builder_WriteString (P := Tryz.prog) (ρ := repRen) { repLays with } repExtra k k (Lib.byteCells l) s u h.isb (by rw [Lib.byteCells_length]; omega) (by omega)).mono ?_
 rintro r w' ⟨rfl, h1, h2⟩
 exact ⟨rfl, h.bel.trans (h2.mono (by have := h.ge; have := h.lt; omega)), h.ge, h.lt, by rw [h2.block g h.lt]; exact h.blk, .inr (by rw [Lib.byteCells_append]; exact h1)⟩
theorem c_string {w u : World} {f : NI} {g k : Nat} {l : List UInt8} (h : BU w f g k l u) (s : Yb) (hs : s.data.toList = l) : Calls Tryz.prog 129 #[.pointer (some ⟨k, 0, none⟩)] u fun r w' => r = .returned (.string s) ∧ Below w.heap.size w w' := by
 have hk := isb_lt h.isb
 refine (Any.Builder_String_any (P := Tryz.prog) (ρ := repRen) { repLays with } repExtra k k l u h.isb (by omega)).mono ?_
 rintro r w' ⟨rfl, h2⟩
 refine ⟨?_, h.bel.trans (h2.mono (by have := h.ge; have := h.lt; omega))⟩
 rw [← hs]
def tg (f : NI) (info : Yb) : Nat → ByteArray
 | 0 => strE
 | i + 1 => tagV f (tg f info i ++ info ++ bs [((i + 1 : Nat) : Int)])
def al (f : NI) (info : Yb) : Nat → ByteArray
 | 0 => strE
 | i + 1 => al f info i ++ tg f info (i + 1)
theorem tg_size (f : NI) (info : Yb) (i : Nat) : (tg f info (i + 1)).size = 32 := tagV_size _ _
theorem tg_le (f : NI) (info : Yb) : ∀ i, (tg f info i).size ≤ 32
 | 0 => by show 0 ≤ 32; decide
 | i + 1 => by rw [tg_size]; decide
theorem al_size (f : NI) (info : Yb) : ∀ i, (al f info i).size = 32 * i
 | 0 => rfl
 | i + 1 => by
  unfold al
  rw [ByteArray.size_append, al_size f info i, tg_size]
  omega
theorem al_len (f : NI) (info : Yb) (i : Nat) : (al f info i).data.toList.length = 32 * i := by
 rw [← al_size f info i]
 rfl
theorem al_next (f : NI) (info : Yb) (i : Nat) : (al f info i).data.toList ++ (tg f info (i + 1)).data.toList = (al f info (i + 1)).data.toList := by
 show _ = (al f info i ++ tg f info (i + 1)).data.toList
 rw [ByteArray.data_append, Array.toList_append]
theorem sb_one (x : Int) (T : TypeId) : SB (.cells (av 1 (fun _ => .int .u8 x)) T) 1 (vs8 [x]) := ⟨_, T, (0, 0), rfl, by simp [vs8], by rw [av_size]; exact Nat.le_refl _, fun i hi => by
 simp [vs8] at hi
 subst hi
 rfl, fun i _ => by simp⟩
def numOf : Value → Int
 | .int _ x => x
 | _ => 0
def mu9 (N : Nat) (a : Act) : Nat := N - (numOf (a.tmps.getD 9 undef)).toNat
theorem mu9_lt {N : Nat} {a a' : Act} (x y : Nat) (h1 : a'.tmps.getD 9 undef = .int .u8 (y : Int)) (h2 : a.tmps.getD 9 undef = .int .u8 (x : Int)) (hxy : x < y) (hy : y ≤ N) : mu9 N a' < mu9 N a := by
 unfold mu9
 rw [h1, h2]
 show N - (y : Int).toNat < N - (x : Int).toNat
 omega
theorem add8 (j : Nat) (h : j < 255) : IntKind.wrap .u8 ((j : Int) + 1) = ((j + 1 : Nat) : Int) := by
 show ((j : Int) + 1) % 256 = _
 omega
theorem c_tags (f : NI) (info : Yb) (hi : info.size < 10000) (n : Nat) (hn : n ≤ 8160) (w : World) (hL : Laid w)  : Cs 124 #[.agg (av 64 (w8 f)), .string info, .int .i64 (n : Int)] w (.string (al f info ((n + 31) / 32))) := by
 go_enter Tryz.func124, Tryz.ntmps124
 have M := Mem.start hL
 obtain ⟨N, hN⟩ : ∃ N, N = (n + 31) / 32 := ⟨_, rfl⟩
 refine sR ?_
 refine pN M 3 (.cells (av 64 (w8 f)) 177) fun g1 u1 M => ?_
 refine rV 1 <| nT ?_
 refine wp_scope_jumps 0 (fun a u => ∃ (j gk : Nat) (v : NV), j ≤ N ∧ a = (fm ([.agg (av 64 (w8 f)), .string info, .int .i64 (n : Int), .pointer (some ⟨g1, 0, none⟩), undef, undef, v 6, .pointer (some ⟨gk, 0, none⟩), .string (tg f info j), .int .u8 (j : Int)] ++ vr v 10 17)) ∧ BU w f g1 gk (al f info j).data.toList u) (fun a _ => mu9 N a) rfl ?_ ?_
 ·refine sR ?_
  refine pl_newB M (want_no rfl) (some 7) rfl (.cells (av 2 bF0) 182) (fun _ => by kernel_rfl) ?_
  intro g2 u2 hlt M
  replace hlt : g1 < g2 := hlt _ (List.mem_of_getElem? (i := 0) rfl)
  refine nT <| sq <| wp_seq ?_
  refine wp_label ?_
  refine au_then ?_
  have hB : BU w f g1 g2 (al f info 0).data.toList u2 := BU.start M hlt
  generalize g2 = gk at hB
  clear M hlt
  by_cases hj : 0 < N
  ··skip
    have M := hB.mem hL
    refine wp_seq <| sR ?_
    refine ZC M 10 (fun w M => c_len (hB.keep M)) fun u3 M => ?_
    refine rV 1 ?_
    refine zJ 12 (.bool true) (.bool (decide (((al f info 0).data.toList.length : Int) < (n : Int)))) (by rw [al_len, decide_eq_true (by omega)]) ?_
    refine nT <| cT <| sR <| rV 1 ?_
    refine ZQ 14 .u8 (IntKind.wrap .u8 ((0 : Nat) + 1 : Int)) (add8 0 (by omega)) ?_
    refine rV 1 <| nT <| sR ?_
    refine pA M 15 0 64 (w8 f) ?_
    refine rV 2 ?_
    refine pH 18 (.string ((tg f info 0) ++ info)) (run_cat 9 9 _ _ rfl (tg f info 0) info (by kernel_rfl) (by kernel_rfl) (by have := tg_le f info 0; omega)) ?_
    refine rV 1 ?_
    refine ZM M 20 (fun g3 => .slice (some ⟨g3, 0, none⟩) 1 1) (.cells (av 1 (fun _ => .int .u8 ((0 + 1 : Nat) : Int))) 5) fun g3 u4 M => ?_
    refine pl_back M (want_no rfl) (some 21) rfl _ rfl 1 g3 1 1 (by kernel_rfl) _ rfl [((0 + 1 : Nat) : Int)] 1 (sb_one _ _) rfl (by intro x hx; rw [List.mem_singleton.1 hx]; omega) ?_
    refine pH 22 (.string ((tg f info 0 ++ info) ++ (bs [((0 + 1 : Nat) : Int)]))) (run_cat 9 9 _ _ rfl (tg f info 0 ++ info) (bs [((0 + 1 : Nat) : Int)]) (by kernel_rfl) (by kernel_rfl) (by rw [ByteArray.size_append, bs_size]; have := tg_le f info 0; simp; omega)) ?_
    refine pC M 23 156 #[.agg (av 64 (w8 f)), .string ((tg f info 0 ++ info) ++ (bs [((0 + 1 : Nat) : Int)]))] (.string (tg f info (0 + 1))) (fun w M => c_tag f _ (by simp only [ByteArray.size_append, bs_size]; have := tg_le f info 0; simp; omega) w M.laid) fun u5 M => ?_
    refine rV 1 <| nT <| sR <| rV 1 ?_
    refine pl_callr (want_no rfl) (some 25) rfl 140 #[.pointer (some ⟨gk, 0, none⟩), .string (tg f info (0 + 1))] (.tuple #[.int .i64 (tg f info (0 + 1)).size, .nilIface]) _ (fun _ => by kernel_rfl) (c_write (hB.keep M) (tg f info (0 + 1)) (by rw [al_len, tg_size]; omega)) ?_
    intro u6 hB2
    rw [al_next] at hB2
    refine nT ?_
    refine wp_goto ?_
    refine au_then_goto ?_
    exact ⟨rfl, 0 + 1, gk, fun k_ => ([.string ⟨#[]⟩, undef, undef, undef, .int .i64 ((al f info 0).data.toList.length : Int), .int .i64 (n : Int), .bool true, .int .u8 ((0 : Nat) : Int), .int .u8 ((0 + 1 : Nat) : Int), .agg (av 64 (w8 f)), .string (tg f info 0), .string info, .string ((tg f info 0) ++ info), .int .u8 ((0 + 1 : Nat) : Int), .slice (some ⟨g3, 0, none⟩) 1 1, .string (bs [((0 + 1 : Nat) : Int)]), .string ((tg f info 0 ++ info) ++ (bs [((0 + 1 : Nat) : Int)])), .string (tg f info (0 + 1)), .string (tg f info (0 + 1)), .tuple #[.int .i64 (tg f info (0 + 1)).size, .nilIface], undef] : List Value).getD (k_ - 6) undef, by omega, by kernel_rfl, hB2⟩
  ·have hjN : N = 0 := by omega
   ·have M := hB.mem hL
    refine wp_seq <| sR ?_
    refine ZC M 10 (fun w M => c_len (hB.keep M)) fun u7 M => ?_
    refine rV 1 ?_
    refine zJ 12 (.bool false) (.bool (decide (((al f info 0).data.toList.length : Int) < (n : Int)))) (by rw [al_len, decide_eq_false (by omega)]) ?_
    refine nT <| cF <| wp_skip <| au_then <| sR ?_
    refine pl_callr (want_no rfl) (some 26) rfl 129 #[.pointer (some ⟨gk, 0, none⟩)] (.string (al f info N)) _ (fun _ => by kernel_rfl) (c_string (hB.keep M) (al f info N) (by rw [hjN])) ?_
    intro u8 hB2
    refine rV 1 <| nT <| wp_ret ?_
    refine au_scope_ret ?_
    rw [← hN]
    exact bX (.string (al f info N)) ⟨rfl, hB2⟩
 ·intro a u0 hJ
  obtain ⟨j, gk, v, hjn, rfl, hB⟩ := hJ
  refine wp_seq <| wp_skip <| au_then ?_
  by_cases hj : j < N
  ··skip
    have M := hB.mem hL
    refine wp_seq <| sR ?_
    refine ZC M 10 (fun w M => c_len (hB.keep M)) fun u9 M => ?_
    refine rV 1 ?_
    refine zJ 12 (.bool true) (.bool (decide (((al f info j).data.toList.length : Int) < (n : Int)))) (by rw [al_len, decide_eq_true (by omega)]) ?_
    refine nT <| cT <| sR <| rV 1 ?_
    refine ZQ 14 .u8 (IntKind.wrap .u8 ((j : Nat) + 1 : Int)) (add8 j (by omega)) ?_
    refine rV 1 <| nT <| sR ?_
    refine pA M 15 0 64 (w8 f) ?_
    refine rV 2 ?_
    refine pH 18 (.string ((tg f info j) ++ info)) (run_cat 9 9 _ _ rfl (tg f info j) info (by kernel_rfl) (by kernel_rfl) (by have := tg_le f info j; omega)) ?_
    refine rV 1 ?_
    refine ZM M 20 (fun g4 => .slice (some ⟨g4, 0, none⟩) 1 1) (.cells (av 1 (fun _ => .int .u8 ((j + 1 : Nat) : Int))) 5) fun g4 u10 M => ?_
    refine pl_back M (want_no rfl) (some 21) rfl _ rfl 1 g4 1 1 (by kernel_rfl) _ rfl [((j + 1 : Nat) : Int)] 1 (sb_one _ _) rfl (by intro x hx; rw [List.mem_singleton.1 hx]; omega) ?_
    refine pH 22 (.string ((tg f info j ++ info) ++ (bs [((j + 1 : Nat) : Int)]))) (run_cat 9 9 _ _ rfl (tg f info j ++ info) (bs [((j + 1 : Nat) : Int)]) (by kernel_rfl) (by kernel_rfl) (by rw [ByteArray.size_append, bs_size]; have := tg_le f info j; simp; omega)) ?_
    refine pC M 23 156 #[.agg (av 64 (w8 f)), .string ((tg f info j ++ info) ++ (bs [((j + 1 : Nat) : Int)]))] (.string (tg f info (j + 1))) (fun w M => c_tag f _ (by simp only [ByteArray.size_append, bs_size]; have := tg_le f info j; simp; omega) w M.laid) fun u11 M => ?_
    refine rV 1 <| nT <| sR <| rV 1 ?_
    refine pl_callr (want_no rfl) (some 25) rfl 140 #[.pointer (some ⟨gk, 0, none⟩), .string (tg f info (j + 1))] (.tuple #[.int .i64 (tg f info (j + 1)).size, .nilIface]) _ (fun _ => by kernel_rfl) (c_write (hB.keep M) (tg f info (j + 1)) (by rw [al_len, tg_size]; omega)) ?_
    intro u12 hB2
    rw [al_next] at hB2
    refine nT ?_
    refine wp_goto ?_
    refine au_then_goto ?_
    exact ⟨rfl, ⟨j + 1, gk, fun k_ => ([v 6, undef, undef, undef, .int .i64 ((al f info j).data.toList.length : Int), .int .i64 (n : Int), .bool true, .int .u8 (j : Int), .int .u8 ((j + 1 : Nat) : Int), .agg (av 64 (w8 f)), .string (tg f info j), .string info, .string ((tg f info j) ++ info), .int .u8 ((j + 1 : Nat) : Int), .slice (some ⟨g4, 0, none⟩) 1 1, .string (bs [((j + 1 : Nat) : Int)]), .string ((tg f info j ++ info) ++ (bs [((j + 1 : Nat) : Int)])), .string (tg f info (j + 1)), .string (tg f info (j + 1)), .tuple #[.int .i64 (tg f info (j + 1)).size, .nilIface], v 26] : List Value).getD (k_ - 6) undef, by omega, by kernel_rfl, hB2⟩, mu9_lt j (j + 1) (by kernel_rfl) (by kernel_rfl) (by omega) (by omega)⟩
  ·have hjN : N = j := by omega
   ·have M := hB.mem hL
    refine wp_seq <| sR ?_
    refine ZC M 10 (fun w M => c_len (hB.keep M)) fun u13 M => ?_
    refine rV 1 ?_
    refine zJ 12 (.bool false) (.bool (decide (((al f info j).data.toList.length : Int) < (n : Int)))) (by rw [al_len, decide_eq_false (by omega)]) ?_
    refine nT <| cF <| wp_skip <| au_then <| sR ?_
    refine pl_callr (want_no rfl) (some 26) rfl 129 #[.pointer (some ⟨gk, 0, none⟩)] (.string (al f info N)) _ (fun _ => by kernel_rfl) (c_string (hB.keep M) (al f info N) (by rw [hjN])) ?_
    intro u14 hB2
    refine rV 1 <| nT <| wp_ret ?_
    refine au_scope_ret ?_
    rw [← hN]
    exact bX (.string (al f info N)) ⟨rfl, hB2⟩
open Go.RowKit
def ws (f : Nat → ByteArray) : Nat → Value := fun i => .string (f i)
theorem put_ws (f : Nat → ByteArray) (k : Nat) (v : Yb) (j : Nat) : (if j = k then .string v else ws f j) = ws (upd f k v) j := by
 unfold ws upd
 split <;> rfl
theorem info9_ex : (Tryz.prog.info? 9).isSome = true := by kernel_rfl
theorem info9_eq : Tryz.prog.info? 9 = some ((Tryz.prog.info? 9).get info9_ex) := (Option.some_get info9_ex).symm
theorem info9_z : ((Tryz.prog.info? 9).get info9_ex).zero = some (.string ⟨#[]⟩) := by kernel_rfl
theorem run_ix0 {P : Program} {a : Act} {o : Oper} (t elem : TypeId) (hu : P.underlying t = some (.slice elem)) (hs : (P.info? elem).map (·.size) = some 1) (x ix : Operand) (ho : o.op = .indexAddr t x ix) (g len cap : Nat) (hx : a.eval x = .slice (some ⟨g, 0, none⟩) len cap) (k : IntKind) (i : Nat) (hi : a.eval ix = .int k (i : Int)) (hlt : i < len) (w : World) :
  (execOp a.eval o).run P w = .ok (.value (.pointer (some ⟨g, i, none⟩))) w := by
 have h := run_ixL (P := P) t elem hu hs x ix ho g 0 len cap hx k i hi hlt w
 rwa [Nat.zero_add] at h
theorem pl_makeS {ops : Array Oper} {rest : List Oper} {o : Oper} {a : Act} {w : World} {c : Ctx} {L : List Blk} {Q : Exit → Act → World → Prop} (M : Mem c L w) (hw : Region.wanted o (yielded ops a.tmps) = true) (d : Option Tmp) (hd : o.dst = d) (x y : Operand) (ho : o.op = .makeSlice 48 x y) (cap : Nat) (hx : a.eval x = .int .i64 (cap : Int)) (hy : a.eval y = .int .i64 (cap : Int)) (hc : cap < 1000000)
  (h : ∀ g w', Mem c (L ++ [⟨g, .cells (av cap (ws fun _ => ⟨#[]⟩)) 9⟩]) w' → PL Tryz.prog ops Q rest (a.put d (.slice (some ⟨g, 0, none⟩) cap cap)) w') : PL Tryz.prog ops Q (o :: rest) a w := by
 have hby : ((Tryz.prog.info? 9).get info9_ex).bytes ≤ 16 := by decide +kernel
 have hsz : ((Tryz.prog.info? 9).get info9_ex).size = 1 := by kernel_rfl
 have hr := run_make (P := Tryz.prog) w 48 9 _ (.string ⟨#[]⟩) Tryz.underlying48 info9_eq info9_z .i64 .i64 (cap : Int) (cap : Int) (by omega) (by omega) (by
  have := Int.mul_le_mul (show (((Tryz.prog.info? 9).get info9_ex).bytes : Int) ≤ 16 by omega) (show (cap : Int) ≤ 1000000 by omega) (by omega) (by omega)
  omega) (by omega)
 simp only [Int.toNat_natCast, hsz, Nat.mul_one] at hr
 have e : madeCells #[.string ⟨#[]⟩] cap = av cap (ws fun _ => ⟨#[]⟩) := by
  unfold madeCells av ws
  apply Array.ext_getElem?
  intro i
  by_cases hi : i < cap
  ·simp [hi, Nat.mod_one]
  ·simp [hi]
 refine pl_to hw d hd (.slice (some ⟨w.heap.size, 0, none⟩) cap cap) _ ?_ (h w.heap.size (w.alloc (.cells (av cap (ws fun _ => ⟨#[]⟩)) 9)) (M.new _ _ (new_below w _) (heap_alloc_new w _) (Nat.le_refl _)))
 unfold execOp
 simp only [ho, hx, hy, Sem.run_bind, Sem.run_pure]
 rw [hr, ← e]
 rfl
def exV (key info : Yb) (n : Nat) : ByteArray := (al (bt (keyV key)) info ((n + 31) / 32)).extract 0 n
theorem exV_size (key info : Yb) (n : Nat) : (exV key info n).size = n := by
 unfold exV
 rw [ByteArray.size_extract, al_size]
 omega
def txt (key s : Yb) (i : Nat) : ByteArray := tg (bt (keyV (hmV key s))) strE (i + 1)
theorem ba_app {A B : Yb} {i j : Nat} : (A ++ B).extract i j = A.extract i j ++ B.extract (i - A.size) (j - A.size) := by
 apply ByteArray.ext
 rw [ByteArray.data_extract, ByteArray.data_append, ByteArray.data_append, ByteArray.data_extract, ByteArray.data_extract, Array.extract_append]
 rfl
theorem ba_ext2 {A : Yb} {i j k l : Nat} : (A.extract i j).extract k l = A.extract (i + k) (min (i + l) j) := by
 apply ByteArray.ext
 rw [ByteArray.data_extract, ByteArray.data_extract, ByteArray.data_extract, Array.extract_extract]
theorem ba_none {A : Yb} {i j : Nat} (h : min j A.size ≤ i) : A.extract i j = ⟨#[]⟩ := by
 apply ByteArray.ext
 rw [ByteArray.data_extract]
 apply Array.eq_empty_of_size_eq_zero
 rw [Array.size_extract]
 have hs : A.data.size = A.size := rfl
 omega
theorem ba_whole {A : Yb} {j : Nat} (h : A.size ≤ j) : A.extract 0 j = A := by
 apply ByteArray.ext
 rw [ByteArray.data_extract]
 exact Array.extract_eq_self_of_le h
theorem al_cut (f : NI) (info : Yb) (j : Nat) : ∀ n, j < n → (al f info n).extract (j * 32) ((j + 1) * 32) = tg f info (j + 1)
 | 0, h => by omega
 | n + 1, h => by
  show (al f info n ++ tg f info (n + 1)).extract _ _ = _
  rw [ba_app, al_size]
  by_cases e : j = n
  ·subst e
   rw [ba_none (A := al f info j) (by rw [al_size]; omega), show j * 32 - 32 * j = 0 by omega, ba_whole (by rw [tg_size]; omega)]
   exact ByteArray.empty_append
  ·rw [al_cut f info j n (by omega), ba_none (A := tg f info (n + 1)) (by omega)]
   exact ByteArray.append_empty
theorem ex_cut (key s : Yb) (n j : Nat) (h : j < n) : (exV (hmV key s) strE (n * 32)).extract (j * 32) ((j + 1) * 32) = txt key s j := by
 unfold exV txt
 have h2 := Nat.mul_le_mul_right 32 (show j + 1 ≤ n by omega)
 rw [show (n * 32 + 31) / 32 = n by omega, ba_ext2, Nat.zero_add, Nat.zero_add, Nat.min_eq_left h2, al_cut _ _ j n h]
def chF (X : Yb) : Nat → (Nat → ByteArray)
 | 0 => fun _ => ⟨#[]⟩
 | j + 1 => upd (chF X j) j (X.extract (j * 32) ((j + 1) * 32))
theorem chF_eq (X : Yb) : ∀ n i, i < n → chF X n i = X.extract (i * 32) ((i + 1) * 32)
 | 0, i, h => by omega
 | n + 1, i, h => by
  unfold chF upd
  by_cases e : i = n
  ·subst e
   rw [if_pos rfl]
  ·rw [if_neg e, chF_eq X n i (by omega)]
theorem ch_av (key s : Yb) (n : Nat) : av n (ws (chF (exV (hmV key s) strE (n * 32)) n)) = av n (ws (txt key s)) := av_congr fun i hi => by
 unfold ws
 rw [chF_eq _ n i hi, ex_cut key s n i hi]
theorem c_exp (key info : Yb) (hi : info.size < 10000) (n : Nat) (hn : n ≤ 8160) (w : World) (hL : Laid w)  : Cs 97 #[.string key, .string info, .int .i64 (n : Int)] w (.tuple #[.string (exV key info n), .int .i64 0]) := by
 go_enter Tryz.func97, Tryz.ntmps97
 have M := Mem.start hL
 refine sq <| wp_seq <| sR <| rV 1 ?_
 refine ZF 9 ((n : Int) < 0) ?_
 refine rV 2 ?_
 refine ZF 12 ((8160 : Int) < (n : Int)) ?_
 refine rV 1 <| nT <| cF <| wp_skip <| au_then ?_
 refine sR <| rV 1 ?_
 refine ZC M 15 (fun w M => c_block key w M.laid) fun u1 M => ?_
 refine rV 2 ?_
 refine pC M 18 124 #[.agg (av 64 (w8 (bt (keyV key)))), .string info, .int .i64 (n : Int)] (.string (al (bt (keyV key)) info ((n + 31) / 32))) (fun w M => c_tags _ info hi n hn w M.laid) fun u2 M => ?_
 refine rV 1 ?_
 refine pH 20 (.string (exV key info n)) (run_strh 9 Tryz.underlying9 _ _ rfl (al (bt (keyV key)) info ((n + 31) / 32)) (by kernel_rfl) .i64 n (by kernel_rfl) (by rw [al_size]; omega) _ rfl) ?_
 refine rV 2 <| nT <| wp_ret ?_
 exact b1 M
theorem c_ch (key s : Yb) (hs : s.size < 10000) (n : Nat) (h1 : 1 ≤ n) (h3 : n ≤ 3) (w : World) (hL : Laid w) : Calls Tryz.prog 65 #[.string key, .string s, .int .i64 (n : Int)] w fun r w' => ∃ g, r = .returned (.tuple #[.slice (some ⟨g, 0, none⟩) n n, .int .i64 0]) ∧ w.heap.size ≤ g ∧ w'.heap[g]? = some (.cells (av n (ws (txt key s))) 9) ∧ Below w.heap.size w w' := by
 go_enter Tryz.func65, Tryz.ntmps65
 have M := Mem.start hL
 refine sq <| wp_seq <| sR <| rV 1 ?_
 refine ZF 13 ((n : Int) < 1) ?_
 refine rV 2 ?_
 refine ZF 16 ((3 : Int) < (n : Int)) ?_
 refine rV 1 <| nT <| cF <| wp_skip <| au_then ?_
 refine sR <| rV 2 ?_
 refine ZC M 21 (fun w M => c_extract key s (by omega) w M.laid) fun u1 M => ?_
 refine rV 1 ?_
 refine ZI 23 ((n : Int) * 32) ((n * 32 : Nat) : Int) ?_
 refine ZC M 24 (fun w M => c_exp (hmV key s) strE (by decide) (n * 32) (by omega) w M.laid) fun u2 M => ?_
 refine rV 5 <| nT <| wp_seq <| sq <| cF ?_
 refine wp_skip <| au_then <| sR <| rV 1 ?_
 refine pl_makeS M (want_no rfl) (some 31) rfl _ _ rfl n (by kernel_rfl) (by kernel_rfl) (by omega) fun g1 u3 M => ?_
 refine rV 1 <| nT <| wp_seq <| sq ?_
 refine wp_block ?_
 refine au_loop (fun j a w' => ∃ v1 : NV, a = (fm ([.string key, .string s, .int .i64 (n : Int)] ++ vr v1 3 3 ++ [.slice none 0 0, .int .i64 0, .string (exV (hmV key s) strE (n * 32)), .int .i64 0, .slice (some ⟨g1, 0, none⟩) n n] ++ vr v1 11 22 ++ [.int .i64 (n : Int), .int .i64 (j : Int)] ++ vr v1 35 14)) ∧ Mem ⟨w, []⟩ [⟨g1, .cells (av n (ws (chF (exV (hmV key s) strE (n * 32)) j))) 9⟩] w') n (exS M) ?_ ?_
 ·intro j a u0 hj hI
  obtain ⟨v1, rfl, M⟩ := hI
  refine sR ?_
  refine ZT 35 ((j : Int) < (n : Int)) ?_
  refine nT <| wp_seq <| cT <| wp_skip <| au_then ?_
  refine wp_seq ?_
  refine wp_block ?_
  refine sq ?_
  refine rg_lit ?_
  refine rV 4 ?_
  refine ZI 41 ((j : Int) * 32) ((j * 32 : Nat) : Int) ?_
  refine rV 1 ?_
  refine ZI 43 ((j : Int) + 1) ((j + 1 : Nat) : Int) ?_
  refine ZI 44 (((j + 1 : Nat) : Int) * 32) (((j + 1) * 32 : Nat) : Int) ?_
  refine pH 45 (.string ((exV (hmV key s) strE (n * 32)).extract (j * 32) ((j + 1) * 32))) (run_strlh 9 Tryz.underlying9 _ _ _ rfl (exV (hmV key s) strE (n * 32)) (by kernel_rfl) .i64 .i64 (j * 32) ((j + 1) * 32) (by kernel_rfl) (by kernel_rfl) (by omega) (by rw [exV_size]; omega)) ?_
  refine pH 46 (.pointer (some ⟨g1, j, none⟩)) (run_ix0 48 9 Tryz.underlying48 inz9 _ _ rfl g1 n n (by kernel_rfl) .i64 j (by kernel_rfl) (by omega)) ?_
  refine pP M 0 rfl j (.string ((exV (hmV key s) strE (n * 32)).extract (j * 32) ((j + 1) * 32))) (ws (upd (chF (exV (hmV key s) strE (n * 32)) j) j ((exV (hmV key s) strE (n * 32)).extract (j * 32) ((j + 1) * 32)))) (by omega) (fun j _ => put_ws _ _ _ j) fun u4 M => ?_
  refine pl_nil ?_
  refine au_block ?_
  refine au_then ?_
  refine rg_lit ?_
  refine ZI 47 ((j : Int) + 1) ((j + 1 : Nat) : Int) ?_
  refine rV 1 <| nT ?_
  exact exS M
 ·intro a u0 hI
  obtain ⟨v1, rfl, M⟩ := hI
  refine sR ?_
  refine ZF 35 ((n : Int) < (n : Int)) ?_
  refine nT <| wp_seq <| cF ?_
  refine wp_exit ?_
  refine au_then_exit ?_
  refine au_then_exit ?_
  refine au_block_exit ?_
  refine au_then <| sq <| wp_ret ?_
  exact bX (.tuple #[.slice (some ⟨g1, 0, none⟩) n n, .int .i64 0]) ⟨g1, rfl, (M.ge _ (List.mem_of_getElem? (i := 0) rfl)).elim id (fun h => by cases h), by rw [← ch_av]; exact M.get 0 rfl, below_grown M.old⟩
end Go.Proofs.YtiahdbibeleakaaGreatDoor.Bla
namespace Go.Proofs.YtiahdbibeleakaaGreatDoor.Mon
open Go.RowKit
section
variable {P : Program} {ops : Array Oper} {md : Region.Mode} {C : World → Prop}
def HeadQ (P : Program) (md : Region.Mode) (ops : Array Oper) (C : World → Prop) (n : Nat) (L : Array Bool → Act → Prop) : Nat → Array Bool → Act → Prop
 | 0, done, a => L done a
 | f + 1, done, a => Region.ready md ops done ≠ [] ∧ ∀ i ∈ Region.ready md ops done, i < n ∧ qOp P ops C i (HeadQ P md ops C n L f (done.setIfInBounds i true)) a
theorem HeadQ.any {n g : Nat} {L : Array Bool → Act → Prop} {Q : Exit → Act → World → Prop} (hL : ∀ done a w, C w → L done a → wpAny P md ops Q g done a w) :
  ∀ (f : Nat) (done : Array Bool) (a : Act) (w : World), C w → HeadQ P md ops C n L f done a → wpAny P md ops Q (f + g) done a w := by
 intro f
 induction f with
 | zero =>
  intro done a w hw h
  rw [Nat.zero_add]
  exact hL done a w hw h
 | succ f ih =>
  intro done a w hw h
  have e : f + 1 + g = (f + g) + 1 := by omega
  rw [e]
  exact ⟨fun h0 => absurd h0 h.1, fun i hi => wpOp_of_qOp hw (fun a' w' hw' h' => ih _ a' w' hw' h') (h.2 i hi).2⟩
theorem HeadQ.first {n i : Nat} {oi : Oper} {v : Value} {L : Array Bool → Act → Prop} (hi : ops[i]? = some oi) (hsel : ∀ (j : Nat) (o : Oper) cs b, ops[j]? = some o → o.op ≠ .select cs b)
  (hs : Region.sinkB md ops n = true) (hc : Region.chainB md ops n = true) (hn : n < ops.size) (hin : i < n) (hend : ∀ done a, L done a → ∀ j ∈ Region.ready md ops done, n ≤ j) :
  ∀ (f : Nat) (done : Array Bool) (a : Act), HeadInv md ops n done →
   (∀ j oj, ops[j]? = some oj → j ≠ i → done.getD j true = false → (∀ e ∈ oj.after, Region.binds md e = true → e.on ≠ i) → oi.apart ops oj = true) →
   i ∈ Region.ready md ops done → YieldsIn P ops C oi v a → HeadQ P md ops C n L f (done.setIfInBounds i true) (a.put oi.dst v) → HeadQ P md ops C n L (f + 1) done a := by
 intro f
 induction f with
 | zero =>
  intro done a inv _ hr hy H
  refine ⟨fun h => (by rw [h] at hr; cases hr), fun j hj => ?_⟩
  have hjn : j < n := Nat.lt_of_not_le fun h => tail_waits hs hc hn inv _ i rfl hin (mem_ready.1 hr).1 j h hj
  refine ⟨hjn, ?_⟩
  by_cases hji : j = i
  ·subst hji
   exact hy.qOp hi H
  ·have := hend _ _ H j (ready_mono hj hji)
   omega
 | succ f ih =>
  intro done a inv hfree hr hy H
  have hun := (mem_ready.1 hr).1
  refine ⟨fun h => (by rw [h] at hr; cases hr), fun j hj => ?_⟩
  have hjn : j < n := Nat.lt_of_not_le fun h => tail_waits hs hc hn inv _ i rfl hin hun j h hj
  refine ⟨hjn, ?_⟩
  by_cases hji : j = i
  ·subst hji
   exact hy.qOp hi H
  ·obtain ⟨hjun, oj, hoj, hall⟩ := mem_ready.1 hj
   have hno : ∀ e ∈ oj.after, Region.binds md e = true → e.on ≠ i := by
    intro e he hb heq
    have h1 := hall e he hb
    rw [heq, getD_both hun] at h1
    cases h1
   have h2 := qOp_put hoj (hfree j oj hoj hji hjun hno) (fun cs b => hsel i oi cs b hi) (fun cs b => hsel j oj cs b hoj) hy (H.2 j (ready_mono hj hji)).2
   refine qOp_mono (fun a' h3 => ih (done.setIfInBounds j true) a' (inv.set hj hjn) ?_ (ready_mono hr (Ne.symm hji)) h3.1 ?_) h2
   ·intro k ok hk hki hku hkn
    refine hfree k ok hk hki ?_ hkn
    by_cases hjk : j = k
    ·subst hjk
     exact hjun
    ·rw [getD_set_ne true hjk] at hku
     exact hku
   ·rw [Array.setIfInBounds_comm _ _ hji]
    exact h3.2
theorem HeadQ.lex {n g : Nat} {K : Act → Prop} (hsel : Region.noSelect ops = true) (hs : Region.sinkB md ops n = true) (hc : Region.chainB md ops n = true) (hn : n < ops.size) (l : List Oper) :
  ∀ (k : Nat) (done : Array Bool) (a : Act), (∀ j, j < l.length → l[j]? = ops[k + j]?) → k + l.length = n → HeadInv md ops n done →
  Region.lexHead md ops g l.length k done = true → wpQuiet P ops C K l a → HeadQ P md ops C n (fun d a' => Region.seqB md ops g n d = true ∧ K a') l.length done a := by
 induction l with
 | nil =>
  intro k done a _ hk _ hB h
  have e : k = n := by simpa using hk
  subst e
  exact ⟨by simpa [Region.lexHead] using hB, h⟩
 | cons o l ih =>
  intro k done a hl hk inv hB h
  have h0 : ops[k]? = some o := by simpa using (hl 0 (by simp)).symm
  simp only [List.length_cons, Region.lexHead, Bool.and_eq_true] at hB
  simp only [List.length_cons] at hk
  have hr : k ∈ Region.ready md ops done := by simpa using hB.1.1
  have hq : qOp P ops C k (wpQuiet P ops C K l) a := by
   unfold qOp
   simp only [h0]
   exact h
  obtain ⟨v, hy, hK⟩ := yieldsIn_of_qOp h0 hq
  refine HeadQ.first h0 (Region.noSelect_spec hsel) hs hc hn (by omega) (fun d a' hL => seqB_ready hL.1) l.length done a inv (Region.free_spec h0 hB.1.2) hr hy ?_
  refine ih (k + 1) _ _ (fun j hj => ?_) (by omega) (inv.set hr (by omega)) hB.2 hK
  have := hl (j + 1) (by simp; omega)
  simpa [Nat.add_assoc, Nat.add_comm 1 j] using this
theorem wp_region_quiet_tail {id : Nat} {Q : Exit → Act → World → Prop} {a : Act} {w : World} {l : List Oper} (n : Nat) (hm : P.follows .mixedOrders = true) (hB : Region.lexTailB .any l.toArray n = true) (hC : C { w with drawn := w.drawn + 1 })
  (h : wpQuiet P l.toArray C (fun a' => ∀ w', C w' → wpList P l.toArray Q (l.drop n) a' w') (l.take n) a) : (Code.region id l.toArray true).wp P Q a w := by
 simp only [Region.lexTailB, Bool.and_eq_true, decide_eq_true_eq] at hB
 obtain ⟨⟨⟨⟨hsel, hn⟩, hs⟩, hc⟩, hlex⟩ := hB
 have hn' : n < l.length := by simpa using hn
 have htl : (l.take n).length = n := by simp; omega
 have hdl : (l.drop n).length = l.toArray.size - n := by simp
 have inv : HeadInv .any l.toArray n (Array.replicate l.toArray.size false) :=
  ⟨by simp, fun j oj _ hl => (by rw [getD_replicate_false] at hl; cases hl), fun t _ ht => getD_in (by simpa using ht) (getD_replicate_false _ _)⟩
 have H := HeadQ.lex (md := .any) (g := l.toArray.size - n) hsel hs hc hn (l.take n) 0 _ a (fun j hj => by rw [htl] at hj; simp [hj]) (by simpa using htl) inv (by rw [htl]; exact hlex) h
 refine wp_region_any hm ?_
 have H2 := HeadQ.any (Q := Q) (g := l.toArray.size - n) (fun done a' w' hw' hL => by
  have := wpAny_of_seq (md := .any) (Q' := Q) (l.drop n) n done a' w' (fun j => by simp [List.getElem?_drop]) (by rw [hdl]; exact hL.1) (hL.2 w' hw')
  rwa [hdl] at this) _ _ _ _ hC H
 rw [htl, show n + (l.toArray.size - n) = l.toArray.size by omega] at H2
 exact H2
structure KW (W : World) where
 w : World
 keep : Below W.heap.size W w
def KW.next {W : World} (s : KW W) (w' : World) (h : Below s.w.heap.size s.w w') : KW W := ⟨w', s.keep.trans (h.mono s.keep.size)⟩
theorem KW.drew (W : World) : ∃ s : KW W, ({ W with drawn := W.drawn + 1 } : World) = s.w := ⟨⟨W.drew, (Below.refl _ _).drew⟩, rfl⟩
theorem keep_of {W : World} {s : KW W} {f : FuncId} {args : Array Value} {v : Value}
  (h : Calls P f args s.w fun e w' => e = .returned v ∧ Below s.w.heap.size s.w w') : Calls P f args s.w fun e w'' => e = .returned v ∧ ∃ t : KW W, w'' = t.w :=
 h.mono fun _ w' ⟨he, hb⟩ => ⟨he, s.next w' hb, rfl⟩
theorem wp_region_keep {id : Nat} {Q : Exit → Act → World → Prop} {a : Act} {w : World} {l : List Oper} (hm : P.follows .mixedOrders = true) (hB : Region.lexB .any l.toArray = true)
  (h : wpQuiet P l.toArray (fun w' => ∃ s : KW w, w' = s.w) (fun a' => ∀ s : KW w, Q .normal a' s.w) l a) : (Code.region id l.toArray true).wp P Q a w := by
 refine wp_region_quiet (C := fun w' => ∃ s : KW w, w' = s.w) hm hB (KW.drew w) ?_
 have e : (fun a' => ∀ w', (∃ s : KW w, w' = s.w) → Q .normal a' w') = fun a' => ∀ s : KW w, Q .normal a' s.w := by
  funext a'
  exact propext ⟨fun h s => h _ ⟨s, rfl⟩, fun h w' ⟨s, hs⟩ => hs ▸ h s⟩
 rw [e]
 exact h
theorem wp_region_keep_tail {id : Nat} {Q : Exit → Act → World → Prop} {a : Act} {w : World} {l : List Oper} (n : Nat) (hm : P.follows .mixedOrders = true) (hB : Region.lexTailB .any l.toArray n = true)
  (h : wpQuiet P l.toArray (fun w' => ∃ s : KW w, w' = s.w) (fun a' => ∀ s : KW w, wpList P l.toArray Q (l.drop n) a' s.w) (l.take n) a) : (Code.region id l.toArray true).wp P Q a w := by
 refine wp_region_quiet_tail (C := fun w' => ∃ s : KW w, w' = s.w) n hm hB (KW.drew w) ?_
 have e : (fun a' => ∀ w', (∃ s : KW w, w' = s.w) → wpList P l.toArray Q (l.drop n) a' w') = fun a' => ∀ s : KW w, wpList P l.toArray Q (l.drop n) a' s.w := by
  funext a'
  exact propext ⟨fun h s => h _ ⟨s, rfl⟩, fun h w' ⟨s, hs⟩ => hs ▸ h s⟩
 rw [e]
 exact h
theorem quiet_load_row {o : Oper} {a : Act} {K : Act → Prop} (ty : TypeId) (x : Operand) (ho : o.op = .load ty x) (g : Nat) (hx : a.eval x = .pointer (some ⟨g, 0, none⟩)) (t : TypeId) (cs : Array Value) (fr : Nat × Nat) (d : TypeDesc)
  (hg : ∀ w, C w → w.heap[g]? = some (.cells cs t fr)) (hu : P.underlying ty = some d) (hd : (match d with | .struct _ | .array _ _ => true | _ => false) = true) (hi : (P.info? ty).map (·.size) = some cs.size)
  (hk : K (a.put o.dst (.agg cs))) : o.quiet P a C K := by
 refine ⟨.agg cs, fun w hw => ?_, hk⟩
 unfold Oper.quietAt execOp
 simp only [ho, hx, Instr.loadAt, Instr.sureAddr, Sem.run_bind, Sem.run_pure, Result.andThen_ok, run_loadVar_row w g t ty cs fr d (hg w hw) hu hd hi]
 exact ⟨rfl, rfl⟩
end
open Go.RowKit
theorem hide {p : Prop} (h : p) : Hid p := h
def Pm : Int := 57896044618658097711785492504343953926634992332820282019728792003956564819949
def Cg (x y : Int) : Prop := ∃ k : Int, x = y + k * Pm
theorem Cg.refl (x : Int) : Cg x x := ⟨0, by omega⟩
theorem Cg.of_eq {x y : Int} (h : x = y) : Cg x y := ⟨0, by omega⟩
theorem Cg.symm {x y : Int} (h : Cg x y) : Cg y x := by
 obtain ⟨k, h⟩ := h
 exact ⟨-k, by rw [h, Int.neg_mul]; omega⟩
theorem Cg.trans {x y z : Int} (h : Cg x y) (g : Cg y z) : Cg x z := by
 obtain ⟨k, h⟩ := h
 obtain ⟨l, g⟩ := g
 exact ⟨k + l, by rw [h, g, Int.add_mul]; omega⟩
theorem Cg.add {x y u v : Int} (h : Cg x y) (g : Cg u v) : Cg (x + u) (y + v) := by
 obtain ⟨k, h⟩ := h
 obtain ⟨l, g⟩ := g
 exact ⟨k + l, by rw [h, g, Int.add_mul]; omega⟩
theorem Cg.neg {x y : Int} (h : Cg x y) : Cg (-x) (-y) := by
 obtain ⟨k, h⟩ := h
 exact ⟨-k, by rw [h, Int.neg_mul]; omega⟩
theorem Cg.sub {x y u v : Int} (h : Cg x y) (g : Cg u v) : Cg (x - u) (y - v) := by
 have := h.add g.neg
 simpa [Int.sub_eq_add_neg] using this
theorem Cg.mul {x y u v : Int} (h : Cg x y) (g : Cg u v) : Cg (x * u) (y * v) := by
 obtain ⟨k, h⟩ := h
 obtain ⟨l, g⟩ := g
 refine ⟨y * l + k * v + k * l * Pm, ?_⟩
 rw [h, g]
 simp only [Int.add_mul, Int.mul_add, Int.mul_assoc, Int.mul_comm Pm, Int.mul_left_comm]
 have e : k * (Pm * v) = k * (v * Pm) := by rw [Int.mul_comm Pm]
 omega
theorem Cg.emod {x y : Int} (h : Cg x y) : x % Pm = y % Pm := by
 obtain ⟨k, h⟩ := h
 rw [h, Int.add_mul_emod_self_right]
theorem Cg.of_emod {x y : Int} (h : x % Pm = y % Pm) : Cg x y := by
 refine ⟨x / Pm - y / Pm, ?_⟩
 have a := Int.mul_ediv_add_emod x Pm
 have b := Int.mul_ediv_add_emod y Pm
 rw [Int.sub_mul, Int.mul_comm (x / Pm), Int.mul_comm (y / Pm)]
 omega
theorem cg_emod (x : Int) : Cg (x % Pm) x := Cg.of_emod (Int.emod_emod_of_dvd x (Int.dvd_refl _))
theorem Cg.sub_P (x k : Int) : Cg (x - k * Pm) x := ⟨-k, by rw [Int.neg_mul]; omega⟩
structure E5 where
 a : Int
 b : Int
 c : Int
 d : Int
 e : Int
abbrev E5.v (x : E5) : Value := .agg #[.int .u64 x.a, .int .u64 x.b, .int .u64 x.c, .int .u64 x.d, .int .u64 x.e]
def E5.n (x : E5) : Int := x.a + 2251799813685248 * x.b + 5070602400912917605986812821504 * x.c + 11417981541647679048466287755595961091061972992 * x.d + 25711008708143844408671393477458601640355247900524685364822016 * x.e
structure E5.Ok (x : E5) : Prop where
 a0 : 0 ≤ x.a
 a1 : x.a ≤ 2251799813840876
 b0 : 0 ≤ x.b
 b1 : x.b ≤ 2251799813840876
 c0 : 0 ≤ x.c
 c1 : x.c ≤ 2251799813840876
 d0 : 0 ≤ x.d
 d1 : x.d ≤ 2251799813840876
 e0 : 0 ≤ x.e
 e1 : x.e ≤ 2251799813840876
def W64 (x : Int) : Prop := 0 ≤ x ∧ x < 18446744073709551616
theorem and51 {x : Int} (h : W64 x) : bits .and .u64 x 2251799813685247 = x % 2251799813685248 := by
 rw [u64_and x _ h.1 h.2 (by decide) (by decide)]
 have e : (2251799813685247 : Int).toNat = 2251799813685247 := by decide
 rw [e, nat_mask51]
 have := h.1
 omega
theorem wrap64u {x : Int} (h : W64 x) : IntKind.u64.wrap x = x := by
 rw [IntKind.wrap_u64]
 exact Int.emod_eq_of_lt h.1 h.2
theorem or_join (i K : Nat) (hK : K = 2 ^ i) {x y : Int} (hx : W64 x) (hy : W64 y) (h1 : x % (K : Int) = 0) (h2 : y < (K : Int)) : bits .or .u64 x y = x + y := by
 rw [u64_or x y hx.1 hx.2 hy.1 hy.2]
 have a := hx.1
 have b := hy.1
 obtain ⟨X, rfl⟩ := Int.eq_ofNat_of_zero_le a
 obtain ⟨Y, rfl⟩ := Int.eq_ofNat_of_zero_le b
 simp only [Int.toNat_natCast]
 have h1' : X % K = 0 := by exact_mod_cast h1
 have h2' : Y < K := by omega
 subst hK
 rw [nat_join i X Y h1' h2']
 omega
theorem or_join' (i K : Nat) (hK : K = 2 ^ i) {x y : Int} (hx : W64 x) (hy : W64 y) (h1 : y % (K : Int) = 0) (h2 : x < (K : Int)) : bits .or .u64 x y = x + y := by
 rw [u64_or x y hx.1 hx.2 hy.1 hy.2]
 have a := hx.1
 have b := hy.1
 obtain ⟨X, rfl⟩ := Int.eq_ofNat_of_zero_le a
 obtain ⟨Y, rfl⟩ := Int.eq_ofNat_of_zero_le b
 simp only [Int.toNat_natCast]
 have h1' : Y % K = 0 := by exact_mod_cast h1
 have h2' : X < K := by omega
 subst hK
 rw [Nat.or_comm, nat_join i Y X h1' h2']
 omega
def car (a b c d e : Int) : E5 := ⟨a % 2251799813685248 + e / 2251799813685248 * 19, b % 2251799813685248 + a / 2251799813685248, c % 2251799813685248 + b / 2251799813685248, d % 2251799813685248 + c / 2251799813685248, e % 2251799813685248 + d / 2251799813685248⟩
theorem car_ok {a b c d e : Int} (ha : W64 a) (hb : W64 b) (hc : W64 c) (hd : W64 d) (he : W64 e) : (car a b c d e).Ok := by
 unfold W64 at *
 constructor <;> simp only [car] <;> omega
theorem car_n (a b c d e : Int) : Cg (car a b c d e).n (E5.n ⟨a, b, c, d, e⟩) := by
 refine ⟨- (e / 2251799813685248), ?_⟩
 simp only [car, E5.n, Pm]
 omega
def addF (x y : E5) : E5 := car (x.a + y.a) (x.b + y.b) (x.c + y.c) (x.d + y.d) (x.e + y.e)
def subF (x y : E5) : E5 := car (x.a + 4503599627370458 - y.a) (x.b + 4503599627370494 - y.b) (x.c + 4503599627370494 - y.c) (x.d + 4503599627370494 - y.d) (x.e + 4503599627370494 - y.e)
def zeroE : E5 := ⟨0, 0, 0, 0, 0⟩
def smallF (n : Int) : E5 := car n 0 0 0 0
theorem zeroE_ok : zeroE.Ok := ⟨by decide, by decide, by decide, by decide, by decide, by decide, by decide, by decide, by decide, by decide⟩
theorem zeroE_n : zeroE.n = 0 := by decide
theorem addF_ok {x y : E5} (hx : x.Ok) (hy : y.Ok) : (addF x y).Ok := by
 obtain ⟨a0, a1, b0, b1, c0, c1, d0, d1, e0, e1⟩ := hx
 obtain ⟨f0, f1, g0, g1, h0, h1, i0, i1, j0, j1⟩ := hy
 exact car_ok ⟨by omega, by omega⟩ ⟨by omega, by omega⟩ ⟨by omega, by omega⟩ ⟨by omega, by omega⟩ ⟨by omega, by omega⟩
theorem addF_n (x y : E5) : Cg (addF x y).n (x.n + y.n) := (car_n _ _ _ _ _).trans (Cg.of_eq (by simp only [E5.n]; omega))
theorem subF_ok {x y : E5} (hx : x.Ok) (hy : y.Ok) : (subF x y).Ok := by
 obtain ⟨a0, a1, b0, b1, c0, c1, d0, d1, e0, e1⟩ := hx
 obtain ⟨f0, f1, g0, g1, h0, h1, i0, i1, j0, j1⟩ := hy
 exact car_ok ⟨by omega, by omega⟩ ⟨by omega, by omega⟩ ⟨by omega, by omega⟩ ⟨by omega, by omega⟩ ⟨by omega, by omega⟩
theorem subF_n (x y : E5) : Cg (subF x y).n (x.n - y.n) := (car_n _ _ _ _ _).trans ⟨2, by simp only [E5.n, Pm]; omega⟩
theorem smallF_ok {n : Int} (h0 : 0 ≤ n) (h1 : n < 4294967296) : (smallF n).Ok := car_ok ⟨by omega, by omega⟩ ⟨by decide, by decide⟩ ⟨by decide, by decide⟩ ⟨by decide, by decide⟩ ⟨by decide, by decide⟩
theorem smallF_n (n : Int) : Cg (smallF n).n n := (car_n _ _ _ _ _).trans (Cg.of_eq (by simp only [E5.n]; omega))
def m0 (x y : E5) : Int := x.a * y.a + x.b * (y.e * 19) + x.c * (y.d * 19) + x.d * (y.c * 19) + x.e * (y.b * 19)
def m1 (x y : E5) : Int := x.a * y.b + x.b * y.a + x.c * (y.e * 19) + x.d * (y.d * 19) + x.e * (y.c * 19)
def m2 (x y : E5) : Int := x.a * y.c + x.b * y.b + x.c * y.a + x.d * (y.e * 19) + x.e * (y.d * 19)
def m3 (x y : E5) : Int := x.a * y.d + x.b * y.c + x.c * y.b + x.d * y.a + x.e * (y.e * 19)
def m4 (x y : E5) : Int := x.a * y.e + x.b * y.d + x.c * y.c + x.d * y.b + x.e * y.a
def mulF (x y : E5) : E5 := car (m0 x y % 2251799813685248 + m4 x y / 2251799813685248 * 19) (m1 x y % 2251799813685248 + m0 x y / 2251799813685248) (m2 x y % 2251799813685248 + m1 x y / 2251799813685248) (m3 x y % 2251799813685248 + m2 x y / 2251799813685248) (m4 x y % 2251799813685248 + m3 x y / 2251799813685248)
theorem mb {a b : Int} (a0 : 0 ≤ a) (a1 : a ≤ 2251799813840876) (b0 : 0 ≤ b) (b1 : b ≤ 42784196462976644) : 0 ≤ a * b ∧ a * b ≤ 96341445630662272367569520500144 :=
 ⟨Int.mul_nonneg a0 b0, Int.le_trans (Int.mul_le_mul a1 b1 b0 (by decide)) (by decide)⟩
structure MB (x y : E5) : Prop where
 aa : 0 ≤ x.a * y.a ∧ x.a * y.a ≤ 96341445630662272367569520500144
 ab : 0 ≤ x.a * y.b ∧ x.a * y.b ≤ 96341445630662272367569520500144
 ac : 0 ≤ x.a * y.c ∧ x.a * y.c ≤ 96341445630662272367569520500144
 ad : 0 ≤ x.a * y.d ∧ x.a * y.d ≤ 96341445630662272367569520500144
 ae : 0 ≤ x.a * y.e ∧ x.a * y.e ≤ 96341445630662272367569520500144
 ba : 0 ≤ x.b * y.a ∧ x.b * y.a ≤ 96341445630662272367569520500144
 bb : 0 ≤ x.b * y.b ∧ x.b * y.b ≤ 96341445630662272367569520500144
 bc : 0 ≤ x.b * y.c ∧ x.b * y.c ≤ 96341445630662272367569520500144
 bd : 0 ≤ x.b * y.d ∧ x.b * y.d ≤ 96341445630662272367569520500144
 be : 0 ≤ x.b * y.e ∧ x.b * y.e ≤ 96341445630662272367569520500144
 ca : 0 ≤ x.c * y.a ∧ x.c * y.a ≤ 96341445630662272367569520500144
 cb : 0 ≤ x.c * y.b ∧ x.c * y.b ≤ 96341445630662272367569520500144
 cc : 0 ≤ x.c * y.c ∧ x.c * y.c ≤ 96341445630662272367569520500144
 cd : 0 ≤ x.c * y.d ∧ x.c * y.d ≤ 96341445630662272367569520500144
 ce : 0 ≤ x.c * y.e ∧ x.c * y.e ≤ 96341445630662272367569520500144
 da : 0 ≤ x.d * y.a ∧ x.d * y.a ≤ 96341445630662272367569520500144
 db : 0 ≤ x.d * y.b ∧ x.d * y.b ≤ 96341445630662272367569520500144
 dc : 0 ≤ x.d * y.c ∧ x.d * y.c ≤ 96341445630662272367569520500144
 dd : 0 ≤ x.d * y.d ∧ x.d * y.d ≤ 96341445630662272367569520500144
 de : 0 ≤ x.d * y.e ∧ x.d * y.e ≤ 96341445630662272367569520500144
 ea : 0 ≤ x.e * y.a ∧ x.e * y.a ≤ 96341445630662272367569520500144
 eb : 0 ≤ x.e * y.b ∧ x.e * y.b ≤ 96341445630662272367569520500144
 ec : 0 ≤ x.e * y.c ∧ x.e * y.c ≤ 96341445630662272367569520500144
 ed : 0 ≤ x.e * y.d ∧ x.e * y.d ≤ 96341445630662272367569520500144
 ee : 0 ≤ x.e * y.e ∧ x.e * y.e ≤ 96341445630662272367569520500144
 bb' : 0 ≤ x.b * (y.b * 19) ∧ x.b * (y.b * 19) ≤ 96341445630662272367569520500144
 bc' : 0 ≤ x.b * (y.c * 19) ∧ x.b * (y.c * 19) ≤ 96341445630662272367569520500144
 bd' : 0 ≤ x.b * (y.d * 19) ∧ x.b * (y.d * 19) ≤ 96341445630662272367569520500144
 be' : 0 ≤ x.b * (y.e * 19) ∧ x.b * (y.e * 19) ≤ 96341445630662272367569520500144
 cb' : 0 ≤ x.c * (y.b * 19) ∧ x.c * (y.b * 19) ≤ 96341445630662272367569520500144
 cc' : 0 ≤ x.c * (y.c * 19) ∧ x.c * (y.c * 19) ≤ 96341445630662272367569520500144
 cd' : 0 ≤ x.c * (y.d * 19) ∧ x.c * (y.d * 19) ≤ 96341445630662272367569520500144
 ce' : 0 ≤ x.c * (y.e * 19) ∧ x.c * (y.e * 19) ≤ 96341445630662272367569520500144
 db' : 0 ≤ x.d * (y.b * 19) ∧ x.d * (y.b * 19) ≤ 96341445630662272367569520500144
 dc' : 0 ≤ x.d * (y.c * 19) ∧ x.d * (y.c * 19) ≤ 96341445630662272367569520500144
 dd' : 0 ≤ x.d * (y.d * 19) ∧ x.d * (y.d * 19) ≤ 96341445630662272367569520500144
 de' : 0 ≤ x.d * (y.e * 19) ∧ x.d * (y.e * 19) ≤ 96341445630662272367569520500144
 eb' : 0 ≤ x.e * (y.b * 19) ∧ x.e * (y.b * 19) ≤ 96341445630662272367569520500144
 ec' : 0 ≤ x.e * (y.c * 19) ∧ x.e * (y.c * 19) ≤ 96341445630662272367569520500144
 ed' : 0 ≤ x.e * (y.d * 19) ∧ x.e * (y.d * 19) ≤ 96341445630662272367569520500144
 ee' : 0 ≤ x.e * (y.e * 19) ∧ x.e * (y.e * 19) ≤ 96341445630662272367569520500144
theorem MB.of {x y : E5} (hx : x.Ok) (hy : y.Ok) : MB x y := ⟨mb hx.a0 hx.a1 hy.a0 (by have := hy.a1; omega), mb hx.a0 hx.a1 hy.b0 (by have := hy.b1; omega), mb hx.a0 hx.a1 hy.c0 (by have := hy.c1; omega), mb hx.a0 hx.a1 hy.d0 (by have := hy.d1; omega), mb hx.a0 hx.a1 hy.e0 (by have := hy.e1; omega), mb hx.b0 hx.b1 hy.a0 (by have := hy.a1; omega), mb hx.b0 hx.b1 hy.b0 (by have := hy.b1; omega), mb hx.b0 hx.b1 hy.c0 (by have := hy.c1; omega), mb hx.b0 hx.b1 hy.d0 (by have := hy.d1; omega), mb hx.b0 hx.b1 hy.e0 (by have := hy.e1; omega), mb hx.c0 hx.c1 hy.a0 (by have := hy.a1; omega), mb hx.c0 hx.c1 hy.b0 (by have := hy.b1; omega), mb hx.c0 hx.c1 hy.c0 (by have := hy.c1; omega), mb hx.c0 hx.c1 hy.d0 (by have := hy.d1; omega), mb hx.c0 hx.c1 hy.e0 (by have := hy.e1; omega), mb hx.d0 hx.d1 hy.a0 (by have := hy.a1; omega), mb hx.d0 hx.d1 hy.b0 (by have := hy.b1; omega), mb hx.d0 hx.d1 hy.c0 (by have := hy.c1; omega), mb hx.d0 hx.d1 hy.d0 (by have := hy.d1; omega), mb hx.d0 hx.d1 hy.e0 (by have := hy.e1; omega), mb hx.e0 hx.e1 hy.a0 (by have := hy.a1; omega), mb hx.e0 hx.e1 hy.b0 (by have := hy.b1; omega), mb hx.e0 hx.e1 hy.c0 (by have := hy.c1; omega), mb hx.e0 hx.e1 hy.d0 (by have := hy.d1; omega), mb hx.e0 hx.e1 hy.e0 (by have := hy.e1; omega), mb hx.b0 hx.b1 (by have := hy.b0; omega) (by have := hy.b1; omega), mb hx.b0 hx.b1 (by have := hy.c0; omega) (by have := hy.c1; omega), mb hx.b0 hx.b1 (by have := hy.d0; omega) (by have := hy.d1; omega), mb hx.b0 hx.b1 (by have := hy.e0; omega) (by have := hy.e1; omega), mb hx.c0 hx.c1 (by have := hy.b0; omega) (by have := hy.b1; omega), mb hx.c0 hx.c1 (by have := hy.c0; omega) (by have := hy.c1; omega), mb hx.c0 hx.c1 (by have := hy.d0; omega) (by have := hy.d1; omega), mb hx.c0 hx.c1 (by have := hy.e0; omega) (by have := hy.e1; omega), mb hx.d0 hx.d1 (by have := hy.b0; omega) (by have := hy.b1; omega), mb hx.d0 hx.d1 (by have := hy.c0; omega) (by have := hy.c1; omega), mb hx.d0 hx.d1 (by have := hy.d0; omega) (by have := hy.d1; omega), mb hx.d0 hx.d1 (by have := hy.e0; omega) (by have := hy.e1; omega), mb hx.e0 hx.e1 (by have := hy.b0; omega) (by have := hy.b1; omega), mb hx.e0 hx.e1 (by have := hy.c0; omega) (by have := hy.c1; omega), mb hx.e0 hx.e1 (by have := hy.d0; omega) (by have := hy.d1; omega), mb hx.e0 hx.e1 (by have := hy.e0; omega) (by have := hy.e1; omega)⟩
structure MS (x y : E5) : Prop where
 s0 : 0 ≤ m0 x y ∧ m0 x y ≤ 481707228153311361837847602500720
 s1 : 0 ≤ m1 x y ∧ m1 x y ≤ 481707228153311361837847602500720
 s2 : 0 ≤ m2 x y ∧ m2 x y ≤ 481707228153311361837847602500720
 s3 : 0 ≤ m3 x y ∧ m3 x y ≤ 481707228153311361837847602500720
 s4 : 0 ≤ m4 x y ∧ m4 x y ≤ 481707228153311361837847602500720
theorem MS.of {x y : E5} (hx : x.Ok) (hy : y.Ok) : MS x y := by
 have B := MB.of hx hy
 refine ⟨?_, ?_, ?_, ?_, ?_⟩
 ·unfold m0; have := B.aa; have := B.be'; have := B.cd'; have := B.dc'; have := B.eb'; omega
 ·unfold m1; have := B.ab; have := B.ba; have := B.ce'; have := B.dd'; have := B.ec'; omega
 ·unfold m2; have := B.ac; have := B.bb; have := B.ca; have := B.de'; have := B.ed'; omega
 ·unfold m3; have := B.ad; have := B.bc; have := B.cb; have := B.da; have := B.ee'; omega
 ·unfold m4; have := B.ae; have := B.bd; have := B.cc; have := B.db; have := B.ea; omega
theorem mulF_ok {x y : E5} (hx : x.Ok) (hy : y.Ok) : (mulF x y).Ok := by
 obtain ⟨h0, h1, h2, h3, h4⟩ := MS.of hx hy
 unfold mulF
 generalize m0 x y = n0 at *
 generalize m1 x y = n1 at *
 generalize m2 x y = n2 at *
 generalize m3 x y = n3 at *
 generalize m4 x y = n4 at *
 exact car_ok ⟨by omega, by omega⟩ ⟨by omega, by omega⟩ ⟨by omega, by omega⟩ ⟨by omega, by omega⟩ ⟨by omega, by omega⟩
theorem mul19 (p q : Int) : p * (q * 19) = 19 * (p * q) := by rw [← Int.mul_assoc, Int.mul_comm]
theorem mulF_n (x y : E5) : Cg (mulF x y).n (x.n * y.n) := by
 refine (car_n _ _ _ _ _).trans ?_
 have he : Cg (E5.n ⟨m0 x y % 2251799813685248 + m4 x y / 2251799813685248 * 19, m1 x y % 2251799813685248 + m0 x y / 2251799813685248, m2 x y % 2251799813685248 + m1 x y / 2251799813685248, m3 x y % 2251799813685248 + m2 x y / 2251799813685248, m4 x y % 2251799813685248 + m3 x y / 2251799813685248⟩) (E5.n ⟨m0 x y, m1 x y, m2 x y, m3 x y, m4 x y⟩) := by
  refine ⟨- (m4 x y / 2251799813685248), ?_⟩
  simp only [E5.n, Pm]
  omega
 refine he.trans ?_
 clear he
 obtain ⟨a, b, c, d, e⟩ := x
 obtain ⟨f, g, h, i, j⟩ := y
 refine ⟨- (b * j + c * i + d * h + e * g) - 2251799813685248 * (c * j + d * i + e * h) - 5070602400912917605986812821504 * (d * j + e * i) - 11417981541647679048466287755595961091061972992 * (e * j), ?_⟩
 obtain ⟨X, hX⟩ : ∃ X, X = E5.n ⟨a, b, c, d, e⟩ * E5.n ⟨f, g, h, i, j⟩ := ⟨_, rfl⟩
 rw [← hX]
 simp only [E5.n, Int.add_mul, Int.mul_add, Int.mul_assoc, Int.mul_left_comm a (2251799813685248 : Int), Int.mul_left_comm a (5070602400912917605986812821504 : Int), Int.mul_left_comm a (11417981541647679048466287755595961091061972992 : Int), Int.mul_left_comm a (25711008708143844408671393477458601640355247900524685364822016 : Int), Int.mul_left_comm b (2251799813685248 : Int), Int.mul_left_comm b (5070602400912917605986812821504 : Int), Int.mul_left_comm b (11417981541647679048466287755595961091061972992 : Int), Int.mul_left_comm b (25711008708143844408671393477458601640355247900524685364822016 : Int), Int.mul_left_comm c (2251799813685248 : Int), Int.mul_left_comm c (5070602400912917605986812821504 : Int), Int.mul_left_comm c (11417981541647679048466287755595961091061972992 : Int), Int.mul_left_comm c (25711008708143844408671393477458601640355247900524685364822016 : Int), Int.mul_left_comm d (2251799813685248 : Int), Int.mul_left_comm d (5070602400912917605986812821504 : Int), Int.mul_left_comm d (11417981541647679048466287755595961091061972992 : Int), Int.mul_left_comm d (25711008708143844408671393477458601640355247900524685364822016 : Int), Int.mul_left_comm e (2251799813685248 : Int), Int.mul_left_comm e (5070602400912917605986812821504 : Int), Int.mul_left_comm e (11417981541647679048466287755595961091061972992 : Int), Int.mul_left_comm e (25711008708143844408671393477458601640355247900524685364822016 : Int)] at hX
 simp only [E5.n, m0, m1, m2, m3, m4, mul19, Pm]
 omega
open Go.RowKit
def arr (n : Nat) (f : NI) : Array Value := ((List.range n).map fun i => Value.int .u64 (f i)).toArray
theorem arr_size (n : Nat) (f : NI) : (arr n f).size = n := by simp [arr]
theorem arr_get (n : Nat) (f : NI) (i : Nat) (h : i < n) : (arr n f)[i]? = some (.int .u64 (f i)) := by simp [arr, h]
theorem arr_congr {n : Nat} {f g : NI} (h : ∀ i, i < n → f i = g i) : arr n f = arr n g := by
 unfold arr
 congr 1
 exact List.map_congr_left fun i hi => by rw [h i (List.mem_range.1 hi)]
def upd (f : NI) (k : Nat) (v : Int) : Nat → Int := fun i => if i = k then v else f i
theorem arr_set (n : Nat) (f : NI) (k : Nat) (v : Int) : (arr n f).setIfInBounds k (.int .u64 v) = arr n (upd f k v) := by
 apply Array.ext_getElem?
 intro i
 by_cases hi : i < n
 ·rw [Array.getElem?_setIfInBounds, arr_get n (upd f k v) i hi]
  by_cases hk : k = i
  ·subst hk
   rw [if_pos rfl, if_pos (by rw [arr_size]; exact hi)]
   simp [upd]
  ·have : ¬ i = k := fun h => hk h.symm
   rw [if_neg hk, arr_get n f i hi]
   simp [upd, this]
 ·rw [Array.getElem?_eq_none (by simp [arr_size]; omega), Array.getElem?_eq_none (by simp [arr_size]; omega)]
def Row (w : World) (g : Nat) (T : TypeId) (n : Nat) (f : NI) : Prop := w.heap[g]? = some (.cells (arr n f) T (0, 0))
theorem Row.lt {w : World} {g : Nat} {T : TypeId} {n : Nat} {f : NI} (h : Row w g T n f) : g < w.heap.size := by
 by_cases hlt : g < w.heap.size
 ·exact hlt
 ·have hn : w.heap[g]? = none := by simp; omega
  rw [Row, hn] at h
  cases h
theorem Row.cell {w : World} {g : Nat} {T : TypeId} {n : Nat} {f : NI} (h : Row w g T n f) {i : Nat} (hi : i < n) : w.cell? ⟨g, i, none⟩ = some (.int .u64 (f i)) := by
 rw [cell_of_row w g i (arr n f) T (0, 0) h, arr_get n f i hi]
theorem Row.free {w : World} {g : Nat} {T : TypeId} {n : Nat} {f : NI} (h : Row w g T n f) (i : Nat) : w.frozen? ⟨g, i, none⟩ = false := frozen_of_row w g i (arr n f) T h
theorem Row.set {w : World} {g : Nat} {T : TypeId} {n : Nat} {f : NI} (h : Row w g T n f) (k : Nat) (v : Int) : Row (w.setCell ⟨g, k, none⟩ (.int .u64 v)) g T n (upd f k v) := by
 unfold Row
 rw [heap_setCell_same w g k (arr n f) T _ h, arr_set]
theorem Row.other {w : World} {g : Nat} {T : TypeId} {n : Nat} {f : NI} (h : Row w g T n f) {a : Addr} (ha : g ≠ a.block) (v : Value) : Row (w.setCell a v) g T n f := by
 unfold Row
 rw [heap_setCell_other w a g v ha]
 exact h
theorem Row.keep {w w' : World} {g : Nat} {T : TypeId} {n : Nat} {f : NI} (h : Row w g T n f) (hb : Below w.heap.size w w') : Row w' g T n f := by
 unfold Row
 rw [hb.block g h.lt]
 exact h
theorem Row.alloc {w : World} {g : Nat} {T : TypeId} {n : Nat} {f : NI} (h : Row w g T n f) (o : Obj) : Row (w.alloc o) g T n f := h.keep ((Below.refl _ _).alloc (Nat.le_refl _) _)
theorem Row.congr {w : World} {g : Nat} {T : TypeId} {n : Nat} {f f' : NI} (h : Row w g T n f) (e : ∀ i, i < n → f i = f' i) : Row w g T n f' := by
 unfold Row
 rw [← arr_congr e]
 exact h
theorem Row.new (w : World) (T : TypeId) (n : Nat) (f : NI) : Row (w.alloc (.cells (arr n f) T)) w.heap.size T n f := heap_alloc_new w _
theorem Row.new' (w : World) (T : TypeId) (n : Nat) (f : NI) {g : Nat} (hg : g = w.heap.size) : Row (w.alloc (.cells (arr n f) T)) g T n f := by
 subst hg
 exact heap_alloc_new w _
open Go.RowKit
def setAll (cs : Array Value) : Nat → List Value → Array Value
 | _, [] => cs
 | o, v :: vs => setAll (cs.setIfInBounds o v) (o + 1) vs
theorem setAll_get (vs : List Value) : ∀ (cs : Array Value) (o i : Nat), o + vs.length ≤ cs.size → (setAll cs o vs)[i]? = if o ≤ i ∧ i < o + vs.length then vs[i - o]? else cs[i]? := by
 induction vs with
 | nil =>
  intro cs o i _
  simp only [setAll, List.length_nil]
  rw [if_neg (by omega)]
 | cons v vs ih =>
  intro cs o i h
  simp only [List.length_cons] at h
  simp only [setAll, List.length_cons]
  rw [ih _ _ _ (by simp; omega)]
  by_cases h1 : o + 1 ≤ i ∧ i < o + 1 + vs.length
  ·rw [if_pos h1, if_pos (by omega), show i - o = (i - (o + 1)) + 1 by omega, List.getElem?_cons_succ]
  ·rw [if_neg h1]
   by_cases h2 : i = o
   ·subst h2
    rw [if_pos (by omega), Nat.sub_self, Array.getElem?_setIfInBounds]
    simp
    omega
   ·rw [if_neg (by omega), Array.getElem?_setIfInBounds_ne (by omega)]
theorem heap_setCells (g : Nat) (T : TypeId) (vs : List Value) : ∀ (W : World) (cs : Array Value) (o : Nat), W.heap[g]? = some (.cells cs T (0, 0)) → (W.setCells g o vs).heap[g]? = some (.cells (setAll cs o vs) T (0, 0)) := by
 induction vs with
 | nil => intro W cs o h; exact h
 | cons v vs ih =>
  intro W cs o h
  exact ih _ _ _ (heap_setCell_same W g o cs T v h)
theorem heap_setCells_other (g k : Nat) (hk : k ≠ g) (vs : List Value) : ∀ (W : World) (o : Nat), (W.setCells g o vs).heap[k]? = W.heap[k]? := by
 induction vs with
 | nil => intro W o; rfl
 | cons v vs ih =>
  intro W o
  exact (ih _ _).trans (heap_setCell_other W ⟨g, o, none⟩ k v hk)
theorem below_setCells {B g : Nat} (hg : B ≤ g) (vs : List Value) : ∀ {w W : World} (o : Nat), Below B w W → Below B w (W.setCells g o vs) := by
 induction vs with
 | nil => intro w W o h; exact h
 | cons v vs ih =>
  intro w W o h
  exact ih (o + 1) (h.setCell (p := ⟨g, o, none⟩) hg v)
theorem Row.setAll {W : World} {g : Nat} {T : TypeId} {n : Nat} {f : NI} (h : Row W g T n f) (h' : NI) : Row (W.setCells g 0 (arr n h').toList) g T n h' := by
 unfold Row
 rw [heap_setCells g T _ W (arr n f) 0 h]
 congr 2
 apply Array.ext_getElem?
 intro i
 rw [setAll_get _ _ _ _ (by simp [arr_size])]
 by_cases hi : i < n
 ·rw [if_pos (by simp [arr_size]; omega)]
  simp
 ·rw [if_neg (by simp [arr_size]; omega), Array.getElem?_eq_none (by rw [arr_size]; omega), Array.getElem?_eq_none (by rw [arr_size]; omega)]
theorem Row.setOther {W : World} {g k : Nat} {T : TypeId} {n : Nat} {f : NI} (h : Row W g T n f) (hk : g ≠ k) (o : Nat) (vs : List Value) : Row (W.setCells k o vs) g T n f := by
 unfold Row
 rw [heap_setCells_other k g hk]
 exact h
theorem Row.there {W : World} {g : Nat} {T : TypeId} {n : Nat} {f : NI} (h : Row W g T n f) : W.there g 0 n := fun j hj => by
 rw [Nat.zero_add, h.cell hj]
 exact ⟨rfl, h.free j⟩
theorem arr_one (n : Nat) (f : NI) : (arr n f).all (·.oneCell') = true := by
 rw [Array.all_eq_true]
 intro i hi
 have hi' : i < n := by rw [arr_size] at hi; exact hi
 have h := arr_get n f i hi'
 rw [Array.getElem?_eq_getElem hi] at h
 rw [Option.some.inj h]
 rfl
theorem info108 (f : NI) : (Tryz.prog.info? 108).map (·.size) = some (arr 16 f).size := by rw [arr_size]; kernel_rfl
theorem info135 (f : NI) : (Tryz.prog.info? 135).map (·.size) = some (arr 32 f).size := by rw [arr_size]; kernel_rfl
open Go.RowKit
def S (f : NI) : Nat → Int
 | 0 => 0
 | n + 1 => S f n + f n * 65536 ^ n
theorem p16 (n : Nat) : (0 : Int) < 65536 ^ n := Int.pow_pos (by decide)
theorem p16s (n : Nat) : (65536 : Int) ^ (n + 1) = 65536 * 65536 ^ n := by rw [Int.pow_succ, Int.mul_comm]
def Dig (f : NI) (n : Nat) : Prop := ∀ i, i < n → 0 ≤ f i ∧ f i < 65536
theorem Dig.le {f : NI} {n m : Nat} (h : Dig f n) (hm : m ≤ n) : Dig f m := fun i hi => h i (by omega)
theorem S_bd {f : NI} : ∀ {n : Nat}, Dig f n → 0 ≤ S f n ∧ S f n < 65536 ^ n
 | 0, _ => by simp [S]
 | n + 1, h => by
  have ih := S_bd (n := n) (h.le (by omega))
  have hd := h n (by omega)
  have hp := p16 n
  have h1 : f n * 65536 ^ n ≤ 65535 * 65536 ^ n := Int.mul_le_mul_of_nonneg_right (by omega) (by omega)
  have h2 : 0 ≤ f n * 65536 ^ n := Int.mul_nonneg hd.1 (by omega)
  rw [p16s]
  simp only [S]
  omega
theorem S_congr {f g : NI} : ∀ {n : Nat}, (∀ i, i < n → f i = g i) → S f n = S g n
 | 0, _ => rfl
 | n + 1, h => by
  simp only [S]
  rw [S_congr (n := n) fun i hi => h i (by omega), h n (by omega)]
theorem S_above {f g : NI} {p : Nat} : ∀ {n : Nat}, p ≤ n → (∀ j, p ≤ j → j < n → f j = g j) → S f n - S g n = S f p - S g p := by
 intro n
 induction n with
 | zero => intro h _; have : p = 0 := by omega
           subst this; rfl
 | succ n ih =>
  intro h he
  by_cases hp : p = n + 1
  ·subst hp; rfl
  ·have h1 := ih (by omega) fun j a b => he j a (by omega)
   simp only [S]
   rw [he n (by omega) (by omega)]
   omega
theorem S_lt {f g : NI} {p : Nat} (hf : Dig f 16) (hg : Dig g 16) (hp : p < 16) (he : ∀ j, p + 1 ≤ j → j < 16 → f j = g j) (hne : f p ≠ g p) : decide (f p < g p) = decide (S f 16 < S g 16) := by
 have h1 := S_above (n := 16) (by omega) he
 have h2 := S_bd (hf.le (m := p) (by omega))
 have h3 := S_bd (hg.le (m := p) (by omega))
 have hx := p16 p
 simp only [S] at h1
 generalize S f p = sf at *
 generalize S g p = sg at *
 generalize (65536 : Int) ^ p = X at *
 have hS : (S f 16 < S g 16) ↔ f p < g p := by
  constructor
  ·intro h
   apply Int.lt_of_not_ge
   intro hge
   have : f p ≥ g p + 1 := by omega
   have : (f p - g p) * X ≥ 1 * X := Int.mul_le_mul_of_nonneg_right (by omega) (by omega)
   rw [Int.sub_mul] at this
   have e16 : S f 16 - S g 16 < 0 := by omega
   simp only [S] at e16
   omega
  ·intro h
   have : (g p - f p) * X ≥ 1 * X := Int.mul_le_mul_of_nonneg_right (by omega) (by omega)
   rw [Int.sub_mul] at this
   have e16 : ∀ d, S f 16 - S g 16 = d → d < 0 → S f 16 < S g 16 := fun d a b => by omega
   simp only [S] at e16 ⊢
   omega
 exact decide_eq_decide.2 hS.symm
def wid (f : NI) (k : Nat) : Nat → Int := fun i => if i < k then f i else 0
theorem wide_any (f : NI) (w : World) : Cs 85 #[.agg (arr 16 f)] w (.agg (arr 32 (wid f 16))) := by
 go_enter Tryz.func85, Tryz.ntmps85
 go_wp2
 rw [show #[Value.int .u64 0, Value.int .u64 0, Value.int .u64 0, Value.int .u64 0, Value.int .u64 0, Value.int .u64 0, Value.int .u64 0, Value.int .u64 0, Value.int .u64 0, Value.int .u64 0, Value.int .u64 0, Value.int .u64 0, Value.int .u64 0, Value.int .u64 0, Value.int .u64 0, Value.int .u64 0, Value.int .u64 0, Value.int .u64 0, Value.int .u64 0, Value.int .u64 0, Value.int .u64 0, Value.int .u64 0, Value.int .u64 0, Value.int .u64 0, Value.int .u64 0, Value.int .u64 0, Value.int .u64 0, Value.int .u64 0, Value.int .u64 0, Value.int .u64 0, Value.int .u64 0, Value.int .u64 0] = arr 32 (fun _ => 0) from rfl]
 have R1 : Row (((w.alloc (.cells (arr 16 f) 108)).alloc (.cells (arr 32 fun _ => 0) 135)).alloc (.cells (arr 32 fun _ => 0) 135)) w.heap.size 108 16 f := ((Row.new w 108 16 f).alloc _).alloc _
 have R2 : Row (((w.alloc (.cells (arr 16 f) 108)).alloc (.cells (arr 32 fun _ => 0) 135)).alloc (.cells (arr 32 fun _ => 0) 135)) (w.heap.size + 1) 135 32 fun _ => 0 := (Row.new' _ 135 32 _ (by simp)).alloc _
 have R3 : Row (((w.alloc (.cells (arr 16 f) 108)).alloc (.cells (arr 32 fun _ => 0) 135)).alloc (.cells (arr 32 fun _ => 0) 135)) (w.heap.size + 1 + 1) 135 32 fun _ => 0 := Row.new' _ 135 32 _ (by simp)
 have O : Below w.heap.size w (((w.alloc (.cells (arr 16 f) 108)).alloc (.cells (arr 32 fun _ => 0) 135)).alloc (.cells (arr 32 fun _ => 0) 135)) := (((Below.refl _ _).alloc (Nat.le_refl _) _).alloc (by simp) _).alloc (by simp; omega) _
 generalize ((w.alloc (.cells (arr 16 f) 108)).alloc (.cells (arr 32 fun _ => 0) 135)).alloc (.cells (arr 32 fun _ => 0) 135) = W at R1 R2 R3 O ⊢
 go_loopw [4] (fun i wr => ∃ k : Nat, k ≤ 16 ∧ i = .int .i64 k ∧ Row wr w.heap.size 108 16 f ∧ Row wr (w.heap.size + 1) 135 32 (fun _ => 0) ∧ Row wr (w.heap.size + 1 + 1) 135 32 (wid f k) ∧ Below w.heap.size w wr) (fun i _ => 16 - (intOf i).toNat)
 case atStart => exact ⟨0, by omega, rfl, R1, R2, R3, O⟩
 case round =>
  clear R1 R2 R3 O
  obtain ⟨k, hk, rfl, R1, R2, R3, O⟩ := hrel
  by_cases hlt : k < 16
  ·have c := R1.cell hlt
   have d := R3.cell (i := k) (by omega)
   have e := R3.free k
   have RR := hide ((R3.set k (f k)))
   have R1' := hide (R1.other (a := ⟨w.heap.size + 1 + 1, k, none⟩) (by simp; omega) (.int .u64 (f k)))
   have R2' := hide (R2.other (a := ⟨w.heap.size + 1 + 1, k, none⟩) (by simp) (.int .u64 (f k)))
   have O' := hide (O.setCell (p := ⟨w.heap.size + 1 + 1, k, none⟩) (by simp; omega) (.int .u64 (f k)))
   clear R1 R2 R3 O
   go_wp2
   go_roundw
   case rel => exact ⟨k + 1, by omega, by go_num, R1'.out, R2'.out, RR.out.congr (fun i _ => by unfold upd wid; by_cases h : i = k <;> simp [h] <;> omega), O'.out⟩
   case measure => simp [intOf]; omega
  ·have hk' : k = 16 := by omega
   subst hk'
   have RR := hide (R2.setAll (wid f 16))
   have OO := hide (below_setCells (g := w.heap.size + 1) (by omega) (arr 32 (wid f 16)).toList 0 O)
   go_wp2_with (first | (refine wpList_load_row rfl 135 _ rfl (w.heap.size + 1 + 1) rfl 135 (arr 32 (wid f 16)) (0, 0) _ R3 Tryz.underlying135 rfl (info135 _) ?_) | (refine wpList_store_mid rfl 135 _ _ rfl (w.heap.size + 1) 0 (arr 32 (wid f 16)) rfl rfl (by rw [arr_size]; exact R2.there) (info135 _) (arr_one _ _) ?_))
   exact bodyPost_ret (v := .agg (arr 32 (wid f 16))) (results_cell_row Tryz.results85 _ _ (w.heap.size + 1) 135 (arr 32 (wid f 16)) (0, 0) _ rfl RR.out Tryz.underlying135 rfl (info135 _)) rfl ⟨rfl, OO.out⟩
theorem rowN {w : World} {g : Nat} {T : TypeId} {n : Nat} {f : NI} (h : Row w g T n f) (k : Nat) : Row (w.drewN k) g T n f := h
theorem belN {B : Nat} {a w : World} {n : Nat} (h : Below B a w) : Below B a (w.drewN n) := ⟨h.os, h.tape, h.output, h.size, h.block⟩
theorem less_any (f g : NI) (w : World) (hf : Dig f 16) (hg : Dig g 16) : Cs 108 #[.agg (arr 16 f), .agg (arr 16 g)] w (.bool (decide (S f 16 < S g 16))) := by
 go_enter Tryz.func108, Tryz.ntmps108
 go_wp2
 have R1 : Row ((w.alloc (.cells (arr 16 f) 108)).alloc (.cells (arr 16 g) 108)) w.heap.size 108 16 f := (Row.new w 108 16 f).alloc _
 have R2 : Row ((w.alloc (.cells (arr 16 f) 108)).alloc (.cells (arr 16 g) 108)) (w.heap.size + 1) 108 16 g := Row.new' _ 108 16 _ (by simp)
 have O : Below w.heap.size w ((w.alloc (.cells (arr 16 f) 108)).alloc (.cells (arr 16 g) 108)) := ((Below.refl _ _).alloc (Nat.le_refl _) _).alloc (by simp) _
 generalize (w.alloc (.cells (arr 16 f) 108)).alloc (.cells (arr 16 g) 108) = W at R1 R2 O ⊢
 go_loopw [5] (fun i wr => ∃ m : Nat, m ≤ 16 ∧ (∃ v : Int, v = (m : Int) - 1 ∧ i = .int .i64 v) ∧ (∀ j, m ≤ j → j < 16 → f j = g j) ∧ Row wr w.heap.size 108 16 f ∧ Row wr (w.heap.size + 1) 108 16 g ∧ Below w.heap.size w wr) (fun i _ => (intOf i + 1).toNat)
 case atStart => exact ⟨16, by omega, ⟨15, by omega, rfl⟩, fun j a b => by omega, R1, R2, O⟩
 case round =>
  clear R1 R2 O
  obtain ⟨m, hm, ⟨v, hv, hi⟩, hall, R1, R2, O⟩ := hrel
  rcases m with _ | p
  ·have e : v = -1 := by omega
   rw [e] at hi
   clear hv e
   subst hi
   have HS := hide (S_congr (n := 16) fun i hi => hall i (by omega) hi)
   clear hall
   go_wp2
   go_ret
   refine ⟨?_, O⟩
   rw [HS.out]
   simp
  ·have e : v = (p : Int) := by omega
   rw [e] at hi
   clear hv e
   subst hi
   have c := R1.cell (i := p) (by omega)
   have d := R2.cell (i := p) (by omega)
   have i1 : (0 : Int) ≤ (p : Int) := by omega
   have i2 : (p : Int) < 16 := by omega
   have HA := hide hall
   clear hall
   by_cases hfg : f p = g p
   ·have hb : (f p != g p) = false := by simp [hfg]
    have HF := hide hfg
    clear hfg
    go_wp2_with fail
    go_quiet (fail)
    go_wp2
    go_roundw
    case rel => exact ⟨p, by omega, ⟨_, by omega, rfl⟩, fun j a b => by
     by_cases hj : j = p
     ·rw [hj]; exact HF.out
     ·exact HA.out j (by omega) b, rowN R1 _, rowN R2 _, belN O⟩
    case measure => simp [intOf]
   ·have hb : (f p != g p) = true := by simp [hfg]
    have HL := hide (S_lt hf hg (p := p) (by omega) HA.out hfg)
    clear hfg
    go_wp2_with fail
    go_quiet (fail)
    go_wp2_with fail
    go_quiet (fail)
    go_wp2
    go_ret
    exact ⟨by rw [← HL.out]; rfl, belN (belN O)⟩
open Go.RowKit
def pk (k : Nat) : Nat → Int := fun i => if i = 0 then 65517 else if i < k then 65535 else 0
def pF : Nat → Int := upd (pk 15) 15 32767
theorem prime_any (w : World) : Cs 109 #[] w (.agg (arr 16 pF)) := by
 go_enter Tryz.func109, Tryz.ntmps109
 go_wp2
 rw [show #[Value.int .u64 0, Value.int .u64 0, Value.int .u64 0, Value.int .u64 0, Value.int .u64 0, Value.int .u64 0, Value.int .u64 0, Value.int .u64 0, Value.int .u64 0, Value.int .u64 0, Value.int .u64 0, Value.int .u64 0, Value.int .u64 0, Value.int .u64 0, Value.int .u64 0, Value.int .u64 0] = arr 16 (fun _ => 0) from rfl]
 rw [show #[Value.int .u64 65517, Value.int .u64 0, Value.int .u64 0, Value.int .u64 0, Value.int .u64 0, Value.int .u64 0, Value.int .u64 0, Value.int .u64 0, Value.int .u64 0, Value.int .u64 0, Value.int .u64 0, Value.int .u64 0, Value.int .u64 0, Value.int .u64 0, Value.int .u64 0, Value.int .u64 0] = arr 16 (pk 1) from rfl]
 have R1 : Row ((w.alloc (.cells (arr 16 fun _ => 0) 108)).alloc (.cells (arr 16 (pk 1)) 108)) w.heap.size 108 16 (fun _ => 0) := (Row.new w 108 16 _).alloc _
 have R2 : Row ((w.alloc (.cells (arr 16 fun _ => 0) 108)).alloc (.cells (arr 16 (pk 1)) 108)) (w.heap.size + 1) 108 16 (pk 1) := Row.new' _ 108 16 _ (by simp)
 have O : Below w.heap.size w ((w.alloc (.cells (arr 16 fun _ => 0) 108)).alloc (.cells (arr 16 (pk 1)) 108)) := ((Below.refl _ _).alloc (Nat.le_refl _) _).alloc (by simp) _
 generalize (w.alloc (.cells (arr 16 fun _ => 0) 108)).alloc (.cells (arr 16 (pk 1)) 108) = W at R1 R2 O ⊢
 go_loopw [2] (fun i wr => ∃ k : Nat, 1 ≤ k ∧ k ≤ 15 ∧ i = .int .i64 k ∧ Row wr w.heap.size 108 16 (fun _ => 0) ∧ Row wr (w.heap.size + 1) 108 16 (pk k) ∧ Below w.heap.size w wr) (fun i _ => 15 - (intOf i).toNat)
 case atStart => exact ⟨1, by omega, by omega, rfl, R1, R2, O⟩
 case round =>
  clear R1 R2 O
  obtain ⟨k, hk0, hk, rfl, R1, R2, O⟩ := hrel
  by_cases hlt : k < 15
  ·have d := R2.cell (i := k) (by omega)
   have e := R2.free k
   have RR := hide ((R2.set k 65535))
   have R1' := hide (R1.other (a := ⟨w.heap.size + 1, k, none⟩) (by simp) (.int .u64 65535))
   have O' := hide (O.setCell (p := ⟨w.heap.size + 1, k, none⟩) (by simp) (.int .u64 65535))
   clear R1 R2 O
   go_wp2
   go_roundw
   case rel => exact ⟨k + 1, by omega, by omega, by go_num, R1'.out, RR.out.congr (fun i _ => by unfold upd pk; by_cases h : i = k <;> by_cases h0 : i = 0 <;> simp [h, h0] <;> omega), O'.out⟩
   case measure => simp [intOf]; omega
  ·have hk' : k = 15 := by omega
   subst hk'
   have d := R2.cell (i := 15) (by omega)
   have e := R2.free 15
   have R3 := R2.set 15 32767
   have R1' := R1.other (a := ⟨w.heap.size + 1, 15, none⟩) (by simp) (.int .u64 32767)
   have O' := O.setCell (p := ⟨w.heap.size + 1, 15, none⟩) (by simp) (.int .u64 32767)
   rw [show upd (pk 15) 15 32767 = pF from rfl] at R3
   have RR := hide (R1'.setAll pF)
   have OO := hide (below_setCells (g := w.heap.size) (Nat.le_refl _) (arr 16 pF).toList 0 O')
   clear R1 R2 O O' hlt hk hk0
   go_wp2_with (first | (refine wpList_load_row rfl 108 _ rfl (w.heap.size + 1) rfl 108 (arr 16 pF) (0, 0) _ R3 Tryz.underlying108 rfl (info108 _) ?_) | (refine wpList_store_mid rfl 108 _ _ rfl w.heap.size 0 (arr 16 pF) rfl rfl (by rw [arr_size]; exact R1'.there) (info108 _) (arr_one _ _) ?_))
   exact bodyPost_ret (v := .agg (arr 16 pF)) (results_cell_row Tryz.results109 _ _ w.heap.size 108 (arr 16 pF) (0, 0) _ rfl RR.out Tryz.underlying108 rfl (info108 _)) rfl ⟨rfl, OO.out⟩
theorem pF_dig : Dig pF 16 := fun i _ => by
 unfold pF upd pk
 by_cases h : i = 15
 ·simp [h]
 ·by_cases h0 : i = 0
  ·simp [h0]
  ·by_cases h1 : i < 15 <;> simp [h, h0, h1]
theorem pF_S : S pF 16 = Pm := by decide +kernel
def bor (a b : NI) : Nat → Int
 | 0 => 0
 | k + 1 => 1 - (65536 + a k - b k - bor a b k) / 65536
def minusF (a b : NI) : Nat → Int := fun i => (65536 + a i - b i - bor a b i) % 65536
def mk (a b : NI) (k : Nat) : Nat → Int := fun i => if i < k then minusF a b i else 0
theorem bor_bd {a b : NI} (ha : Dig a 16) (hb : Dig b 16) : ∀ k, k ≤ 16 → 0 ≤ bor a b k ∧ bor a b k ≤ 1
 | 0, _ => by simp [bor]
 | k + 1, h => by
  have ih := bor_bd ha hb k (by omega)
  have h1 := ha k (by omega)
  have h2 := hb k (by omega)
  simp only [bor]
  omega
theorem minusF_dig (a b : NI) (n : Nat) : Dig (minusF a b) n := fun i _ => by unfold minusF; omega
theorem minus_S (a b : NI) : ∀ k, S (minusF a b) k = S a k - S b k + bor a b k * 65536 ^ k
 | 0 => by simp [S, bor]
 | k + 1 => by
  have ih := minus_S a b k
  have e : bor a b (k + 1) * 65536 ^ (k + 1) = 65536 * bor a b (k + 1) * 65536 ^ k := by rw [p16s, ← Int.mul_assoc, Int.mul_comm (bor a b (k + 1)) 65536]
  have e2 : minusF a b k = a k - b k - bor a b k + 65536 * bor a b (k + 1) := by
   simp only [minusF, bor]
   omega
  simp only [S]
  rw [ih, e, e2, Int.add_mul, Int.sub_mul, Int.sub_mul]
  omega
theorem minus_le {a b : NI} (ha : Dig a 16) (hb : Dig b 16) (h : S b 16 ≤ S a 16) : S (minusF a b) 16 = S a 16 - S b 16 := by
 have e := minus_S a b 16
 have h0 := bor_bd ha hb 16 (by omega)
 have h1 := S_bd (minusF_dig a b 16)
 have h2 := S_bd ha
 have h3 := S_bd hb
 have : bor a b 16 = 0 ∨ bor a b 16 = 1 := by omega
 rcases this with h4 | h4
 ·rw [h4] at e; omega
 ·rw [h4] at e; omega
theorem and16 {x : Int} (h0 : 0 ≤ x) (h1 : x < 18446744073709551616) : bits .and .u64 x 65535 = x % 65536 := by
 rw [u64_and x _ h0 h1 (by decide) (by decide)]
 have e : (65535 : Int).toNat = 65535 := by decide
 rw [e, nat_mask16]
 omega
theorem minus_any (a b : NI) (w : World) (ha : Dig a 16) (hb : Dig b 16) : Cs 110 #[.agg (arr 16 a), .agg (arr 16 b)] w (.agg (arr 16 (minusF a b))) := by
 go_enter Tryz.func110, Tryz.ntmps110
 go_wp2
 rw [show #[Value.int .u64 0, Value.int .u64 0, Value.int .u64 0, Value.int .u64 0, Value.int .u64 0, Value.int .u64 0, Value.int .u64 0, Value.int .u64 0, Value.int .u64 0, Value.int .u64 0, Value.int .u64 0, Value.int .u64 0, Value.int .u64 0, Value.int .u64 0, Value.int .u64 0, Value.int .u64 0] = arr 16 (fun _ => 0) from rfl]
 have R1 : Row ((((w.alloc (.cells (arr 16 a) 108)).alloc (.cells (arr 16 b) 108)).alloc (.cells (arr 16 fun _ => 0) 108)).alloc (.cells (arr 16 fun _ => 0) 108)) w.heap.size 108 16 a := (((Row.new w 108 16 a).alloc _).alloc _).alloc _
 have R2 : Row ((((w.alloc (.cells (arr 16 a) 108)).alloc (.cells (arr 16 b) 108)).alloc (.cells (arr 16 fun _ => 0) 108)).alloc (.cells (arr 16 fun _ => 0) 108)) (w.heap.size + 1) 108 16 b := ((Row.new' _ 108 16 _ (by simp)).alloc _).alloc _
 have R3 : Row ((((w.alloc (.cells (arr 16 a) 108)).alloc (.cells (arr 16 b) 108)).alloc (.cells (arr 16 fun _ => 0) 108)).alloc (.cells (arr 16 fun _ => 0) 108)) (w.heap.size + 1 + 1) 108 16 (fun _ => 0) := (Row.new' _ 108 16 _ (by simp)).alloc _
 have R4 : Row ((((w.alloc (.cells (arr 16 a) 108)).alloc (.cells (arr 16 b) 108)).alloc (.cells (arr 16 fun _ => 0) 108)).alloc (.cells (arr 16 fun _ => 0) 108)) (w.heap.size + 1 + 1 + 1) 108 16 (fun _ => 0) := Row.new' _ 108 16 _ (by simp)
 have O : Below w.heap.size w ((((w.alloc (.cells (arr 16 a) 108)).alloc (.cells (arr 16 b) 108)).alloc (.cells (arr 16 fun _ => 0) 108)).alloc (.cells (arr 16 fun _ => 0) 108)) := ((((Below.refl _ _).alloc (Nat.le_refl _) _).alloc (by simp) _).alloc (by simp; omega) _).alloc (by simp; omega) _
 generalize (((w.alloc (.cells (arr 16 a) 108)).alloc (.cells (arr 16 b) 108)).alloc (.cells (arr 16 fun _ => 0) 108)).alloc (.cells (arr 16 fun _ => 0) 108) = W at R1 R2 R3 R4 O ⊢
 go_loopw [6, 7] (fun bo i wr => ∃ k : Nat, k ≤ 16 ∧ bo = .int .u64 (bor a b k) ∧ i = .int .i64 k ∧ Row wr w.heap.size 108 16 a ∧ Row wr (w.heap.size + 1) 108 16 b ∧ Row wr (w.heap.size + 1 + 1) 108 16 (fun _ => 0) ∧ Row wr (w.heap.size + 1 + 1 + 1) 108 16 (mk a b k) ∧ Below w.heap.size w wr) (fun _ i _ => 16 - (intOf i).toNat)
 case atStart => exact ⟨0, by omega, rfl, rfl, R1, R2, R3, R4, O⟩
 case round =>
  clear R1 R2 R3 R4 O
  obtain ⟨k, hk, rfl, rfl, R1, R2, R3, R4, O⟩ := hrel
  by_cases hlt : k < 16
  ·have c := R1.cell hlt
   have d := R2.cell hlt
   have x := R4.cell (i := k) hlt
   have e := R4.free k
   obtain ⟨a0, a1⟩ := ha k hlt
   obtain ⟨b0, b1⟩ := hb k hlt
   obtain ⟨q0, q1⟩ := bor_bd ha hb k (by omega)
   have i1 : (0 : Int) ≤ (k : Int) := by omega
   have i2 : (k : Int) < 16 := by omega
   have ea := and16 (x := 65536 + a k - b k - bor a b k) (by omega) (by omega)
   have HB := hide (show bor a b (k + 1) = 1 - (65536 + a k - b k - bor a b k) / 65536 from rfl)
   have RR := hide (fun n => (rowN R4 n).set k ((65536 + a k - b k - bor a b k) % 65536))
   have R1' := hide (fun n => (rowN R1 n).other (a := ⟨w.heap.size + 1 + 1 + 1, k, none⟩) (by simp; omega) (.int .u64 ((65536 + a k - b k - bor a b k) % 65536)))
   have R2' := hide (fun n => (rowN R2 n).other (a := ⟨w.heap.size + 1 + 1 + 1, k, none⟩) (by simp) (.int .u64 ((65536 + a k - b k - bor a b k) % 65536)))
   have R3' := hide (fun n => (rowN R3 n).other (a := ⟨w.heap.size + 1 + 1 + 1, k, none⟩) (by simp) (.int .u64 ((65536 + a k - b k - bor a b k) % 65536)))
   have O' := hide (fun n => (belN (n := n) O).setCell (p := ⟨w.heap.size + 1 + 1 + 1, k, none⟩) (by simp; omega) (.int .u64 ((65536 + a k - b k - bor a b k) % 65536)))
   clear R1 R2 R3 R4 O
   generalize hbo : bor a b k = bo at *
   have HO := hide hbo
   clear hbo
   go_wp2_with fail
   go_quiet (fail)
   go_wp2
   exact ⟨⟨k + 1, by omega, by rw [HB.out], by go_num, R1'.out _, R2'.out _, R3'.out _, (RR.out _).congr (fun i _ => by
    unfold upd mk
    by_cases h : i = k
    ·subst h
     simp [minusF, HO.out]
    ·simp [h]
     omega), O'.out _⟩, by simp [intOf]; omega⟩
  ·have hk' : k = 16 := by omega
   subst hk'
   have e : arr 16 (mk a b 16) = arr 16 (minusF a b) := arr_congr fun i hi => by unfold mk; rw [if_pos hi]
   unfold Row at R4
   rw [e] at R4
   have RR := hide (R3.setAll (minusF a b))
   have OO := hide (below_setCells (g := w.heap.size + 1 + 1) (by omega) (arr 16 (minusF a b)).toList 0 O)
   go_wp2_with (first | (refine wpList_load_row rfl 108 _ rfl (w.heap.size + 1 + 1 + 1) rfl 108 (arr 16 (minusF a b)) (0, 0) _ R4 Tryz.underlying108 rfl (info108 _) ?_) | (refine wpList_store_mid rfl 108 _ _ rfl (w.heap.size + 1 + 1) 0 (arr 16 (minusF a b)) rfl rfl (by rw [arr_size]; exact R3.there) (info108 _) (arr_one _ _) ?_))
   exact bodyPost_ret (v := .agg (arr 16 (minusF a b))) (results_cell_row Tryz.results110 _ _ (w.heap.size + 1 + 1) 108 (arr 16 (minusF a b)) (0, 0) _ rfl RR.out Tryz.underlying108 rfl (info108 _)) rfl ⟨rfl, OO.out⟩
open Go.RowKit
def cf (t : NI) : Nat → Int
 | 0 => 0
 | k + 1 => (t k + cf t k) / 65536
def lo (t : NI) : Nat → Int := fun i => (t i + cf t i) % 65536
theorem lo_dig (t : NI) (n : Nat) : Dig (lo t) n := fun i _ => by unfold lo; omega
theorem pass_S (t : NI) : ∀ k, S (lo t) k + cf t k * 65536 ^ k = S t k
 | 0 => by simp [S, cf]
 | k + 1 => by
  have ih := pass_S t k
  have e : cf t (k + 1) * 65536 ^ (k + 1) = 65536 * cf t (k + 1) * 65536 ^ k := by rw [p16s, ← Int.mul_assoc, Int.mul_comm (cf t (k + 1)) 65536]
  have e2 : lo t k = t k + cf t k - 65536 * cf t (k + 1) := by
   simp only [lo, cf]
   omega
  simp only [S]
  rw [e, e2, Int.sub_mul, Int.add_mul]
  omega
theorem S_shift (f : NI) (n : Nat) : ∀ m, S f (n + m) = S f n + 65536 ^ n * S (fun i => f (n + i)) m
 | 0 => by simp [S]
 | m + 1 => by
  have ih := S_shift f n m
  rw [← Nat.add_assoc]
  simp only [S]
  rw [ih, Int.mul_add, Int.pow_add, Int.mul_left_comm, Int.add_assoc]
theorem S_zero (n : Nat) : S (fun _ => 0) n = 0 := by
 induction n with
 | zero => rfl
 | succ n ih => simp only [S, ih]; simp
def foldF (u : NI) : Nat → Int := fun i => if i < 16 then u i + 38 * u (16 + i) else 0
theorem fold_S (u : NI) : ∀ n, n ≤ 16 → S (foldF u) n = S u n + 38 * S (fun i => u (16 + i)) n
 | 0, _ => by simp [S]
 | n + 1, h => by
  have ih := fold_S u n (by omega)
  simp only [S]
  rw [ih, foldF, if_pos (by omega), Int.add_mul, Int.mul_add, Int.mul_assoc]
  omega
theorem S_upper_zero (f : NI) (h : ∀ i, 16 ≤ i → i < 32 → f i = 0) : S f 32 = S f 16 := by
 have e := S_shift f 16 16
 rw [show 16 + 16 = 32 from rfl] at e
 rw [e, S_congr (f := fun i => f (16 + i)) (g := fun _ => 0) fun i hi => h (16 + i) (by omega) (by omega), S_zero]
 simp
def T1 (t : NI) : Nat → Int := upd (foldF (lo t)) 0 (foldF (lo t) 0 + 1444 * cf t 32)
theorem S_upd0 (f : NI) (v : Int) : ∀ n, S (upd f 0 v) (n + 1) = S f (n + 1) - f 0 + v
 | 0 => by simp [S, upd]
 | n + 1 => by
  have ih := S_upd0 f v n
  show S (upd f 0 v) (n + 1) + upd f 0 v (n + 1) * 65536 ^ (n + 1) = S f (n + 1) + f (n + 1) * 65536 ^ (n + 1) - f 0 + v
  rw [ih]
  simp only [upd]
  rw [if_neg (by omega)]
  omega
theorem T1_up (t : NI) (i : Nat) (h : 16 ≤ i) : T1 t i = 0 := by
 unfold T1 upd foldF
 rw [if_neg (by omega), if_neg (by omega)]
theorem T1_S (t : NI) : Cg (S (T1 t) 32) (S t 32) := by
 rw [S_upper_zero (T1 t) fun i h _ => T1_up t i h]
 have e1 : S (T1 t) 16 = S (foldF (lo t)) 16 + 1444 * cf t 32 := by
  have h := S_upd0 (foldF (lo t)) (foldF (lo t) 0 + 1444 * cf t 32) 15
  rw [show 15 + 1 = 16 from rfl] at h
  unfold T1
  rw [h]
  omega
 have e2 := fold_S (lo t) 16 (by omega)
 have e3 := pass_S t 32
 have e4 := S_shift (lo t) 16 16
 rw [show 16 + 16 = 32 from rfl] at e4
 have p1 : (65536 : Int) ^ 16 = 2 * Pm + 38 := by decide
 have p2 : (65536 : Int) ^ 32 = (2 * Pm + 76) * (2 * Pm) + 1444 := by decide
 rw [e4, p2, p1] at e3
 rw [e1, e2]
 generalize S (fun i => lo t (16 + i)) 16 = h at *
 generalize S (lo t) 16 = l at *
 generalize cf t 32 = c at *
 refine ⟨- (2 * h) - c * ((2 * Pm + 76) * 2), ?_⟩
 rw [← e3]
 simp only [Int.mul_add, Int.add_mul, Int.sub_mul, Int.neg_mul, Int.mul_assoc, Int.mul_comm Pm]
 omega
structure B48 (t : NI) : Prop where
 b : ∀ i, i < 32 → 0 ≤ t i ∧ t i < 281474976710656
theorem cf_bd {t : NI} (h : B48 t) : ∀ k, k ≤ 32 → 0 ≤ cf t k ∧ cf t k ≤ 8589934592
 | 0, _ => by simp [cf]
 | k + 1, hk => by
  have ih := cf_bd h k (by omega)
  have := h.b k (by omega)
  simp only [cf]
  omega
def Jl : Nat → (Nat → Int) → Prop
 | 0, t => B48 t
 | 1, t => (∀ i, 16 ≤ i → i < 32 → t i = 0) ∧ (0 ≤ t 0 ∧ t 0 ≤ 17592186044416) ∧ ∀ i, 1 ≤ i → i < 16 → 0 ≤ t i ∧ t i ≤ 2555865
 | 2, t => (∀ i, 16 ≤ i → i < 32 → t i = 0) ∧ (0 ≤ t 0 ∧ t 0 ≤ 67100) ∧ ∀ i, 1 ≤ i → i < 16 → 0 ≤ t i ∧ t i ≤ 65535
 | _, t => (∀ i, 16 ≤ i → i < 32 → t i = 0) ∧ Dig t 16
theorem Jl.b48 {k : Nat} {t : NI} (hk : k ≤ 3) (h : Jl k t) : B48 t := by
 have hc : k = 0 ∨ k = 1 ∨ k = 2 ∨ k = 3 := by omega
 rcases hc with rfl | rfl | rfl | rfl
 ·exact h
 all_goals
  refine ⟨fun i hi => ?_⟩
  by_cases h16 : 16 ≤ i
  ·rw [h.1 i h16 hi]; omega
  ·first
   | (have := h.2 i (by omega); omega)
   | (by_cases h0 : i = 0
      ·have := h.2.1; rw [h0]; omega
      ·have := h.2.2 i (by omega) (by omega); omega)
theorem T1_low {t : NI} (hz : ∀ i, 16 ≤ i → i < 32 → t i = 0) (hc : 0 ≤ cf t 16 ∧ cf t 16 ≤ 65535) : T1 t 0 = lo t 0 + 38 * cf t 16 ∧ ∀ i, 1 ≤ i → i < 16 → T1 t i = lo t i := by
 have h17 : ∀ j, cf t (17 + j) = 0 ∨ 15 ≤ j := by
  intro j
  induction j with
  | zero => left; show (t 16 + cf t 16) / 65536 = 0; rw [hz 16 (by omega) (by omega)]; omega
  | succ j ih =>
   by_cases hj : 15 ≤ j + 1
   ·exact .inr hj
   ·left
    rcases ih with ih | ih
    ·show (t (17 + j) + cf t (17 + j)) / 65536 = 0
     rw [ih, hz (17 + j) (by omega) (by omega)]
     decide
    ·omega
 have h32 : cf t 32 = 0 := by
  have a : cf t 31 = 0 := by rcases h17 14 with h | h; · exact h
                             ·omega
  show (t 31 + cf t 31) / 65536 = 0
  rw [a, hz 31 (by omega) (by omega)]
  decide
 have hl : ∀ i, 1 ≤ i → i < 16 → lo t (16 + i) = 0 := by
  intro i h1 h2
  have a : cf t (16 + i) = 0 := by
   have := h17 (i - 1)
   rw [show 17 + (i - 1) = 16 + i by omega] at this
   rcases this with h | h
   ·exact h
   ·have : i = 16 := by omega
    omega
  unfold lo
  rw [a, hz (16 + i) (by omega) (by omega)]
  decide
 have h16 : lo t 16 = cf t 16 := by
  unfold lo
  rw [hz 16 (by omega) (by omega)]
  omega
 refine ⟨?_, fun i h1 h2 => ?_⟩
 ·unfold T1 upd
  rw [if_pos rfl, h32]
  unfold foldF
  rw [if_pos (by omega), Nat.add_zero, h16]
  omega
 ·unfold T1 upd
  rw [if_neg (by omega)]
  unfold foldF
  rw [if_pos h2, hl i h1 h2]
  omega
theorem Jl.next {k : Nat} {t : NI} (hk : k < 3) (h : Jl k t) : Jl (k + 1) (T1 t) := by
 have hB := h.b48 (by omega)
 have hc : k = 0 ∨ k = 1 ∨ k = 2 := by omega
 rcases hc with rfl | rfl | rfl
 ·have hcf := cf_bd hB 32 (by omega)
  have hlo := lo_dig t 32
  refine ⟨fun i a _ => T1_up t i a, ?_, fun i h1 h2 => ?_⟩
  ·unfold T1 upd foldF
   have := hlo 0 (by omega)
   have := hlo 16 (by omega)
   simp
   omega
  ·unfold T1 upd foldF
   have := hlo i (by omega)
   have := hlo (16 + i) (by omega)
   rw [if_neg (by omega), if_pos h2]
   omega
 ·obtain ⟨hz, h0, hi⟩ := h
  have c0 : cf t 0 = 0 := rfl
  have c1 : 0 ≤ cf t 1 ∧ cf t 1 ≤ 268435456 := by show 0 ≤ (t 0 + cf t 0) / 65536 ∧ (t 0 + cf t 0) / 65536 ≤ 268435456; rw [c0]; omega
  have c2 : 0 ≤ cf t 2 ∧ cf t 2 ≤ 5000 := by
   have := hi 1 (by omega) (by omega)
   show 0 ≤ (t 1 + cf t 1) / 65536 ∧ (t 1 + cf t 1) / 65536 ≤ 5000
   omega
  have c3 : ∀ j, 3 + j ≤ 16 → 0 ≤ cf t (3 + j) ∧ cf t (3 + j) ≤ 39 := by
   intro j
   induction j with
   | zero =>
    intro _
    have := hi 2 (by omega) (by omega)
    show 0 ≤ (t 2 + cf t 2) / 65536 ∧ (t 2 + cf t 2) / 65536 ≤ 39
    omega
   | succ j ih =>
    intro hj
    have ih := ih (by omega)
    have := hi (3 + j) (by omega) (by omega)
    show 0 ≤ (t (3 + j) + cf t (3 + j)) / 65536 ∧ (t (3 + j) + cf t (3 + j)) / 65536 ≤ 39
    omega
  have h16 := c3 13 (by omega)
  rw [show 3 + 13 = 16 from rfl] at h16
  have hT := T1_low hz (by omega)
  have hlo := lo_dig t 32
  refine ⟨fun i a _ => T1_up t i a, ?_, fun i h1 h2 => ?_⟩
  ·rw [hT.1]
   have := hlo 0 (by omega)
   omega
  ·rw [hT.2 i h1 h2]
   have := hlo i (by omega)
   omega
 ·obtain ⟨hz, h0, hi⟩ := h
  have c0 : cf t 0 = 0 := rfl
  have c1 : 0 ≤ cf t 1 ∧ cf t 1 ≤ 1 := by show 0 ≤ (t 0 + cf t 0) / 65536 ∧ (t 0 + cf t 0) / 65536 ≤ 1; rw [c0]; omega
  have c3 : ∀ j, 1 + j ≤ 16 → 0 ≤ cf t (1 + j) ∧ cf t (1 + j) ≤ cf t 1 := by
   intro j
   induction j with
   | zero => intro _; show 0 ≤ cf t 1 ∧ cf t 1 ≤ cf t 1; omega
   | succ j ih =>
    intro hj
    have ih := ih (by omega)
    have := hi (1 + j) (by omega) (by omega)
    show 0 ≤ (t (1 + j) + cf t (1 + j)) / 65536 ∧ (t (1 + j) + cf t (1 + j)) / 65536 ≤ cf t 1
    omega
  have h16 := c3 15 (by omega)
  rw [show 1 + 15 = 16 from rfl] at h16
  have hT := T1_low hz (by omega)
  have hlo := lo_dig t 32
  have e1 : cf t 1 = (t 0 + cf t 0) / 65536 := rfl
  have el : lo t 0 = (t 0 + cf t 0) % 65536 := rfl
  rw [c0] at e1 el
  refine ⟨fun i a _ => T1_up t i a, fun i h2 => ?_⟩
  by_cases hi0 : i = 0
  ·rw [hi0, hT.1]
   omega
  ·rw [hT.2 i (by omega) h2]
   exact hlo i (by omega)
def d16 (N : Int) : Nat → Int := fun i => N / 65536 ^ i % 65536
theorem S_inj {f g : NI} : ∀ {n : Nat}, Dig f n → Dig g n → S f n = S g n → ∀ i, i < n → f i = g i
 | 0, _, _, _, i, hi => by omega
 | n + 1, hf, hg, h, i, hi => by
  have bf := S_bd (hf.le (m := n) (by omega))
  have bg := S_bd (hg.le (m := n) (by omega))
  have hp := p16 n
  simp only [S] at h
  have hn : f n = g n := by
   apply Classical.byContradiction
   intro hne
   have : f n < g n ∨ g n < f n := by omega
   rcases this with hl | hl
   ·have : (g n - f n) * 65536 ^ n ≥ 1 * 65536 ^ n := Int.mul_le_mul_of_nonneg_right (by omega) (by omega)
    rw [Int.sub_mul] at this
    omega
   ·have : (f n - g n) * 65536 ^ n ≥ 1 * 65536 ^ n := Int.mul_le_mul_of_nonneg_right (by omega) (by omega)
    rw [Int.sub_mul] at this
    omega
  by_cases hin : i = n
  ·rw [hin]; exact hn
  ·refine S_inj (n := n) (hf.le (by omega)) (hg.le (by omega)) ?_ i (by omega)
   rw [hn] at h
   omega
theorem d16_dig (N : Int) (n : Nat) : Dig (d16 N) n := fun i _ => by unfold d16; omega
theorem d16_S (N : Int) (h0 : 0 ≤ N) : ∀ n, S (d16 N) n = N % 65536 ^ n
 | 0 => by simp [S]
 | n + 1 => by
  simp only [S]
  rw [d16_S N h0 n, d16, Int.pow_succ]
  have hp := p16 n
  generalize (65536 : Int) ^ n = X at *
  have a := Int.mul_ediv_add_emod N X
  have b := Int.mul_ediv_add_emod (N / X) 65536
  have r0 := Int.emod_nonneg N (by omega : X ≠ 0)
  have r1 := Int.emod_lt_of_pos N hp
  have hN : N = (N % X + N / X % 65536 * X) + X * 65536 * (N / X / 65536) := by
   have e : X * (N / X) = X * (65536 * (N / X / 65536) + N / X % 65536) := by rw [b]
   rw [Int.mul_add] at e
   rw [Int.mul_comm (N / X % 65536) X, Int.mul_assoc]
   omega
  have q : N / X % 65536 * X ≤ 65535 * X := Int.mul_le_mul_of_nonneg_right (by omega) (by omega)
  have q0 : 0 ≤ N / X % 65536 * X := Int.mul_nonneg (by omega) (by omega)
  have hM : N % (X * 65536) = (N % X + N / X % 65536 * X + X * 65536 * (N / X / 65536)) % (X * 65536) := by rw [← hN]
  rw [hM, Int.add_mul_emod_self_left]
  exact (Int.emod_eq_of_lt (by omega) (by omega)).symm
open Go.RowKit
structure EAt (W : World) (g : Nat) (x : E5) : Prop where
 size : g < W.heap.size
 free : ∀ o, W.frozen? ⟨g, o, none⟩ = false
 c0 : W.cell? ⟨g, 0, none⟩ = some (.int .u64 x.a)
 c1 : W.cell? ⟨g, 1, none⟩ = some (.int .u64 x.b)
 c2 : W.cell? ⟨g, 2, none⟩ = some (.int .u64 x.c)
 c3 : W.cell? ⟨g, 3, none⟩ = some (.int .u64 x.d)
 c4 : W.cell? ⟨g, 4, none⟩ = some (.int .u64 x.e)
theorem EAt.keep {W W' : World} {g : Nat} {x : E5} (h : EAt W g x) (hb : Below W.heap.size W W') : EAt W' g x :=
 ⟨Nat.lt_of_lt_of_le h.size hb.size, fun o => (hb.frozen (p := ⟨g, o, none⟩) h.size).trans (h.free o), (hb.cell (p := ⟨g, 0, none⟩) h.size).trans h.c0, (hb.cell (p := ⟨g, 1, none⟩) h.size).trans h.c1, (hb.cell (p := ⟨g, 2, none⟩) h.size).trans h.c2, (hb.cell (p := ⟨g, 3, none⟩) h.size).trans h.c3, (hb.cell (p := ⟨g, 4, none⟩) h.size).trans h.c4⟩
theorem EAt.new (W : World) (x : E5) (T : TypeId) : EAt (W.alloc (.cells #[.int .u64 x.a, .int .u64 x.b, .int .u64 x.c, .int .u64 x.d, .int .u64 x.e] T)) W.heap.size x := by
 refine ⟨by simp, ?_, ?_, ?_, ?_, ?_, ?_⟩ <;> simp [go_sem]
theorem new_below (W : World) (o : Obj) : Below W.heap.size W (W.alloc o) := (Below.refl _ _).alloc (Nat.le_refl _) _
theorem EAt.alloc {W : World} {g : Nat} {x : E5} (h : EAt W g x) (o : Obj) : EAt (W.alloc o) g x := h.keep (new_below W o)
theorem EAt.k0 {W : World} {g : Nat} {x : E5} (h : EAt W g x) (s : KW W) : s.w.cell? ⟨g, 0, none⟩ = some (.int .u64 x.a) := (h.keep s.keep).c0
theorem EAt.k1 {W : World} {g : Nat} {x : E5} (h : EAt W g x) (s : KW W) : s.w.cell? ⟨g, 1, none⟩ = some (.int .u64 x.b) := (h.keep s.keep).c1
theorem EAt.k2 {W : World} {g : Nat} {x : E5} (h : EAt W g x) (s : KW W) : s.w.cell? ⟨g, 2, none⟩ = some (.int .u64 x.c) := (h.keep s.keep).c2
theorem EAt.k3 {W : World} {g : Nat} {x : E5} (h : EAt W g x) (s : KW W) : s.w.cell? ⟨g, 3, none⟩ = some (.int .u64 x.d) := (h.keep s.keep).c3
theorem EAt.k4 {W : World} {g : Nat} {x : E5} (h : EAt W g x) (s : KW W) : s.w.cell? ⟨g, 4, none⟩ = some (.int .u64 x.e) := (h.keep s.keep).c4
theorem KW.some (W : World) : Nonempty (KW W) := ⟨⟨W, Below.refl _ _⟩⟩
structure Out (w W : World) (g : Nat) : Prop where
 old : Below w.heap.size w W
 ge : w.heap.size ≤ g
 lie : EAt W g zeroE
theorem Out.keep {w W W' : World} {g : Nat} (h : Out w W g) (hb : Below W.heap.size W W') : Out w W' g := ⟨h.old.trans (hb.mono h.old.size), h.ge, h.lie.keep hb⟩
theorem Out.start1 (w : World) (o : Obj) : Out w ((w.alloc o).alloc (.cells #[.int .u64 0, .int .u64 0, .int .u64 0, .int .u64 0, .int .u64 0] 143)) (w.heap.size + 1) := by
 refine ⟨(new_below w o).trans ((new_below (w.alloc o) _).mono (by simp)), by omega, ?_⟩
 have h := EAt.new (w.alloc o) zeroE 143
 rwa [World.size_alloc] at h
theorem EAt.new1 (w : World) (x : E5) (o : Obj) : EAt ((w.alloc (.cells #[.int .u64 x.a, .int .u64 x.b, .int .u64 x.c, .int .u64 x.d, .int .u64 x.e] 143)).alloc o) w.heap.size x := (EAt.new w x 143).alloc o
theorem five {B g : Nat} {w w1 : World} (h : Below B w w1) (hg : B ≤ g) {u0 u1 u2 u3 u4 : Value} :
  Below B w (((((w1.setCell ⟨g, 0, none⟩ u0).setCell ⟨g, 1, none⟩ u1).setCell ⟨g, 2, none⟩ u2).setCell ⟨g, 3, none⟩ u3).setCell ⟨g, 4, none⟩ u4) :=
 ((((h.setCell (p := ⟨g, 0, none⟩) hg u0).setCell (p := ⟨g, 1, none⟩) hg u1).setCell (p := ⟨g, 2, none⟩) hg u2).setCell (p := ⟨g, 3, none⟩) hg u3).setCell (p := ⟨g, 4, none⟩) hg u4
theorem EAt.of_zero {W : World} {g : Nat} (h : W.heap[g]? = some (.cells #[.int .u64 0, .int .u64 0, .int .u64 0, .int .u64 0, .int .u64 0] 143)) : EAt W g zeroE := by
 have hlt : g < W.heap.size := by
  by_cases hlt : g < W.heap.size
  ·exact hlt
  ·have hn : W.heap[g]? = none := by simp; omega
   rw [hn] at h
   cases h
 refine ⟨hlt, fun o => by simp [World.frozen?, h], ?_, ?_, ?_, ?_, ?_⟩ <;> simp [World.cell?, h, zeroE]
abbrev put5 (W : World) (g : Nat) (z : E5) : World := ((((W.setCell ⟨g, 0, none⟩ (.int .u64 z.a)).setCell ⟨g, 1, none⟩ (.int .u64 z.b)).setCell ⟨g, 2, none⟩ (.int .u64 z.c)).setCell ⟨g, 3, none⟩ (.int .u64 z.d)).setCell ⟨g, 4, none⟩ (.int .u64 z.e)
theorem EAt.put {W : World} {g : Nat} {x : E5} (h : EAt W g x) (z : E5) : EAt (put5 W g z) g z := by
 obtain ⟨hs, hf, c0, c1, c2, c3, c4⟩ := h
 refine ⟨?_, ?_, ?_, ?_, ?_, ?_, ?_⟩ <;> simp [go_sem, hs, hf, c0, c1, c2, c3, c4]
theorem EAt.other {W : World} {g k : Nat} {x : E5} (h : EAt W g x) (hk : g ≠ k) (z : E5) : EAt (put5 W k z) g x := by
 obtain ⟨hs, hf, c0, c1, c2, c3, c4⟩ := h
 refine ⟨?_, ?_, ?_, ?_, ?_, ?_, ?_⟩ <;> simp [go_sem, hs, hf, c0, c1, c2, c3, c4]
theorem Out.other {w W : World} {g k : Nat} (h : Out w W g) (hk : g ≠ k) (hle : w.heap.size ≤ k) (z : E5) : Out w (put5 W k z) g := ⟨five h.old hle, h.ge, h.lie.other hk z⟩
open Go.RowKit
def ps (t : NI) (k : Nat) : Nat → Int := fun i => if i < k then lo t i else t i
def fs (u : NI) (k : Nat) : Nat → Int := fun i => if i < k then u i + 38 * u (16 + i) else if 16 ≤ i ∧ i < 16 + k then 0 else u i
theorem fs_step (u : NI) (m i : Nat) (hm : m < 16) (hi : i < 32) : upd (upd (fs u m) m (u m + 38 * u (16 + m))) (16 + m) 0 i = fs u (m + 1) i := by
 unfold upd fs
 repeat' split
 all_goals first | omega | (have e : i = m := by omega
                            subst e
                            omega)
theorem fs_last (t : NI) (i : Nat) (hi : i < 32) : upd (fs (lo t) 16) 0 (lo t 0 + 38 * lo t 16 + 1444 * cf t 32) i = T1 t i := by
 unfold T1 upd fs foldF
 by_cases h1 : i = 0
 ·simp [h1]
 ·rw [if_neg h1, if_neg h1]
  by_cases h2 : i < 16
  ·rw [if_pos h2, if_pos h2]
  ·rw [if_neg h2, if_neg h2, if_pos (by omega)]
theorem rowD {w : World} {g : Nat} {T : TypeId} {n : Nat} {f : NI} (h : Row w g T n f) : Row w.drew g T n f := h
theorem fin_eq {u : NI} {N : Int} (hU : Dig u 16) (hC : Cg (S u 16) N) (hlt : S u 16 < Pm) : arr 16 (d16 (N % Pm)) = arr 16 u := by
 have e := hC.emod
 have h0 := (S_bd hU).1
 rw [Int.emod_eq_of_lt h0 hlt] at e
 rw [← e]
 refine arr_congr (S_inj (d16_dig _ 16) hU ?_)
 rw [d16_S _ h0, Int.emod_eq_of_lt h0 (S_bd hU).2]
def meas (W : World) (g : Nat) : Nat :=
 match W.heap[g]? with
 | some (.cells cs _ _) => (S (fun i => intOf (cs.getD i undef)) 16).toNat
 | _ => 0
theorem meas_row {W : World} {g : Nat} {T : TypeId} {f : NI} (h : Row W g T 16 f) : meas W g = (S f 16).toNat := by
 unfold meas
 rw [h]
 show (S (fun i => intOf ((arr 16 f).getD i undef)) 16).toNat = _
 rw [S_congr (g := f) fun i hi => by
  rw [Array.getD_eq_getD_getElem?, arr_get 16 f i hi]
  rfl]
theorem reduce_any (t0 : NI) (w : World) (h0 : B48 t0) : Cs 84 #[.agg (arr 32 t0)] w (.agg (arr 16 (d16 (S t0 32 % Pm)))) := by
 go_enter Tryz.func84, Tryz.ntmps84
 go_wp2
 rw [show #[Value.int .u64 0, Value.int .u64 0, Value.int .u64 0, Value.int .u64 0, Value.int .u64 0, Value.int .u64 0, Value.int .u64 0, Value.int .u64 0, Value.int .u64 0, Value.int .u64 0, Value.int .u64 0, Value.int .u64 0, Value.int .u64 0, Value.int .u64 0, Value.int .u64 0, Value.int .u64 0] = arr 16 (fun _ => 0) from rfl]
 have R1 : Row ((w.alloc (.cells (arr 32 t0) 135)).alloc (.cells (arr 16 fun _ => 0) 108)) w.heap.size 135 32 t0 := (Row.new w 135 32 t0).alloc _
 have R2 : Row ((w.alloc (.cells (arr 32 t0) 135)).alloc (.cells (arr 16 fun _ => 0) 108)) (w.heap.size + 1) 108 16 (fun _ => 0) := Row.new' _ 108 16 _ (by simp)
 have O : Below w.heap.size w ((w.alloc (.cells (arr 32 t0) 135)).alloc (.cells (arr 16 fun _ => 0) 108)) := ((Below.refl _ _).alloc (Nat.le_refl _) _).alloc (by simp) _
 generalize (w.alloc (.cells (arr 32 t0) 135)).alloc (.cells (arr 16 fun _ => 0) 108) = W at R1 R2 O ⊢
 go_loopw [3] (fun r wr => ∃ k : Nat, k ≤ 3 ∧ r = .int .i64 k ∧ (∃ t, Jl k t ∧ Cg (S t 32) (S t0 32) ∧ Row wr w.heap.size 135 32 t) ∧ Row wr (w.heap.size + 1) 108 16 (fun _ => 0) ∧ Below w.heap.size w wr) (fun r _ => 3 - (intOf r).toNat)
 case atStart => exact ⟨0, by omega, rfl, ⟨t0, h0, Cg.refl _, R1⟩, R2, O⟩
 case round =>
  clear R1 R2 O
  obtain ⟨k, hk, rfl, ⟨t, hJ, hC, R1⟩, R2, O⟩ := hrel
  by_cases hlt : k < 3
  ·have hB := hJ.b48 hk
   have HJ := hide (hJ.next hlt)
   have HC := hide ((T1_S t).trans hC)
   clear hJ hC
   go_wp2
   go_loopw [4, 5] (fun c i wq => ∃ j : Nat, j ≤ 32 ∧ c = .int .u64 (cf t j) ∧ i = .int .i64 j ∧ Row wq w.heap.size 135 32 (ps t j) ∧ Row wq (w.heap.size + 1) 108 16 (fun _ => 0) ∧ Below w.heap.size w wq) (fun _ i _ => 32 - (intOf i).toNat)
   case atStart => exact ⟨0, by omega, rfl, rfl, R1.congr (fun i _ => by unfold ps; rw [if_neg (by omega)]), R2, O⟩
   case round =>
    clear R1 R2 O
    obtain ⟨j, hj, rfl, rfl, R1, R2, O⟩ := hrel
    by_cases hjl : j < 32
    ·have c := R1.cell hjl
     rw [show ps t j j = t j by unfold ps; rw [if_neg (by omega)]] at c
     have e := R1.free j
     obtain ⟨a0, a1⟩ := hB.b j hjl
     obtain ⟨b0, b1⟩ := cf_bd hB j (by omega)
     have ea := and16 (x := t j + cf t j) (by omega) (by omega)
     have HN := hide (show cf t (j + 1) = (t j + cf t j) / 65536 from rfl)
     have HL := hide (show lo t j = (t j + cf t j) % 65536 from rfl)
     have RR := hide (R1.set j ((t j + cf t j) % 65536))
     have R2' := hide (R2.other (a := ⟨w.heap.size, j, none⟩) (by simp) (.int .u64 ((t j + cf t j) % 65536)))
     have O' := hide (O.setCell (p := ⟨w.heap.size, j, none⟩) (by simp) (.int .u64 ((t j + cf t j) % 65536)))
     clear R1 R2 O
     go_wp2
     go_roundw
     case rel => exact ⟨j + 1, by omega, by rw [HN.out], by go_num, RR.out.congr (fun i _ => by
      unfold upd ps
      by_cases h : i = j
      ·subst h
       simp [HL.out]
      ·by_cases h2 : i < j
       ·simp [h, h2, show i < j + 1 by omega]
       ·simp [h, h2, show ¬ i < j + 1 by omega]), R2'.out, O'.out⟩
     case measure => simp [intOf]; omega
    ·have hj' : j = 32 := by omega
     subst hj'
     have R1' : Row wr w.heap.size 135 32 (fs (lo t) 0) := R1.congr (fun i hi => by
      unfold ps fs
      rw [if_pos hi, if_neg (by omega), if_neg (by omega)])
     have hlo := lo_dig t 32
     have hcf := cf_bd hB 32 (by omega)
     clear R1
     go_wp2
     go_loopw [7] (fun i wq => ∃ m : Nat, m ≤ 16 ∧ i = .int .i64 m ∧ Row wq w.heap.size 135 32 (fs (lo t) m) ∧ Row wq (w.heap.size + 1) 108 16 (fun _ => 0) ∧ Below w.heap.size w wq) (fun i _ => 16 - (intOf i).toNat)
     case atStart => exact ⟨0, by omega, rfl, R1', R2, O⟩
     case round =>
      clear R1' R2 O
      obtain ⟨m, hm, rfl, R1, R2, O⟩ := hrel
      by_cases hml : m < 16
      ·have c := R1.cell (i := m) (by omega)
       have d := R1.cell (i := 16 + m) (by omega)
       rw [show fs (lo t) m m = lo t m by unfold fs; rw [if_neg (by omega), if_neg (by omega)]] at c
       rw [show fs (lo t) m (16 + m) = lo t (16 + m) by unfold fs; rw [if_neg (by omega), if_neg (by omega)]] at d
       have e := R1.free
       obtain ⟨a0, a1⟩ := hlo m (by omega)
       obtain ⟨b0, b1⟩ := hlo (16 + m) (by omega)
       have i1 : (0 : Int) ≤ (m : Int) := by omega
       have i2 : (m : Int) < 16 := by omega
       clear hlo hcf hB
       go_wp2_with fail
       go_region
       go_wp2
       exact ⟨⟨m + 1, by omega, by go_num, rowD (((R1.set m (lo t m + 38 * lo t (16 + m))).set (16 + m) 0).congr (fun i hi => fs_step (lo t) m i hml hi)), rowD ((R2.other (a := ⟨w.heap.size, m, none⟩) (by simp) _).other (a := ⟨w.heap.size, 16 + m, none⟩) (by simp) _), ((O.setCell (p := ⟨w.heap.size, m, none⟩) (Nat.le_refl _) _).setCell (p := ⟨w.heap.size, 16 + m, none⟩) (Nat.le_refl _) _).drew⟩, by simp [intOf]; omega⟩
      ·have hm' : m = 16 := by omega
       subst hm'
       have c := R1.cell (i := 0) (by omega)
       have e := R1.free 0
       rw [show fs (lo t) 16 0 = lo t 0 + 38 * lo t 16 by unfold fs; rw [if_pos (by omega)]] at c
       obtain ⟨a0, a1⟩ := hlo 0 (by omega)
       obtain ⟨b0, b1⟩ := hlo 16 (by omega)
       obtain ⟨f0, f1⟩ := hcf
       have RR := hide ((R1.set 0 (lo t 0 + 38 * lo t 16 + 1444 * cf t 32)).congr (f' := T1 t) (fun i hi => fs_last t i hi))
       have R2' := hide (R2.other (a := ⟨w.heap.size, 0, none⟩) (by simp) (.int .u64 (lo t 0 + 38 * lo t 16 + 1444 * cf t 32)))
       have O' := hide (O.setCell (p := ⟨w.heap.size, 0, none⟩) (Nat.le_refl _) (.int .u64 (lo t 0 + 38 * lo t 16 + 1444 * cf t 32)))
       clear R1 R2 O hlo hB
       go_wp2
       exact ⟨⟨k + 1, by omega, by go_num, ⟨T1 t, HJ.out, HC.out, RR.out⟩, R2'.out, O'.out⟩, by simp [intOf]; omega⟩
  ·have hk' : k = 3 := by omega
   subst hk'
   obtain ⟨hz, hD⟩ := hJ
   have HV := hide (show Cg (S t 16) (S t0 32) by rw [← S_upper_zero t hz]; exact hC)
   clear hC hlt hk
   go_wp2
   go_loopw [8] (fun r wq => ∃ k : Nat, k ≤ 3 ∧ r = .int .i64 k ∧ Row wq w.heap.size 135 32 t ∧ Row wq (w.heap.size + 1) 108 16 (fun _ => 0) ∧ Below w.heap.size w wq) (fun r _ => 3 - (intOf r).toNat)
   case atStart => exact ⟨0, by omega, rfl, R1, R2, O⟩
   case round =>
    clear R1 R2 O
    obtain ⟨k, hk, rfl, R1, R2, O⟩ := hrel
    by_cases hlt : k < 3
    ·go_wp2
     go_loopw [9, 10] (fun c i wq => ∃ j : Nat, j ≤ 16 ∧ c = .int .u64 0 ∧ i = .int .i64 j ∧ Row wq w.heap.size 135 32 t ∧ Row wq (w.heap.size + 1) 108 16 (fun _ => 0) ∧ Below w.heap.size w wq) (fun _ i _ => 16 - (intOf i).toNat)
     case atStart => exact ⟨0, by omega, rfl, rfl, R1, R2, O⟩
     case round =>
      clear R1 R2 O
      obtain ⟨j, hj, rfl, rfl, R1, R2, O⟩ := hrel
      by_cases hjl : j < 16
      ·have c := R1.cell (i := j) (by omega)
       have e := R1.free j
       obtain ⟨a0, a1⟩ := hD j hjl
       have ea : bits BinOp.and IntKind.u64 (t j) 65535 = t j := by rw [and16 a0 (by omega)]; omega
       have ed : t j / 65536 = 0 := by omega
       have RR := hide ((R1.set j (t j)).congr (f' := t) (fun i _ => by unfold upd; by_cases h : i = j <;> simp [h]))
       have R2' := hide (R2.other (a := ⟨w.heap.size, j, none⟩) (by simp) (.int .u64 (t j)))
       have O' := hide (O.setCell (p := ⟨w.heap.size, j, none⟩) (Nat.le_refl _) (.int .u64 (t j)))
       clear R1 R2 O
       go_wp2
       go_roundw
       case rel => exact ⟨j + 1, by omega, rfl, by go_num, RR.out, R2'.out, O'.out⟩
       case measure => simp [intOf]; omega
      ·have hj' : j = 16 := by omega
       subst hj'
       have c := R1.cell (i := 0) (by omega)
       have e := R1.free 0
       obtain ⟨a0, a1⟩ := hD 0 (by omega)
       have RR := hide ((R1.set 0 (t 0)).congr (f' := t) (fun i _ => by unfold upd; by_cases h : i = 0 <;> simp [h]))
       have R2' := hide (R2.other (a := ⟨w.heap.size, 0, none⟩) (by simp) (.int .u64 (t 0)))
       have O' := hide (O.setCell (p := ⟨w.heap.size, 0, none⟩) (Nat.le_refl _) (.int .u64 (t 0)))
       clear R1 R2 O
       go_wp2
       exact ⟨⟨k + 1, by omega, by go_num, RR.out, R2'.out, O'.out⟩, by simp [intOf]; omega⟩
    ·have hk' : k = 3 := by omega
     subst hk'
     go_wp2
     rw [show #[Value.int .u64 0, Value.int .u64 0, Value.int .u64 0, Value.int .u64 0, Value.int .u64 0, Value.int .u64 0, Value.int .u64 0, Value.int .u64 0, Value.int .u64 0, Value.int .u64 0, Value.int .u64 0, Value.int .u64 0, Value.int .u64 0, Value.int .u64 0, Value.int .u64 0, Value.int .u64 0] = arr 16 (fun _ => 0) from rfl]
     have hg := R2.lt
     have R3 : Row (wr.alloc (.cells (arr 16 fun _ => 0) 108)) wr.heap.size 108 16 (fun _ => 0) := Row.new _ 108 16 _
     replace R1 := R1.alloc (.cells (arr 16 fun _ => 0) 108)
     replace R2 := R2.alloc (.cells (arr 16 fun _ => 0) 108)
     replace O := O.alloc (by omega) (.cells (arr 16 fun _ => 0) 108)
     generalize wr.heap.size = gN at *
     generalize wr.alloc (.cells (arr 16 fun _ => 0) 108) = W6 at *
     go_loopw [13] (fun i wq => ∃ m : Nat, m ≤ 16 ∧ i = .int .i64 m ∧ Row wq w.heap.size 135 32 t ∧ Row wq (w.heap.size + 1) 108 16 (fun _ => 0) ∧ Row wq gN 108 16 (wid t m) ∧ Below w.heap.size w wq) (fun i _ => 16 - (intOf i).toNat)
     case atStart => exact ⟨0, by omega, rfl, R1, R2, R3, O⟩
     case round =>
      clear R1 R2 R3 O
      obtain ⟨m, hm, rfl, R1, R2, R3, O⟩ := hrel
      by_cases hml : m < 16
      ·have c := R1.cell (i := m) (by omega)
       have d := R3.cell (i := m) (by omega)
       have e := R3.free m
       have RR := hide ((R3.set m (t m)).congr (f' := wid t (m + 1)) (fun i _ => by unfold upd wid; by_cases h : i = m <;> simp [h] <;> omega))
       have R1' := hide (R1.other (a := ⟨gN, m, none⟩) (by simp; omega) (.int .u64 (t m)))
       have R2' := hide (R2.other (a := ⟨gN, m, none⟩) (by simp; omega) (.int .u64 (t m)))
       have O' := hide (O.setCell (p := ⟨gN, m, none⟩) (by simp; omega) (.int .u64 (t m)))
       clear R1 R2 R3 O
       go_wp2
       go_roundw
       case rel => exact ⟨m + 1, by omega, by go_num, R1'.out, R2'.out, RR.out, O'.out⟩
       case measure => simp [intOf]; omega
      ·have hm' : m = 16 := by omega
       subst hm'
       replace R3 := R3.congr (f' := t) (fun i hi => by unfold wid; rw [if_pos hi])
       clear R1 hz hml hm
       go_wp2_with fail
       go_loopw [91] (fun _ wq => ∃ u : Nat → Int, Dig u 16 ∧ Cg (S u 16) (S t0 32) ∧ Row wq (w.heap.size + 1) 108 16 (fun _ => 0) ∧ Row wq gN 108 16 u ∧ Below w.heap.size w wq) (fun _ wq => meas wq gN)
       case atStart => exact ⟨t, hD, HV.out, R2, R3, O⟩
       case round =>
        clear R2 R3 O HV hD
        obtain ⟨u, hU, hC, R2, R3, O⟩ := hrel
        have HC := hide hC
        clear hC
        have hne := KW.some wr
        have hg3 : ∀ w', (∃ s : KW wr, w' = s.w) → w'.heap[gN]? = some (.cells (arr 16 u) 108 (0, 0)) := by
         rintro _ ⟨s, rfl⟩
         exact R3.keep s.keep
        have HG := hide hg3
        clear hg3
        go_wp2_with fail
        refine wp_region_keep (by kernel_rfl) (by kernel_rfl) ?_
        go_big_quiet_want
        refine quiet_load_row 108 _ rfl gN rfl 108 (arr 16 u) (0, 0) _ HG.out Tryz.underlying108 rfl (info108 _) ?_
        go_simp
        go_big_quiet_on
        go_big_quiet_step ((exact keep_of (prime_any _)))
        go_big_quiet_step ((exact keep_of (less_any u pF _ hU pF_dig)))
        rw [pF_S]
        by_cases hlt : S u 16 < Pm
        ·rw [decide_eq_true hlt]
         go_big_quiet_step (fail)
         refine wpQuiet_nil ?_
         intro s
         replace R2 := R2.keep s.keep
         replace R3 := R3.keep s.keep
         replace O := O.trans (s.keep.mono O.size)
         generalize s.w = W7 at R2 R3 O ⊢
         have RR := hide (R2.setAll u)
         have OO := hide (below_setCells (g := w.heap.size + 1) (by omega) (arr 16 u).toList 0 O)
         have HE := hide (fin_eq hU HC.out hlt)
         clear HG hne hlt
         go_wp2_with (first | (refine wpList_load_row rfl 108 _ rfl gN rfl 108 (arr 16 u) (0, 0) _ R3 Tryz.underlying108 rfl (info108 _) ?_) | (refine wpList_store_mid rfl 108 _ _ rfl (w.heap.size + 1) 0 (arr 16 u) rfl rfl (by rw [arr_size]; exact R2.there) (info108 _) (arr_one _ _) ?_))
         exact bodyPost_ret (v := .agg (arr 16 u)) (results_cell_row Tryz.results84 _ _ (w.heap.size + 1) 108 (arr 16 u) (0, 0) _ rfl RR.out Tryz.underlying108 rfl (info108 _)) rfl ⟨by rw [HE.out], OO.out⟩
        ·rw [decide_eq_false hlt]
         go_big_quiet_step (fail)
         refine wpQuiet_nil ?_
         intro s
         have HM := hide (meas_row R3)
         replace R2 := R2.keep s.keep
         replace R3 := R3.keep s.keep
         replace O := O.trans (s.keep.mono O.size)
         generalize s.w = W7 at R2 R3 O ⊢
         have hle : S pF 16 ≤ S u 16 := by rw [pF_S]; omega
         have HS := hide (minus_le hU pF_dig hle)
         have HL := hide hle
         clear HG hne hlt hle
         have hne := KW.some W7
         have hg3 : ∀ w', (∃ s : KW W7, w' = s.w) → w'.heap[gN]? = some (.cells (arr 16 u) 108 (0, 0)) := by
          rintro _ ⟨s, rfl⟩
          exact R3.keep s.keep
         have HG := hide hg3
         clear hg3
         go_wp2_with fail
         refine wp_region_keep_tail 3 (by kernel_rfl) (by kernel_rfl) ?_
         simp only [List.take_succ_cons, List.take_zero, List.drop_succ_cons, List.drop_zero]
         go_big_quiet_want
         refine quiet_load_row 108 _ rfl gN rfl 108 (arr 16 u) (0, 0) _ HG.out Tryz.underlying108 rfl (info108 _) ?_
         go_simp
         go_big_quiet_on
         go_big_quiet_step ((exact keep_of (prime_any _)))
         go_big_quiet_step ((exact keep_of (minus_any u pF _ hU pF_dig)))
         refine wpQuiet_nil ?_
         intro s
         replace R2 := R2.keep s.keep
         replace R3 := R3.keep s.keep
         replace O := O.trans (s.keep.mono O.size)
         generalize s.w = W8 at R2 R3 O ⊢
         have RR := hide (R3.setAll (minusF u pF))
         have R2' := hide (R2.setOther (k := gN) (by omega) 0 (arr 16 (minusF u pF)).toList)
         have OO := hide (below_setCells (g := gN) (by omega) (arr 16 (minusF u pF)).toList 0 O)
         clear HG hne
         go_wp2_with (refine wpList_store_mid rfl 108 _ _ rfl gN 0 (arr 16 (minusF u pF)) rfl rfl (by rw [arr_size]; exact R3.there) (info108 _) (arr_one _ _) ?_)
         refine ⟨⟨_, _, _, _, _, _, _, ⟨minusF u pF, minusF_dig u pF 16, ?_, R2'.out, RR.out, OO.out⟩, rfl⟩, ?_⟩
         ·rw [HS.out, pF_S]
          have := Cg.sub_P (S u 16) 1
          rw [Int.one_mul] at this
          exact this.trans HC.out
         ·rw [meas_row RR.out, HM.out, HS.out, pF_S]
          have := HL.out
          rw [pF_S] at this
          unfold Pm at *
          omega
open Go.RowKit
theorem carR {a b : Int} (ha : W64 a) (hb : W64 b) : IntKind.u64.wrap (bits BinOp.and IntKind.u64 b 2251799813685247 + a / 2251799813685248) = b % 2251799813685248 + a / 2251799813685248 := by
 rw [and51 hb]
 unfold W64 at *
 exact wrap64u ⟨by omega, by omega⟩
theorem carR0 {a b : Int} (ha : W64 a) (hb : W64 b) : IntKind.u64.wrap (bits BinOp.and IntKind.u64 b 2251799813685247 + IntKind.u64.wrap (a / 2251799813685248 * 19)) = b % 2251799813685248 + a / 2251799813685248 * 19 := by
 rw [and51 hb]
 unfold W64 at *
 rw [wrap64u (x := a / 2251799813685248 * 19) ⟨by omega, by omega⟩]
 exact wrap64u ⟨by omega, by omega⟩
theorem carried_any (a b c d e : Int) (w : World) (ha : W64 a) (hb : W64 b) (hc : W64 c) (hd : W64 d) (he : W64 e) : Calls Tryz.prog 122 #[.int .u64 a, .int .u64 b, .int .u64 c, .int .u64 d, .int .u64 e] w fun r w' => r = .returned (car a b c d e).v ∧ Below w.heap.size w w' := by
 go_enter Tryz.func122, Tryz.ntmps122
 go_wp2
 rw [carR0 he ha, carR ha hb, carR hb hc, carR hc hd, carR hd he]
 exact bodyPost_ret (v := (car a b c d e).v) (by simp [results, Tryz.results122, go_sem, car]) rfl ⟨rfl, (Below.refl _ _).alloc (Nat.le_refl _) _⟩
theorem bcell {W w1 : World} (hb : Below W.heap.size W w1) : (∀ b o, b < W.heap.size → w1.cell? ⟨b, o, none⟩ = W.cell? ⟨b, o, none⟩) ∧ (∀ b o, b < W.heap.size → w1.frozen? ⟨b, o, none⟩ = W.frozen? ⟨b, o, none⟩) :=
 ⟨fun b o h => hb.cell (p := ⟨b, o, none⟩) h, fun b o h => hb.frozen (p := ⟨b, o, none⟩) h⟩
theorem below3 {w w1 : World} {A B C : Obj} (hb : Below (((w.alloc A).alloc B).alloc C).heap.size (((w.alloc A).alloc B).alloc C) w1) : Below w.heap.size w w1 :=
 ((((Below.refl _ _).alloc (Nat.le_refl _) _).alloc (by simp) _).alloc (by simp; omega) _).trans (hb.mono (by simp; omega))
theorem below2 {w w1 : World} {A B : Obj} (hb : Below ((w.alloc A).alloc B).heap.size ((w.alloc A).alloc B) w1) : Below w.heap.size w w1 :=
 (((Below.refl _ _).alloc (Nat.le_refl _) _).alloc (by simp) _).trans (hb.mono (by simp; omega))
theorem below1 {w w1 : World} {A : Obj} (hb : Below (w.alloc A).heap.size (w.alloc A) w1) : Below w.heap.size w w1 :=
 ((Below.refl _ _).alloc (Nat.le_refl _) _).trans (hb.mono (by simp))
theorem set5 {B g : Nat} {w w1 : World} (h : Below B w w1) (hg : B ≤ g) {u0 u1 u2 u3 u4 : Value} :
  Below B w (((((w1.setCell ⟨g, 0, none⟩ u0).setCell ⟨g, 1, none⟩ u1).setCell ⟨g, 2, none⟩ u2).setCell ⟨g, 3, none⟩ u3).setCell ⟨g, 4, none⟩ u4) :=
 ((((h.setCell (p := ⟨g, 0, none⟩) hg u0).setCell (p := ⟨g, 1, none⟩) hg u1).setCell (p := ⟨g, 2, none⟩) hg u2).setCell (p := ⟨g, 3, none⟩) hg u3).setCell (p := ⟨g, 4, none⟩) hg u4
theorem add_any (x y : E5) (w : World) (hx : x.Ok) (hy : y.Ok) : Calls Tryz.prog 148 #[x.v, y.v] w fun r w' => r = .returned (addF x y).v ∧ Below w.heap.size w w' := by
 obtain ⟨a0, a1, b0, b1, c0, c1, d0, d1, e0, e1⟩ := hx
 obtain ⟨f0, f1, g0, g1, h0, h1, i0, i1, j0, j1⟩ := hy
 go_enter Tryz.func148, Tryz.ntmps148
 go_wp2_with fail
 refine (carried_any _ _ _ _ _ _ ⟨by omega, by omega⟩ ⟨by omega, by omega⟩ ⟨by omega, by omega⟩ ⟨by omega, by omega⟩ ⟨by omega, by omega⟩).mono ?_
 rintro _ w1 ⟨rfl, hb⟩
 obtain ⟨z, hz⟩ : ∃ z, addF x y = z := ⟨_, rfl⟩
 have hz' := hz
 unfold addF at hz'
 rw [hz']
 have H := hide hz
 have H3 := hide (below3 hb)
 obtain ⟨hc, hf⟩ := bcell hb
 have hs : w.heap.size + 1 + 1 < w1.heap.size := by have := hb.size; simp at this; omega
 clear hz hz' hb a0 a1 b0 b1 c0 c1 d0 d1 e0 e1 f0 f1 g0 g1 h0 h1 i0 i1 j0 j1
 go_wp2
 refine bodyPost_ret (v := z.v) (by simp [results, Tryz.results148, go_sem, hc]) rfl ⟨by rw [H.out], ?_⟩
 exact set5 H3.out (by omega)
theorem sub_any (x y : E5) (w : World) (hx : x.Ok) (hy : y.Ok) : Calls Tryz.prog 149 #[x.v, y.v] w fun r w' => r = .returned (subF x y).v ∧ Below w.heap.size w w' := by
 obtain ⟨a0, a1, b0, b1, c0, c1, d0, d1, e0, e1⟩ := hx
 obtain ⟨f0, f1, g0, g1, h0, h1, i0, i1, j0, j1⟩ := hy
 go_enter Tryz.func149, Tryz.ntmps149
 go_wp2_with fail
 refine (carried_any _ _ _ _ _ _ ⟨by omega, by omega⟩ ⟨by omega, by omega⟩ ⟨by omega, by omega⟩ ⟨by omega, by omega⟩ ⟨by omega, by omega⟩).mono ?_
 rintro _ w1 ⟨rfl, hb⟩
 obtain ⟨z, hz⟩ : ∃ z, subF x y = z := ⟨_, rfl⟩
 have hz' := hz
 unfold subF at hz'
 rw [hz']
 have H := hide hz
 have H3 := hide (below3 hb)
 obtain ⟨hc, hf⟩ := bcell hb
 have hs : w.heap.size + 1 + 1 < w1.heap.size := by have := hb.size; simp at this; omega
 clear hz hz' hb a0 a1 b0 b1 c0 c1 d0 d1 e0 e1 f0 f1 g0 g1 h0 h1 i0 i1 j0 j1
 go_wp2
 refine bodyPost_ret (v := z.v) (by simp [results, Tryz.results149, go_sem, hc]) rfl ⟨by rw [H.out], ?_⟩
 exact set5 H3.out (by omega)
theorem small_any (n : Int) (w : World) (h0 : 0 ≤ n) (h1 : n < 4294967296) : Calls Tryz.prog 96 #[.int .u32 n] w fun r w' => r = .returned (smallF n).v ∧ Below w.heap.size w w' := by
 go_enter Tryz.func96, Tryz.ntmps96
 go_wp2_with fail
 refine (carried_any _ _ _ _ _ _ ⟨by omega, by omega⟩ ⟨by decide, by decide⟩ ⟨by decide, by decide⟩ ⟨by decide, by decide⟩ ⟨by decide, by decide⟩).mono ?_
 rintro _ w1 ⟨rfl, hb⟩
 obtain ⟨z, hz⟩ : ∃ z, smallF n = z := ⟨_, rfl⟩
 have hz' := hz
 unfold smallF at hz'
 rw [hz']
 have H := hide hz
 have H3 := hide (below1 hb)
 obtain ⟨hc, hf⟩ := bcell hb
 have hs : w.heap.size < w1.heap.size := by have := hb.size; simp at this; omega
 clear hz hz' hb
 go_wp2
 refine bodyPost_ret (v := z.v) (by simp [results, Tryz.results96, go_sem, hc]) rfl ⟨by rw [H.out], ?_⟩
 exact set5 H3.out (by omega)
open Go.RowKit
def ov1 (x : E5) : Int := (x.a + 19) / 2251799813685248
def ov2 (x : E5) : Int := (x.b + ov1 x) / 2251799813685248
def ov3 (x : E5) : Int := (x.c + ov2 x) / 2251799813685248
def ov4 (x : E5) : Int := (x.d + ov3 x) / 2251799813685248
def ov5 (x : E5) : Int := (x.e + ov4 x) / 2251799813685248
def le0 (x : E5) : Int := ov5 x * 19
def le1 (x : E5) : Int := (x.a + le0 x) / 2251799813685248
def le2 (x : E5) : Int := (x.b + le1 x) / 2251799813685248
def le3 (x : E5) : Int := (x.c + le2 x) / 2251799813685248
def le4 (x : E5) : Int := (x.d + le3 x) / 2251799813685248
def le5 (x : E5) : Int := (x.e + le4 x) / 2251799813685248
def leastF (x : E5) : E5 := ⟨(x.a + le0 x) % 2251799813685248, (x.b + le1 x) % 2251799813685248, (x.c + le2 x) % 2251799813685248, (x.d + le3 x) % 2251799813685248, (x.e + le4 x) % 2251799813685248⟩
structure LB (x : E5) : Prop where
 o1 : 0 ≤ ov1 x ∧ ov1 x ≤ 1
 o2 : 0 ≤ ov2 x ∧ ov2 x ≤ 1
 o3 : 0 ≤ ov3 x ∧ ov3 x ≤ 1
 o4 : 0 ≤ ov4 x ∧ ov4 x ≤ 1
 o5 : 0 ≤ ov5 x ∧ ov5 x ≤ 1
 l0 : 0 ≤ le0 x ∧ le0 x ≤ 19
 l1 : 0 ≤ le1 x ∧ le1 x ≤ 1
 l2 : 0 ≤ le2 x ∧ le2 x ≤ 1
 l3 : 0 ≤ le3 x ∧ le3 x ≤ 1
 l4 : 0 ≤ le4 x ∧ le4 x ≤ 1
 l5 : 0 ≤ le5 x ∧ le5 x ≤ 1
theorem LB.of {x : E5} (hx : x.Ok) : LB x := by
 obtain ⟨a0, a1, b0, b1, c0, c1, d0, d1, e0, e1⟩ := hx
 have o1 : 0 ≤ ov1 x ∧ ov1 x ≤ 1 := by unfold ov1; omega
 have o2 : 0 ≤ ov2 x ∧ ov2 x ≤ 1 := by unfold ov2; omega
 have o3 : 0 ≤ ov3 x ∧ ov3 x ≤ 1 := by unfold ov3; omega
 have o4 : 0 ≤ ov4 x ∧ ov4 x ≤ 1 := by unfold ov4; omega
 have o5 : 0 ≤ ov5 x ∧ ov5 x ≤ 1 := by unfold ov5; omega
 have l0 : 0 ≤ le0 x ∧ le0 x ≤ 19 := by unfold le0; omega
 have l1 : 0 ≤ le1 x ∧ le1 x ≤ 1 := by unfold le1; omega
 have l2 : 0 ≤ le2 x ∧ le2 x ≤ 1 := by unfold le2; omega
 have l3 : 0 ≤ le3 x ∧ le3 x ≤ 1 := by unfold le3; omega
 have l4 : 0 ≤ le4 x ∧ le4 x ≤ 1 := by unfold le4; omega
 have l5 : 0 ≤ le5 x ∧ le5 x ≤ 1 := by unfold le5; omega
 exact ⟨o1, o2, o3, o4, o5, l0, l1, l2, l3, l4, l5⟩
structure E5.Low (x : E5) : Prop where
 a0 : 0 ≤ x.a
 a1 : x.a < 2251799813685248
 b0 : 0 ≤ x.b
 b1 : x.b < 2251799813685248
 c0 : 0 ≤ x.c
 c1 : x.c < 2251799813685248
 d0 : 0 ≤ x.d
 d1 : x.d < 2251799813685248
 e0 : 0 ≤ x.e
 e1 : x.e < 2251799813685248
theorem leastF_low (x : E5) : (leastF x).Low := by
 constructor <;> simp only [leastF] <;> omega
theorem leastF_n {x : E5} (hx : x.Ok) : (leastF x).n = x.n % Pm := by
 have L := LB.of hx
 obtain ⟨a0, a1, b0, b1, c0, c1, d0, d1, e0, e1⟩ := hx
 have hlow := leastF_low x
 obtain ⟨p0, p1, q0, q1, r0, r1, s0, s1, t0, t1⟩ := hlow
 have e : (leastF x).n = x.n + ov5 x * 19 - 57896044618658097711785492504343953926634992332820282019728792003956564819968 * le5 x := by
  simp only [leastF, E5.n, le5, le4, le3, le2, le1, le0]
  omega
 have hov : 57896044618658097711785492504343953926634992332820282019728792003956564819968 * ov5 x ≤ x.n + 19 ∧ x.n + 19 < 57896044618658097711785492504343953926634992332820282019728792003956564819968 * ov5 x + 57896044618658097711785492504343953926634992332820282019728792003956564819968 := by
  simp only [E5.n, ov5, ov4, ov3, ov2, ov1]
  omega
 have hn0 : 0 ≤ x.n := by simp only [E5.n]; omega
 have hr0 : 0 ≤ (leastF x).n := by rw [E5.n]; omega
 have hr1 : (leastF x).n < 57896044618658097711785492504343953926634992332820282019728792003956564819968 := by rw [E5.n]; omega
 have h5 := L.o5
 have h6 := L.l5
 have hle : le5 x = ov5 x := by omega
 rw [hle] at e
 have hk : x.n = (leastF x).n + ov5 x * Pm := by unfold Pm; omega
 have hn1 : x.n < 115792089237316195423570985008687907853269984665640564039457584007913129639898 := by simp only [E5.n]; omega
 have hlt : (leastF x).n < Pm := by unfold Pm; omega
 rw [hk, Int.add_mul_emod_self_right, Int.emod_eq_of_lt hr0 hlt]
theorem least_any (x : E5) (w : World) (hx : x.Ok) : Calls Tryz.prog 119 #[x.v] w fun r w' => r = .returned (leastF x).v ∧ Below w.heap.size w w' := by
 have L := LB.of hx
 obtain ⟨a0, a1, b0, b1, c0, c1, d0, d1, e0, e1⟩ := hx
 obtain ⟨⟨o10, o11⟩, ⟨o20, o21⟩, ⟨o30, o31⟩, ⟨o40, o41⟩, ⟨o50, o51⟩, ⟨l00, l01⟩, ⟨l10, l11⟩, ⟨l20, l21⟩, ⟨l30, l31⟩, ⟨l40, l41⟩, ⟨l50, l51⟩⟩ := L
 have i0 : ∀ w, (Instr.index 141 (.agg #[.int .u64 x.a, .int .u64 x.b, .int .u64 x.c, .int .u64 x.d, .int .u64 x.e]) (.int .i64 0)).run Tryz.prog w = .ok (.int .u64 x.a) w := fun _ => by kernel_rfl
 have i1 : ∀ w, (Instr.index 141 (.agg #[.int .u64 x.a, .int .u64 x.b, .int .u64 x.c, .int .u64 x.d, .int .u64 x.e]) (.int .i64 1)).run Tryz.prog w = .ok (.int .u64 x.b) w := fun _ => by kernel_rfl
 have i2 : ∀ w, (Instr.index 141 (.agg #[.int .u64 x.a, .int .u64 x.b, .int .u64 x.c, .int .u64 x.d, .int .u64 x.e]) (.int .i64 2)).run Tryz.prog w = .ok (.int .u64 x.c) w := fun _ => by kernel_rfl
 have i3 : ∀ w, (Instr.index 141 (.agg #[.int .u64 x.a, .int .u64 x.b, .int .u64 x.c, .int .u64 x.d, .int .u64 x.e]) (.int .i64 3)).run Tryz.prog w = .ok (.int .u64 x.d) w := fun _ => by kernel_rfl
 have i4 : ∀ w, (Instr.index 141 (.agg #[.int .u64 x.a, .int .u64 x.b, .int .u64 x.c, .int .u64 x.d, .int .u64 x.e]) (.int .i64 4)).run Tryz.prog w = .ok (.int .u64 x.e) w := fun _ => by kernel_rfl
 have g0 := and51 (x := x.a + le0 x) ⟨by omega, by omega⟩
 have g1 := and51 (x := x.b + le1 x) ⟨by omega, by omega⟩
 have g2 := and51 (x := x.c + le2 x) ⟨by omega, by omega⟩
 have g3 := and51 (x := x.d + le3 x) ⟨by omega, by omega⟩
 have g4 := and51 (x := x.e + le4 x) ⟨by omega, by omega⟩
 go_enter Tryz.func119, Tryz.ntmps119
 go_wp2
 refine wp_loop_rounds 6 ?_
 rw [rounds_succ]
 go_wp2
 rw [show (x.a + 19) / 2251799813685248 = ov1 x from rfl]
 rw [rounds_succ]
 go_wp2
 rw [show (x.b + ov1 x) / 2251799813685248 = ov2 x from rfl]
 rw [rounds_succ]
 go_wp2
 rw [show (x.c + ov2 x) / 2251799813685248 = ov3 x from rfl]
 rw [rounds_succ]
 go_wp2
 rw [show (x.d + ov3 x) / 2251799813685248 = ov4 x from rfl]
 rw [rounds_succ]
 go_wp2
 rw [show (x.e + ov4 x) / 2251799813685248 = ov5 x from rfl]
 rw [rounds_succ]
 go_wp2
 rw [show ov5 x * 19 = le0 x from rfl]
 refine wp_loop_rounds 6 ?_
 rw [rounds_succ]
 go_wp2
 rw [show (x.a + le0 x) / 2251799813685248 = le1 x from rfl]
 rw [rounds_succ]
 go_wp2
 rw [show (x.b + le1 x) / 2251799813685248 = le2 x from rfl]
 rw [rounds_succ]
 go_wp2
 rw [show (x.c + le2 x) / 2251799813685248 = le3 x from rfl]
 rw [rounds_succ]
 go_wp2
 rw [show (x.d + le3 x) / 2251799813685248 = le4 x from rfl]
 rw [rounds_succ]
 go_wp2
 rw [show (x.e + le4 x) / 2251799813685248 = le5 x from rfl]
 rw [rounds_succ]
 go_wp2
 exact bodyPost_ret (v := (leastF x).v) (by simp [results, Tryz.results119, go_sem, leastF]) rfl ⟨rfl, (((Below.refl _ _).alloc (Nat.le_refl _) _).alloc (by simp) _).alloc (by simp; omega) _⟩
open Go.RowKit
def bt (s : Yb) (i : Nat) : Int := ((s.data[i]?.getD 0).toNat : Int)
theorem bt_bd (s : Yb) (i : Nat) : 0 ≤ bt s i ∧ bt s i < 256 := by
 unfold bt
 have := (s.data[i]?.getD 0).toNat_lt
 omega
theorem bt_at (s : Yb) (i : Nat) (h : i < s.size) : ((s[i]'h).toNat : Int) = bt s i := by
 unfold bt
 have h' : i < s.data.size := h
 rw [Array.getElem?_eq_getElem h']
 rfl
def sw (s : Yb) (j : Nat) : Nat → Int
 | 0 => 0
 | r + 1 => sw s j r + bt s (8 * j + r) * 256 ^ r
theorem sw_bd (s : Yb) (j r : Nat) : 0 ≤ sw s j r ∧ sw s j r < 256 ^ r := by
 induction r with
 | zero => simp [sw]
 | succ r ih =>
  have hb := bt_bd s (8 * j + r)
  have hp : (0 : Int) < 256 ^ r := Int.pow_pos (by decide)
  have h1 : bt s (8 * j + r) * 256 ^ r ≤ 255 * 256 ^ r := Int.mul_le_mul_of_nonneg_right (by omega) (by omega)
  have h2 : 0 ≤ bt s (8 * j + r) * 256 ^ r := Int.mul_nonneg hb.1 (by omega)
  have h3 : (256 : Int) ^ (r + 1) = 256 * 256 ^ r := by rw [Int.pow_succ, Int.mul_comm]
  simp only [sw]
  omega
def swk (s : Yb) (k j : Nat) : Int := sw s j (min (k - 8 * j) 8)
open Go.RowKit
def numberF (a b c d : Int) : E5 := car (a % 2251799813685248) ((a / 2251799813685248 + b * 8192) % 2251799813685248) ((b / 274877906944 + c * 67108864) % 2251799813685248) ((c / 33554432 + d * 549755813888) % 2251799813685248) (d / 4096)
theorem part1 {a b : Int} (ha : W64 a) (_hb : W64 b) : bits BinOp.and IntKind.u64 (bits BinOp.or IntKind.u64 (a / 2251799813685248) (IntKind.u64.wrap (b * 8192))) 2251799813685247 = (a / 2251799813685248 + b * 8192) % 2251799813685248 := by
 unfold W64 at *
 rw [IntKind.wrap_u64, or_join' 13 8192 (by decide) ⟨by omega, by omega⟩ ⟨by omega, by omega⟩ (by omega) (by omega), and51 ⟨by omega, by omega⟩]
 omega
theorem part2 {a b : Int} (ha : W64 a) (_hb : W64 b) : bits BinOp.and IntKind.u64 (bits BinOp.or IntKind.u64 (a / 274877906944) (IntKind.u64.wrap (b * 67108864))) 2251799813685247 = (a / 274877906944 + b * 67108864) % 2251799813685248 := by
 unfold W64 at *
 rw [IntKind.wrap_u64, or_join' 26 67108864 (by decide) ⟨by omega, by omega⟩ ⟨by omega, by omega⟩ (by omega) (by omega), and51 ⟨by omega, by omega⟩]
 omega
theorem part3 {a b : Int} (ha : W64 a) (_hb : W64 b) : bits BinOp.and IntKind.u64 (bits BinOp.or IntKind.u64 (a / 33554432) (IntKind.u64.wrap (b * 549755813888))) 2251799813685247 = (a / 33554432 + b * 549755813888) % 2251799813685248 := by
 unfold W64 at *
 rw [IntKind.wrap_u64, or_join' 39 549755813888 (by decide) ⟨by omega, by omega⟩ ⟨by omega, by omega⟩ (by omega) (by omega), and51 ⟨by omega, by omega⟩]
 omega
theorem numberF_ok {a b c d : Int} (_ha : W64 a) (_hb : W64 b) (_hc : W64 c) (hd : W64 d) : (numberF a b c d).Ok := by
 unfold W64 at *
 exact car_ok ⟨by omega, by omega⟩ ⟨by omega, by omega⟩ ⟨by omega, by omega⟩ ⟨by omega, by omega⟩ ⟨by omega, by omega⟩
theorem numberF_n {a b c d : Int} (ha : W64 a) (hb : W64 b) (hc : W64 c) (_hd : W64 d) : Cg (numberF a b c d).n (a + 18446744073709551616 * b + 340282366920938463463374607431768211456 * c + 6277101735386680763835789423207666416102355444464034512896 * d) := by
 refine (car_n _ _ _ _ _).trans (Cg.of_eq ?_)
 unfold W64 at *
 simp only [E5.n]
 omega
theorem number_any (a b c d : Int) (w : World) (ha : W64 a) (hb : W64 b) (hc : W64 c) (hd : W64 d) : Calls Tryz.prog 147 #[.agg #[.int .u64 a, .int .u64 b, .int .u64 c, .int .u64 d]] w fun r w' => r = .returned (numberF a b c d).v ∧ Below w.heap.size w w' := by
 have e0 := and51 ha
 have e1 := part1 ha hb
 have e2 := part2 hb hc
 have e3 := part3 hc hd
 have HE := hide (show numberF a b c d = car (a % 2251799813685248) ((a / 2251799813685248 + b * 8192) % 2251799813685248) ((b / 274877906944 + c * 67108864) % 2251799813685248) ((c / 33554432 + d * 549755813888) % 2251799813685248) (d / 4096) from rfl)
 have q0 : W64 (a % 2251799813685248) := ⟨by omega, by omega⟩
 have q1 : W64 ((a / 2251799813685248 + b * 8192) % 2251799813685248) := ⟨by omega, by omega⟩
 have q2 : W64 ((b / 274877906944 + c * 67108864) % 2251799813685248) := ⟨by omega, by omega⟩
 have q3 : W64 ((c / 33554432 + d * 549755813888) % 2251799813685248) := ⟨by omega, by omega⟩
 have q4 : W64 (d / 4096) := by unfold W64 at *; exact ⟨by omega, by omega⟩
 go_enter Tryz.func147, Tryz.ntmps147
 go_wp2_with fail
 have R := Out.start1 w (.cells #[.int .u64 a, .int .u64 b, .int .u64 c, .int .u64 d] 173)
 refine (carried_any _ _ _ _ _ _ q0 q1 q2 q3 q4).mono ?_
 rintro _ w1 ⟨rfl, hb⟩
 replace R := R.keep hb
 rw [← HE.out]
 clear HE
 generalize hz : numberF a b c d = z
 have HE := hide hz
 clear hz
 clear hb q0 q1 q2 q3 q4 e0 e1 e2 e3
 obtain ⟨old, ge, rs, rf, r0, r1, r2, r3, r4⟩ := R
 have O := hide old
 clear old
 go_wp2
 refine bodyPost_ret (v := z.v) (by simp [results, Tryz.results147, go_sem, r0, r1, r2, r3, r4]) rfl ⟨by rw [HE.out], ?_⟩
 exact five O.out ge
def val (s : Yb) : Int := sw s 0 8 + 18446744073709551616 * sw s 1 8 + 340282366920938463463374607431768211456 * sw s 2 8 + 6277101735386680763835789423207666416102355444464034512896 * sw s 3 8
def ofF (s : Yb) : E5 := numberF (sw s 0 8) (sw s 1 8) (sw s 2 8) (sw s 3 8)
theorem sw64 (s : Yb) (j : Nat) : W64 (sw s j 8) := by
 have h := sw_bd s j 8
 have e : (256 : Int) ^ 8 = 18446744073709551616 := by decide
 rw [e] at h
 exact h
theorem ofF_ok (s : Yb) : (ofF s).Ok := numberF_ok (sw64 s 0) (sw64 s 1) (sw64 s 2) (sw64 s 3)
theorem ofF_n (s : Yb) : Cg (ofF s).n (val s) := numberF_n (sw64 s 0) (sw64 s 1) (sw64 s 2) (sw64 s 3)
open Go.RowKit
def pt (s : Yb) (k : Nat) : Nat → Int := fun i => (if 2 * i < k then bt s (2 * i) else 0) + (if 2 * i + 1 < k then bt s (2 * i + 1) * 256 else 0)
theorem ptor0 (s : Yb) (i : Nat) : bits BinOp.or IntKind.u64 0 (bt s i) = bt s i := by
 have hb := bt_bd s i
 rw [or_join 8 256 (by decide) ⟨by decide, by decide⟩ ⟨hb.1, by omega⟩ (by decide) (by omega)]
 omega
theorem ptor1 (s : Yb) (i j : Nat) : bits BinOp.or IntKind.u64 (bt s i) (bt s j * 256) = bt s i + bt s j * 256 := by
 have hb := bt_bd s i
 have hc := bt_bd s j
 exact or_join' 8 256 (by decide) ⟨hb.1, by omega⟩ ⟨by omega, by omega⟩ (by omega) (by omega)
theorem pt_dig (s : Yb) (k : Nat) : Dig (pt s k) 16 := fun i _ => by
 have hb := bt_bd s (2 * i)
 have hc := bt_bd s (2 * i + 1)
 unfold pt
 split <;> split <;> omega
theorem pt_even (s : Yb) (j i : Nat) : upd (pt s (2 * j)) j (bt s (2 * j)) i = pt s (2 * j + 1) i := by
 unfold upd pt
 by_cases h : i = j
 ·subst h
  simp
 ·rw [if_neg h]
  congr 1
  ·by_cases h2 : 2 * i < 2 * j
   ·rw [if_pos h2, if_pos (by omega)]
   ·rw [if_neg h2, if_neg (by omega)]
  ·by_cases h2 : 2 * i + 1 < 2 * j
   ·rw [if_pos h2, if_pos (by omega)]
   ·rw [if_neg h2, if_neg (by omega)]
theorem pt_odd (s : Yb) (j i : Nat) : upd (pt s (2 * j + 1)) j (bt s (2 * j) + bt s (2 * j + 1) * 256) i = pt s (2 * j + 1 + 1) i := by
 unfold upd pt
 by_cases h : i = j
 ·subst h
  simp
  intro h
  omega
 ·rw [if_neg h]
  congr 1
  ·by_cases h2 : 2 * i < 2 * j + 1
   ·rw [if_pos h2, if_pos (by omega)]
   ·rw [if_neg h2, if_neg (by omega)]
  ·by_cases h2 : 2 * i + 1 < 2 * j + 1
   ·rw [if_pos h2, if_pos (by omega)]
   ·rw [if_neg h2, if_neg (by omega)]
theorem pt_S (s : Yb) : S (pt s 32) 16 = val s := by
 simp [S, pt, val, sw]
 omega
open Go.RowKit
theorem wid_S (f : NI) : S (wid f 16) 32 = S f 16 := by
 rw [S_upper_zero (wid f 16) fun i h _ => by unfold wid; rw [if_neg (by omega)]]
 exact S_congr fun i hi => by unfold wid; rw [if_pos hi]
theorem wid_48 {f : NI} (h : Dig f 16) : B48 (wid f 16) := ⟨fun i _ => by
 unfold wid
 by_cases hi : i < 16
 ·rw [if_pos hi]
  have := h i hi
  omega
 ·rw [if_neg hi]
  omega⟩
theorem and16u {x : Int} (h0 : 0 ≤ x) (h1 : x < 4294967296) : bits .and .u32 x 65535 = x % 65536 := by
 rw [u32_and x _ h0 h1 (by decide) (by decide)]
 have e : (65535 : Int).toNat = 65535 := by decide
 rw [e, nat_mask16]
 omega
theorem small_arr {n : Int} (h0 : 0 ≤ n) (h1 : n < 4294967296) : arr 16 (d16 n) = #[.int .u64 (n % 65536), .int .u64 (n / 65536), .int .u64 0, .int .u64 0, .int .u64 0, .int .u64 0, .int .u64 0, .int .u64 0, .int .u64 0, .int .u64 0, .int .u64 0, .int .u64 0, .int .u64 0, .int .u64 0, .int .u64 0, .int .u64 0] := by
 have e : arr 16 (d16 n) = arr 16 (fun i => if i = 0 then n % 65536 else if i = 1 then n / 65536 else 0) := by
  refine arr_congr fun i hi => ?_
  unfold d16
  by_cases i0 : i = 0
  ·subst i0; simp
  ·by_cases i1 : i = 1
   ·subst i1; simp; omega
   ·rw [if_neg i0, if_neg i1]
    have hp : (4294967296 : Int) ≤ 65536 ^ i := by
     obtain ⟨j, rfl⟩ : ∃ j, i = j + 2 := ⟨i - 2, by omega⟩
     rw [Int.pow_add]
     have := p16 j
     have e2 : (65536 : Int) ^ 2 = 4294967296 := by decide
     rw [e2]
     omega
    rw [Int.ediv_eq_zero_of_lt h0 (by omega)]
    decide
 rw [e]
 rfl
theorem rsmall_any (n : Int) (w : World) (h0 : 0 ≤ n) (h1 : n < 4294967296) : Cs 56 #[.int .u32 n] w (.agg (arr 16 (d16 n))) := by
 have e := and16u h0 h1
 have HA := hide (small_arr h0 h1)
 go_enter Tryz.func56, Tryz.ntmps56
 go_wp2
 refine bodyPost_ret (v := .agg (arr 16 (d16 n))) ?_ rfl ⟨rfl, (Below.refl _ _).alloc (Nat.le_refl _) _⟩
 rw [HA.out]
 simp [results, Tryz.results56, go_sem]
open Go.RowKit
def bs (ns : List Int) : ByteArray := ⟨(ns.map fun n => UInt8.ofNat n.toNat).toArray⟩
theorem bs_fold (ns : List Int) : ∀ s : Yb, ns.foldl (fun r n => r.push (UInt8.ofNat n.toNat)) s = ⟨s.data ++ (ns.map fun n => UInt8.ofNat n.toNat).toArray⟩ := by
 induction ns with
 | nil => intro s; simp
 | cons n ns ih =>
  intro s
  rw [List.foldl_cons, ih]
  simp [ByteArray.push]
theorem conv_bytes (W : World) (g : Nat) (T : TypeId) (ns : List Int) (l cap : Nat) (fr : Nat × Nat) (hg : W.heap[g]? = some (.cells (ns.map (Value.int .u8)).toArray T fr)) (hl : ns.length = l) :
  (convert 44 9 (.slice (some ⟨g, 0, none⟩) l cap)).run Tryz.prog W = .ok (.string (bs ns)) W := by
 subst hl
 rw [run_convert_bytes_string W 44 9 5 (some ⟨g, 0, none⟩) ns.length cap Tryz.underlying44 Tryz.underlying5 Tryz.underlying9]
 have h := run_loadCells_list (P := Tryz.prog) W ⟨g, 0, none⟩ (ns.map (Value.int .u8)) (fun j v hv => by
  have hadd : (⟨g, 0, none⟩ : Addr).add j = ⟨g, j, none⟩ := by unfold Addr.add; split <;> simp_all
  rw [hadd, cell_of_row W g j _ T fr hg]
  simpa using hv)
 rw [List.length_map] at h
 have he : ByteArray.empty.data = #[] := rfl
 rw [run_bytesToString W _ ns.length cap ns h, bs_fold, he]
 simp [bs]
def digs (a : Int) : List Int := [a % 256, a / 256 % 256, a / 65536 % 256, a / 16777216 % 256, a / 4294967296 % 256, a / 1099511627776 % 256, a / 281474976710656 % 256, a / 72057594037927936 % 256]
def lebytes (n : Int) : ByteArray := bs (digs (n % 18446744073709551616) ++ digs (n / 18446744073709551616 % 18446744073709551616) ++ digs (n / 340282366920938463463374607431768211456 % 18446744073709551616) ++ digs (n / 6277101735386680763835789423207666416102355444464034512896 % 18446744073709551616))
theorem text_any (a b c d : Int) (w : World) : Cs 121 #[.agg #[.int .u64 a, .int .u64 b, .int .u64 c, .int .u64 d]] w (.string (bs (digs a ++ digs b ++ digs c ++ digs d))) := by
 go_enter Tryz.func121, Tryz.ntmps121
 go_wp2
 refine wp_loop_rounds 33 ?_
 iterate 33 (rw [rounds_succ]; go_wp2)
 have hcv : (convert 44 9 (.slice (some ⟨w.heap.size + 1, 0, none⟩) 32 32)).run Tryz.prog ((w.alloc (.cells #[.int .u64 a, .int .u64 b, .int .u64 c, .int .u64 d] 173)).alloc (.cells #[.int .u8 (a % 256), .int .u8 (a / 256 % 256), .int .u8 (a / 65536 % 256), .int .u8 (a / 16777216 % 256), .int .u8 (a / 4294967296 % 256), .int .u8 (a / 1099511627776 % 256), .int .u8 (a / 281474976710656 % 256), .int .u8 (a / 72057594037927936 % 256), .int .u8 (b % 256), .int .u8 (b / 256 % 256), .int .u8 (b / 65536 % 256), .int .u8 (b / 16777216 % 256), .int .u8 (b / 4294967296 % 256), .int .u8 (b / 1099511627776 % 256), .int .u8 (b / 281474976710656 % 256), .int .u8 (b / 72057594037927936 % 256), .int .u8 (c % 256), .int .u8 (c / 256 % 256), .int .u8 (c / 65536 % 256), .int .u8 (c / 16777216 % 256), .int .u8 (c / 4294967296 % 256), .int .u8 (c / 1099511627776 % 256), .int .u8 (c / 281474976710656 % 256), .int .u8 (c / 72057594037927936 % 256), .int .u8 (d % 256), .int .u8 (d / 256 % 256), .int .u8 (d / 65536 % 256), .int .u8 (d / 16777216 % 256), .int .u8 (d / 4294967296 % 256), .int .u8 (d / 1099511627776 % 256), .int .u8 (d / 281474976710656 % 256), .int .u8 (d / 72057594037927936 % 256)] 216)) = .ok (.string (bs (digs a ++ digs b ++ digs c ++ digs d))) _ := conv_bytes _ (w.heap.size + 1) 216 (digs a ++ digs b ++ digs c ++ digs d) 32 32 (0, 0) (heap_alloc2_new w _ _) rfl
 rw [hcv]
 clear hcv
 generalize hB : bs (digs a ++ digs b ++ digs c ++ digs d) = B
 have HB := hide hB
 clear hB
 go_wp2
 go_ret
 exact ⟨by rw [HB.out]; rfl, ((Below.refl _ _).alloc (Nat.le_refl _) _).alloc (by simp) _⟩
theorem wordsR0 {y : E5} (h : y.Low) : bits BinOp.or IntKind.u64 y.a (IntKind.u64.wrap (y.b * 2251799813685248)) = y.n % 18446744073709551616 := by
 obtain ⟨a0, a1, b0, b1, c0, c1, d0, d1, e0, e1⟩ := h
 rw [IntKind.wrap_u64, or_join' 51 2251799813685248 (by decide) ⟨by omega, by omega⟩ ⟨by omega, by omega⟩ (by omega) (by omega)]
 simp only [E5.n]
 omega
theorem wordsR1 {y : E5} (h : y.Low) : bits BinOp.or IntKind.u64 (y.b / 8192) (IntKind.u64.wrap (y.c * 274877906944)) = y.n / 18446744073709551616 % 18446744073709551616 := by
 obtain ⟨a0, a1, b0, b1, c0, c1, d0, d1, e0, e1⟩ := h
 rw [IntKind.wrap_u64, or_join' 38 274877906944 (by decide) ⟨by omega, by omega⟩ ⟨by omega, by omega⟩ (by omega) (by omega)]
 simp only [E5.n]
 omega
theorem wordsR2 {y : E5} (h : y.Low) : bits BinOp.or IntKind.u64 (y.c / 67108864) (IntKind.u64.wrap (y.d * 33554432)) = y.n / 340282366920938463463374607431768211456 % 18446744073709551616 := by
 obtain ⟨a0, a1, b0, b1, c0, c1, d0, d1, e0, e1⟩ := h
 rw [IntKind.wrap_u64, or_join' 25 33554432 (by decide) ⟨by omega, by omega⟩ ⟨by omega, by omega⟩ (by omega) (by omega)]
 simp only [E5.n]
 omega
theorem wordsR3 {y : E5} (h : y.Low) : bits BinOp.or IntKind.u64 (y.d / 549755813888) (IntKind.u64.wrap (y.e * 4096)) = y.n / 6277101735386680763835789423207666416102355444464034512896 % 18446744073709551616 := by
 obtain ⟨a0, a1, b0, b1, c0, c1, d0, d1, e0, e1⟩ := h
 rw [IntKind.wrap_u64, or_join' 12 4096 (by decide) ⟨by omega, by omega⟩ ⟨by omega, by omega⟩ (by omega) (by omega)]
 simp only [E5.n]
 omega
theorem set4 {B g : Nat} {w w1 : World} (h : Below B w w1) (hg : B ≤ g) {u0 u1 u2 u3 : Value} :
  Below B w ((((w1.setCell ⟨g, 0, none⟩ u0).setCell ⟨g, 1, none⟩ u1).setCell ⟨g, 2, none⟩ u2).setCell ⟨g, 3, none⟩ u3) :=
 (((h.setCell (p := ⟨g, 0, none⟩) hg u0).setCell (p := ⟨g, 1, none⟩) hg u1).setCell (p := ⟨g, 2, none⟩) hg u2).setCell (p := ⟨g, 3, none⟩) hg u3
abbrev w4 (n : Int) : Value := .agg #[.int .u64 (n % 18446744073709551616), .int .u64 (n / 18446744073709551616 % 18446744073709551616), .int .u64 (n / 340282366920938463463374607431768211456 % 18446744073709551616), .int .u64 (n / 6277101735386680763835789423207666416102355444464034512896 % 18446744073709551616)]
theorem words_any (x : E5) (w : World) (hx : x.Ok) : Cs 120 #[x.v] w (w4 (x.n % Pm)) := by
 go_enter Tryz.func120, Tryz.ntmps120
 go_wp2_with fail
 refine (least_any x _ hx).mono ?_
 rintro _ w1 ⟨rfl, hb⟩
 have HN := hide (leastF_n hx)
 have hl := leastF_low x
 have e0 := wordsR0 hl
 have e1 := wordsR1 hl
 have e2 := wordsR2 hl
 have e3 := wordsR3 hl
 rw [leastF_n hx] at e0 e1 e2 e3
 generalize leastF x = y at *
 have H3 := hide (below2 hb)
 obtain ⟨hc, hf⟩ := bcell hb
 have hs : w.heap.size + 1 < w1.heap.size := by have := hb.size; simp at this; omega
 clear hb hl
 go_wp2
 refine bodyPost_ret (v := w4 (x.n % Pm)) (by simp [results, Tryz.results120, go_sem, hc, hs]) rfl ⟨rfl, ?_⟩
 exact (set4 (B := w.heap.size) (g := w.heap.size + 1) H3.out (by omega)).alloc (by simp; omega) _
theorem bytes_any (x : E5) (w : World) (hx : x.Ok) : Cs 95 #[x.v] w (.string (lebytes (x.n % Pm))) := by
 go_enter Tryz.func95, Tryz.ntmps95
 go_wp2_with fail
 refine (words_any x _ hx).mono ?_
 rintro _ w1 ⟨rfl, hb⟩
 have H3 := below1 hb
 clear hb
 go_wp2_with fail
 refine (text_any _ _ _ _ _).mono ?_
 rintro _ w2 ⟨rfl, hb⟩
 have H4 := H3.trans (hb.mono H3.size)
 clear hb H3
 rw [show bs (digs (x.n % Pm % 18446744073709551616) ++ digs (x.n % Pm / 18446744073709551616 % 18446744073709551616) ++ digs (x.n % Pm / 340282366920938463463374607431768211456 % 18446744073709551616) ++ digs (x.n % Pm / 6277101735386680763835789423207666416102355444464034512896 % 18446744073709551616)) = lebytes (x.n % Pm) from rfl]
 go_wp2
 go_ret
 exact ⟨rfl, H4⟩
open Go.RowKit
def by16 (f : NI) (i : Nat) : Int := f (i / 2) / 256 ^ (i % 2) % 256
def rb (f : NI) (k : Nat) : List Int := (List.range 32).map fun i => if i < k then by16 f i else 0
theorem rb_len (f : NI) (k : Nat) : (rb f k).length = 32 := by simp [rb]
end Go.Proofs.YtiahdbibeleakaaGreatDoor.Mon
