/- Part 4 of the walks and facts. -/
import Derived.Test.YtiahdbibeleakaaGreatDoorCt3
import Derived.Deep.Cut
import Derived.Laws.Bits64b
import Derived.Laws.Externs
import Derived.Laws.StructEq
import Derived.Lib.Mul64
set_option maxHeartbeats 16000000
set_option maxRecDepth 100000
set_option linter.unusedSimpArgs false
set_option linter.unusedVariables false
namespace Go.Proofs.YtiahdbibeleakaaGreatDoor
open Go.RowKit
section
variable {P : Program} {ops : Array Oper} {rest : List Oper} {o : Oper} {a : Act} {w W : World} {c : Ctx} {L : List Blk} {Q : Exit → Act → World → Prop} {R : Act → Prop} {n g T : Nat} {F : NV} {ty : TypeId} {x : Operand}
theorem pB (M : Mem c L w) (d : Tmp) (i : Nat) (h : PL P ops Q rest (a.put (some d) (.agg (av n F))) w) (hw : Region.wanted o (yielded ops a.tmps) = true := by first | exact want_no rfl | kernel_rfl) (hd : o.dst = some d := by exact rfl) (ho : o.op = .load ty x := by exact rfl) (hi : L[i]? = some ⟨g, .cells (av n F) T⟩ := by exact rfl) (hx : Ev a x (.pointer (some ⟨g, 0, none⟩)) := by exact ⟨by kernel_rfl⟩) (hu : (P.underlying ty).map TypeDesc.isRow = some true := by kernel_rfl) (hz : (P.info? ty).map (·.size) = some n := by kernel_rfl) : PL P ops Q (o :: rest) a w := pA M d i n F h hw hd ho hi hx hu hz
theorem kB (M : Mem c L W) (d : Tmp) (i : Nat) (h : KL P ops W R rest (a.put (some d) (.agg (av n F)))) (hw : Region.wanted o (yielded ops a.tmps) = true := by first | exact want_no rfl | kernel_rfl) (hd : o.dst = some d := by exact rfl) (ho : o.op = .load ty x := by exact rfl) (hi : L[i]? = some ⟨g, .cells (av n F) T⟩ := by exact rfl) (hx : Ev a x (.pointer (some ⟨g, 0, none⟩)) := by exact ⟨by kernel_rfl⟩) (hu : (P.underlying ty).map TypeDesc.isRow = some true := by kernel_rfl) (hz : (P.info? ty).map (·.size) = some n := by kernel_rfl) : KL P ops W R (o :: rest) a := kA M d i n F h hw hd ho hi hx hu hz
end
section
variable {P : Program} {ops : Array Oper} {o : Oper} {a : Act} {w : World} {Q : Exit → Act → World → Prop} {n fuel : Nat} {listed : Array Bool}
theorem qL {c : Ctx} {Ls : List Blk} (M : Mem c Ls w) (i : Nat) (d : Tmp) (j off k : Nat) (F' : NV) {g m T : Nat} {F : NV} {ty : TypeId} {x : Operand} (hp : ∀ j, j < k → F (off + j) = F' j) (h : HL P ops Q (Mem c Ls) n fuel (listed.setIfInBounds i true) (a.put (some d) (.agg (av k F'))) w) (hj : Ls[j]? = some ⟨g, .cells (av m F) T⟩ := by exact rfl) (hi : ops.toList[i]? = some o := by exact rfl) (hin : i < n := by decide) (hf : Region.free .any ops listed i = true := by kernel_rfl) (hr : (Region.ready .any ops listed).contains i = true := by kernel_rfl) (hw : Region.wanted o (yielded ops a.tmps) = true := by first | exact want_no rfl | kernel_rfl) (hd : o.dst = some d := by exact rfl) (ho : o.op = .load ty x := by exact rfl) (hx : Ev a x (.pointer (some ⟨g, off, none⟩)) := by exact ⟨by kernel_rfl⟩) (hk : off + k ≤ m := by decide) (hu : (P.underlying ty).map TypeDesc.isRow = some true := by kernel_rfl) (hz : (P.info? ty).map (·.size) = some k := by kernel_rfl) : HL P ops Q (Mem c Ls) n (fuel + 1) listed a w := by
 obtain ⟨t, h1, h2⟩ := isRow_of hu
 exact hl_load M i hi hin hf hr hw (some d) hd ty x ho j g off hx.out m T F hj k F' hp hk t h1 h2 hz h
theorem qA {c : Ctx} {Ls : List Blk} (M : Mem c Ls w) (i : Nat) (d : Tmp) (j m : Nat) (F : NV) {g T : Nat} {ty : TypeId} {x : Operand} (h : HL P ops Q (Mem c Ls) n fuel (listed.setIfInBounds i true) (a.put (some d) (.agg (av m F))) w) (hj : Ls[j]? = some ⟨g, .cells (av m F) T⟩ := by exact rfl) (hi : ops.toList[i]? = some o := by exact rfl) (hin : i < n := by decide) (hf : Region.free .any ops listed i = true := by kernel_rfl) (hr : (Region.ready .any ops listed).contains i = true := by kernel_rfl) (hw : Region.wanted o (yielded ops a.tmps) = true := by first | exact want_no rfl | kernel_rfl) (hd : o.dst = some d := by exact rfl) (ho : o.op = .load ty x := by exact rfl) (hx : Ev a x (.pointer (some ⟨g, 0, none⟩)) := by exact ⟨by kernel_rfl⟩) (hu : (P.underlying ty).map TypeDesc.isRow = some true := by kernel_rfl) (hz : (P.info? ty).map (·.size) = some m := by kernel_rfl) : HL P ops Q (Mem c Ls) n (fuel + 1) listed a w :=
 qL M i d j 0 m F (fun j _ => by rw [Nat.zero_add]) h hj hi hin hf hr hw hd ho hx (by omega) hu hz
end
theorem quo2 (j : Nat) (hj : j < 1000000) : IntKind.wrap .i64 ((j : Int).tdiv 2) = ((j / 2 : Nat) : Int) := by
 rw [Int.tdiv_eq_ediv_of_nonneg (by omega), wrap64 (by omega) (by omega)]
 omega
theorem run_remL {P : Program} {a : Act} {o : Oper} (t rt : TypeId) (x y : Operand) (ho : o.op = .binOp .rem t x y rt) (m d : Nat) (hx : a.eval x = .int .i64 (m : Int)) (hy : a.eval y = .int .i64 (d : Int)) (hd : 0 < d) (w : World) :
  (execOp a.eval o).run P w = .ok (.value (.int .i64 ((m % d : Nat) : Int))) w := by
 have h0 : ¬ d = 0 := by omega
 have e : Int.tmod (m : Int) (d : Int) = (m : Int) % (d : Int) := rfl
 unfold execOp
 simp [ho, hx, hy, eqGuard, binOp, Op.intDiv, h0, e]
theorem wrapL {x : Int} (h0 : 0 ≤ x) (h1 : x < 18446744073709551616) : IntKind.wrap .u64 x = x := by
 unfold IntKind.wrap
 simp [IntKind.bits, IntKind.signed]
 omega
theorem pt_nx (s : Yb) {j : Nat} : upd (Mon.pt s j) (j / 2) (uo (Mon.pt s j (j / 2)) (sl (cv .u64 (bt s j)) (8 * (j % 2)))) = Mon.pt s (j + 1) := by
 have hb := bt_nn s j
 have e : cv .u64 (bt s j) = bt s j := wrapL hb.1 (by omega)
 rw [e]
 unfold sl uo
 obtain ⟨m, hm⟩ : ∃ m, j = 2 * m ∨ j = 2 * m + 1 := ⟨j / 2, by omega⟩
 funext i
 rcases hm with rfl | rfl
 ·rw [show 2 * m / 2 = m by omega, show 8 * (2 * m % 2) = 0 by omega, show Mon.pt s (2 * m) m = 0 by unfold Mon.pt; rw [if_neg (by omega), if_neg (by omega)]; rfl, Int.pow_zero, Int.mul_one, wrapL hb.1 (by omega)]
  exact (congrArg (fun v => upd (Mon.pt s (2 * m)) m v i) (Mon.ptor0 s (2 * m))).trans (Mon.pt_even s m i)
 ·rw [show (2 * m + 1) / 2 = m by omega, show 8 * ((2 * m + 1) % 2) = 8 by omega, show Mon.pt s (2 * m + 1) m = bt s (2 * m) by unfold Mon.pt; rw [if_pos (by omega), if_neg (by omega)]; exact Int.add_zero _, show IntKind.wrap .u64 (bt s (2 * m + 1) * 2 ^ 8) = bt s (2 * m + 1) * 256 from wrapL (x := bt s (2 * m + 1) * 256) (by omega) (by omega)]
  exact (congrArg (fun v => upd (Mon.pt s (2 * m + 1)) m v i) (Mon.ptor1 s (2 * m) (2 * m + 1))).trans (Mon.pt_odd s m i)
theorem pt_z (s : Yb) : Mon.pt s 0 = fun _ => 0 := by
 funext i
 unfold Mon.pt
 rw [if_neg (by omega), if_neg (by omega)]
 rfl
def rbF (f : NI) (k : Nat) : Nat → Int := fun i => if i < k then Mon.by16 f i else 0
theorem rb_nx (f : NI) (j : Nat) (h : 0 ≤ f (j / 2)) : upd (rbF f j) j (cv .u8 (sr (f (j / 2)) (8 * (j % 2)))) = rbF f (j + 1) := by
 have e : cv .u8 (sr (f (j / 2)) (8 * (j % 2))) = Mon.by16 f j := by
  have e1 : sr (f (j / 2)) (8 * (j % 2)) = f (j / 2) / 256 ^ (j % 2) := by
   unfold sr
   rw [Int.fdiv_eq_ediv_of_nonneg _ (Int.le_of_lt (Int.pow_pos (by decide)))]
   rcases (by omega : j % 2 = 0 ∨ j % 2 = 1) with h2 | h2 <;> rw [h2] <;> rfl
  have h3 : 0 ≤ f (j / 2) / 256 ^ (j % 2) := Int.ediv_nonneg h (Int.le_of_lt (Int.pow_pos (by decide)))
  rw [e1]
  unfold cv Mon.by16 IntKind.wrap
  simp [IntKind.bits, IntKind.signed]
 rw [e]
 funext i
 unfold upd rbF
 by_cases h1 : i = j
 ·subst h1
  rw [if_pos rfl, if_pos (by omega)]
 ·rw [if_neg h1]
  by_cases h2 : i < j
  ·rw [if_pos h2, if_pos (by omega)]
  ·rw [if_neg h2, if_neg (by omega)]
theorem l_parts (s : Yb) (hs : s.size = 32) (w : World) (hL : Laid w)  : Cs 86 #[.string s] w (.agg (av 16 (w64 (Mon.pt s 32)))) := by
 go_enter Tryz.func86, Tryz.ntmps86
 have M := Mem.start hL
 refine sR ?_
 refine pN M 2 (.cells (av 16 (w64 (fun _ => 0))) 108) fun g1 u1 M => ?_
 replace M := M.nf
 refine nT <| sR ?_
 refine pN M 3 (.cells (av 16 (w64 (fun _ => 0))) 108) fun g2 u2 M => ?_
 replace M := M.nf
 refine nT <| wp_seq <| sq ?_
 refine wp_block ?_
 refine au_loop (fun j a w' => ∃ v1 : NV, a = (fm ([.string s, v1 1, .pointer (some ⟨g1, 0, none⟩), .pointer (some ⟨g2, 0, none⟩), .int .i64 (j : Int)] ++ vr v1 5 28)) ∧ Mem ⟨w, []⟩ [⟨g1, .cells (av 16 (w64 (fun _ => 0))) 108⟩, ⟨g2, .cells (av 16 (w64 (Mon.pt s j))) 108⟩] w') 32 (exS (by rw [pt_z]; exact M)) ?_ ?_
 ·intro j a u0 hj hI
  obtain ⟨v1, rfl, M⟩ := hI
  refine wp_seq <| sR <| rV 1 ?_
  refine ZT 6 ((j : Int) < 32) ?_
  refine rV 4 ?_
  refine ZT 11 ((j : Int) < (s.size : Int)) ?_
  refine rV 1 <| nT <| cT <| wp_skip <| au_then ?_
  refine wp_seq ?_
  refine wp_block ?_
  refine rgh M [⟨g1, .cells (av 16 (w64 (fun _ => 0))) 108⟩, ⟨g2, .cells (av 16 (w64 (Mon.pt s j))) 108⟩] 17 fun u3 M => ?_
  replace M := M.nf
  refine qV M 0 15 (.int .i64 (j : Int)) ?_
  refine qH M 1 16 (.int .i64 ((j / 2 : Nat) : Int)) (fun w _ => (fun w => Eq.trans (b := .ok (.value (.int .i64 (IntKind.wrap .i64 ((j : Int).tdiv 2)))) w) (by kernel_rfl) (by rw [quo2 j (by omega)])) w) ?_
  refine qV M 2 17 (.int .i64 (j : Int)) ?_
  refine qH M 3 18 (.int .i64 ((j / 2 : Nat) : Int)) (fun w _ => (fun w => Eq.trans (b := .ok (.value (.int .i64 (IntKind.wrap .i64 ((j : Int).tdiv 2)))) w) (by kernel_rfl) (by rw [quo2 j (by omega)])) w) ?_
  refine qH M 4 19 (.pointer (some ⟨g2, ((j / 2 : Nat)), none⟩)) (fun w _ => (run_ix1 108 16 33 Tryz.underlying108 inz33 _ _ rfl g2 (by kernel_rfl) .i64 ((j / 2 : Nat)) (by kernel_rfl) (by omega)) w) ?_
  refine qE M 5 20 1 ((j / 2 : Nat)) ?_
  refine qV M 6 21 (.string s) ?_
  refine qV M 7 22 (.int .i64 (j : Int)) ?_
  refine qH M 8 23 (.int .u8 (bt s j)) (fun w _ => (run_ixS 9 Tryz.underlying9 _ _ rfl s (by kernel_rfl) .i64 j (by kernel_rfl) (by omega)) w) ?_
  refine qV M 9 24 (.int .u64 (cv .u64 (bt s j))) ?_
  refine qV M 10 25 (.int .i64 (j : Int)) ?_
  refine qH M 11 26 (.int .i64 ((j % 2 : Nat) : Int)) (fun w _ => (run_remL 3 3 _ _ rfl j 2 (by kernel_rfl) (by kernel_rfl) (by decide)) w) ?_
  refine qH M 12 27 (.int .i64 ((8 * (j % 2) : Nat) : Int)) (fun w _ => (fun w => Eq.trans (b := .ok (.value (.int .i64 (IntKind.wrap .i64 ((8 : Int) * ((j % 2 : Nat) : Int))))) w) (by kernel_rfl) (by rw [wrap64 (by omega) (by omega)]; rfl)) w) ?_
  refine qH M 13 28 (.int .u64 ((8 * (j % 2) : Nat) : Int)) (fun w _ => (fun w => Eq.trans (b := .ok (.value (.int .u64 (IntKind.wrap .u64 ((8 * (j % 2) : Nat) : Int)))) w) (by kernel_rfl) (by rw [wrapL (by omega) (by omega)])) w) ?_
  refine qH M 14 29 (.int .u64 (sl (cv .u64 (bt s j)) (8 * (j % 2)))) (fun w _ => (Pol.run_shlU 33 106 _ _ rfl _ .u64 (8 * (j % 2)) (by kernel_rfl) (by kernel_rfl) (by omega)) w) ?_
  refine qV M 15 30 (.int .u64 (uo ((Mon.pt s j) ((j / 2 : Nat))) (sl (cv .u64 (bt s j)) (8 * (j % 2))))) ?_
  refine qH M 16 31 (.pointer (some ⟨g2, ((j / 2 : Nat)), none⟩)) (fun w _ => (run_ix1 108 16 33 Tryz.underlying108 inz33 _ _ rfl g2 (by kernel_rfl) .i64 ((j / 2 : Nat)) (by kernel_rfl) (by omega)) w) ?_
  refine qZ ?_
  refine ZP64 M 1 ((j / 2 : Nat)) (uo ((Mon.pt s j) ((j / 2 : Nat))) (sl (cv .u64 (bt s j)) (8 * (j % 2)))) fun u4 M => ?_
  replace M := M.nf
  refine nT ?_
  refine au_block ?_
  refine au_then ?_
  refine rg_lit ?_
  refine rV 1 ?_
  refine ZI 14 ((j : Int) + 1) ((j + 1 : Nat) : Int) ?_
  refine rV 1 <| nT ?_
  rw [pt_nx s] at M
  exact exS M
 ·intro a u0 hI
  obtain ⟨v1, rfl, M⟩ := hI
  refine wp_seq <| sR <| rV 1 ?_
  refine ZF 6 ((32 : Int) < 32) ?_
  refine rV 6 <| nT <| cF ?_
  refine wp_exit ?_
  refine au_then_exit ?_
  refine au_then_exit ?_
  refine au_block_exit ?_
  refine au_then <| sR ?_
  refine pA M 32 1 16 (w64 (Mon.pt s 32)) ?_
  refine ZG M 0 16 (w64 (Mon.pt s 32)) fun u3 M => ?_
  replace M := M.nf
  refine nT <| wp_ret ?_
  exact bc Tryz.results86 M 0 16 (w64 (Mon.pt s 32)) ⟨rfl, below_grown M.old⟩
theorem l_rbytes (f : NI) (hf : Mon.Dig f 16) (w : World) (hL : Laid w)  : Cs 61 #[.agg (av 16 (w64 f))] w (.string (Mon.bs (Mon.rb f 32))) := by
 go_enter Tryz.func61, Tryz.ntmps61
 have M := Mem.start hL
 refine sR ?_
 refine pN M 1 (.cells (av 16 (w64 f)) 108) fun g1 u1 M => ?_
 replace M := M.nf
 refine rV 1 <| nT <| sR ?_
 refine ZM M 5 (fun g2 => .slice (some ⟨g2, 0, none⟩) 32 32) (.cells (av 32 (w8 (rbF f 0))) 5) fun g2 u2 M => ?_
 replace M := M.nf
 refine rV 1 <| nT <| wp_seq <| sq ?_
 refine wp_block ?_
 refine au_loop (fun j a w' => ∃ v1 : NV, a = (fm ([.agg (av 16 (w64 f)), .pointer (some ⟨g1, 0, none⟩), .string ⟨#[]⟩, .slice (some ⟨g2, 0, none⟩) 32 32, .int .i64 (j : Int)] ++ vr v1 5 20)) ∧ Mem ⟨w, []⟩ [⟨g1, .cells (av 16 (w64 f)) 108⟩, ⟨g2, .cells (av 32 (w8 (rbF f j))) 5⟩] w') 32 (exS M) ?_ ?_
 ·intro j a u0 hj hI
  obtain ⟨v1, rfl, M⟩ := hI
  refine wp_seq <| sR <| rV 1 ?_
  refine ZT 7 ((j : Int) < 32) ?_
  refine nT <| cT <| wp_skip <| au_then <| wp_seq ?_
  refine wp_block ?_
  refine rg_lit ?_
  refine rV 3 ?_
  refine ZQ 13 .i64 (IntKind.wrap .i64 ((j : Int).tdiv 2)) (quo2 j (by omega)) ?_
  refine ZX 14 .i64 g1 ((j / 2 : Nat)) 16 ?_
  refine ZE M 15 0 ((j / 2 : Nat)) ?_
  refine rV 1 ?_
  refine pH 17 (.int .i64 ((j % 2 : Nat) : Int)) (run_remL 3 3 _ _ rfl j 2 (by kernel_rfl) (by kernel_rfl) (by decide)) ?_
  refine zJ 18 (.int .i64 ((8 * (j % 2) : Nat) : Int)) (.int .i64 (IntKind.wrap .i64 ((8 : Int) * ((j % 2 : Nat) : Int)))) (by rw [wrap64 (by omega) (by omega)]; rfl) ?_
  refine zJ 19 (.int .u64 ((8 * (j % 2) : Nat) : Int)) (.int .u64 (IntKind.wrap .u64 ((8 * (j % 2) : Nat) : Int))) (by rw [wrapL (by omega) (by omega)]) ?_
  refine pH 20 (.int .u64 (sr (f (j / 2)) (8 * (j % 2)))) (Pol.run_shrU 33 106 _ _ rfl _ .u64 (8 * (j % 2)) (by kernel_rfl) (by kernel_rfl) (by omega)) ?_
  refine rV 1 ?_
  refine pH 22 (.pointer (some ⟨g2, j, none⟩)) (run_ix0 44 5 Tryz.underlying44 inz5 _ _ rfl g2 32 32 (by kernel_rfl) .i64 j (by kernel_rfl) (by omega)) ?_
  refine ZP8 M 1 j (cv .u8 (sr (f (j / 2)) (8 * (j % 2)))) fun u3 M => ?_
  replace M := M.nf
  refine pl_nil ?_
  refine au_block ?_
  refine au_then ?_
  refine rg_lit ?_
  refine rV 1 ?_
  refine ZI 9 ((j : Int) + 1) ((j + 1 : Nat) : Int) ?_
  refine rV 1 <| nT ?_
  rw [rb_nx f j (hf (j / 2) (by omega)).1] at M
  exact exS M
 ·intro a u0 hI
  obtain ⟨v1, rfl, M⟩ := hI
  refine wp_seq <| sR <| rV 1 ?_
  refine ZF 7 ((32 : Int) < 32) ?_
  refine nT <| cF ?_
  refine wp_exit ?_
  refine au_then_exit ?_
  refine au_then_exit ?_
  refine au_block_exit ?_
  refine au_then <| sR <| rV 1 ?_
  refine pl_back M (want_no rfl) (some 24) rfl _ rfl 1 g2 32 32 (by kernel_rfl) _ rfl ((List.range 32).map (rbF f 32)) 32 (sb_av 32 _ 5) rfl (fun y hy => by obtain ⟨i, hi, rfl⟩ := List.mem_map.1 hy; unfold rbF; rw [if_pos (List.mem_range.1 hi)]; unfold Mon.by16; omega) ?_
  refine rV 1 <| nT <| wp_ret ?_
  exact b1 M
theorem l_rof0 (s : Yb) (hs : s.size = 32) (w : World) (hL : Laid w)  : Cs 55 #[.string s] w (.agg (av 16 (w64 (Mon.d16 (Mon.S (Mon.wid (Mon.pt s 32) 16) 32 % Mon.Pm))))) := by
 go_enter Tryz.func55, Tryz.ntmps55
 have M := Mem.start hL
 refine sR ?_
 refine pN M 2 (.cells (av 16 (w64 (fun _ => 0))) 108) fun g1 u1 M => ?_
 replace M := M.nf
 refine nT <| sR <| rV 1 ?_
 refine pD M 4 (.agg (av 16 (w64 (Mon.pt s 32)))) (fun w M => l_parts s hs w M.laid) fun u2 M => ?_
 refine pD M 5 (.agg (av 32 (w64 (Mon.wid (Mon.pt s 32) 16)))) (fun w M => Mon.wide_any (Mon.pt s 32) w) fun u3 M => ?_
 refine pD M 6 (.agg (av 16 (w64 (Mon.d16 (Mon.S (Mon.wid (Mon.pt s 32) 16) 32 % Mon.Pm))))) (fun w M => Mon.reduce_any (Mon.wid (Mon.pt s 32) 16) w (Mon.wid_48 (Mon.pt_dig s 32))) fun u4 M => ?_
 refine ZG M 0 16 (w64 (Mon.d16 (Mon.S (Mon.wid (Mon.pt s 32) 16) 32 % Mon.Pm))) fun u5 M => ?_
 replace M := M.nf
 refine nT <| wp_ret ?_
 exact bc Tryz.results55 M 0 16 (w64 (Mon.d16 (Mon.S (Mon.wid (Mon.pt s 32) 16) 32 % Mon.Pm))) ⟨rfl, below_grown M.old⟩
theorem l_rof (s : Yb) (hs : s.size = 32) (w : World) (hL : Laid w) : Cs 55 #[.string s] w (.agg (av 16 (w64 (Mon.d16 (Mon.val s % Mon.Pm))))) := by
 have h := l_rof0 s hs w hL
 rwa [Mon.wid_S, Mon.pt_S] at h
end Go.Proofs.YtiahdbibeleakaaGreatDoor
namespace Go.Proofs.YtiahdbibeleakaaGreatDoor.Mon
open Go.RowKit
section
variable {P : Program} {ops : Array Oper} {md : Region.Mode} {W : World} {n : Nat}
def keepUpon (P : Program) (w : World) (v : Value) : Result Next → Prop
 | .ok (.value u) w' => w' = w ∧ u = v
 | .ok .skip w' => w' = w ∧ v = undef
 | .ok (.enter f args) w' => w' = w ∧ Calls P f args w (fun e w'' => e = .returned v ∧ Below w.heap.size w w'')
 | _ => False
def keepAt (P : Program) (o : Oper) (a : Act) (w : World) (v : Value) : Prop := keepUpon P w v ((execOp a.eval o).run P w)
def keepOp (P : Program) (o : Oper) (a : Act) (W : World) (K : Act → Prop) : Prop := ∃ v, (∀ s : KW W, keepAt P o a s.w v) ∧ K (a.put o.dst v)
def wpK (P : Program) (ops : Array Oper) (W : World) (Q : Act → Prop) : List Oper → Act → Prop
 | [], a => Q a
 | o :: rest, a => if Region.wanted o (yielded ops a.tmps) then keepOp P o a W (wpK P ops W Q rest) else wpK P ops W Q rest (a.put o.dst undef)
theorem wpK_nil {Q : Act → Prop} {a : Act} (h : Q a) : wpK P ops W Q [] a := h
theorem wpK_step {Q : Act → Prop} {a : Act} {o : Oper} {rest : List Oper}
  (h : ∀ K : Act → Prop, (∀ a, wpK P ops W Q rest a → K a) → if Region.wanted o (yielded ops a.tmps) then keepOp P o a W K else K (a.put o.dst undef)) : wpK P ops W Q (o :: rest) a :=
 h _ (fun _ h => h)
def YK (P : Program) (ops : Array Oper) (W : World) (o : Oper) (v : Value) (a : Act) : Prop :=
 (Region.wanted o (yielded ops a.tmps) = true ∧ ∀ s : KW W, keepAt P o a s.w v) ∨ (Region.wanted o (yielded ops a.tmps) = false ∧ v = undef)
def kOp (P : Program) (ops : Array Oper) (W : World) (i : Nat) (K : Act → Prop) (a : Act) : Prop := ∃ o v, ops[i]? = some o ∧ YK P ops W o v a ∧ K (a.put o.dst v)
theorem YK.same {o : Oper} {v : Value} {a a' : Act} (hy : YK P ops W o v a) (he : execOp a'.eval o = execOp a.eval o) (hw : Region.wanted o (yielded ops a'.tmps) = Region.wanted o (yielded ops a.tmps)) : YK P ops W o v a' := by
 unfold YK keepAt at *
 rw [he, hw]
 exact hy
theorem wpK_yields {Q : Act → Prop} {a : Act} {o : Oper} {rest : List Oper} (h : wpK P ops W Q (o :: rest) a) : ∃ v, YK P ops W o v a ∧ wpK P ops W Q rest (a.put o.dst v) := by
 unfold wpK at h
 by_cases hw : Region.wanted o (yielded ops a.tmps) = true
 ·rw [if_pos hw] at h
  obtain ⟨v, h1, h2⟩ := h
  exact ⟨v, .inl ⟨hw, h1⟩, h2⟩
 ·rw [if_neg hw] at h
  exact ⟨undef, .inr ⟨by simpa using hw, rfl⟩, h⟩
theorem YK.wpOp {W1 : World} (hW : Below W.heap.size W W1) {i : Nat} {o : Oper} {v : Value} {a : Act} (hi : ops[i]? = some o) (hy : YK P ops W o v a) {K : Act → World → Prop} {Q : Exit → Act → World → Prop} (s : KW W1)
  (h : ∀ t : KW W1, K (a.put o.dst v) t.w) : wpOp P ops Q i K a s.w := by
 unfold Go.wpOp
 simp only [hi]
 rcases hy with ⟨hw, hv⟩ | ⟨hw, rfl⟩
 ·rw [if_pos hw]
  refine .inl ?_
  have hk := hv ⟨s.w, hW.trans (s.keep.mono hW.size)⟩
  unfold keepAt at hk
  unfold Oper.wp
  generalize (execOp a.eval o).run P s.w = r at *
  cases r with
  | ok x w' =>
   cases x <;> simp only [keepUpon] at hk <;> simp only [Oper.upon]
   case value u =>
    obtain ⟨e1, e2⟩ := hk
    rw [e1, e2]
    exact h s
   case skip =>
    obtain ⟨e1, e2⟩ := hk
    rw [e1, ← e2]
    exact h s
   case enter f args =>
    obtain ⟨e1, hc⟩ := hk
    rw [e1]
    exact hc.mono fun e w'' ⟨he, hb⟩ => by subst he; exact h (s.next w'' hb)
  | halt x w' => simp only [keepUpon] at hk
 ·rw [if_neg (by rw [hw]; exact Bool.false_ne_true)]
  exact h s
def HeadK (P : Program) (md : Region.Mode) (ops : Array Oper) (W : World) (n : Nat) (L : Array Bool → Act → Prop) : Nat → Array Bool → Act → Prop
 | 0, done, a => L done a
 | f + 1, done, a => (∃ i, i < n ∧ i ∈ Region.ready md ops done) ∧ ∀ i ∈ Region.ready md ops done, i = n ∨ (i < n ∧ kOp P ops W i (HeadK P md ops W n L f (done.setIfInBounds i true)) a)
theorem HeadK.first {i : Nat} {oi : Oper} {v : Value} {L : Array Bool → Act → Prop} (hi : ops[i]? = some oi) (hsel : ∀ (j : Nat) (o : Oper) cs b, ops[j]? = some o → o.op ≠ .select cs b)
  (hs : Region.sinkB md ops (n + 1) = true) (hc : Region.chainB md ops (n + 1) = true) (hn : n + 1 < ops.size) (hin : i < n) (hend : ∀ done a, L done a → Region.ready md ops done = [n]) :
  ∀ (f : Nat) (done : Array Bool) (a : Act), HeadInv md ops (n + 1) done →
   (∀ j oj, ops[j]? = some oj → j ≠ i → done.getD j true = false → (∀ e ∈ oj.after, Region.binds md e = true → e.on ≠ i) → oi.apart ops oj = true) →
   i ∈ Region.ready md ops done → YK P ops W oi v a → HeadK P md ops W n L f (done.setIfInBounds i true) (a.put oi.dst v) → HeadK P md ops W n L (f + 1) done a := by
 intro f
 induction f with
 | zero =>
  intro done a inv _ hr hy H
  refine ⟨⟨i, hin, hr⟩, fun j hj => ?_⟩
  by_cases hji : j = i
  ·subst hji
   exact .inr ⟨hin, oi, v, hi, hy, H⟩
  ·have h1 := ready_mono hj hji
   rw [hend _ _ H] at h1
   exact .inl (by simpa using h1)
 | succ f ih =>
  intro done a inv hfree hr hy H
  have hun := (mem_ready.1 hr).1
  refine ⟨⟨i, hin, hr⟩, fun j hj => ?_⟩
  have hjn : j < n + 1 := Nat.lt_of_not_le fun h => tail_waits hs hc hn inv _ i rfl (by omega) hun j h hj
  by_cases hji : j = i
  ·subst hji
   exact .inr ⟨hin, oi, v, hi, hy, H⟩
  ·rcases H.2 j (ready_mono hj hji) with h0 | ⟨hjlt, oj, u, hoj, hyj, hK⟩
   ·exact .inl h0
   ·obtain ⟨hjun, oj', hoj', hall⟩ := mem_ready.1 hj
    have e : oj' = oj := Option.some.inj (hoj'.symm.trans hoj)
    subst e
    have hno : ∀ e ∈ oj'.after, Region.binds md e = true → e.on ≠ i := by
     intro e he hb heq
     have h1 := hall e he hb
     rw [heq, getD_both hun] at h1
     cases h1
    obtain ⟨h1, h2, h3⟩ := Oper.apart_spec (hfree j oj' hoj hji hjun hno)
    have hyj' : YK P ops W oj' u a := hyj.same (execOp_put oj' (fun cs b => hsel j oj' cs b hoj) a oi.dst v h1).symm (wanted_put oj' a oi.dst v h1).symm
    have hyi' : YK P ops W oi v (a.put oj'.dst u) := hy.same (execOp_put oi (fun cs b => hsel i oi cs b hi) a oj'.dst u h3) (wanted_put oi a oj'.dst u h3)
    refine .inr ⟨hjlt, oj', u, hoj, hyj', ih (done.setIfInBounds j true) _ (inv.set hj hjn) ?_ (ready_mono hr (Ne.symm hji)) hyi' ?_⟩
    ·intro k ok hk hki hku hkn
     refine hfree k ok hk hki ?_ hkn
     by_cases hjk : j = k
     ·subst hjk
      exact hjun
     ·rw [getD_set_ne true hjk] at hku
      exact hku
    ·rw [Array.setIfInBounds_comm _ _ hji, ← Act.put_comm a v u h2]
     exact hK
def lexA (md : Region.Mode) (ops : Array Oper) (g n : Nat) : Nat → Nat → Array Bool → Bool
 | 0, _, done => decide (Region.ready md ops done = [n]) && Region.seqB md ops g (n + 1) (done.setIfInBounds n true)
 | f + 1, k, done => (Region.ready md ops done).contains k && Region.free md ops done k && lexA md ops g n f (k + 1) (done.setIfInBounds k true)
def freeN (md : Region.Mode) (ops : Array Oper) (n : Nat) : Bool :=
 (List.range n).all fun i => !Region.waitsFor md ops i n && (match ops[i]?, ops[n]? with | some o, some m => o.apart ops m | _, _ => false)
def lexAllocB (md : Region.Mode) (ops : Array Oper) (n : Nat) : Bool :=
 Region.noSelect ops && decide (n + 1 < ops.size) && Region.sinkB md ops (n + 1) && Region.chainB md ops (n + 1) && freeN md ops n && lexA md ops (ops.size - (n + 1)) n n 0 (Array.replicate ops.size false)
theorem HeadK.lex {g : Nat} {K : Act → Prop} (hsel : Region.noSelect ops = true) (hs : Region.sinkB md ops (n + 1) = true) (hc : Region.chainB md ops (n + 1) = true) (hn : n + 1 < ops.size) (l : List Oper) :
  ∀ (k : Nat) (done : Array Bool) (a : Act), (∀ j, j < l.length → l[j]? = ops[k + j]?) → k + l.length = n → HeadInv md ops (n + 1) done →
  lexA md ops g n l.length k done = true → wpK P ops W K l a → HeadK P md ops W n (fun d a' => (Region.ready md ops d = [n] ∧ Region.seqB md ops g (n + 1) (d.setIfInBounds n true) = true) ∧ K a') l.length done a := by
 induction l with
 | nil =>
  intro k done a _ hk _ hB h
  simp only [List.length_nil, lexA, Bool.and_eq_true, decide_eq_true_eq] at hB
  exact ⟨hB, h⟩
 | cons o l ih =>
  intro k done a hl hk inv hB h
  have h0 : ops[k]? = some o := by simpa using (hl 0 (by simp)).symm
  simp only [List.length_cons, lexA, Bool.and_eq_true] at hB
  simp only [List.length_cons] at hk
  have hr : k ∈ Region.ready md ops done := by simpa using hB.1.1
  obtain ⟨v, hy, hK⟩ := wpK_yields h
  refine HeadK.first h0 (Region.noSelect_spec hsel) hs hc hn (by omega) (fun d a' hL => hL.1.1) l.length done a inv (Region.free_spec h0 hB.1.2) hr hy ?_
  refine ih (k + 1) _ _ (fun j hj => ?_) (by omega) (inv.set hr (by omega)) hB.2 hK
  have := hl (j + 1) (by simp; omega)
  simpa [Nat.add_assoc, Nat.add_comm 1 j] using this
theorem waits_of {i j : Nat} {o : Oper} (ho : ops[i]? = some o) (h : Region.waitsFor md ops i j = false) : ∀ e ∈ o.after, Region.binds md e = true → e.on ≠ j := by
 intro e he hb heq
 unfold Region.waitsFor at h
 simp only [ho] at h
 have : (o.after.any fun e => Region.binds md e && e.on == j) = true := Array.any_eq_true'.2 ⟨e, he, by simp [hb, heq]⟩
 rw [this] at h
 cases h
theorem HeadK.anyT {g : Nat} {L : Array Bool → Act → Prop} {Q : Exit → Act → World → Prop} {om : Oper} (hom : ops[n]? = some om) (hsel : Region.noSelect ops = true) (hs : Region.sinkB md ops (n + 1) = true) (hc : Region.chainB md ops (n + 1) = true) (hn : n + 1 < ops.size) (hfr : freeN md ops n = true)
  {W1 : World} (hW : Below W.heap.size W W1) (p : Value) (hL : ∀ done a, L done a → ∀ s : KW W1, wpAny P md ops Q g (done.setIfInBounds n true) (a.put om.dst p) s.w) :
  ∀ (f : Nat) (done : Array Bool) (a : Act), HeadInv md ops (n + 1) (done.setIfInBounds n true) → HeadK P md ops W n L f done a → ∀ s : KW W1, wpAny P md ops Q (f + g) (done.setIfInBounds n true) (a.put om.dst p) s.w := by
 intro f
 induction f with
 | zero =>
  intro done a _ h s
  rw [Nat.zero_add]
  exact hL done a h s
 | succ f ih =>
  intro done a inv h s
  have e : f + 1 + g = (f + g) + 1 := by omega
  rw [e]
  obtain ⟨⟨i0, hi0, hr0⟩, hall⟩ := h
  have hr0' : i0 ∈ Region.ready md ops (done.setIfInBounds n true) := ready_mono hr0 (by omega)
  refine ⟨fun h0 => (by rw [h0] at hr0'; cases hr0'), fun i hi => ?_⟩
  have hin : i < n + 1 := Nat.lt_of_not_le fun h => tail_waits hs hc hn inv _ i0 rfl (by omega) (mem_ready.1 hr0').1 i h hi
  obtain ⟨hiun, oi, hoi, hie⟩ := mem_ready.1 hi
  have hne : i ≠ n := by
   intro he
   subst he
   by_cases hlt : i < done.size
   ·simp [hlt] at hiun
   ·rw [Array.getD_eq_getD_getElem?, Array.getElem?_eq_none (by simpa using hlt)] at hiun
    cases hiun
  have hF := List.all_eq_true.1 hfr i (List.mem_range.2 (by omega))
  simp only [hoi, hom, Bool.and_eq_true, Bool.not_eq_true'] at hF
  have hwait := waits_of hoi hF.1
  have hrd : i ∈ Region.ready md ops done := by
   rw [mem_ready]
   rw [getD_set_ne true (Ne.symm hne)] at hiun
   refine ⟨hiun, oi, hoi, fun e he hb => ?_⟩
   have := hie e he hb
   rwa [getD_set_ne false (Ne.symm (hwait e he hb))] at this
  rcases hall i hrd with h0 | ⟨hlt, o, v, ho, hy, hK⟩
  ·exact absurd h0 hne
  ·have eo : o = oi := Option.some.inj (ho.symm.trans hoi)
   subst eo
   obtain ⟨h1, h2, h3⟩ := Oper.apart_spec hF.2
   have hso : ∀ cs b, o.op ≠ .select cs b := fun cs b => Region.noSelect_spec hsel i o cs b ho
   have hy' : YK P ops W o v (a.put om.dst p) := hy.same (execOp_put o hso a om.dst p h3) (wanted_put o a om.dst p h3)
   refine hy'.wpOp hW ho s fun t => ?_
   rw [← Act.put_comm a v p h2, Array.setIfInBounds_comm _ _ (Ne.symm hne)]
   refine ih (done.setIfInBounds i true) _ ?_ hK t
   rw [Array.setIfInBounds_comm _ _ hne]
   exact inv.set hi hin
theorem HeadK.anyS {g : Nat} {L : Array Bool → Act → Prop} {Q : Exit → Act → World → Prop} {om : Oper} {Z : Obj} (hom : ops[n]? = some om) (hsel : Region.noSelect ops = true) (hs : Region.sinkB md ops (n + 1) = true) (hc : Region.chainB md ops (n + 1) = true) (hn : n + 1 < ops.size) (hfr : freeN md ops n = true)
  (hg : om.guard = none) (hrun : ∀ a w, (execOp (Act.eval a) om).run P w = .ok (.value (.pointer (some ⟨w.heap.size, 0, none⟩))) (w.alloc Z)) (hend : ∀ done a, L done a → Region.ready md ops done = [n])
  (hL : ∀ done a, L done a → ∀ (w1 : World) (b : Nat), Below W.heap.size W w1 → W.heap.size ≤ b → w1.heap[b]? = some Z → wpAny P md ops Q g (done.setIfInBounds n true) (a.put om.dst (.pointer (some ⟨b, 0, none⟩))) w1) :
  ∀ (f : Nat) (done : Array Bool) (a : Act), HeadInv md ops (n + 1) done → HeadK P md ops W n L f done a → ∀ s : KW W, wpAny P md ops Q (f + 1 + g) done a s.w := by
 have hnow : ∀ (f : Nat) (done : Array Bool) (a : Act) (s : KW W), HeadInv md ops (n + 1) done → n ∈ Region.ready md ops done → HeadK P md ops W n L f done a → wpOp P ops Q n (wpAny P md ops Q (f + g) (done.setIfInBounds n true)) a s.w := by
  intro f done a s inv hr h
  unfold wpOp
  have hw : Region.wanted om (yielded ops a.tmps) = true := by simp [Region.wanted, hg]
  simp only [hom, hw, if_true]
  refine .inl ?_
  unfold Oper.wp
  rw [hrun]
  simp only [Oper.upon]
  have hW1 : Below W.heap.size W (s.w.alloc Z) := s.keep.alloc s.keep.size Z
  refine HeadK.anyT hom hsel hs hc hn hfr hW1 _ ?_ f done a (inv.set hr (by omega)) h ⟨_, Below.refl _ _⟩
  intro d a' hd t
  refine hL d a' hd t.w _ (hW1.trans (t.keep.mono hW1.size)) s.keep.size ?_
  rw [t.keep.block _ (by simp)]
  exact heap_alloc_new s.w Z
 intro f
 induction f with
 | zero =>
  intro done a inv h s
  have e : 0 + 1 + g = (0 + g) + 1 := by omega
  rw [e]
  have hr := hend done a h
  refine ⟨fun h0 => (by rw [hr] at h0; cases h0), fun i hi => ?_⟩
  have hi' : i = n := by rw [hr] at hi; simpa using hi
  rw [hi'] at hi ⊢
  exact hnow 0 done a s inv hi h
 | succ f ih =>
  intro done a inv h s
  have e : f + 1 + 1 + g = (f + 1 + g) + 1 := by omega
  rw [e]
  have h' := h
  obtain ⟨⟨i0, hi0, hr0⟩, hall⟩ := h
  refine ⟨fun h0 => (by rw [h0] at hr0; cases hr0), fun i hi => ?_⟩
  rcases hall i hi with h0 | ⟨hlt, o, v, ho, hy, hK⟩
  ·rw [h0] at hi ⊢
   exact hnow (f + 1) done a s inv hi h'
  ·refine hy.wpOp (Below.refl _ _) ho s fun t => ?_
   exact ih (done.setIfInBounds i true) _ (inv.set hi (by omega)) hK t
theorem wp_region_keep_alloc {id : Nat} {Q : Exit → Act → World → Prop} {a : Act} {l : List Oper} {om : Oper} {Z : Obj} (n : Nat) (hm : P.follows .mixedOrders = true) (hB : lexAllocB .any l.toArray n = true)
  (hom : l.toArray[n]? = some om) (hg : om.guard = none) (hrun : ∀ a w, (execOp (Act.eval a) om).run P w = .ok (.value (.pointer (some ⟨w.heap.size, 0, none⟩))) (w.alloc Z))
  (h : wpK P l.toArray W (fun a' => ∀ (w1 : World) (b : Nat), Below W.heap.size W w1 → W.heap.size ≤ b → w1.heap[b]? = some Z → ∀ a2, a2 = a'.put om.dst (.pointer (some ⟨b, 0, none⟩)) → wpList P l.toArray Q (l.drop (n + 1)) a2 w1) (l.take n) a) :
  (Code.region id l.toArray true).wp P Q a W := by
 simp only [lexAllocB, Bool.and_eq_true, decide_eq_true_eq] at hB
 obtain ⟨⟨⟨⟨⟨hsel, hn⟩, hs⟩, hc⟩, hfr⟩, hlex⟩ := hB
 have hn' : n + 1 < l.length := by simpa using hn
 have htl : (l.take n).length = n := by simp; omega
 have hdl : (l.drop (n + 1)).length = l.toArray.size - (n + 1) := by simp
 have inv : HeadInv .any l.toArray (n + 1) (Array.replicate l.toArray.size false) :=
  ⟨by simp, fun j oj _ hl => (by rw [getD_replicate_false] at hl; cases hl), fun t _ ht => getD_in (by simpa using ht) (getD_replicate_false _ _)⟩
 have H := HeadK.lex (md := .any) (g := l.toArray.size - (n + 1)) hsel hs hc hn (l.take n) 0 _ a (fun j hj => by rw [htl] at hj; simp [hj]) (by simpa using htl) inv (by rw [htl]; exact hlex) h
 refine wp_region_any hm ?_
 have H2 := HeadK.anyS (Q := Q) (g := l.toArray.size - (n + 1)) hom hsel hs hc hn hfr hg hrun (fun d a' hL => hL.1.1) (fun d a' hL w1 b h1 h2 h3 => by
  have := wpAny_of_seq (md := .any) (Q' := Q) (l.drop (n + 1)) (n + 1) (d.setIfInBounds n true) (a'.put om.dst (.pointer (some ⟨b, 0, none⟩))) w1 (fun j => by simp [List.getElem?_drop]) (by rw [hdl]; exact hL.1.2) (hL.2 w1 b h1 h2 h3 _ rfl)
  rwa [hdl] at this) _ _ _ inv H ⟨W.drew, (Below.refl _ _).drew⟩
 rw [htl, show n + 1 + (l.toArray.size - (n + 1)) = l.toArray.size by omega] at H2
 exact H2
end
open Go.RowKit
theorem maskN (a : Nat) (ha : a < 18446744073709551616) : bits .and .u64 (a : Int) 4294967295 = ((a % 4294967296 : Nat) : Int) := by
 have h := bits_and_u64_nat a 4294967295 ha (by omega)
 have e : a &&& 4294967295 = a % 4294967296 := Nat.and_two_pow_sub_one_eq_mod a 32
 rw [e] at h
 exact h
theorem divN (a : Nat) : (a : Int) / 4294967296 = ((a / 4294967296 : Nat) : Int) := by omega
theorem mulN (a b : Nat) : (a : Int) * (b : Int) = ((a * b : Nat) : Int) := (Int.natCast_mul a b).symm
theorem addN (a b : Nat) : (a : Int) + (b : Int) = ((a + b : Nat) : Int) := (Int.natCast_add a b).symm
theorem wrapN (a : Nat) (ha : a < 18446744073709551616) : IntKind.u64.wrap (a : Int) = (a : Int) := by rw [IntKind.wrap_u64]; omega
theorem wrapM (a : Nat) : IntKind.u64.wrap (a : Int) = ((a % 18446744073709551616 : Nat) : Int) := by rw [IntKind.wrap_u64]; omega
theorem mul64_nat (x y : Nat) (hx : x < 18446744073709551616) (hy : y < 18446744073709551616) (w : World) : Calls Tryz.prog 171 #[.int .u64 x, .int .u64 y] w fun e w' => e = .returned (.tuple #[.int .u64 ((x * y / 18446744073709551616 : Nat) : Int), .int .u64 ((x * y % 18446744073709551616 : Nat) : Int)]) ∧ w' = w := by
 obtain ⟨bd, bt, bw, hhi⟩ := Lib.mul64_hi x y hx hy
 have ba := Lib.half_mul_le (a := x / 4294967296) (b := y / 4294967296) (by omega) (by omega)
 have bb := Lib.half_mul_le (a := x / 4294967296) (b := y % 4294967296) (by omega) (by omega)
 have bc := Lib.half_mul_le (a := x % 4294967296) (b := y / 4294967296) (by omega) (by omega)
 have ba' : x / 4294967296 * (y / 4294967296) < 18446744073709551616 := by omega
 have bb' : x / 4294967296 * (y % 4294967296) < 18446744073709551616 := by omega
 have bc' : x % 4294967296 * (y / 4294967296) < 18446744073709551616 := by omega
 have bh1 : x / 4294967296 * (y / 4294967296) + (x / 4294967296 * (y % 4294967296) + x % 4294967296 * (y % 4294967296) / 4294967296) / 4294967296 < 18446744073709551616 := by omega
 have bh : x / 4294967296 * (y / 4294967296) + (x / 4294967296 * (y % 4294967296) + x % 4294967296 * (y % 4294967296) / 4294967296) / 4294967296 + ((x / 4294967296 * (y % 4294967296) + x % 4294967296 * (y % 4294967296) / 4294967296) % 4294967296 + x % 4294967296 * (y / 4294967296)) / 4294967296 < 18446744073709551616 := by omega
 go_enter Tryz.func171, Tryz.ntmps171
 go_wp2
 simp only [maskN x hx, maskN y hy, divN, mulN, addN, wrapN _ bd, wrapN _ bb', wrapN _ bt, maskN _ bt, wrapN _ bc', wrapN _ bw, wrapN _ ba', wrapN _ bh1, wrapN _ bh, wrapM (x * y)]
 rw [hhi]
 go_ret2
 exact ⟨rfl, rfl⟩
theorem add64_run (x y c : Int) (hx : 0 ≤ x) (hy : 0 ≤ y) (hc0 : 0 ≤ c) (hc : c ≤ 1) (w : World) :
  (callFunc 172 #[.int .u64 x, .int .u64 y, .int .u64 c]).run Tryz.prog w =
   .ok (.value (.tuple #[.int .u64 ((x + y + c) % 18446744073709551616), .int .u64 ((x + y + c) / 18446744073709551616)])) w := by
 rw [run_callFunc_extern Tryz.func172 (by kernel_rfl) (by kernel_rfl) (by kernel_rfl) (e := add64Entry) (by kernel_rfl), run_add64 x y c hx hy hc0 hc]
 simp only [Result.andThen]
abbrev wd (N : Int) : Value := .agg #[.int .u64 (N / 18446744073709551616), .int .u64 (N % 18446744073709551616)]
theorem product_any (x y : Int) (w : World) (hx : W64 x) (hy : W64 y) : Cs 150 #[.int .u64 x, .int .u64 y] w (wd (x * y)) := by
 obtain ⟨X, rfl⟩ := Int.eq_ofNat_of_zero_le hx.1
 obtain ⟨Y, rfl⟩ := Int.eq_ofNat_of_zero_le hy.1
 have hX : X < 18446744073709551616 := by have := hx.2; omega
 have hY : Y < 18446744073709551616 := by have := hy.2; omega
 clear hx hy
 go_enter Tryz.func150, Tryz.ntmps150
 go_wp2_with fail
 refine (mul64_nat X Y hX hY _).mono ?_
 rintro _ w1 ⟨rfl, rfl⟩
 go_wp2
 exact bodyPost_ret (v := wd ((X : Int) * (Y : Int))) (by simp [results, Tryz.results150, go_sem]) rfl ⟨rfl, (Below.refl _ _).alloc (Nat.le_refl _) _⟩
theorem plusH {N M : Int} (h0 : 0 ≤ N) (h1 : 0 ≤ M) (hlt : N + M < 340282366920938463463374607431768211456) : (N / 18446744073709551616 + M / 18446744073709551616 + (N % 18446744073709551616 + M % 18446744073709551616) / 18446744073709551616) % 18446744073709551616 = (N + M) / 18446744073709551616 := by omega
theorem plusL {N M : Int} : (N % 18446744073709551616 + M % 18446744073709551616) % 18446744073709551616 = (N + M) % 18446744073709551616 := by omega
theorem plus_hl (h l h' l' : Int) (w : World) (a0 : 0 ≤ h) (b0 : 0 ≤ l) (b1 : l < 18446744073709551616) (c0 : 0 ≤ h') (d0 : 0 ≤ l') (d1 : l' < 18446744073709551616) : Cs 151 #[.agg #[.int .u64 h, .int .u64 l], .agg #[.int .u64 h', .int .u64 l']] w (.agg #[.int .u64 ((h + h' + (l + l') / 18446744073709551616) % 18446744073709551616), .int .u64 ((l + l') % 18446744073709551616)]) := by
 have r1 := add64_run l l' 0 b0 d0 (by decide) (by decide)
 have r2 := add64_run h h' ((l + l' + 0) / 18446744073709551616) a0 c0 (by omega) (by omega)
 rw [Int.add_zero] at r1 r2
 go_enter Tryz.func151, Tryz.ntmps151
 go_wp2
 exact bodyPost_ret (v := .agg #[.int .u64 ((h + h' + (l + l') / 18446744073709551616) % 18446744073709551616), .int .u64 ((l + l') % 18446744073709551616)]) (by simp [results, Tryz.results151, go_sem]) rfl ⟨rfl, (((Below.refl _ _).alloc (Nat.le_refl _) _).alloc (by simp) _).alloc (by simp; omega) _⟩
theorem plus_any (N M : Int) (w : World) (h0 : 0 ≤ N) (h1 : 0 ≤ M) (hlt : N + M < 340282366920938463463374607431768211456) : Cs 151 #[wd N, wd M] w (wd (N + M)) := by
 have := plus_hl (N / 18446744073709551616) (N % 18446744073709551616) (M / 18446744073709551616) (M % 18446744073709551616) w (by omega) (by omega) (by omega) (by omega) (by omega) (by omega)
 rw [plusH h0 h1 hlt, plusL] at this
 exact this
theorem belowR (N : Int) : bits BinOp.and IntKind.u64 (N % 18446744073709551616) 2251799813685247 = N % 2251799813685248 := by
 rw [and51 ⟨by omega, by omega⟩]
 omega
theorem below_any (N : Int) (w : World) : Cs 152 #[wd N] w (.int .u64 (N % 2251799813685248)) := by
 have e := belowR N
 go_enter Tryz.func152, Tryz.ntmps152
 go_wp2
 go_ret
 exact ⟨rfl, (Below.refl _ _).alloc (Nat.le_refl _) _⟩
theorem aboveR {N : Int} (h0 : 0 ≤ N) (h1 : N < 41538374868278621028243970633760768) : bits BinOp.or IntKind.u64 (IntKind.u64.wrap (N / 18446744073709551616 * 8192)) (N % 18446744073709551616 / 2251799813685248) = N / 2251799813685248 := by
 rw [wrap64u ⟨by omega, by omega⟩, or_join 13 8192 (by decide) ⟨by omega, by omega⟩ ⟨by omega, by omega⟩ (by omega) (by omega)]
 omega
theorem above_any (N : Int) (w : World) (h0 : 0 ≤ N) (h1 : N < 41538374868278621028243970633760768) : Cs 153 #[wd N] w (.int .u64 (N / 2251799813685248)) := by
 have e := aboveR h0 h1
 clear h0 h1
 go_enter Tryz.func153, Tryz.ntmps153
 go_wp2
 go_ret
 exact ⟨rfl, (Below.refl _ _).alloc (Nat.le_refl _) _⟩
open Go.RowKit
theorem E5.Ok.wa {x : E5} (h : x.Ok) : W64 x.a := ⟨h.a0, by have := h.a1; omega⟩
theorem E5.Ok.wb {x : E5} (h : x.Ok) : W64 x.b := ⟨h.b0, by have := h.b1; omega⟩
theorem E5.Ok.vb {x : E5} (h : x.Ok) : W64 (x.b * 19) := ⟨by have := h.b0; omega, by have := h.b1; omega⟩
theorem E5.Ok.wc {x : E5} (h : x.Ok) : W64 x.c := ⟨h.c0, by have := h.c1; omega⟩
theorem E5.Ok.vc {x : E5} (h : x.Ok) : W64 (x.c * 19) := ⟨by have := h.c0; omega, by have := h.c1; omega⟩
theorem E5.Ok.wd {x : E5} (h : x.Ok) : W64 x.d := ⟨h.d0, by have := h.d1; omega⟩
theorem E5.Ok.vd {x : E5} (h : x.Ok) : W64 (x.d * 19) := ⟨by have := h.d0; omega, by have := h.d1; omega⟩
theorem E5.Ok.we {x : E5} (h : x.Ok) : W64 x.e := ⟨h.e0, by have := h.e1; omega⟩
theorem E5.Ok.ve {x : E5} (h : x.Ok) : W64 (x.e * 19) := ⟨by have := h.e0; omega, by have := h.e1; omega⟩
structure MulW (w W : World) : Prop where
 old : Below w.heap.size w W
 size : w.heap.size + 1 + 1 < W.heap.size
 free : ∀ o, W.frozen? ⟨w.heap.size + 1 + 1, o, none⟩ = false
 c0 : W.cell? ⟨w.heap.size + 1 + 1, 0, none⟩ = some (.int .u64 0)
 c1 : W.cell? ⟨w.heap.size + 1 + 1, 1, none⟩ = some (.int .u64 0)
 c2 : W.cell? ⟨w.heap.size + 1 + 1, 2, none⟩ = some (.int .u64 0)
 c3 : W.cell? ⟨w.heap.size + 1 + 1, 3, none⟩ = some (.int .u64 0)
 c4 : W.cell? ⟨w.heap.size + 1 + 1, 4, none⟩ = some (.int .u64 0)
theorem MulW.keep {w W W' : World} (h : MulW w W) (hb : Below W.heap.size W W') : MulW w W' :=
 ⟨h.old.trans (hb.mono h.old.size), Nat.lt_of_lt_of_le h.size hb.size, fun o => (hb.frozen (p := ⟨_, o, none⟩) h.size).trans (h.free o), (hb.cell (p := ⟨_, 0, none⟩) h.size).trans h.c0, (hb.cell (p := ⟨_, 1, none⟩) h.size).trans h.c1, (hb.cell (p := ⟨_, 2, none⟩) h.size).trans h.c2, (hb.cell (p := ⟨_, 3, none⟩) h.size).trans h.c3, (hb.cell (p := ⟨_, 4, none⟩) h.size).trans h.c4⟩
theorem MulW.start {w W : World} {A B : Obj} {n : Nat}
  (hb : Below ((((w.alloc A).alloc B).alloc (.cells #[.int .u64 0, .int .u64 0, .int .u64 0, .int .u64 0, .int .u64 0] 143)).drewN n).heap.size ((((w.alloc A).alloc B).alloc (.cells #[.int .u64 0, .int .u64 0, .int .u64 0, .int .u64 0, .int .u64 0] 143)).drewN n) W) : MulW w W := by
 refine MulW.keep ?_ hb
 refine ⟨?_, by simp, by simp [go_sem], by simp [go_sem], by simp [go_sem], by simp [go_sem], by simp [go_sem], by simp [go_sem]⟩
 have := (((Below.refl w.heap.size w).alloc (Nat.le_refl _) A).alloc (by simp) B).alloc (by simp; omega) (.cells #[.int .u64 0, .int .u64 0, .int .u64 0, .int .u64 0, .int .u64 0] 143)
 exact ⟨this.os, this.tape, this.output, this.size, this.block⟩
structure At (W : World) (g : Nat) (N : Int) : Prop where
 size : g < W.heap.size
 c0 : W.cell? ⟨g, 0, none⟩ = some (.int .u64 (N / 18446744073709551616))
 c1 : W.cell? ⟨g, 1, none⟩ = some (.int .u64 (N % 18446744073709551616))
theorem At.keep {W W' : World} {g : Nat} {N : Int} (h : At W g N) (hb : Below W.heap.size W W') : At W' g N :=
 ⟨Nat.lt_of_lt_of_le h.size hb.size, (hb.cell (p := ⟨g, 0, none⟩) h.size).trans h.c0, (hb.cell (p := ⟨g, 1, none⟩) h.size).trans h.c1⟩
theorem At.new (W : World) (N : Int) : At (W.alloc (.cells #[.int .u64 (N / 18446744073709551616), .int .u64 (N % 18446744073709551616)] 211)) W.heap.size N :=
 ⟨by simp, by simp [go_sem], by simp [go_sem]⟩
theorem below_new (W : World) (o : Obj) : Below W.heap.size W (W.alloc o) := (Below.refl _ _).alloc (Nat.le_refl _) _
theorem mul_any (x y : E5) (w : World) (hx : x.Ok) (hy : y.Ok) : Calls Tryz.prog 117 #[x.v, y.v] w fun r w' => r = .returned (mulF x y).v ∧ Below w.heap.size w w' := by
 have HB := hide (MB.of hx hy)
 have HS := hide (MS.of hx hy)
 have q0 := hy.b0
 have q1 := hy.b1
 have q2 := hy.c0
 have q3 := hy.c1
 have q4 := hy.d0
 have q5 := hy.d1
 have q6 := hy.e0
 have q7 := hy.e1
 go_enter Tryz.func117, Tryz.ntmps117
 go_wp2_with fail
 go_quiet (fail)
 go_wp2_with fail
 go_quiet (fail)
 go_wp2_with fail
 clear q0 q1 q2 q3 q4 q5 q6 q7
 refine (product_any x.a y.a _ hx.wa hy.wa).mono ?_
 rintro _ wv ⟨rfl, hb⟩
 have M := MulW.start hb
 clear hb
 go_wp2_with fail
 refine (product_any x.b (y.e * 19) _ hx.wb hy.ve).mono ?_
 rintro _ wv ⟨rfl, hb⟩
 replace M := M.keep hb
 clear hb
 go_wp2_with fail
 refine (plus_any (x.a * y.a) (x.b * (y.e * 19)) _ (by have B := HB.out; have := B.aa; have := B.be'; have := B.cd'; have := B.dc'; have := B.eb'; omega) (by have B := HB.out; have := B.aa; have := B.be'; have := B.cd'; have := B.dc'; have := B.eb'; omega) (by have B := HB.out; have := B.aa; have := B.be'; have := B.cd'; have := B.dc'; have := B.eb'; omega)).mono ?_
 rintro _ wv ⟨rfl, hb⟩
 replace M := M.keep hb
 clear hb
 go_wp2_with fail
 refine (product_any x.c (y.d * 19) _ hx.wc hy.vd).mono ?_
 rintro _ wv ⟨rfl, hb⟩
 replace M := M.keep hb
 clear hb
 go_wp2_with fail
 refine (plus_any (x.a * y.a + x.b * (y.e * 19)) (x.c * (y.d * 19)) _ (by have B := HB.out; have := B.aa; have := B.be'; have := B.cd'; have := B.dc'; have := B.eb'; omega) (by have B := HB.out; have := B.aa; have := B.be'; have := B.cd'; have := B.dc'; have := B.eb'; omega) (by have B := HB.out; have := B.aa; have := B.be'; have := B.cd'; have := B.dc'; have := B.eb'; omega)).mono ?_
 rintro _ wv ⟨rfl, hb⟩
 replace M := M.keep hb
 clear hb
 go_wp2_with fail
 refine (product_any x.d (y.c * 19) _ hx.wd hy.vc).mono ?_
 rintro _ wv ⟨rfl, hb⟩
 replace M := M.keep hb
 clear hb
 go_wp2_with fail
 refine (plus_any (x.a * y.a + x.b * (y.e * 19) + x.c * (y.d * 19)) (x.d * (y.c * 19)) _ (by have B := HB.out; have := B.aa; have := B.be'; have := B.cd'; have := B.dc'; have := B.eb'; omega) (by have B := HB.out; have := B.aa; have := B.be'; have := B.cd'; have := B.dc'; have := B.eb'; omega) (by have B := HB.out; have := B.aa; have := B.be'; have := B.cd'; have := B.dc'; have := B.eb'; omega)).mono ?_
 rintro _ wv ⟨rfl, hb⟩
 replace M := M.keep hb
 clear hb
 go_wp2_with fail
 refine (product_any x.e (y.b * 19) _ hx.we hy.vb).mono ?_
 rintro _ wv ⟨rfl, hb⟩
 replace M := M.keep hb
 clear hb
 go_wp2_with fail
 refine (plus_any (x.a * y.a + x.b * (y.e * 19) + x.c * (y.d * 19) + x.d * (y.c * 19)) (x.e * (y.b * 19)) _ (by have B := HB.out; have := B.aa; have := B.be'; have := B.cd'; have := B.dc'; have := B.eb'; omega) (by have B := HB.out; have := B.aa; have := B.be'; have := B.cd'; have := B.dc'; have := B.eb'; omega) (by have B := HB.out; have := B.aa; have := B.be'; have := B.cd'; have := B.dc'; have := B.eb'; omega)).mono ?_
 rintro _ wv ⟨rfl, hb⟩
 replace M := M.keep hb
 clear hb
 rw [show x.a * y.a + x.b * (y.e * 19) + x.c * (y.d * 19) + x.d * (y.c * 19) + x.e * (y.b * 19) = m0 x y from rfl]
 go_wp2_with fail
 refine (product_any x.a y.b _ hx.wa hy.wb).mono ?_
 rintro _ wv ⟨rfl, hb⟩
 replace M := (M.keep (below_new _ _)).keep hb
 have A0 := (At.new _ _).keep hb
 clear hb
 go_wp2_with fail
 refine (product_any x.b y.a _ hx.wb hy.wa).mono ?_
 rintro _ wv ⟨rfl, hb⟩
 replace M := M.keep hb
 replace A0 := A0.keep hb
 clear hb
 go_wp2_with fail
 refine (plus_any (x.a * y.b) (x.b * y.a) _ (by have B := HB.out; have := B.ab; have := B.ba; have := B.ce'; have := B.dd'; have := B.ec'; omega) (by have B := HB.out; have := B.ab; have := B.ba; have := B.ce'; have := B.dd'; have := B.ec'; omega) (by have B := HB.out; have := B.ab; have := B.ba; have := B.ce'; have := B.dd'; have := B.ec'; omega)).mono ?_
 rintro _ wv ⟨rfl, hb⟩
 replace M := M.keep hb
 replace A0 := A0.keep hb
 clear hb
 go_wp2_with fail
 refine (product_any x.c (y.e * 19) _ hx.wc hy.ve).mono ?_
 rintro _ wv ⟨rfl, hb⟩
 replace M := M.keep hb
 replace A0 := A0.keep hb
 clear hb
 go_wp2_with fail
 refine (plus_any (x.a * y.b + x.b * y.a) (x.c * (y.e * 19)) _ (by have B := HB.out; have := B.ab; have := B.ba; have := B.ce'; have := B.dd'; have := B.ec'; omega) (by have B := HB.out; have := B.ab; have := B.ba; have := B.ce'; have := B.dd'; have := B.ec'; omega) (by have B := HB.out; have := B.ab; have := B.ba; have := B.ce'; have := B.dd'; have := B.ec'; omega)).mono ?_
 rintro _ wv ⟨rfl, hb⟩
 replace M := M.keep hb
 replace A0 := A0.keep hb
 clear hb
 go_wp2_with fail
 refine (product_any x.d (y.d * 19) _ hx.wd hy.vd).mono ?_
 rintro _ wv ⟨rfl, hb⟩
 replace M := M.keep hb
 replace A0 := A0.keep hb
 clear hb
 go_wp2_with fail
 refine (plus_any (x.a * y.b + x.b * y.a + x.c * (y.e * 19)) (x.d * (y.d * 19)) _ (by have B := HB.out; have := B.ab; have := B.ba; have := B.ce'; have := B.dd'; have := B.ec'; omega) (by have B := HB.out; have := B.ab; have := B.ba; have := B.ce'; have := B.dd'; have := B.ec'; omega) (by have B := HB.out; have := B.ab; have := B.ba; have := B.ce'; have := B.dd'; have := B.ec'; omega)).mono ?_
 rintro _ wv ⟨rfl, hb⟩
 replace M := M.keep hb
 replace A0 := A0.keep hb
 clear hb
 go_wp2_with fail
 refine (product_any x.e (y.c * 19) _ hx.we hy.vc).mono ?_
 rintro _ wv ⟨rfl, hb⟩
 replace M := M.keep hb
 replace A0 := A0.keep hb
 clear hb
 go_wp2_with fail
 refine (plus_any (x.a * y.b + x.b * y.a + x.c * (y.e * 19) + x.d * (y.d * 19)) (x.e * (y.c * 19)) _ (by have B := HB.out; have := B.ab; have := B.ba; have := B.ce'; have := B.dd'; have := B.ec'; omega) (by have B := HB.out; have := B.ab; have := B.ba; have := B.ce'; have := B.dd'; have := B.ec'; omega) (by have B := HB.out; have := B.ab; have := B.ba; have := B.ce'; have := B.dd'; have := B.ec'; omega)).mono ?_
 rintro _ wv ⟨rfl, hb⟩
 replace M := M.keep hb
 replace A0 := A0.keep hb
 clear hb
 rw [show x.a * y.b + x.b * y.a + x.c * (y.e * 19) + x.d * (y.d * 19) + x.e * (y.c * 19) = m1 x y from rfl]
 go_wp2_with fail
 refine (product_any x.a y.c _ hx.wa hy.wc).mono ?_
 rintro _ wv ⟨rfl, hb⟩
 replace M := (M.keep (below_new _ _)).keep hb
 replace A0 := (A0.keep (below_new _ _)).keep hb
 have A1 := (At.new _ _).keep hb
 clear hb
 go_wp2_with fail
 refine (product_any x.b y.b _ hx.wb hy.wb).mono ?_
 rintro _ wv ⟨rfl, hb⟩
 replace M := M.keep hb
 replace A0 := A0.keep hb
 replace A1 := A1.keep hb
 clear hb
 go_wp2_with fail
 refine (plus_any (x.a * y.c) (x.b * y.b) _ (by have B := HB.out; have := B.ac; have := B.bb; have := B.ca; have := B.de'; have := B.ed'; omega) (by have B := HB.out; have := B.ac; have := B.bb; have := B.ca; have := B.de'; have := B.ed'; omega) (by have B := HB.out; have := B.ac; have := B.bb; have := B.ca; have := B.de'; have := B.ed'; omega)).mono ?_
 rintro _ wv ⟨rfl, hb⟩
 replace M := M.keep hb
 replace A0 := A0.keep hb
 replace A1 := A1.keep hb
 clear hb
 go_wp2_with fail
 refine (product_any x.c y.a _ hx.wc hy.wa).mono ?_
 rintro _ wv ⟨rfl, hb⟩
 replace M := M.keep hb
 replace A0 := A0.keep hb
 replace A1 := A1.keep hb
 clear hb
 go_wp2_with fail
 refine (plus_any (x.a * y.c + x.b * y.b) (x.c * y.a) _ (by have B := HB.out; have := B.ac; have := B.bb; have := B.ca; have := B.de'; have := B.ed'; omega) (by have B := HB.out; have := B.ac; have := B.bb; have := B.ca; have := B.de'; have := B.ed'; omega) (by have B := HB.out; have := B.ac; have := B.bb; have := B.ca; have := B.de'; have := B.ed'; omega)).mono ?_
 rintro _ wv ⟨rfl, hb⟩
 replace M := M.keep hb
 replace A0 := A0.keep hb
 replace A1 := A1.keep hb
 clear hb
 go_wp2_with fail
 refine (product_any x.d (y.e * 19) _ hx.wd hy.ve).mono ?_
 rintro _ wv ⟨rfl, hb⟩
 replace M := M.keep hb
 replace A0 := A0.keep hb
 replace A1 := A1.keep hb
 clear hb
 go_wp2_with fail
 refine (plus_any (x.a * y.c + x.b * y.b + x.c * y.a) (x.d * (y.e * 19)) _ (by have B := HB.out; have := B.ac; have := B.bb; have := B.ca; have := B.de'; have := B.ed'; omega) (by have B := HB.out; have := B.ac; have := B.bb; have := B.ca; have := B.de'; have := B.ed'; omega) (by have B := HB.out; have := B.ac; have := B.bb; have := B.ca; have := B.de'; have := B.ed'; omega)).mono ?_
 rintro _ wv ⟨rfl, hb⟩
 replace M := M.keep hb
 replace A0 := A0.keep hb
 replace A1 := A1.keep hb
 clear hb
 go_wp2_with fail
 refine (product_any x.e (y.d * 19) _ hx.we hy.vd).mono ?_
 rintro _ wv ⟨rfl, hb⟩
 replace M := M.keep hb
 replace A0 := A0.keep hb
 replace A1 := A1.keep hb
 clear hb
 go_wp2_with fail
 refine (plus_any (x.a * y.c + x.b * y.b + x.c * y.a + x.d * (y.e * 19)) (x.e * (y.d * 19)) _ (by have B := HB.out; have := B.ac; have := B.bb; have := B.ca; have := B.de'; have := B.ed'; omega) (by have B := HB.out; have := B.ac; have := B.bb; have := B.ca; have := B.de'; have := B.ed'; omega) (by have B := HB.out; have := B.ac; have := B.bb; have := B.ca; have := B.de'; have := B.ed'; omega)).mono ?_
 rintro _ wv ⟨rfl, hb⟩
 replace M := M.keep hb
 replace A0 := A0.keep hb
 replace A1 := A1.keep hb
 clear hb
 rw [show x.a * y.c + x.b * y.b + x.c * y.a + x.d * (y.e * 19) + x.e * (y.d * 19) = m2 x y from rfl]
 go_wp2_with fail
 refine (product_any x.a y.d _ hx.wa hy.wd).mono ?_
 rintro _ wv ⟨rfl, hb⟩
 replace M := (M.keep (below_new _ _)).keep hb
 replace A0 := (A0.keep (below_new _ _)).keep hb
 replace A1 := (A1.keep (below_new _ _)).keep hb
 have A2 := (At.new _ _).keep hb
 clear hb
 go_wp2_with fail
 refine (product_any x.b y.c _ hx.wb hy.wc).mono ?_
 rintro _ wv ⟨rfl, hb⟩
 replace M := M.keep hb
 replace A0 := A0.keep hb
 replace A1 := A1.keep hb
 replace A2 := A2.keep hb
 clear hb
 go_wp2_with fail
 refine (plus_any (x.a * y.d) (x.b * y.c) _ (by have B := HB.out; have := B.ad; have := B.bc; have := B.cb; have := B.da; have := B.ee'; omega) (by have B := HB.out; have := B.ad; have := B.bc; have := B.cb; have := B.da; have := B.ee'; omega) (by have B := HB.out; have := B.ad; have := B.bc; have := B.cb; have := B.da; have := B.ee'; omega)).mono ?_
 rintro _ wv ⟨rfl, hb⟩
 replace M := M.keep hb
 replace A0 := A0.keep hb
 replace A1 := A1.keep hb
 replace A2 := A2.keep hb
 clear hb
 go_wp2_with fail
 refine (product_any x.c y.b _ hx.wc hy.wb).mono ?_
 rintro _ wv ⟨rfl, hb⟩
 replace M := M.keep hb
 replace A0 := A0.keep hb
 replace A1 := A1.keep hb
 replace A2 := A2.keep hb
 clear hb
 go_wp2_with fail
 refine (plus_any (x.a * y.d + x.b * y.c) (x.c * y.b) _ (by have B := HB.out; have := B.ad; have := B.bc; have := B.cb; have := B.da; have := B.ee'; omega) (by have B := HB.out; have := B.ad; have := B.bc; have := B.cb; have := B.da; have := B.ee'; omega) (by have B := HB.out; have := B.ad; have := B.bc; have := B.cb; have := B.da; have := B.ee'; omega)).mono ?_
 rintro _ wv ⟨rfl, hb⟩
 replace M := M.keep hb
 replace A0 := A0.keep hb
 replace A1 := A1.keep hb
 replace A2 := A2.keep hb
 clear hb
 go_wp2_with fail
 refine (product_any x.d y.a _ hx.wd hy.wa).mono ?_
 rintro _ wv ⟨rfl, hb⟩
 replace M := M.keep hb
 replace A0 := A0.keep hb
 replace A1 := A1.keep hb
 replace A2 := A2.keep hb
 clear hb
 go_wp2_with fail
 refine (plus_any (x.a * y.d + x.b * y.c + x.c * y.b) (x.d * y.a) _ (by have B := HB.out; have := B.ad; have := B.bc; have := B.cb; have := B.da; have := B.ee'; omega) (by have B := HB.out; have := B.ad; have := B.bc; have := B.cb; have := B.da; have := B.ee'; omega) (by have B := HB.out; have := B.ad; have := B.bc; have := B.cb; have := B.da; have := B.ee'; omega)).mono ?_
 rintro _ wv ⟨rfl, hb⟩
 replace M := M.keep hb
 replace A0 := A0.keep hb
 replace A1 := A1.keep hb
 replace A2 := A2.keep hb
 clear hb
 go_wp2_with fail
 refine (product_any x.e (y.e * 19) _ hx.we hy.ve).mono ?_
 rintro _ wv ⟨rfl, hb⟩
 replace M := M.keep hb
 replace A0 := A0.keep hb
 replace A1 := A1.keep hb
 replace A2 := A2.keep hb
 clear hb
 go_wp2_with fail
 refine (plus_any (x.a * y.d + x.b * y.c + x.c * y.b + x.d * y.a) (x.e * (y.e * 19)) _ (by have B := HB.out; have := B.ad; have := B.bc; have := B.cb; have := B.da; have := B.ee'; omega) (by have B := HB.out; have := B.ad; have := B.bc; have := B.cb; have := B.da; have := B.ee'; omega) (by have B := HB.out; have := B.ad; have := B.bc; have := B.cb; have := B.da; have := B.ee'; omega)).mono ?_
 rintro _ wv ⟨rfl, hb⟩
 replace M := M.keep hb
 replace A0 := A0.keep hb
 replace A1 := A1.keep hb
 replace A2 := A2.keep hb
 clear hb
 rw [show x.a * y.d + x.b * y.c + x.c * y.b + x.d * y.a + x.e * (y.e * 19) = m3 x y from rfl]
 go_wp2_with fail
 refine (product_any x.a y.e _ hx.wa hy.we).mono ?_
 rintro _ wv ⟨rfl, hb⟩
 replace M := (M.keep (below_new _ _)).keep hb
 replace A0 := (A0.keep (below_new _ _)).keep hb
 replace A1 := (A1.keep (below_new _ _)).keep hb
 replace A2 := (A2.keep (below_new _ _)).keep hb
 have A3 := (At.new _ _).keep hb
 clear hb
 go_wp2_with fail
 refine (product_any x.b y.d _ hx.wb hy.wd).mono ?_
 rintro _ wv ⟨rfl, hb⟩
 replace M := M.keep hb
 replace A0 := A0.keep hb
 replace A1 := A1.keep hb
 replace A2 := A2.keep hb
 replace A3 := A3.keep hb
 clear hb
 go_wp2_with fail
 refine (plus_any (x.a * y.e) (x.b * y.d) _ (by have B := HB.out; have := B.ae; have := B.bd; have := B.cc; have := B.db; have := B.ea; omega) (by have B := HB.out; have := B.ae; have := B.bd; have := B.cc; have := B.db; have := B.ea; omega) (by have B := HB.out; have := B.ae; have := B.bd; have := B.cc; have := B.db; have := B.ea; omega)).mono ?_
 rintro _ wv ⟨rfl, hb⟩
 replace M := M.keep hb
 replace A0 := A0.keep hb
 replace A1 := A1.keep hb
 replace A2 := A2.keep hb
 replace A3 := A3.keep hb
 clear hb
 go_wp2_with fail
 refine (product_any x.c y.c _ hx.wc hy.wc).mono ?_
 rintro _ wv ⟨rfl, hb⟩
 replace M := M.keep hb
 replace A0 := A0.keep hb
 replace A1 := A1.keep hb
 replace A2 := A2.keep hb
 replace A3 := A3.keep hb
 clear hb
 go_wp2_with fail
 refine (plus_any (x.a * y.e + x.b * y.d) (x.c * y.c) _ (by have B := HB.out; have := B.ae; have := B.bd; have := B.cc; have := B.db; have := B.ea; omega) (by have B := HB.out; have := B.ae; have := B.bd; have := B.cc; have := B.db; have := B.ea; omega) (by have B := HB.out; have := B.ae; have := B.bd; have := B.cc; have := B.db; have := B.ea; omega)).mono ?_
 rintro _ wv ⟨rfl, hb⟩
 replace M := M.keep hb
 replace A0 := A0.keep hb
 replace A1 := A1.keep hb
 replace A2 := A2.keep hb
 replace A3 := A3.keep hb
 clear hb
 go_wp2_with fail
 refine (product_any x.d y.b _ hx.wd hy.wb).mono ?_
 rintro _ wv ⟨rfl, hb⟩
 replace M := M.keep hb
 replace A0 := A0.keep hb
 replace A1 := A1.keep hb
 replace A2 := A2.keep hb
 replace A3 := A3.keep hb
 clear hb
 go_wp2_with fail
 refine (plus_any (x.a * y.e + x.b * y.d + x.c * y.c) (x.d * y.b) _ (by have B := HB.out; have := B.ae; have := B.bd; have := B.cc; have := B.db; have := B.ea; omega) (by have B := HB.out; have := B.ae; have := B.bd; have := B.cc; have := B.db; have := B.ea; omega) (by have B := HB.out; have := B.ae; have := B.bd; have := B.cc; have := B.db; have := B.ea; omega)).mono ?_
 rintro _ wv ⟨rfl, hb⟩
 replace M := M.keep hb
 replace A0 := A0.keep hb
 replace A1 := A1.keep hb
 replace A2 := A2.keep hb
 replace A3 := A3.keep hb
 clear hb
 go_wp2_with fail
 refine (product_any x.e y.a _ hx.we hy.wa).mono ?_
 rintro _ wv ⟨rfl, hb⟩
 replace M := M.keep hb
 replace A0 := A0.keep hb
 replace A1 := A1.keep hb
 replace A2 := A2.keep hb
 replace A3 := A3.keep hb
 clear hb
 go_wp2_with fail
 refine (plus_any (x.a * y.e + x.b * y.d + x.c * y.c + x.d * y.b) (x.e * y.a) _ (by have B := HB.out; have := B.ae; have := B.bd; have := B.cc; have := B.db; have := B.ea; omega) (by have B := HB.out; have := B.ae; have := B.bd; have := B.cc; have := B.db; have := B.ea; omega) (by have B := HB.out; have := B.ae; have := B.bd; have := B.cc; have := B.db; have := B.ea; omega)).mono ?_
 rintro _ wv ⟨rfl, hb⟩
 replace M := M.keep hb
 replace A0 := A0.keep hb
 replace A1 := A1.keep hb
 replace A2 := A2.keep hb
 replace A3 := A3.keep hb
 clear hb
 rw [show x.a * y.e + x.b * y.d + x.c * y.c + x.d * y.b + x.e * y.a = m4 x y from rfl]
 go_wp2_with fail
 have bn := below_new wv (.cells #[.int .u64 (m4 x y / 18446744073709551616), .int .u64 (m4 x y % 18446744073709551616)] 211)
 replace M := M.keep bn
 replace A0 := A0.keep bn
 replace A1 := A1.keep bn
 replace A2 := A2.keep bn
 replace A3 := A3.keep bn
 have A4 := At.new wv (m4 x y)
 clear bn
 obtain ⟨W9, hW9⟩ : ∃ W9, wv.alloc (.cells #[.int .u64 (m4 x y / 18446744073709551616), .int .u64 (m4 x y % 18446744073709551616)] 211) = W9 := ⟨_, rfl⟩
 rw [hW9] at M A0 A1 A2 A3 A4
 rw [hW9]
 clear hW9
 obtain ⟨⟨Z0, Y0⟩, ⟨Z1, Y1⟩, ⟨Z2, Y2⟩, ⟨Z3, Y3⟩, ⟨Z4, Y4⟩⟩ := HS.out
 have HF := hide (show mulF x y = car (m0 x y % 2251799813685248 + m4 x y / 2251799813685248 * 19) (m1 x y % 2251799813685248 + m0 x y / 2251799813685248) (m2 x y % 2251799813685248 + m1 x y / 2251799813685248) (m3 x y % 2251799813685248 + m2 x y / 2251799813685248) (m4 x y % 2251799813685248 + m3 x y / 2251799813685248) from rfl)
 clear HS HB hx hy
 generalize m0 x y = n0 at *
 generalize m1 x y = n1 at *
 generalize m2 x y = n2 at *
 generalize m3 x y = n3 at *
 generalize m4 x y = n4 at *
 have k0 := fun s : KW W9 => (A0.keep s.keep).c0
 have l0 := fun s : KW W9 => (A0.keep s.keep).c1
 have k1 := fun s : KW W9 => (A1.keep s.keep).c0
 have l1 := fun s : KW W9 => (A1.keep s.keep).c1
 have k2 := fun s : KW W9 => (A2.keep s.keep).c0
 have l2 := fun s : KW W9 => (A2.keep s.keep).c1
 have k3 := fun s : KW W9 => (A3.keep s.keep).c0
 have l3 := fun s : KW W9 => (A3.keep s.keep).c1
 have k4 := fun s : KW W9 => (A4.keep s.keep).c0
 have l4 := fun s : KW W9 => (A4.keep s.keep).c1
 clear A0 A1 A2 A3 A4
 have hne : Nonempty (KW W9) := ⟨⟨W9, Below.refl _ _⟩⟩
 refine wp_region_keep_tail 27 (by kernel_rfl) (by kernel_rfl) ?_
 simp only [List.take_succ_cons, List.take_zero, List.drop_succ_cons, List.drop_zero]
 repeat (go_big_quiet_step (first | (go_at_call 152; exact keep_of (below_any _ _)) | (go_at_call 153; exact keep_of (above_any _ _ (by omega) (by omega))) | (go_at_call 122; exact keep_of (carried_any _ _ _ _ _ _ ⟨by omega, by omega⟩ ⟨by omega, by omega⟩ ⟨by omega, by omega⟩ ⟨by omega, by omega⟩ ⟨by omega, by omega⟩))))
 refine wpQuiet_nil ?_
 intro s
 have HE := HF.out
 rw [← HE]
 replace M := M.keep s.keep
 generalize s.w = W' at M ⊢
 generalize hz : mulF x y = z at HE ⊢
 have H := hide hz
 clear HE HF hz k0 k1 k2 k3 k4 l0 l1 l2 l3 l4 hne
 have H3 := hide M.old
 obtain ⟨_, hs, hf, c0, c1, c2, c3, c4⟩ := M
 clear Z0 Z1 Z2 Z3 Z4 Y0 Y1 Y2 Y3 Y4
 go_wp2
 refine bodyPost_ret (v := z.v) (by simp [results, Tryz.results117, go_sem, c0, c1, c2, c3, c4]) rfl ⟨by rw [H.out], ?_⟩
 exact set5 H3.out (by omega)
open Go.RowKit
def squaresF : Nat → E5 → E5
 | 0, x => x
 | n + 1, x => squaresF n (mulF x x)
theorem squaresF_ok : ∀ (n : Nat) {x : E5}, x.Ok → (squaresF n x).Ok
 | 0, _, h => h
 | n + 1, _, h => squaresF_ok n (mulF_ok h h)
theorem squares_any (n : Nat) : ∀ (x : E5) (w : World), x.Ok → n < 1000000 →
  Calls Tryz.prog 155 #[x.v, .int .u64 n] w fun r w' => r = .returned (squaresF n x).v ∧ Below w.heap.size w w' := by
 induction n with
 | zero =>
  intro x w hx _
  go_enter Tryz.func155, Tryz.ntmps155
  go_wp2
  exact bodyPost_ret (v := x.v) (by simp [results, Tryz.results155, go_sem]) rfl ⟨rfl, ((Below.refl _ _).alloc (Nat.le_refl _) _).alloc (by simp) _⟩
 | succ n ih =>
  intro x w hx hn
  have HI := hide ih
  clear ih
  have h0 : (((n + 1 : Nat) : Int) == 0) = false := beq_eq_false_iff_ne.2 (by omega)
  have e : ((n + 1 : Nat) : Int) = (n : Int) + 1 := by omega
  rw [e] at h0
  rw [e]
  go_enter Tryz.func155, Tryz.ntmps155
  go_wp2_with fail
  have R := Out.start1 w (.cells #[.int .u64 x.a, .int .u64 x.b, .int .u64 x.c, .int .u64 x.d, .int .u64 x.e] 143)
  refine (mul_any x x _ hx hx).mono ?_
  rintro _ w1 ⟨rfl, hb⟩
  replace R := R.keep hb
  clear hb
  go_wp2_with fail
  refine (HI.out (mulF x x) _ (mulF_ok hx hx) (by omega)).mono ?_
  rintro _ w2 ⟨rfl, hb⟩
  replace R := R.keep hb
  clear hb HI
  rw [show squaresF n (mulF x x) = squaresF (n + 1) x from rfl]
  generalize hz : squaresF (n + 1) x = z
  have H := hide hz
  obtain ⟨old, ge, hs, hf, c0, c1, c2, c3, c4⟩ := R
  have O := hide old
  clear old hz
  go_wp2
  refine bodyPost_ret (v := z.v) (by simp [results, Tryz.results155, go_sem, c0, c1, c2, c3, c4]) rfl ⟨by rw [H.out], ?_⟩
  exact five O.out ge
open Go.RowKit
attribute [local go_sem] keepOp keepAt keepUpon
def onesF (x : E5) : Nat → Nat → E5
 | 0, _ => smallF 1
 | f + 1, n => if n = 0 then smallF 1 else
  if n % 2 = 0 then mulF (squaresF (n / 2) (onesF x f (n / 2))) (onesF x f (n / 2))
  else mulF (squaresF 1 (mulF (squaresF (n / 2) (onesF x f (n / 2))) (onesF x f (n / 2)))) x
theorem onesF_ok {x : E5} (hx : x.Ok) : ∀ (f n : Nat), (onesF x f n).Ok
 | 0, _ => smallF_ok (by decide) (by decide)
 | f + 1, n => by
  have h := onesF_ok hx f (n / 2)
  unfold onesF
  split
  ·exact smallF_ok (by decide) (by decide)
  ·split
   ·exact mulF_ok (squaresF_ok _ h) h
   ·exact mulF_ok (squaresF_ok _ (mulF_ok (squaresF_ok _ h) h)) hx
theorem squares_half (n : Nat) (x : E5) (w : World) (hx : x.Ok) (hn : n < 1000000) : Calls Tryz.prog 155 #[x.v, .int .u64 ((n : Int) / 2)] w fun r w' => r = .returned (squaresF (n / 2) x).v ∧ Below w.heap.size w w' := by
 rw [show (n : Int) / 2 = ((n / 2 : Nat) : Int) from by omega]
 exact squares_any (n / 2) x w hx (by omega)
theorem squares_1 (x : E5) (w : World) (hx : x.Ok) : Calls Tryz.prog 155 #[x.v, .int .u64 1] w fun r w' => r = .returned (squaresF 1 x).v ∧ Below w.heap.size w w' := squares_any 1 x w hx (by decide)
theorem squares_3 (x : E5) (w : World) (hx : x.Ok) : Calls Tryz.prog 155 #[x.v, .int .u64 3] w fun r w' => r = .returned (squaresF 3 x).v ∧ Below w.heap.size w w' := squares_any 3 x w hx (by decide)
theorem squares_5 (x : E5) (w : World) (hx : x.Ok) : Calls Tryz.prog 155 #[x.v, .int .u64 5] w fun r w' => r = .returned (squaresF 5 x).v ∧ Below w.heap.size w w' := squares_any 5 x w hx (by decide)
theorem ones_any (x : E5) (hx : x.Ok) (f : Nat) : ∀ (n : Nat) (w : World), n < 2 ^ f → n < 1000000 →
  Calls Tryz.prog 154 #[x.v, .int .u64 n] w fun r w' => r = .returned (onesF x f n).v ∧ Below w.heap.size w w' := by
 induction f with
 | zero =>
  intro n w hn _
  have e : n = 0 := by omega
  subst e
  go_enter Tryz.func154, Tryz.ntmps154
  go_wp2_with fail
  have R := Out.start1 w (.cells #[.int .u64 x.a, .int .u64 x.b, .int .u64 x.c, .int .u64 x.d, .int .u64 x.e] 143)
  refine (small_any 1 _ (by decide) (by decide)).mono ?_
  rintro _ w1 ⟨rfl, hb⟩
  replace R := R.keep hb
  clear hb
  rw [show smallF 1 = onesF x 0 0 from rfl]
  generalize hz : onesF x 0 0 = z
  have H := hide hz
  obtain ⟨old, ge, hs, hf, c0, c1, c2, c3, c4⟩ := R
  have O := hide old
  clear old hz
  go_wp2
  refine bodyPost_ret (v := z.v) (by simp [results, Tryz.results154, go_sem, c0, c1, c2, c3, c4]) rfl ⟨by rw [H.out], ?_⟩
  exact five O.out ge
 | succ f ih =>
  intro n w hn hlt
  have HI := hide ih
  clear ih
  by_cases h0 : n = 0
  ·subst h0
   go_enter Tryz.func154, Tryz.ntmps154
   go_wp2_with fail
   have R := Out.start1 w (.cells #[.int .u64 x.a, .int .u64 x.b, .int .u64 x.c, .int .u64 x.d, .int .u64 x.e] 143)
   refine (small_any 1 _ (by decide) (by decide)).mono ?_
   rintro _ w1 ⟨rfl, hb⟩
   replace R := R.keep hb
   clear hb
   have e : onesF x (f + 1) 0 = smallF 1 := by simp [onesF]
   rw [← e]
   generalize hz : onesF x (f + 1) 0 = z
   have H := hide hz
   obtain ⟨old, ge, hs, hf, c0, c1, c2, c3, c4⟩ := R
   have O := hide old
   clear old hz e
   go_wp2
   refine bodyPost_ret (v := z.v) (by simp [results, Tryz.results154, go_sem, c0, c1, c2, c3, c4]) rfl ⟨by rw [H.out], ?_⟩
   exact five O.out ge
  ·have b0 : ((n : Int) == 0) = false := beq_eq_false_iff_ne.2 (by omega)
   have hp : n / 2 < 2 ^ f := by
    have : 2 ^ (f + 1) = 2 * 2 ^ f := by rw [Nat.pow_succ, Nat.mul_comm]
    omega
   have ok := onesF_ok hx f (n / 2)
   by_cases hodd : n % 2 = 0
   all_goals
    go_enter Tryz.func154, Tryz.ntmps154
    go_wp2_with fail
    have R := Out.start1 w (.cells #[.int .u64 x.a, .int .u64 x.b, .int .u64 x.c, .int .u64 x.d, .int .u64 x.e] 143)
    have A := EAt.new1 w x (.cells #[.int .u64 0, .int .u64 0, .int .u64 0, .int .u64 0, .int .u64 0] 143)
    rw [show (n : Int) / 2 = ((n / 2 : Nat) : Int) from by omega]
    refine (HI.out (n / 2) _ hp (by omega)).mono ?_
    rintro _ w1 ⟨rfl, hb⟩
    replace R := R.keep hb
    replace A := A.keep hb
    clear hb HI
    have he : onesF x (f + 1) n = if n % 2 = 0 then mulF (squaresF (n / 2) (onesF x f (n / 2))) (onesF x f (n / 2)) else mulF (squaresF 1 (mulF (squaresF (n / 2) (onesF x f (n / 2))) (onesF x f (n / 2)))) x := by
     rw [onesF, if_neg h0]
    first | rw [if_pos hodd] at he | rw [if_neg hodd] at he
    have HE := hide he
    clear he
    generalize onesF x f (n / 2) = half at *
    go_wp2_with fail
    replace R := R.keep (new_below w1 (.cells #[.int .u64 half.a, .int .u64 half.b, .int .u64 half.c, .int .u64 half.d, .int .u64 half.e] 143))
    replace A := A.keep (new_below w1 (.cells #[.int .u64 half.a, .int .u64 half.b, .int .u64 half.c, .int .u64 half.d, .int .u64 half.e] 143))
    have B := EAt.new w1 half 143
    generalize w1.heap.size = g at *
    generalize w1.alloc (.cells #[.int .u64 half.a, .int .u64 half.b, .int .u64 half.c, .int .u64 half.d, .int .u64 half.e] 143) = W at *
    have hne := KW.some W
    have a0 := B.k0
    have a1 := B.k1
    have a2 := B.k2
    have a3 := B.k3
    have a4 := B.k4
    refine wp_region_keep_alloc (Z := .cells #[.int .u64 0, .int .u64 0, .int .u64 0, .int .u64 0, .int .u64 0] 143) 6 (by kernel_rfl) (by kernel_rfl) rfl rfl (fun _ _ => by kernel_rfl) ?_
    simp only [List.take_succ_cons, List.take_zero, List.drop_succ_cons, List.drop_zero]
    refine wpK_step (fun K hK => ?_)
    go_simp
    refine hK _ ?_
    clear hK K
    refine wpK_step (fun K hK => ?_)
    go_simp
    refine hK _ ?_
    clear hK K
    refine wpK_step (fun K hK => ?_)
    go_simp
    refine hK _ ?_
    clear hK K
    rw [show IntKind.u64.wrap ((n : Int) / 2) = (n : Int) / 2 from wrap64u ⟨by omega, by omega⟩]
    refine wpK_step (fun K hK => ?_)
    go_simp
    refine ⟨_, fun s => squares_half n half _ ok hlt, hK _ ?_⟩
    clear hK K
    refine wpK_step (fun K hK => ?_)
    go_simp
    refine hK _ ?_
    clear hK K
    refine wpK_step (fun K hK => ?_)
    go_simp
    refine ⟨_, fun s => mul_any _ _ _ (squaresF_ok _ ok) ok, hK _ ?_⟩
    clear hK K
    refine wpK_nil ?_
    intro W1 gb hb1 hb2 hb3 a2 ha2
    simp [go_sem] at ha2
    subst ha2
    clear a0 a1 a2 a3 a4 hne
    have sz := A.size
    have sz2 := R.lie.size
    replace R := R.keep hb1
    replace A := A.keep hb1
    have G := EAt.of_zero hb3
    clear B hb1 hb3
    have ok2 := mulF_ok (squaresF_ok (n / 2) ok) ok
    generalize mulF (squaresF (n / 2) half) half = even at *
    have n1 : ¬ w.heap.size + 1 = gb := by omega
    have n2 : ¬ gb = w.heap.size + 1 := by omega
    have GE := G.put even
    obtain ⟨gs, gf, g0, g1, g2, g3, g4⟩ := G
    have ev : ((n : Int) % 2 == 0) = decide (n % 2 = 0) := by rw [Bool.eq_iff_iff]; simp; omega
   ·rw [decide_eq_true hodd] at ev
    obtain ⟨old, ge, hs, hf, c0, c1, c2, c3, c4⟩ := R
    have O := hide old
    clear old A GE hn h0 hp
    go_wp2_with fail
    refine bodyPost_ret (v := even.v) (by simp [results, Tryz.results154, go_sem, c0, c1, c2, c3, c4]) rfl ⟨by rw [HE.out], ?_⟩
    exact five (five O.out (by omega)) ge
   ·rw [decide_eq_false hodd] at ev
    have RR := hide (R.other (k := gb) (by omega) (by omega) even)
    have AA := hide (A.other (k := gb) (by omega) even)
    have BB := hide GE
    clear A R GE
    go_wp2_with fail
    replace R := RR.out
    replace A := AA.out
    replace B := BB.out
    clear RR AA BB gs gf g0 g1 g2 g3 g4
    obtain ⟨W2, hW2⟩ : ∃ W2, put5 W1 gb even = W2 := ⟨_, rfl⟩
    rw [hW2] at R A B
    rw [show (((((W1.setCell ⟨gb, 0, none⟩ (.int .u64 even.a)).setCell ⟨gb, 1, none⟩ (.int .u64 even.b)).setCell ⟨gb, 2, none⟩ (.int .u64 even.c)).setCell ⟨gb, 3, none⟩ (.int .u64 even.d)).setCell ⟨gb, 4, none⟩ (.int .u64 even.e)) = W2 from hW2]
    clear hW2
    have hne := KW.some W2
    have a0 := B.k0
    have a1 := B.k1
    have a2 := B.k2
    have a3 := B.k3
    have a4 := B.k4
    have b0 := A.k0
    have b1 := A.k1
    have b2 := A.k2
    have b3 := A.k3
    have b4 := A.k4
    clear A B
    refine wp_region_keep_tail 4 (by kernel_rfl) (by kernel_rfl) ?_
    simp only [List.take_succ_cons, List.take_zero, List.drop_succ_cons, List.drop_zero]
    repeat (go_big_quiet_step (first | (go_at_call 155; exact keep_of (squares_1 even _ ok2)) | (go_at_call 117; exact keep_of (mul_any _ _ _ (squaresF_ok _ ok2) hx))))
    refine wpQuiet_nil ?_
    intro s
    clear a0 a1 a2 a3 a4 b0 b1 b2 b3 b4 hne
    replace R := R.keep s.keep
    generalize s.w = W3 at R ⊢
    generalize mulF (squaresF 1 even) x = z at *
    obtain ⟨old, ge, hs, hf, c0, c1, c2, c3, c4⟩ := R
    have O := hide old
    clear old
    go_wp2
    refine bodyPost_ret (v := z.v) (by simp [results, Tryz.results154, go_sem, c0, c1, c2, c3, c4]) rfl ⟨by rw [HE.out], ?_⟩
    exact five O.out ge
open Go.RowKit
def eqw (f g : NI) : Nat → Nat → Bool
 | _, 0 => true
 | k, m + 1 => (f k == g k) && eqw f g (k + 1) m
theorem run_eqs_from (d n : Nat) (f g : NI) (w : World) : ∀ (m k : Nat), k + m ≤ n →
  Sem.run Tryz.prog (forIn (List.range' k m 1) ((none, ()) : Option Bool × Unit) fun i _ => do
   let a ← part 33 (arr n f) i
   let b ← part 33 (arr n g) i
   let r ← Op.equalIn (d + 1) 33 a b
   if (!r) = true then pure (ForInStep.done (some false, ())) else pure (ForInStep.yield (none, ()))) w = .ok (if eqw f g k m = true then none else some false, ()) w := by
 intro m
 induction m with
 | zero => intro k _; simp [eqw, Sem.run_pure]
 | succ m ih =>
  intro k hk
  have hp : ∀ h : Nat → Int, (part 33 (arr n h) k).run Tryz.prog w = .ok (.int .u64 (h k)) w := fun h => by
   have ha : (isAgg 33).run Tryz.prog w = .ok false w := by kernel_rfl
   simp [part, Sem.run_bind, ha, arr_get n h k (by omega)]
  simp only [List.range'_succ, List.forIn_cons, Sem.run_bind, hp, Result.andThen_ok, run_equalIn_int w d 33 .u64 .u64 (f k) (g k) Tryz.underlying33]
  cases hc : (f k == g k)
  ·simp [eqw, hc, Sem.run_pure]
  ·simp only [Bool.not_true, Bool.false_eq_true, if_false, Sem.run_pure, Result.andThen_ok, eqw, hc, Bool.true_and]
   exact ih (k + 1) (by omega)
theorem run_equalIn_words (d : Nat) (t : TypeId) (n : Nat) (f g : NI) (w : World) (ht : Tryz.prog.underlying t = some (.array n 33)) :
  (Op.equalIn (d + 1 + 1) t (.agg (arr n f)) (.agg (arr n g))).run Tryz.prog w = .ok (eqw f g 0 n) w := by
 have hz : (sizeOf 33).run Tryz.prog w = .ok 1 w := by kernel_rfl
 rw [Op.equalIn]
 simp only [Sem.run_bind, run_underlying ht, Result.andThen_ok, hz, Nat.mul_one]
 rw [Std.Legacy.Range.forIn_eq_forIn_range']
 have e : ([:n] : Std.Legacy.Range).size = n := by simp [Std.Legacy.Range.size]
 rw [e]
 have h := run_eqs_from d n f g w n 0 (by omega)
 rw [h]
 cases hc : eqw f g 0 n <;> simp [Sem.run_pure]
theorem run_eql_words (t : TypeId) (n : Nat) (f g : NI) (w : World) (ht : Tryz.prog.underlying t = some (.array n 33)) :
  (binOp .eql t (.agg (arr n f)) (.agg (arr n g))).run Tryz.prog w = .ok (.bool (eqw f g 0 n)) w := by
 rw [run_eql_struct, run_equalIn_words 9998 t n f g w ht]
 rfl
def E5.fn (x : E5) (i : Nat) : Int := [x.a, x.b, x.c, x.d, x.e].getD i 0
def eq5 (x y : E5) : Bool := eqw x.fn y.fn 0 5
theorem run_eql_e5 (x y : E5) (w : World) : (binOp .eql 141 x.v y.v).run Tryz.prog w = .ok (.bool (eq5 x y)) w :=
 run_eql_words 141 5 x.fn y.fn w Tryz.underlying141
theorem eq5_iff (x y : E5) : eq5 x y = true ↔ x = y := by
 obtain ⟨a, b, c, d, e⟩ := x
 obtain ⟨f, g, h, i, j⟩ := y
 simp only [eq5, eqw, E5.fn, E5.mk.injEq]
 simp
theorem eqw_iff (f g : NI) : ∀ (m k : Nat), eqw f g k m = true ↔ ∀ i, k ≤ i → i < k + m → f i = g i := by
 intro m
 induction m with
 | zero => intro k; simp only [eqw]; exact ⟨fun _ i h1 h2 => by omega, fun _ => trivial⟩
 | succ m ih =>
  intro k
  simp only [eqw, Bool.and_eq_true, beq_iff_eq, ih (k + 1)]
  constructor
  ·intro h i h1 h2
   by_cases e : i = k
   ·rw [e]; exact h.1
   ·exact h.2 i (by omega) (by omega)
  ·intro h
   exact ⟨h k (by omega) (by omega), fun i h1 h2 => h i (by omega) (by omega)⟩
open Go.RowKit
theorem low_inj {x y : E5} (hx : x.Low) (hy : y.Low) (h : x.n = y.n) : x = y := by
 obtain ⟨a, b, c, d, e⟩ := x
 obtain ⟨f, g, i, j, k⟩ := y
 obtain ⟨a0, a1, b0, b1, c0, c1, d0, d1, e0, e1⟩ := hx
 obtain ⟨f0, f1, g0, g1, h0, h1, i0, i1, j0, j1⟩ := hy
 simp only [E5.n] at *
 have h1 : a = f := by omega
 have h2 : b = g := by omega
 have h3 : c = i := by omega
 have h4 : d = j := by omega
 have h5 : e = k := by omega
 rw [h1, h2, h3, h4, h5]
theorem sameR {x y : E5} (hx : x.Ok) (hy : y.Ok) : eq5 (leastF x) (leastF y) = (x.n % Pm == y.n % Pm) := by
 rw [Bool.eq_iff_iff, eq5_iff, beq_iff_eq, ← leastF_n hx, ← leastF_n hy]
 exact ⟨fun h => by rw [h], fun h => low_inj (leastF_low x) (leastF_low y) h⟩
theorem same_any (x y : E5) (w : World) (hx : x.Ok) (hy : y.Ok) : Cs 94 #[x.v, y.v] w (.bool (x.n % Pm == y.n % Pm)) := by
 have hg : Tryz.prog.eqGuardType Tryz.prog.depth 141 = false := by kernel_rfl
 have he := run_eql_e5 (leastF x) (leastF y)
 go_enter Tryz.func94, Tryz.ntmps94
 go_wp2_with fail
 have A := (EAt.new w x 143).alloc (.cells #[.int .u64 y.a, .int .u64 y.b, .int .u64 y.c, .int .u64 y.d, .int .u64 y.e] 143)
 have B := EAt.new (w.alloc (.cells #[.int .u64 x.a, .int .u64 x.b, .int .u64 x.c, .int .u64 x.d, .int .u64 x.e] 143)) y 143
 rw [World.size_alloc] at B
 have O := hide (((Below.refl w.heap.size w).alloc (Nat.le_refl _) (.cells #[.int .u64 x.a, .int .u64 x.b, .int .u64 x.c, .int .u64 x.d, .int .u64 x.e] 143)).alloc (by simp) (.cells #[.int .u64 y.a, .int .u64 y.b, .int .u64 y.c, .int .u64 y.d, .int .u64 y.e] 143))
 generalize (w.alloc (.cells #[.int .u64 x.a, .int .u64 x.b, .int .u64 x.c, .int .u64 x.d, .int .u64 x.e] 143)).alloc (.cells #[.int .u64 y.a, .int .u64 y.b, .int .u64 y.c, .int .u64 y.d, .int .u64 y.e] 143) = W at A B O ⊢
 have hne := KW.some W
 have c0 := A.k0
 have d0 := B.k0
 have c1 := A.k1
 have d1 := B.k1
 have c2 := A.k2
 have d2 := B.k2
 have c3 := A.k3
 have d3 := B.k3
 have c4 := A.k4
 have d4 := B.k4
 clear A B
 refine wp_region_keep (by kernel_rfl) (by kernel_rfl) ?_
 repeat (go_big_quiet_step ((go_at_call 119; exact keep_of (least_any _ _ (by first | exact hx | exact hy)))))
 refine wpQuiet_nil ?_
 intro s
 have hw := O.out.trans (s.keep.mono O.out.size)
 have HR := hide (sameR hx hy)
 clear he hg c0 c1 c2 c3 c4 d0 d1 d2 d3 d4 O hne
 go_wp2
 go_ret
 exact ⟨by rw [← HR.out]; rfl, hw⟩
open Go.RowKit
theorem ones_250 (x : E5) (w : World) (hx : x.Ok) : Calls Tryz.prog 154 #[x.v, .int .u64 250] w fun r w' => r = .returned (onesF x 8 250).v ∧ Below w.heap.size w w' := ones_any x hx 8 250 w (by decide) (by decide)
theorem ones_2 (x : E5) (w : World) (hx : x.Ok) : Calls Tryz.prog 154 #[x.v, .int .u64 2] w fun r w' => r = .returned (onesF x 8 2).v ∧ Below w.heap.size w w' := ones_any x hx 8 2 w (by decide) (by decide)
def invF (x : E5) : E5 := mulF (mulF (squaresF 5 (onesF x 8 250)) (squaresF 3 x)) (onesF x 8 2)
theorem invF_ok {x : E5} (hx : x.Ok) : (invF x).Ok := mulF_ok (mulF_ok (squaresF_ok _ (onesF_ok hx _ _)) (squaresF_ok _ hx)) (onesF_ok hx _ _)
theorem inv_any (x : E5) (w : World) (hx : x.Ok) : Calls Tryz.prog 118 #[x.v] w fun r w' => r = .returned (invF x).v ∧ Below w.heap.size w w' := by
 have k1 := onesF_ok hx 8 250
 have k2 := onesF_ok hx 8 2
 have HE := hide (show invF x = mulF (mulF (squaresF 5 (onesF x 8 250)) (squaresF 3 x)) (onesF x 8 2) from rfl)
 go_enter Tryz.func118, Tryz.ntmps118
 go_wp2_with fail
 have R := Out.start1 w (.cells #[.int .u64 x.a, .int .u64 x.b, .int .u64 x.c, .int .u64 x.d, .int .u64 x.e] 143)
 have A := EAt.new1 w x (.cells #[.int .u64 0, .int .u64 0, .int .u64 0, .int .u64 0, .int .u64 0] 143)
 generalize (w.alloc (.cells #[.int .u64 x.a, .int .u64 x.b, .int .u64 x.c, .int .u64 x.d, .int .u64 x.e] 143)).alloc (.cells #[.int .u64 0, .int .u64 0, .int .u64 0, .int .u64 0, .int .u64 0] 143) = W at R A ⊢
 have hne := KW.some W
 have a0 := A.k0
 have a1 := A.k1
 have a2 := A.k2
 have a3 := A.k3
 have a4 := A.k4
 clear A
 refine wp_region_keep_tail 9 (by kernel_rfl) (by kernel_rfl) ?_
 simp only [List.take_succ_cons, List.take_zero, List.drop_succ_cons, List.drop_zero]
 iterate 1 go_big_quiet_step (fail)
 go_big_quiet_step ((exact keep_of (ones_250 x _ hx)))
 generalize onesF x 8 250 = y1 at *
 go_big_quiet_step ((exact keep_of (squares_5 y1 _ k1)))
 have k3 := squaresF_ok 5 k1
 generalize squaresF 5 y1 = y2 at *
 go_big_quiet_step (fail)
 go_big_quiet_step ((exact keep_of (squares_3 x _ hx)))
 have k4 := squaresF_ok 3 hx
 generalize squaresF 3 x = y3 at *
 go_big_quiet_step ((exact keep_of (mul_any y2 y3 _ k3 k4)))
 have k5 := mulF_ok k3 k4
 generalize mulF y2 y3 = y4 at *
 go_big_quiet_step (fail)
 go_big_quiet_step ((exact keep_of (ones_2 x _ hx)))
 generalize onesF x 8 2 = y5 at *
 go_big_quiet_step ((exact keep_of (mul_any y4 y5 _ k5 k2)))
 generalize mulF y4 y5 = z at *
 refine wpQuiet_nil ?_
 intro s
 clear a0 a1 a2 a3 a4 hne k1 k2 k3 k4 k5
 replace R := R.keep s.keep
 generalize s.w = W3 at R ⊢
 obtain ⟨old, ge, hs, hf, c0, c1, c2, c3, c4⟩ := R
 have O := hide old
 clear old
 go_wp2
 refine bodyPost_ret (v := z.v) (by simp [results, Tryz.results118, go_sem, c0, c1, c2, c3, c4]) rfl ⟨by rw [HE.out], ?_⟩
 exact five O.out ge
open Go.RowKit
def sqz (y : Int) : Nat → Int
 | 0 => y
 | n + 1 => sqz (y * y) n
def onz (x : Int) : Nat → Int
 | 0 => 1
 | k + 1 => onz x k * onz x k * x
theorem sqz_succ (n : Nat) : ∀ y, sqz y (n + 1) = sqz y n * sqz y n := by
 induction n with
 | zero => intro y; rfl
 | succ n ih => intro y; exact ih (y * y)
theorem onz_add (x : Int) (m : Nat) : ∀ k, onz x (m + k) = sqz (onz x m) k * onz x k
 | 0 => by simp [sqz, onz]
 | k + 1 => by
  have ih := onz_add x m k
  rw [← Nat.add_assoc]
  simp only [onz]
  rw [ih, sqz_succ]
  generalize sqz (onz x m) k = a
  generalize onz x k = b
  simp only [Int.mul_assoc, Int.mul_left_comm b a]
theorem sqz_cg {y z : Int} : ∀ {n : Nat}, Cg y z → Cg (sqz y n) (sqz z n) := by
 intro n
 induction n generalizing y z with
 | zero => intro h; exact h
 | succ n ih => intro h; exact ih (h.mul h)
theorem squaresF_n : ∀ (n : Nat) (x : E5), Cg (squaresF n x).n (sqz x.n n)
 | 0, _ => Cg.refl _
 | n + 1, x => (squaresF_n n (mulF x x)).trans (sqz_cg (mulF_n x x))
theorem onesF_n (x : E5) : ∀ (f n : Nat), n < 2 ^ f → Cg (onesF x f n).n (onz x.n n) := by
 intro f
 induction f with
 | zero =>
  intro n h
  have e : n = 0 := by omega
  subst e
  exact smallF_n 1
 | succ f ih =>
  intro n h
  unfold onesF
  by_cases h0 : n = 0
  ·rw [if_pos h0]
   subst h0
   exact smallF_n 1
  ·rw [if_neg h0]
   have hp : 2 ^ (f + 1) = 2 * 2 ^ f := by rw [Nat.pow_succ, Nat.mul_comm]
   have hh := ih (n / 2) (by omega)
   have he : Cg (mulF (squaresF (n / 2) (onesF x f (n / 2))) (onesF x f (n / 2))).n (onz x.n (n / 2 + n / 2)) := by
    rw [onz_add]
    exact (mulF_n _ _).trans (((squaresF_n _ _).trans (sqz_cg hh)).mul hh)
   by_cases h2 : n % 2 = 0
   ·rw [if_pos h2]
    rw [show n / 2 + n / 2 = n by omega] at he
    exact he
   ·rw [if_neg h2]
    refine (mulF_n _ _).trans ?_
    have e : onz x.n n = onz x.n (n / 2 + n / 2) * onz x.n (n / 2 + n / 2) * x.n := by
     rw [show onz x.n n = onz x.n (n / 2 + n / 2 + 1) by congr 1; omega]
     rfl
    rw [e]
    exact ((squaresF_n 1 _).trans (he.mul he)).mul (Cg.refl _)
theorem invF_n (x : E5) : Cg (invF x).n (sqz (onz x.n 250) 5 * sqz x.n 3 * onz x.n 2) := by
 unfold invF
 exact (mulF_n _ _).trans (((mulF_n _ _).trans (((squaresF_n 5 _).trans (sqz_cg (onesF_n x 8 250 (by decide)))).mul (squaresF_n 3 x))).mul (onesF_n x 8 2 (by decide)))
def pQ : Nat := 57896044618658097711785492504343953926634992332820282019728792003956564819948
abbrev pN : Nat := pQ + 1
theorem pN_P : (pN : Int) = Pm := by decide
open Go.RowKit
theorem digs4 {a b c d : Int} (ha : 0 ≤ a ∧ a < 65536) (hb : 0 ≤ b ∧ b < 65536) (hc : 0 ≤ c ∧ c < 65536) (_hd : 0 ≤ d ∧ d < 65536) :
  digs (a + 65536 * b + 4294967296 * c + 281474976710656 * d) = [a % 256, a / 256 % 256, b % 256, b / 256 % 256, c % 256, c / 256 % 256, d % 256, d / 256 % 256] := by
 unfold digs
 have h1 : (a + 65536 * b + 4294967296 * c + 281474976710656 * d) % 256 = a % 256 := by omega
 have h2 : (a + 65536 * b + 4294967296 * c + 281474976710656 * d) / 256 % 256 = a / 256 % 256 := by omega
 have h3 : (a + 65536 * b + 4294967296 * c + 281474976710656 * d) / 65536 % 256 = b % 256 := by omega
 have h4 : (a + 65536 * b + 4294967296 * c + 281474976710656 * d) / 16777216 % 256 = b / 256 % 256 := by omega
 have h5 : (a + 65536 * b + 4294967296 * c + 281474976710656 * d) / 4294967296 % 256 = c % 256 := by omega
 have h6 : (a + 65536 * b + 4294967296 * c + 281474976710656 * d) / 1099511627776 % 256 = c / 256 % 256 := by omega
 have h7 : (a + 65536 * b + 4294967296 * c + 281474976710656 * d) / 281474976710656 % 256 = d % 256 := by omega
 have h8 : (a + 65536 * b + 4294967296 * c + 281474976710656 * d) / 72057594037927936 % 256 = d / 256 % 256 := by omega
 rw [h1, h2, h3, h4, h5, h6, h7, h8]
theorem S16 (f : NI) : S f 16 = f 0 + f 1 * 65536 + f 2 * 4294967296 + f 3 * 281474976710656 + f 4 * 18446744073709551616 + f 5 * 1208925819614629174706176 + f 6 * 79228162514264337593543950336 + f 7 * 5192296858534827628530496329220096 + f 8 * 340282366920938463463374607431768211456 + f 9 * 22300745198530623141535718272648361505980416 + f 10 * 1461501637330902918203684832716283019655932542976 + f 11 * 95780971304118053647396689196894323976171195136475136 + f 12 * 6277101735386680763835789423207666416102355444464034512896 + f 13 * 411376139330301510538742295639337626245683966408394965837152256 + f 14 * 26959946667150639794667015087019630673637144422540572481103610249216 + f 15 * 1766847064778384329583297500742918515827483896875618958121606201292619776 := by
 simp [S]
theorem lebytes_S {f : NI} (hf : Dig f 16) : lebytes (S f 16) = bs (rb f 32) := by
 have h0 := hf 0 (by omega)
 have h1 := hf 1 (by omega)
 have h2 := hf 2 (by omega)
 have h3 := hf 3 (by omega)
 have h4 := hf 4 (by omega)
 have h5 := hf 5 (by omega)
 have h6 := hf 6 (by omega)
 have h7 := hf 7 (by omega)
 have h8 := hf 8 (by omega)
 have h9 := hf 9 (by omega)
 have h10 := hf 10 (by omega)
 have h11 := hf 11 (by omega)
 have h12 := hf 12 (by omega)
 have h13 := hf 13 (by omega)
 have h14 := hf 14 (by omega)
 have h15 := hf 15 (by omega)
 have e := S16 f
 have w0 : S f 16 % 18446744073709551616 = f 0 + 65536 * f 1 + 4294967296 * f 2 + 281474976710656 * f 3 := by rw [e]; omega
 have w1 : S f 16 / 18446744073709551616 % 18446744073709551616 = f 4 + 65536 * f 5 + 4294967296 * f 6 + 281474976710656 * f 7 := by rw [e]; omega
 have w2 : S f 16 / 340282366920938463463374607431768211456 % 18446744073709551616 = f 8 + 65536 * f 9 + 4294967296 * f 10 + 281474976710656 * f 11 := by rw [e]; omega
 have w3 : S f 16 / 6277101735386680763835789423207666416102355444464034512896 % 18446744073709551616 = f 12 + 65536 * f 13 + 4294967296 * f 14 + 281474976710656 * f 15 := by rw [e]; omega
 unfold lebytes
 rw [w0, w1, w2, w3, digs4 h0 h1 h2 h3, digs4 h4 h5 h6 h7, digs4 h8 h9 h10 h11, digs4 h12 h13 h14 h15]
 congr 1
 simp [rb, by16, List.range, List.range.loop]
open Go.RowKit
theorem Pm_pos : (0 : Int) < Pm := by decide
theorem Pm_16 : Pm < 65536 ^ 16 := by decide
theorem dS (M : Int) : S (d16 (M % Pm)) 16 = M % Pm := by
 have h0 := Int.emod_nonneg M (show Pm ≠ 0 by decide)
 have h1 := Int.emod_lt_of_pos M Pm_pos
 have h2 := Pm_16
 rw [d16_S _ h0, Int.emod_eq_of_lt h0 (by omega)]
open Go.RowKit
def barr (n : Nat) (f : Nat → Bool) : Array Value := ((List.range n).map fun i => Value.bool (f i)).toArray
theorem barr_size (n : Nat) (f : Nat → Bool) : (barr n f).size = n := by simp [barr]
theorem barr_get (n : Nat) (f : Nat → Bool) (i : Nat) (h : i < n) : (barr n f)[i]? = some (.bool (f i)) := by simp [barr, h]
theorem barr_congr {n : Nat} {f g : Nat → Bool} (h : ∀ i, i < n → f i = g i) : barr n f = barr n g := by
 unfold barr
 congr 1
 exact List.map_congr_left fun i hi => by rw [h i (List.mem_range.1 hi)]
def bupd (f : Nat → Bool) (k : Nat) (v : Bool) : Nat → Bool := fun i => if i = k then v else f i
theorem barr_set (n : Nat) (f : Nat → Bool) (k : Nat) (v : Bool) : (barr n f).setIfInBounds k (.bool v) = barr n (bupd f k v) := by
 apply Array.ext_getElem?
 intro i
 by_cases hi : i < n
 ·rw [Array.getElem?_setIfInBounds, barr_get n (bupd f k v) i hi]
  by_cases hk : k = i
  ·subst hk
   rw [if_pos rfl, if_pos (by rw [barr_size]; exact hi)]
   simp [bupd]
  ·have : ¬ i = k := fun h => hk h.symm
   rw [if_neg hk, barr_get n f i hi]
   simp [bupd, this]
 ·rw [Array.getElem?_eq_none (by simp [barr_size]; omega), Array.getElem?_eq_none (by simp [barr_size]; omega)]
def Brow (w : World) (g : Nat) (n : Nat) (f : Nat → Bool) : Prop := w.heap[g]? = some (.cells (barr n f) 4 (0, 0))
theorem Brow.lt {w : World} {g n : Nat} {f : Nat → Bool} (h : Brow w g n f) : g < w.heap.size := by
 by_cases hlt : g < w.heap.size
 ·exact hlt
 ·have hn : w.heap[g]? = none := by simp; omega
  rw [Brow, hn] at h
  cases h
theorem Brow.cell {w : World} {g n : Nat} {f : Nat → Bool} (h : Brow w g n f) {i : Nat} (hi : i < n) : w.cell? ⟨g, i, none⟩ = some (.bool (f i)) := by
 rw [cell_of_row w g i (barr n f) 4 (0, 0) h, barr_get n f i hi]
theorem Brow.free {w : World} {g n : Nat} {f : Nat → Bool} (h : Brow w g n f) (i : Nat) : w.frozen? ⟨g, i, none⟩ = false := frozen_of_row w g i (barr n f) 4 h
theorem Brow.set {w : World} {g n : Nat} {f : Nat → Bool} (h : Brow w g n f) (k : Nat) (v : Bool) : Brow (w.setCell ⟨g, k, none⟩ (.bool v)) g n (bupd f k v) := by
 unfold Brow
 rw [heap_setCell_same w g k (barr n f) 4 _ h, barr_set]
theorem Brow.keep {w w' : World} {g n : Nat} {f : Nat → Bool} (h : Brow w g n f) (hb : Below w.heap.size w w') : Brow w' g n f := by
 unfold Brow
 rw [hb.block g h.lt]
 exact h
theorem Brow.congr {w : World} {g n : Nat} {f f' : Nat → Bool} (h : Brow w g n f) (e : ∀ i, i < n → f i = f' i) : Brow w g n f' := by
 unfold Brow
 rw [← barr_congr e]
 exact h
theorem Brow.new (w : World) (n : Nat) (f : Nat → Bool) : Brow (w.alloc (.cells (barr n f) 4)) w.heap.size n f := heap_alloc_new w _
def xbit (n k i : Nat) : Bool := decide (8 ≤ n - 1 - i) || Nat.testBit (256 - k) (n - 1 - i)
def xbw (n k j : Nat) : Nat → Bool := fun i => decide (i < j) && xbit n k i
theorem xbw_next (n k j i : Nat) {v : Bool} (hv : v = xbit n k j) : bupd (xbw n k j) j v i = xbw n k (j + 1) i := by
 unfold bupd xbw
 by_cases h : i = j
 ·subst h
  simp [hv]
 ·rw [if_neg h]
  by_cases h2 : i < j
  ·simp [h2, show i < j + 1 by omega]
  ·simp [h2, show ¬ i < j + 1 by omega]
theorem bits_255 (w : World) : Calls Tryz.prog 89 #[.int .i64 255, .int .i64 21] w fun r w' => ∃ b, r = .returned (.slice (some ⟨b, 0, none⟩) 255 255) ∧ w.heap.size ≤ b ∧ Brow w' b 255 (xbit 255 21) ∧ Below w.heap.size w w' := by
 have hmk : ∀ w, (Instr.makeSlice 138 (.int .i64 255) (.int .i64 255)).run Tryz.prog w = .ok (.slice (some ⟨w.heap.size, 0, none⟩) 255 255) (w.alloc (.cells (barr 255 fun _ => false) 4)) := fun _ => by kernel_rfl
 go_enter Tryz.func89, Tryz.ntmps89
 go_wp2
 clear hmk
 have R := Brow.new w 255 fun _ => false
 have O := new_below w (.cells (barr 255 fun _ => false) 4)
 generalize w.alloc (.cells (barr 255 fun _ => false) 4) = W at R O ⊢
 go_loopw [7] (fun i wr => ∃ j : Nat, j ≤ 255 ∧ i = .int .i64 j ∧ Brow wr w.heap.size 255 (xbw 255 21 j) ∧ Below w.heap.size w wr) (fun i _ => 255 - (intOf i).toNat)
 case atStart => exact ⟨0, by omega, rfl, R.congr (fun i _ => by simp [xbw]), O⟩
 case round =>
  clear R O
  obtain ⟨j, hj, rfl, R, O⟩ := hrel
  by_cases h1 : j < 247
  ·have c := R.cell (i := j) (by omega)
   have e := R.free j
   have i1 : (0 : Int) ≤ (j : Int) := by omega
   have i2 : (j : Int) < 247 := by omega
   have RR := hide ((R.set j true).congr (f' := xbw 255 21 (j + 1)) (fun i _ => xbw_next 255 21 j i (by unfold xbit; rw [decide_eq_true (by omega)]; rfl)))
   have O' := hide (O.setCell (p := ⟨w.heap.size, j, none⟩) (Nat.le_refl _) (.bool true))
   clear R O
   go_wp2
   go_roundw
   case rel => exact ⟨j + 1, by omega, by go_num, RR.out, O'.out⟩
   case measure => simp [intOf]; omega
  ·by_cases h2 : j < 255
   ·rcases (show j = 247 ∨ j = 248 ∨ j = 249 ∨ j = 250 ∨ j = 251 ∨ j = 252 ∨ j = 253 ∨ j = 254 by omega) with rfl | rfl | rfl | rfl | rfl | rfl | rfl | rfl
    ·have c := R.cell (i := 247) (by omega)
     have e := R.free 247
     have RR := hide ((R.set 247 true).congr (f' := xbw 255 21 (247 + 1)) (fun i _ => xbw_next 255 21 247 i (by decide)))
     have O' := hide (O.setCell (p := ⟨w.heap.size, 247, none⟩) (Nat.le_refl _) (.bool true))
     clear R O
     go_wp2
     go_roundw
     case rel => exact ⟨248, by omega, rfl, RR.out, O'.out⟩
     case measure => simp [intOf]
    ·have c := R.cell (i := 248) (by omega)
     have e := R.free 248
     have RR := hide ((R.set 248 true).congr (f' := xbw 255 21 (248 + 1)) (fun i _ => xbw_next 255 21 248 i (by decide)))
     have O' := hide (O.setCell (p := ⟨w.heap.size, 248, none⟩) (Nat.le_refl _) (.bool true))
     clear R O
     go_wp2
     go_roundw
     case rel => exact ⟨249, by omega, rfl, RR.out, O'.out⟩
     case measure => simp [intOf]
    ·have c := R.cell (i := 249) (by omega)
     have e := R.free 249
     have RR := hide ((R.set 249 true).congr (f' := xbw 255 21 (249 + 1)) (fun i _ => xbw_next 255 21 249 i (by decide)))
     have O' := hide (O.setCell (p := ⟨w.heap.size, 249, none⟩) (Nat.le_refl _) (.bool true))
     clear R O
     go_wp2
     go_roundw
     case rel => exact ⟨250, by omega, rfl, RR.out, O'.out⟩
     case measure => simp [intOf]
    ·have c := R.cell (i := 250) (by omega)
     have e := R.free 250
     have RR := hide ((R.set 250 false).congr (f' := xbw 255 21 (250 + 1)) (fun i _ => xbw_next 255 21 250 i (by decide)))
     have O' := hide (O.setCell (p := ⟨w.heap.size, 250, none⟩) (Nat.le_refl _) (.bool false))
     clear R O
     go_wp2
     go_roundw
     case rel => exact ⟨251, by omega, rfl, RR.out, O'.out⟩
     case measure => simp [intOf]
    ·have c := R.cell (i := 251) (by omega)
     have e := R.free 251
     have RR := hide ((R.set 251 true).congr (f' := xbw 255 21 (251 + 1)) (fun i _ => xbw_next 255 21 251 i (by decide)))
     have O' := hide (O.setCell (p := ⟨w.heap.size, 251, none⟩) (Nat.le_refl _) (.bool true))
     clear R O
     go_wp2
     go_roundw
     case rel => exact ⟨252, by omega, rfl, RR.out, O'.out⟩
     case measure => simp [intOf]
    ·have c := R.cell (i := 252) (by omega)
     have e := R.free 252
     have RR := hide ((R.set 252 false).congr (f' := xbw 255 21 (252 + 1)) (fun i _ => xbw_next 255 21 252 i (by decide)))
     have O' := hide (O.setCell (p := ⟨w.heap.size, 252, none⟩) (Nat.le_refl _) (.bool false))
     clear R O
     go_wp2
     go_roundw
     case rel => exact ⟨253, by omega, rfl, RR.out, O'.out⟩
     case measure => simp [intOf]
    ·have c := R.cell (i := 253) (by omega)
     have e := R.free 253
     have RR := hide ((R.set 253 true).congr (f' := xbw 255 21 (253 + 1)) (fun i _ => xbw_next 255 21 253 i (by decide)))
     have O' := hide (O.setCell (p := ⟨w.heap.size, 253, none⟩) (Nat.le_refl _) (.bool true))
     clear R O
     go_wp2
     go_roundw
     case rel => exact ⟨254, by omega, rfl, RR.out, O'.out⟩
     case measure => simp [intOf]
    ·have c := R.cell (i := 254) (by omega)
     have e := R.free 254
     have RR := hide ((R.set 254 true).congr (f' := xbw 255 21 (254 + 1)) (fun i _ => xbw_next 255 21 254 i (by decide)))
     have O' := hide (O.setCell (p := ⟨w.heap.size, 254, none⟩) (Nat.le_refl _) (.bool true))
     clear R O
     go_wp2
     go_roundw
     case rel => exact ⟨255, by omega, rfl, RR.out, O'.out⟩
     case measure => simp [intOf]
   ·have hj' : j = 255 := by omega
    subst hj'
    have RR := hide (R.congr (f' := xbit 255 21) (fun i hi => by unfold xbw; rw [decide_eq_true hi]; rfl))
    clear R
    go_wp2
    go_ret
    exact ⟨w.heap.size, rfl, Nat.le_refl _, RR.out, O⟩
open Go.RowKit
def rw1 (a b : NI) (i k : Nat) : Nat → Int := fun j => if i ≤ j ∧ j < i + k then a i * b (j - i) else 0
def mp (a b : NI) : Nat → Nat → Int
 | 0, _ => 0
 | i + 1, j => mp a b i j + rw1 a b i 16 j
def mq (a b : NI) (i k : Nat) : Nat → Int := fun j => mp a b i j + rw1 a b i k j
theorem S_add' (f g : NI) : ∀ n, S (fun i => f i + g i) n = S f n + S g n
 | 0 => rfl
 | n + 1 => by
  have ih := S_add' f g n
  simp only [S]
  rw [ih, Int.add_mul]
  omega
theorem S_one (m : Nat) (v : Int) : ∀ n, S (fun j => if j = m then v else 0) n = if m < n then v * 65536 ^ m else 0
 | 0 => by simp [S]
 | n + 1 => by
  have ih := S_one m v n
  simp only [S]
  rw [ih]
  by_cases h1 : m < n
  ·rw [if_pos h1, if_neg (show ¬ n = m by omega), if_pos (show m < n + 1 by omega)]
   simp
  ·rw [if_neg h1]
   by_cases h2 : n = m
   ·subst h2
    rw [if_pos rfl, if_pos (by omega)]
    simp
   ·rw [if_neg h2, if_neg (show ¬ m < n + 1 by omega)]
    simp
theorem rw1_next (a b : NI) (i k j : Nat) : rw1 a b i (k + 1) j = rw1 a b i k j + if j = i + k then a i * b k else 0 := by
 unfold rw1
 by_cases h1 : j = i + k
 ·subst h1
  rw [if_pos (by omega), if_neg (by omega), if_pos rfl, show i + k - i = k by omega]
  omega
 ·rw [if_neg h1]
  by_cases h2 : i ≤ j ∧ j < i + k
  ·rw [if_pos h2, if_pos (by omega)]
   omega
  ·rw [if_neg h2, if_neg (by omega)]
   omega
theorem rw1_S (a b : NI) (i : Nat) : ∀ k, i + k ≤ 32 → S (rw1 a b i k) 32 = a i * 65536 ^ i * S b k
 | 0, _ => by
  rw [S_congr (g := fun _ => 0) fun j _ => by unfold rw1; rw [if_neg (by omega)], S_zero]
  simp [S]
 | k + 1, h => by
  have ih := rw1_S a b i k (by omega)
  rw [S_congr fun j _ => rw1_next a b i k j, S_add', ih, S_one, if_pos (by omega)]
  simp only [S]
  rw [Int.pow_add, Int.mul_add]
  congr 1
  rw [Int.mul_assoc, Int.mul_assoc, Int.mul_left_comm (65536 ^ i)]
theorem mp_S (a b : NI) : ∀ i, i ≤ 16 → S (mp a b i) 32 = S a i * S b 16
 | 0, _ => by
  show S (fun _ => 0) 32 = _
  rw [S_zero]
  simp [S]
 | i + 1, h => by
  have ih := mp_S a b i (by omega)
  have e : S (mp a b (i + 1)) 32 = S (fun j => mp a b i j + rw1 a b i 16 j) 32 := rfl
  rw [e, S_add', ih, rw1_S a b i 16 (by omega)]
  simp only [S]
  rw [Int.add_mul]
theorem dmul {x y : Int} (hx : 0 ≤ x ∧ x < 65536) (hy : 0 ≤ y ∧ y < 65536) : 0 ≤ x * y ∧ x * y ≤ 4294836225 := by
 refine ⟨Int.mul_nonneg hx.1 hy.1, ?_⟩
 have h1 : x * y ≤ 65535 * y := Int.mul_le_mul_of_nonneg_right (by omega) hy.1
 omega
theorem rw1_bd {a b : NI} (ha : Dig a 16) (hb : Dig b 16) {i k : Nat} (hi : i < 16) (hk : k ≤ 16) (j : Nat) : 0 ≤ rw1 a b i k j ∧ rw1 a b i k j ≤ 4294836225 := by
 unfold rw1
 by_cases h : i ≤ j ∧ j < i + k
 ·rw [if_pos h]
  exact dmul (ha i hi) (hb (j - i) (by omega))
 ·rw [if_neg h]
  omega
theorem mp_bd {a b : NI} (ha : Dig a 16) (hb : Dig b 16) (j : Nat) : ∀ i, i ≤ 16 → 0 ≤ mp a b i j ∧ mp a b i j ≤ 4294836225 * i
 | 0, _ => by simp [mp]
 | i + 1, h => by
  have ih := mp_bd ha hb j i (by omega)
  have h2 := rw1_bd ha hb (i := i) (k := 16) (by omega) (by omega) j
  simp only [mp]
  omega
theorem mp_48 {a b : NI} (ha : Dig a 16) (hb : Dig b 16) : B48 (mp a b 16) := ⟨fun j _ => by
 have := mp_bd ha hb j 16 (by omega)
 omega⟩
theorem mq_zero (a b : NI) (i j : Nat) : mq a b i 0 j = mp a b i j := by
 unfold mq rw1
 rw [if_neg (by omega)]
 omega
theorem mq_at (a b : NI) (i k : Nat) : mq a b i k (i + k) = mp a b i (i + k) := by
 unfold mq rw1
 rw [if_neg (by omega)]
 omega
theorem mq_next (a b : NI) (i k j : Nat) : upd (mq a b i k) (i + k) (mp a b i (i + k) + a i * b k) j = mq a b i (k + 1) j := by
 unfold upd
 by_cases h : j = i + k
 ·subst h
  rw [if_pos rfl]
  unfold mq
  rw [rw1_next, if_pos rfl]
  unfold rw1
  rw [if_neg (by omega)]
  omega
 ·rw [if_neg h]
  unfold mq
  rw [rw1_next, if_neg h]
  omega
open Go.RowKit
theorem rmul_any (a b : NI) (w : World) (ha : Dig a 16) (hb : Dig b 16) : Cs 58 #[.agg (arr 16 a), .agg (arr 16 b)] w (.agg (arr 16 (d16 ((S a 16 * S b 16) % Pm)))) := by
 go_enter Tryz.func58, Tryz.ntmps58
 go_wp2
 rw [show #[Value.int .u64 0, Value.int .u64 0, Value.int .u64 0, Value.int .u64 0, Value.int .u64 0, Value.int .u64 0, Value.int .u64 0, Value.int .u64 0, Value.int .u64 0, Value.int .u64 0, Value.int .u64 0, Value.int .u64 0, Value.int .u64 0, Value.int .u64 0, Value.int .u64 0, Value.int .u64 0] = arr 16 (fun _ => 0) from rfl, show #[Value.int .u64 0, Value.int .u64 0, Value.int .u64 0, Value.int .u64 0, Value.int .u64 0, Value.int .u64 0, Value.int .u64 0, Value.int .u64 0, Value.int .u64 0, Value.int .u64 0, Value.int .u64 0, Value.int .u64 0, Value.int .u64 0, Value.int .u64 0, Value.int .u64 0, Value.int .u64 0, Value.int .u64 0, Value.int .u64 0, Value.int .u64 0, Value.int .u64 0, Value.int .u64 0, Value.int .u64 0, Value.int .u64 0, Value.int .u64 0, Value.int .u64 0, Value.int .u64 0, Value.int .u64 0, Value.int .u64 0, Value.int .u64 0, Value.int .u64 0, Value.int .u64 0, Value.int .u64 0] = arr 32 (fun _ => 0) from rfl]
 have R1 : Row ((((w.alloc (.cells (arr 16 a) 108)).alloc (.cells (arr 16 b) 108)).alloc (.cells (arr 16 fun _ => 0) 108)).alloc (.cells (arr 32 fun _ => 0) 135)) w.heap.size 108 16 a := (((Row.new w 108 16 a).alloc _).alloc _).alloc _
 have R2 : Row ((((w.alloc (.cells (arr 16 a) 108)).alloc (.cells (arr 16 b) 108)).alloc (.cells (arr 16 fun _ => 0) 108)).alloc (.cells (arr 32 fun _ => 0) 135)) (w.heap.size + 1) 108 16 b := ((Row.new' _ 108 16 _ (by simp)).alloc _).alloc _
 have R3 : Row ((((w.alloc (.cells (arr 16 a) 108)).alloc (.cells (arr 16 b) 108)).alloc (.cells (arr 16 fun _ => 0) 108)).alloc (.cells (arr 32 fun _ => 0) 135)) (w.heap.size + 1 + 1) 108 16 (fun _ => 0) := (Row.new' _ 108 16 _ (by simp)).alloc _
 have R4 : Row ((((w.alloc (.cells (arr 16 a) 108)).alloc (.cells (arr 16 b) 108)).alloc (.cells (arr 16 fun _ => 0) 108)).alloc (.cells (arr 32 fun _ => 0) 135)) (w.heap.size + 1 + 1 + 1) 135 32 (fun _ => 0) := Row.new' _ 135 32 _ (by simp)
 have O : Below w.heap.size w ((((w.alloc (.cells (arr 16 a) 108)).alloc (.cells (arr 16 b) 108)).alloc (.cells (arr 16 fun _ => 0) 108)).alloc (.cells (arr 32 fun _ => 0) 135)) := ((((Below.refl _ _).alloc (Nat.le_refl _) _).alloc (by simp) _).alloc (by simp; omega) _).alloc (by simp; omega) _
 generalize ((((w.alloc (.cells (arr 16 a) 108)).alloc (.cells (arr 16 b) 108)).alloc (.cells (arr 16 fun _ => 0) 108)).alloc (.cells (arr 32 fun _ => 0) 135)) = W at R1 R2 R3 R4 O ⊢
 go_loopw [6] (fun x wr => ∃ i : Nat, i ≤ 16 ∧ x = .int .i64 i ∧ Row wr w.heap.size 108 16 a ∧ Row wr (w.heap.size + 1) 108 16 b ∧ Row wr (w.heap.size + 1 + 1) 108 16 (fun _ => 0) ∧ Row wr (w.heap.size + 1 + 1 + 1) 135 32 (mp a b i) ∧ Below w.heap.size w wr) (fun x _ => 16 - (intOf x).toNat)
 case atStart => exact ⟨0, by omega, rfl, R1, R2, R3, R4, O⟩
 case round =>
  clear R1 R2 R3 R4 O
  obtain ⟨i, hi, rfl, R1, R2, R3, R4, O⟩ := hrel
  by_cases hlt : i < 16
  ·go_wp2
   go_loopw [7] (fun y wq => ∃ k : Nat, k ≤ 16 ∧ y = .int .i64 k ∧ Row wq w.heap.size 108 16 a ∧ Row wq (w.heap.size + 1) 108 16 b ∧ Row wq (w.heap.size + 1 + 1) 108 16 (fun _ => 0) ∧ Row wq (w.heap.size + 1 + 1 + 1) 135 32 (mq a b i k) ∧ Below w.heap.size w wq) (fun y _ => 16 - (intOf y).toNat)
   case atStart => exact ⟨0, by omega, rfl, R1, R2, R3, R4.congr (fun j _ => (mq_zero a b i j).symm), O⟩
   case round =>
    clear R1 R2 R3 R4 O
    obtain ⟨k, hk, rfl, R1, R2, R3, R4, O⟩ := hrel
    by_cases hkl : k < 16
    ·have c := R1.cell hlt
     have d := R2.cell hkl
     have e := R4.cell (i := i + k) (by omega)
     rw [mq_at] at e
     have f := R4.free
     have hp := dmul (ha i hlt) (hb k hkl)
     have hm := mp_bd ha hb (i + k) i hi
     have i1 : (0 : Int) ≤ (i : Int) := by omega
     have i2 : (i : Int) < 16 := by omega
     have k1 : (0 : Int) ≤ (k : Int) := by omega
     have k2 : (k : Int) < 16 := by omega
     obtain ⟨p0, p1⟩ := hp
     obtain ⟨m0, m1⟩ := hm
     have m2 : mp a b i (i + k) < 100000000000 := by omega
     clear m1
     go_wp2_with fail
     go_region
     go_wp2
     exact ⟨⟨k + 1, by omega, by go_num, rowD (R1.other (a := ⟨w.heap.size + 1 + 1 + 1, i + k, none⟩) (by simp <;> omega) _), rowD (R2.other (a := ⟨w.heap.size + 1 + 1 + 1, i + k, none⟩) (by simp <;> omega) _), rowD (R3.other (a := ⟨w.heap.size + 1 + 1 + 1, i + k, none⟩) (by simp) _), rowD ((R4.set (i + k) (mp a b i (i + k) + a i * b k)).congr (fun j _ => mq_next a b i k j)), (O.setCell (p := ⟨w.heap.size + 1 + 1 + 1, i + k, none⟩) (by simp <;> omega) _).drew⟩, by simp [intOf]; omega⟩
    ·have hk' : k = 16 := by omega
     subst hk'
     go_wp2
     exact ⟨⟨i + 1, by omega, by go_num, R1, R2, R3, R4, O⟩, by simp [intOf]; omega⟩
  ·have hi' : i = 16 := by omega
   subst hi'
   have HR := hide R4
   clear R4 R1 R2
   go_wp2_with (refine wpList_load_row rfl 135 _ rfl (w.heap.size + 1 + 1 + 1) rfl 135 (arr 32 (mp a b 16)) (0, 0) _ HR.out Tryz.underlying135 rfl (info135 _) ?_)
   try rw [show ∀ (a : Act) (v : Value), a.put none v = a from fun _ _ => rfl]
   refine (reduce_any (mp a b 16) _ (mp_48 ha hb)).mono ?_
   rintro _ w3 ⟨rfl, hb3⟩
   replace R3 := R3.keep hb3
   replace O := O.trans (hb3.mono O.size)
   clear hb3 HR
   rw [mp_S a b 16 (by omega)]
   have RR := hide (R3.setAll (d16 ((S a 16 * S b 16) % Pm)))
   have OO := hide (below_setCells (g := w.heap.size + 1 + 1) (by omega) (arr 16 (d16 ((S a 16 * S b 16) % Pm))).toList 0 O)
   go_wp2_with (refine wpList_store_mid rfl 108 _ _ rfl (w.heap.size + 1 + 1) 0 (arr 16 (d16 ((S a 16 * S b 16) % Pm))) rfl rfl (by rw [arr_size]; exact R3.there) (info108 _) (arr_one _ _) ?_)
   exact bodyPost_ret (v := .agg (arr 16 (d16 ((S a 16 * S b 16) % Pm)))) (results_cell_row Tryz.results58 _ _ (w.heap.size + 1 + 1) 108 (arr 16 (d16 ((S a 16 * S b 16) % Pm))) (0, 0) _ rfl RR.out Tryz.underlying108 rfl (info108 _)) rfl ⟨rfl, OO.out⟩
open Go.RowKit
def pwm (x : Int) (f : Nat → Bool) : Nat → Int
 | 0 => 1
 | i + 1 => if f i = true then (pwm x f i * pwm x f i % Pm) * x % Pm else pwm x f i * pwm x f i % Pm
theorem pwm_bd (x : Int) (f : Nat → Bool) : ∀ i, 0 ≤ pwm x f i ∧ pwm x f i < Pm
 | 0 => by unfold pwm; exact ⟨by decide, by decide⟩
 | i + 1 => by
  unfold pwm
  have h : ∀ y : Int, 0 ≤ y % Pm ∧ y % Pm < Pm := fun y => ⟨Int.emod_nonneg y (by decide), Int.emod_lt_of_pos y Pm_pos⟩
  split
  ·exact h _
  ·exact h _
theorem bS {y : Int} (h : 0 ≤ y ∧ y < Pm) : S (d16 y) 16 = y := by
 have h2 := Pm_16
 rw [d16_S _ h.1, Int.emod_eq_of_lt h.1 (by omega)]
theorem power_any (a : NI) (n : Nat) (f : Nat → Bool) (b : Nat) (w : World) (ha : Dig a 16) (hB : Brow w b n f) (hn : n ≤ 300) : Cs 88 #[.agg (arr 16 a), .slice (some ⟨b, 0, none⟩) n n] w (.agg (arr 16 (d16 (pwm (S a 16) f n)))) := by
 have hb1 := hB.lt
 go_enter Tryz.func88, Tryz.ntmps88
 go_wp2_with fail
 rw [show #[Value.int .u64 0, Value.int .u64 0, Value.int .u64 0, Value.int .u64 0, Value.int .u64 0, Value.int .u64 0, Value.int .u64 0, Value.int .u64 0, Value.int .u64 0, Value.int .u64 0, Value.int .u64 0, Value.int .u64 0, Value.int .u64 0, Value.int .u64 0, Value.int .u64 0, Value.int .u64 0] = arr 16 (fun _ => 0) from rfl]
 have R1 : Row ((w.alloc (.cells (arr 16 a) 108)).alloc (.cells (arr 16 fun _ => 0) 108)) w.heap.size 108 16 a := (Row.new w 108 16 a).alloc _
 have R2 : Row ((w.alloc (.cells (arr 16 a) 108)).alloc (.cells (arr 16 fun _ => 0) 108)) (w.heap.size + 1) 108 16 (fun _ => 0) := Row.new' _ 108 16 _ (by simp)
 have O : Below w.heap.size w ((w.alloc (.cells (arr 16 a) 108)).alloc (.cells (arr 16 fun _ => 0) 108)) := ((Below.refl _ _).alloc (Nat.le_refl _) _).alloc (by simp) _
 have B := hB.keep O
 generalize (w.alloc (.cells (arr 16 a) 108)).alloc (.cells (arr 16 fun _ => 0) 108) = W at R1 R2 O B ⊢
 clear hB
 refine (rsmall_any 1 _ (by decide) (by decide)).mono ?_
 rintro _ w1 ⟨rfl, hb⟩
 replace R1 := R1.keep hb
 replace R2 := R2.keep hb
 replace B := B.keep hb
 replace O := O.trans (hb.mono O.size)
 clear hb
 have RX : Row (w1.alloc (.cells #[Value.int .u64 0, Value.int .u64 0, Value.int .u64 0, Value.int .u64 0, Value.int .u64 0, Value.int .u64 0, Value.int .u64 0, Value.int .u64 0, Value.int .u64 0, Value.int .u64 0, Value.int .u64 0, Value.int .u64 0, Value.int .u64 0, Value.int .u64 0, Value.int .u64 0, Value.int .u64 0] 108)) w1.heap.size 108 16 (fun _ => 0) := Row.new w1 108 16 (fun _ => 0)
 have RR := hide (RX.setAll (d16 1))
 have BB := below_setCells (g := w1.heap.size) (Nat.le_refl _) (arr 16 (d16 1)).toList 0 (new_below w1 (.cells #[Value.int .u64 0, Value.int .u64 0, Value.int .u64 0, Value.int .u64 0, Value.int .u64 0, Value.int .u64 0, Value.int .u64 0, Value.int .u64 0, Value.int .u64 0, Value.int .u64 0, Value.int .u64 0, Value.int .u64 0, Value.int .u64 0, Value.int .u64 0, Value.int .u64 0, Value.int .u64 0] 108))
 have gx := R2.lt
 have R1' := hide (R1.keep BB)
 have R2' := hide (R2.keep BB)
 have B' := hide (B.keep BB)
 have O' := hide (O.trans (BB.mono O.size))
 clear R1 R2 B O BB
 go_wp2_with (refine wpList_store_mid rfl 108 _ _ rfl w1.heap.size 0 (arr 16 (d16 1)) rfl rfl ?there (info108 _) (arr_one _ _) ?_)
 case there => rw [arr_size]; exact RX.there
 try rw [show ∀ (a : Act) (v : Value), a.put none v = a from fun _ _ => rfl]
 have R1 := R1'.out
 have R2 := R2'.out
 have B := B'.out
 have O := O'.out
 replace RX := RR.out
 clear R1' R2' B' O' RR
 generalize w1.heap.size = gX at *
 generalize (w1.alloc (.cells #[Value.int .u64 0, Value.int .u64 0, Value.int .u64 0, Value.int .u64 0, Value.int .u64 0, Value.int .u64 0, Value.int .u64 0, Value.int .u64 0, Value.int .u64 0, Value.int .u64 0, Value.int .u64 0, Value.int .u64 0, Value.int .u64 0, Value.int .u64 0, Value.int .u64 0, Value.int .u64 0] 108)).setCells gX 0 (arr 16 (d16 1)).toList = W2 at *
 go_loopw [6] (fun x wr => ∃ i : Nat, i ≤ n ∧ x = .int .i64 i ∧ Row wr w.heap.size 108 16 a ∧ Row wr (w.heap.size + 1) 108 16 (fun _ => 0) ∧ Row wr gX 108 16 (d16 (pwm (S a 16) f i)) ∧ Brow wr b n f ∧ Below w.heap.size w wr) (fun x _ => n - (intOf x).toNat)
 case atStart => exact ⟨0, by omega, rfl, R1, R2, RX, B, O⟩
 case round =>
  clear R1 R2 RX B O
  obtain ⟨i, hi, rfl, R1, R2, RX, B, O⟩ := hrel
  have hp := pwm_bd (S a 16) f i
  by_cases hlt : i < n
  ·have h1 : (i : Int) < (n : Int) := by omega
   have HP := hide hp
   have HX := hide RX
   clear hp RX
   go_wp2_with (refine wpList_load_row rfl 108 _ rfl gX rfl 108 (arr 16 (d16 (pwm (S a 16) f i))) (0, 0) _ HX.out Tryz.underlying108 rfl (info108 _) ?_)
   refine (rmul_any _ _ _ (d16_dig _ 16) (d16_dig _ 16)).mono ?_
   rintro _ w3 ⟨rfl, hb3⟩
   rw [bS HP.out]
   replace R1 := R1.keep hb3
   replace R2 := R2.keep hb3
   replace B := B.keep hb3
   have RX := HX.out.keep hb3
   replace O := O.trans (hb3.mono O.size)
   clear hb3 HX
   have hE : pwm (S a 16) f (i + 1) = if f i = true then (pwm (S a 16) f i * pwm (S a 16) f i % Pm) * S a 16 % Pm else pwm (S a 16) f i * pwm (S a 16) f i % Pm := rfl
   have HE := hide hE
   clear hE HP
   generalize pwm (S a 16) f i * pwm (S a 16) f i = Y at *
   have RR := hide (RX.setAll (d16 (Y % Pm)))
   have R1' := hide (R1.setOther (k := gX) (by omega) 0 (arr 16 (d16 (Y % Pm))).toList)
   have R2' := hide (R2.setOther (k := gX) (by omega) 0 (arr 16 (d16 (Y % Pm))).toList)
   have B' : Hid (Brow (w3.setCells gX 0 (arr 16 (d16 (Y % Pm))).toList) b n f) := hide (by
    unfold Brow
    rw [heap_setCells_other gX b (by omega)]
    exact B)
   have O' := hide (below_setCells (g := gX) (by omega) (arr 16 (d16 (Y % Pm))).toList 0 O)
   clear R1 R2 B O
   have BC := B'.out.cell hlt
   cases hf : f i
   ·rw [hf] at BC HE
    go_wp2_with (refine wpList_store_mid rfl 108 _ _ rfl gX 0 (arr 16 (d16 (Y % Pm))) rfl rfl ?there (info108 _) (arr_one _ _) ?_)
    case there => rw [arr_size]; exact RX.there
    go_roundw
    case rel => exact ⟨i + 1, by omega, by go_num, R1'.out, R2'.out, by rw [HE.out]; exact RR.out, B'.out, O'.out⟩
    case measure => simp [intOf]; omega
   ·rw [hf] at BC HE
    go_wp2_with (first | (refine wpList_store_mid rfl 108 _ _ rfl gX 0 (arr 16 (d16 (Y % Pm))) rfl rfl ?there (info108 _) (arr_one _ _) ?_) | (refine wpList_load_row rfl 108 _ rfl gX rfl 108 (arr 16 (d16 (Y % Pm))) (0, 0) _ RR.out Tryz.underlying108 rfl (info108 _) ?_) | (refine wpList_load_row rfl 108 _ rfl w.heap.size rfl 108 (arr 16 a) (0, 0) _ R1'.out Tryz.underlying108 rfl (info108 _) ?_))
    case there => rw [arr_size]; exact RX.there
    refine (rmul_any _ _ _ (d16_dig _ 16) ha).mono ?_
    rintro _ w5 ⟨rfl, hb5⟩
    rw [dS]
    rw [if_pos trivial] at HE
    have R1 := R1'.out.keep hb5
    have R2 := R2'.out.keep hb5
    have B := B'.out.keep hb5
    have RY := RR.out.keep hb5
    have O := O'.out.trans (hb5.mono O'.out.size)
    clear hb5 R1' R2' B' RR O' BC RX
    generalize Y % Pm * S a 16 = Y2 at *
    have RR := hide (RY.setAll (d16 (Y2 % Pm)))
    have R1' := hide (R1.setOther (k := gX) (by omega) 0 (arr 16 (d16 (Y2 % Pm))).toList)
    have R2' := hide (R2.setOther (k := gX) (by omega) 0 (arr 16 (d16 (Y2 % Pm))).toList)
    have B' : Hid (Brow (w5.setCells gX 0 (arr 16 (d16 (Y2 % Pm))).toList) b n f) := hide (by
     unfold Brow
     rw [heap_setCells_other gX b (by omega)]
     exact B)
    have O' := hide (below_setCells (g := gX) (by omega) (arr 16 (d16 (Y2 % Pm))).toList 0 O)
    clear R1 R2 B O
    go_wp2_with (refine wpList_store_mid rfl 108 _ _ rfl gX 0 (arr 16 (d16 (Y2 % Pm))) rfl rfl ?there (info108 _) (arr_one _ _) ?_)
    case there => rw [arr_size]; exact RY.there
    go_roundw
    case rel => exact ⟨i + 1, by omega, by go_num, R1'.out, R2'.out, by rw [HE.out]; exact RR.out, B'.out, O'.out⟩
    case measure => simp [intOf]; omega
  ·have hi' : i = n := by omega
   subst hi'
   have RR := hide (R2.setAll (d16 (pwm (S a 16) f i)))
   have OO := hide (below_setCells (g := w.heap.size + 1) (by omega) (arr 16 (d16 (pwm (S a 16) f i))).toList 0 O)
   clear hp R1 B O
   go_wp2_with (first | (refine wpList_load_row rfl 108 _ rfl gX rfl 108 (arr 16 (d16 (pwm (S a 16) f i))) (0, 0) _ RX Tryz.underlying108 rfl (info108 _) ?_) | (refine wpList_store_mid rfl 108 _ _ rfl (w.heap.size + 1) 0 (arr 16 (d16 (pwm (S a 16) f i))) rfl rfl ?there (info108 _) (arr_one _ _) ?_))
   case there => rw [arr_size]; exact R2.there
   exact bodyPost_ret (v := .agg (arr 16 (d16 (pwm (S a 16) f i)))) (results_cell_row Tryz.results88 _ _ (w.heap.size + 1) 108 (arr 16 (d16 (pwm (S a 16) f i))) (0, 0) _ rfl RR.out Tryz.underlying108 rfl (info108 _)) rfl ⟨rfl, OO.out⟩
open Go.RowKit
section
variable {P : Program} {ops : Array Oper} {md : Region.Mode} {Q : Exit → Act → World → Prop}
theorem region_cut {id : Nat} {a : Act} {w : World} (R : Act → Act → World → Prop) (hm : P.follows .mixedOrders = true) (h2 : ∀ a' w', R a a' w' → Q .normal a' w')
  (h1 : (∀ a' w', R a a' w' → Q .normal a' w') → wpAny P .any ops Q ops.size (Array.replicate ops.size false) a w.drew) : (Code.region id ops true).wp P Q a w :=
 wp_region_any hm (h1 h2)
theorem ready_step {fuel : Nat} {listed : Array Bool} {a : Act} {w : World} {i : Nat} {o : Oper} {rs : List Nat} (ho : ops[i]? = some o) (hg : o.guard = none)
  (h : o.wp P a w (wpAny P md ops Q fuel (listed.setIfInBounds i true)) Q) (hs : AllReady P md ops Q fuel listed a w rs) : AllReady P md ops Q fuel listed a w (i :: rs) :=
 AllReady.cons ho (fun K' hK => by
  have hw : Region.wanted o (yielded ops a.tmps) = true := by simp [Region.wanted, hg]
  rw [if_pos hw]
  exact Oper.wp_mono hK h) hs
theorem op_load_row {o : Oper} {a : Act} {w : World} {K : Act → World → Prop} (ty : TypeId) (x : Operand) (ho : o.op = .load ty x) (g : Nat) (hx : a.eval x = .pointer (some ⟨g, 0, none⟩)) (t : TypeId) (cs : Array Value) (fr : Nat × Nat) (d : TypeDesc)
  (hg : w.heap[g]? = some (.cells cs t fr)) (hu : P.underlying ty = some d) (hd : (match d with | .struct _ | .array _ _ => true | _ => false) = true) (hi : (P.info? ty).map (·.size) = some cs.size)
  (hk : K (a.put o.dst (.agg cs)) w) : o.wp P a w K Q := by
 unfold Oper.wp execOp
 simp only [ho, hx, Instr.loadAt, Instr.sureAddr, Sem.run_bind, Sem.run_pure, Result.andThen_ok, run_loadVar_row w g t ty cs fr d hg hu hd hi]
 exact hk
theorem op_call {o : Oper} {a : Act} {w : World} {K : Act → World → Prop} {f : FuncId} {args : Array Value} (hrun : (execOp a.eval o).run P w = .ok (.enter f args) w)
  (h : Calls P f args w fun e w' => ∃ v, e = .returned v ∧ K (a.put o.dst v) w') : o.wp P a w K Q := by
 unfold Oper.wp
 rw [hrun]
 exact h.mono fun e w' ⟨v, he, hk⟩ => by subst he; exact hk
theorem ready_load {fuel : Nat} {listed : Array Bool} {a : Act} {w : World} {i : Nat} {o : Oper} {rs : List Nat} (ho : ops[i]? = some o) (hgd : o.guard = none) (ty : TypeId) (x : Operand) (hop : o.op = .load ty x) (g : Nat) (hx : a.eval x = .pointer (some ⟨g, 0, none⟩)) (t : TypeId) (cs : Array Value) (fr : Nat × Nat) (d : TypeDesc)
  (hg : w.heap[g]? = some (.cells cs t fr)) (hu : P.underlying ty = some d) (hd : (match d with | .struct _ | .array _ _ => true | _ => false) = true) (hi : (P.info? ty).map (·.size) = some cs.size)
  (hk : wpAny P md ops Q fuel (listed.setIfInBounds i true) (a.put o.dst (.agg cs)) w) (hs : AllReady P md ops Q fuel listed a w rs) : AllReady P md ops Q fuel listed a w (i :: rs) :=
 ready_step ho hgd (op_load_row ty x hop g hx t cs fr d hg hu hd hi hk) hs
theorem ready_call {fuel : Nat} {listed : Array Bool} {a : Act} {w : World} {i : Nat} {o : Oper} {rs : List Nat} (f : FuncId) (args : Array Value) (ho : ops[i]? = some o) (hgd : o.guard = none) (hrun : (execOp a.eval o).run P w = .ok (.enter f args) w)
  (h : Calls P f args w fun e w' => ∃ v, e = .returned v ∧ wpAny P md ops Q fuel (listed.setIfInBounds i true) (a.put o.dst v) w') (hs : AllReady P md ops Q fuel listed a w rs) : AllReady P md ops Q fuel listed a w (i :: rs) :=
 ready_step ho hgd (op_call hrun h) hs
theorem ready_store {fuel : Nat} {listed : Array Bool} {a : Act} {w : World} {i : Nat} {o : Oper} {rs : List Nat} (ho : ops[i]? = some o) (hgd : o.guard = none) (ty : TypeId) (x y : Operand) (hop : o.op = .store ty x y) (b k : Nat) (cells : Array Value)
  (hx : a.eval x = .pointer (some ⟨b, k, none⟩)) (hy : a.eval y = .agg cells) (ht : w.there b k cells.size) (hi : (P.info? ty).map (·.size) = some cells.size) (h1 : cells.all (·.oneCell') = true)
  (h : wpAny P md ops Q fuel (listed.setIfInBounds i true) (a.put o.dst undef) (w.setCells b k cells.toList)) (hs : AllReady P md ops Q fuel listed a w rs) : AllReady P md ops Q fuel listed a w (i :: rs) :=
 ready_step ho hgd (wp_store_mid ty x y hop b k cells hx hy ht hi h1 h) hs
end
open Go.RowKit
theorem rinv_any (a : NI) (w : World) (ha : Dig a 16) : Cs 60 #[.agg (arr 16 a)] w (.agg (arr 16 (d16 (pwm (S a 16) (xbit 255 21) 255)))) := by
 go_enter Tryz.func60, Tryz.ntmps60
 go_wp2_with fail
 rw [show #[Value.int .u64 0, Value.int .u64 0, Value.int .u64 0, Value.int .u64 0, Value.int .u64 0, Value.int .u64 0, Value.int .u64 0, Value.int .u64 0, Value.int .u64 0, Value.int .u64 0, Value.int .u64 0, Value.int .u64 0, Value.int .u64 0, Value.int .u64 0, Value.int .u64 0, Value.int .u64 0] = arr 16 (fun _ => 0) from rfl]
 have R1 : Row ((w.alloc (.cells (arr 16 a) 108)).alloc (.cells (arr 16 fun _ => 0) 108)) w.heap.size 108 16 a := (Row.new w 108 16 a).alloc _
 have R2 : Row ((w.alloc (.cells (arr 16 a) 108)).alloc (.cells (arr 16 fun _ => 0) 108)) (w.heap.size + 1) 108 16 (fun _ => 0) := Row.new' _ 108 16 _ (by simp)
 have O : Below w.heap.size w ((w.alloc (.cells (arr 16 a) 108)).alloc (.cells (arr 16 fun _ => 0) 108)) := ((Below.refl _ _).alloc (Nat.le_refl _) _).alloc (by simp) _
 generalize ((w.alloc (.cells (arr 16 a) 108)).alloc (.cells (arr 16 fun _ => 0) 108)) = W at R1 R2 O ⊢
 refine region_cut (fun a0 a' w' => ∃ b : Nat, a' = ((a0.put (some 3) (.agg (arr 16 a))).put (some 4) (.slice (some ⟨b, 0, none⟩) 255 255)).put (some 5) (.agg (arr 16 (d16 (pwm (S a 16) (xbit 255 21) 255)))) ∧ Row w' (w.heap.size + 1) 108 16 (d16 (pwm (S a 16) (xbit 255 21) 255)) ∧ Below w.heap.size w w') (by kernel_rfl) ?_ ?_
 ·clear R1 R2 O
  rintro _ w' ⟨b, rfl, R, O⟩
  go_wp2
  exact bodyPost_ret (v := .agg (arr 16 (d16 (pwm (S a 16) (xbit 255 21) 255)))) (results_cell_row Tryz.results60 _ _ (w.heap.size + 1) 108 (arr 16 (d16 (pwm (S a 16) (xbit 255 21) 255))) (0, 0) _ rfl R Tryz.underlying108 rfl (info108 _)) rfl ⟨rfl, O⟩
 ·intro hrest
  replace R1 := rowD R1
  replace R2 := rowD R2
  replace O := O.drew
  refine wpAny_ready (rs := [0, 1]) (by kernel_rfl) (by simp) ?_
  refine ready_load rfl rfl 108 _ rfl w.heap.size (by kernel_rfl) 108 (arr 16 a) (0, 0) _ R1 Tryz.underlying108 rfl (info108 _) ?_ ?_
  ·refine wpAny_ready (rs := [1]) (by kernel_rfl) (by simp) ?_
   refine ready_call 89 #[.int .i64 255, .int .i64 21] rfl rfl (by kernel_rfl) ?_ ?_
   ·refine (bits_255 _).mono ?_
    rintro _ w2 ⟨b, rfl, _, HB, hb2⟩
    refine ⟨_, rfl, ?_⟩
    replace R1 := R1.keep hb2
    replace R2 := R2.keep hb2
    replace O := O.trans (hb2.mono O.size)
    clear hb2
    refine wpAny_ready (rs := [2]) (by kernel_rfl) (by simp) ?_
    refine ready_call 88 #[.agg (arr 16 a), .slice (some ⟨b, 0, none⟩) 255 255] rfl rfl (by kernel_rfl) ?_ ?_
    ·refine (power_any a 255 _ b _ ha HB (by decide)).mono ?_
     rintro _ w3 ⟨rfl, hb3⟩
     refine ⟨_, rfl, ?_⟩
     replace R1 := R1.keep hb3
     replace R2 := R2.keep hb3
     replace HB := HB.keep hb3
     replace O := O.trans (hb3.mono O.size)
     clear hb3
     refine wpAny_ready (rs := [3]) (by kernel_rfl) (by simp) ?_
     refine ready_store rfl rfl 108 _ _ rfl (w.heap.size + 1) 0 (arr 16 (d16 (pwm (S a 16) (xbit 255 21) 255))) (by kernel_rfl) (by kernel_rfl) (by rw [arr_size]; exact R2.there) (info108 _) (arr_one _ _) ?_ ?_
     ·exact wpAny_done (by kernel_rfl) (hrest _ _ ⟨b, by kernel_rfl, R2.setAll _, below_setCells (by omega) _ _ O⟩) _
     exact AllReady.nil
    exact AllReady.nil
   exact AllReady.nil
  refine ready_call 89 #[.int .i64 255, .int .i64 21] rfl rfl (by kernel_rfl) ?_ ?_
  ·refine (bits_255 _).mono ?_
   rintro _ w5 ⟨b, rfl, _, HB, hb5⟩
   refine ⟨_, rfl, ?_⟩
   replace R1 := R1.keep hb5
   replace R2 := R2.keep hb5
   replace O := O.trans (hb5.mono O.size)
   clear hb5
   refine wpAny_ready (rs := [0]) (by kernel_rfl) (by simp) ?_
   refine ready_load rfl rfl 108 _ rfl w.heap.size (by kernel_rfl) 108 (arr 16 a) (0, 0) _ R1 Tryz.underlying108 rfl (info108 _) ?_ ?_
   ·refine wpAny_ready (rs := [2]) (by kernel_rfl) (by simp) ?_
    refine ready_call 88 #[.agg (arr 16 a), .slice (some ⟨b, 0, none⟩) 255 255] rfl rfl (by kernel_rfl) ?_ ?_
    ·refine (power_any a 255 _ b _ ha HB (by decide)).mono ?_
     rintro _ w7 ⟨rfl, hb7⟩
     refine ⟨_, rfl, ?_⟩
     replace R1 := R1.keep hb7
     replace R2 := R2.keep hb7
     replace HB := HB.keep hb7
     replace O := O.trans (hb7.mono O.size)
     clear hb7
     refine wpAny_ready (rs := [3]) (by kernel_rfl) (by simp) ?_
     refine ready_store rfl rfl 108 _ _ rfl (w.heap.size + 1) 0 (arr 16 (d16 (pwm (S a 16) (xbit 255 21) 255))) (by kernel_rfl) (by kernel_rfl) (by rw [arr_size]; exact R2.there) (info108 _) (arr_one _ _) ?_ ?_
     ·exact wpAny_done (by kernel_rfl) (hrest _ _ ⟨b, by kernel_rfl, R2.setAll _, below_setCells (by omega) _ _ O⟩) _
     exact AllReady.nil
    exact AllReady.nil
   exact AllReady.nil
  exact AllReady.nil
open Go.RowKit
theorem Cg.pow {x y : Int} (h : Cg x y) : ∀ n : Nat, Cg (x ^ n) (y ^ n)
 | 0 => by rw [Int.pow_zero, Int.pow_zero]; exact Cg.refl _
 | n + 1 => by
  rw [Int.pow_succ, Int.pow_succ]
  exact (Cg.pow h n).mul h
theorem sqz_pow : ∀ (n : Nat) (y : Int), sqz y n = y ^ (2 ^ n)
 | 0, y => by simp [sqz, Int.pow_succ]
 | n + 1, y => by
  unfold sqz
  rw [sqz_pow n, Nat.pow_succ, Nat.mul_comm, Int.pow_mul, Int.pow_succ, Int.pow_succ, Int.pow_zero, Int.one_mul]
theorem onz_pow (x : Int) : ∀ n : Nat, onz x n = x ^ (2 ^ n - 1)
 | 0 => by simp [onz]
 | n + 1 => by
  have hp : 0 < 2 ^ n := Nat.two_pow_pos n
  unfold onz
  rw [onz_pow x n, ← Int.pow_add, ← Int.pow_succ]
  congr 1
  rw [Nat.pow_succ]
  omega
def exf (f : Nat → Bool) : Nat → Nat
 | 0 => 0
 | i + 1 => 2 * exf f i + (f i).toNat
theorem pwm_pow (x : Int) (f : Nat → Bool) : ∀ i, Cg (pwm x f i) (x ^ exf f i)
 | 0 => by simp [pwm, exf]; exact Cg.refl _
 | i + 1 => by
  have ih := pwm_pow x f i
  have h2 : Cg (pwm x f i * pwm x f i % Pm) (x ^ (2 * exf f i)) := by
   refine (cg_emod _).trans ?_
   rw [Nat.two_mul, Int.pow_add]
   exact ih.mul ih
  unfold pwm exf
  cases hf : f i
  ·rw [if_neg (by simp)]
   exact h2
  ·rw [if_pos rfl]
   refine (cg_emod _).trans ?_
   rw [Bool.toNat_true, Int.pow_succ]
   exact h2.mul (Cg.refl x)
theorem ex255 : exf (xbit 255 21) 255 = 2 ^ 255 - 21 := by decide +kernel
theorem invF_pow (x : E5) : Cg (invF x).n (x.n ^ (2 ^ 255 - 21)) := by
 refine (invF_n x).trans (Cg.of_eq ?_)
 rw [sqz_pow, sqz_pow, onz_pow, onz_pow, ← Int.pow_mul, ← Int.pow_add, ← Int.pow_add]
theorem rinv_val {x : E5} {A : Int} (h : Cg x.n A) : Cg (invF x).n (pwm A (xbit 255 21) 255) := by
 refine (invF_pow x).trans ((h.pow _).trans ?_)
 rw [← ex255]
 exact (pwm_pow A _ 255).symm
open Go.RowKit
def ad (a b : NI) (k : Nat) : Nat → Int := fun i => wid a 16 i + if i < k then b i else 0
theorem ad_48 {a b : NI} (ha : Dig a 16) (hb : Dig b 16) : B48 (ad a b 16) := ⟨fun i _ => by
 unfold ad wid
 by_cases hi : i < 16
 ·rw [if_pos hi, if_pos hi]
  have := ha i hi
  have := hb i hi
  omega
 ·rw [if_neg hi, if_neg hi]
  omega⟩
theorem S_add (f g : NI) : ∀ n, S (fun i => f i + g i) n = S f n + S g n
 | 0 => rfl
 | n + 1 => by
  have ih := S_add f g n
  simp only [S]
  rw [ih, Int.add_mul]
  omega
theorem ad_S (a b : NI) : S (ad a b 16) 32 = S a 16 + S b 16 := by
 have e : S (ad a b 16) 32 = S (wid a 16) 32 + S (wid b 16) 32 := by
  rw [← S_add]
  exact S_congr fun i _ => rfl
 rw [e, wid_S, wid_S]
theorem radd_any (a b : NI) (w : World) (ha : Dig a 16) (hb : Dig b 16) : Cs 57 #[.agg (arr 16 a), .agg (arr 16 b)] w (.agg (arr 16 (d16 ((S a 16 + S b 16) % Pm)))) := by
 go_enter Tryz.func57, Tryz.ntmps57
 have R1 : Row (((w.alloc (.cells (arr 16 a) 108)).alloc (.cells (arr 16 b) 108)).alloc (.cells (arr 16 fun _ => 0) 108)) w.heap.size 108 16 a := ((Row.new w 108 16 a).alloc _).alloc _
 have R2 : Row (((w.alloc (.cells (arr 16 a) 108)).alloc (.cells (arr 16 b) 108)).alloc (.cells (arr 16 fun _ => 0) 108)) (w.heap.size + 1) 108 16 b := (Row.new' _ 108 16 _ (by simp)).alloc _
 have R3 : Row (((w.alloc (.cells (arr 16 a) 108)).alloc (.cells (arr 16 b) 108)).alloc (.cells (arr 16 fun _ => 0) 108)) (w.heap.size + 1 + 1) 108 16 (fun _ => 0) := Row.new' _ 108 16 _ (by simp)
 have O : Below w.heap.size w (((w.alloc (.cells (arr 16 a) 108)).alloc (.cells (arr 16 b) 108)).alloc (.cells (arr 16 fun _ => 0) 108)) := (((Below.refl _ _).alloc (Nat.le_refl _) _).alloc (by simp) _).alloc (by simp; omega) _
 have HR := hide R1
 go_wp2_with (refine wpList_load_row rfl 108 _ rfl w.heap.size rfl 108 (arr 16 a) (0, 0) _ HR.out Tryz.underlying108 rfl (info108 _) ?_)
 clear HR R1
 rw [show #[Value.int .u64 0, Value.int .u64 0, Value.int .u64 0, Value.int .u64 0, Value.int .u64 0, Value.int .u64 0, Value.int .u64 0, Value.int .u64 0, Value.int .u64 0, Value.int .u64 0, Value.int .u64 0, Value.int .u64 0, Value.int .u64 0, Value.int .u64 0, Value.int .u64 0, Value.int .u64 0] = arr 16 (fun _ => 0) from rfl]
 refine (wide_any a _).mono ?_
 rintro _ w1 ⟨rfl, hb1⟩
 replace R2 := R2.keep hb1
 replace R3 := R3.keep hb1
 replace O := O.trans (hb1.mono O.size)
 clear hb1
 have gt1 := R3.lt
 have R : Row (w1.alloc (.cells #[Value.int .u64 0, Value.int .u64 0, Value.int .u64 0, Value.int .u64 0, Value.int .u64 0, Value.int .u64 0, Value.int .u64 0, Value.int .u64 0, Value.int .u64 0, Value.int .u64 0, Value.int .u64 0, Value.int .u64 0, Value.int .u64 0, Value.int .u64 0, Value.int .u64 0, Value.int .u64 0, Value.int .u64 0, Value.int .u64 0, Value.int .u64 0, Value.int .u64 0, Value.int .u64 0, Value.int .u64 0, Value.int .u64 0, Value.int .u64 0, Value.int .u64 0, Value.int .u64 0, Value.int .u64 0, Value.int .u64 0, Value.int .u64 0, Value.int .u64 0, Value.int .u64 0, Value.int .u64 0] 135)) w1.heap.size 135 32 (fun _ => 0) := Row.new w1 135 32 (fun _ => 0)
 have BB := below_setCells (g := w1.heap.size) (Nat.le_refl _) (arr 32 (wid a 16)).toList 0 (new_below w1 (.cells #[Value.int .u64 0, Value.int .u64 0, Value.int .u64 0, Value.int .u64 0, Value.int .u64 0, Value.int .u64 0, Value.int .u64 0, Value.int .u64 0, Value.int .u64 0, Value.int .u64 0, Value.int .u64 0, Value.int .u64 0, Value.int .u64 0, Value.int .u64 0, Value.int .u64 0, Value.int .u64 0, Value.int .u64 0, Value.int .u64 0, Value.int .u64 0, Value.int .u64 0, Value.int .u64 0, Value.int .u64 0, Value.int .u64 0, Value.int .u64 0, Value.int .u64 0, Value.int .u64 0, Value.int .u64 0, Value.int .u64 0, Value.int .u64 0, Value.int .u64 0, Value.int .u64 0, Value.int .u64 0] 135))
 have RR := hide (R.setAll (wid a 16))
 have R2' := hide (R2.keep BB)
 have R3' := hide (R3.keep BB)
 have O' := hide (O.trans (BB.mono O.size))
 clear R2 R3 O BB
 go_wp2_with (refine wpList_store_mid rfl 135 _ _ rfl w1.heap.size 0 (arr 32 (wid a 16)) rfl rfl (by rw [arr_size]; exact R.there) (info135 _) (arr_one _ _) ?_)
 try rw [show ∀ (a : Act) (v : Value), a.put none v = a from fun _ _ => rfl]
 replace R := RR.out
 have R2 := R2'.out
 have R3 := R3'.out
 have O := O'.out
 clear RR R2' R3' O'
 generalize w1.heap.size = gt at *
 generalize (w1.alloc (.cells #[Value.int .u64 0, Value.int .u64 0, Value.int .u64 0, Value.int .u64 0, Value.int .u64 0, Value.int .u64 0, Value.int .u64 0, Value.int .u64 0, Value.int .u64 0, Value.int .u64 0, Value.int .u64 0, Value.int .u64 0, Value.int .u64 0, Value.int .u64 0, Value.int .u64 0, Value.int .u64 0, Value.int .u64 0, Value.int .u64 0, Value.int .u64 0, Value.int .u64 0, Value.int .u64 0, Value.int .u64 0, Value.int .u64 0, Value.int .u64 0, Value.int .u64 0, Value.int .u64 0, Value.int .u64 0, Value.int .u64 0, Value.int .u64 0, Value.int .u64 0, Value.int .u64 0, Value.int .u64 0] 135)).setCells gt 0 (arr 32 (wid a 16)).toList = W2 at *
 go_loopw [6] (fun i wr => ∃ k : Nat, k ≤ 16 ∧ i = .int .i64 k ∧ Row wr gt 135 32 (ad a b k) ∧ Row wr (w.heap.size + 1) 108 16 b ∧ Row wr (w.heap.size + 1 + 1) 108 16 (fun _ => 0) ∧ Below w.heap.size w wr) (fun i _ => 16 - (intOf i).toNat)
 case atStart => exact ⟨0, by omega, rfl, R.congr (fun i _ => by unfold ad; rw [if_neg (by omega)]; omega), R2, R3, O⟩
 case round =>
  clear R R2 R3 O
  obtain ⟨k, hk, rfl, R, R2, R3, O⟩ := hrel
  by_cases hlt : k < 16
  ·have c := R.cell (i := k) (by omega)
   rw [show ad a b k k = a k by unfold ad wid; rw [if_pos hlt, if_neg (by omega)]; omega] at c
   have d := R2.cell hlt
   have e := R.free
   obtain ⟨a0, a1⟩ := ha k hlt
   obtain ⟨b0, b1⟩ := hb k hlt
   have i1 : (0 : Int) ≤ (k : Int) := by omega
   have i2 : (k : Int) < 16 := by omega
   go_wp2_with fail
   go_region
   go_wp2
   exact ⟨⟨k + 1, by omega, by go_num, rowD ((R.set k (a k + b k)).congr (fun i _ => by
    unfold upd ad
    by_cases h : i = k
    ·subst h
     rw [if_pos rfl, if_pos (by omega)]
     unfold wid
     rw [if_pos hlt]
    ·rw [if_neg h]
     by_cases h2 : i < k
     ·rw [if_pos h2, if_pos (by omega)]
     ·rw [if_neg h2, if_neg (by omega)])), rowD (R2.other (a := ⟨gt, k, none⟩) (by simp; omega) _), rowD (R3.other (a := ⟨gt, k, none⟩) (by simp; omega) _), (O.setCell (p := ⟨gt, k, none⟩) (by simp; omega) _).drew⟩, by simp [intOf]; omega⟩
  ·have hk' : k = 16 := by omega
   subst hk'
   have HR := hide R
   clear R R2
   go_wp2_with (refine wpList_load_row rfl 135 _ rfl gt rfl 135 (arr 32 (ad a b 16)) (0, 0) _ HR.out Tryz.underlying135 rfl (info135 _) ?_)
   try rw [show ∀ (a : Act) (v : Value), a.put none v = a from fun _ _ => rfl]
   refine (reduce_any (ad a b 16) _ (ad_48 ha hb)).mono ?_
   rintro _ w3 ⟨rfl, hb3⟩
   replace R3 := R3.keep hb3
   replace O := O.trans (hb3.mono O.size)
   clear hb3 HR
   rw [ad_S]
   have RR := hide (R3.setAll (d16 ((S a 16 + S b 16) % Pm)))
   have OO := hide (below_setCells (g := w.heap.size + 1 + 1) (by omega) (arr 16 (d16 ((S a 16 + S b 16) % Pm))).toList 0 O)
   go_wp2_with (refine wpList_store_mid rfl 108 _ _ rfl (w.heap.size + 1 + 1) 0 (arr 16 (d16 ((S a 16 + S b 16) % Pm))) rfl rfl (by rw [arr_size]; exact R3.there) (info108 _) (arr_one _ _) ?_)
   exact bodyPost_ret (v := .agg (arr 16 (d16 ((S a 16 + S b 16) % Pm)))) (results_cell_row Tryz.results57 _ _ (w.heap.size + 1 + 1) 108 (arr 16 (d16 ((S a 16 + S b 16) % Pm))) (0, 0) _ rfl RR.out Tryz.underlying108 rfl (info108 _)) rfl ⟨rfl, OO.out⟩
open Go.RowKit
theorem neg_zero {a : NI} (h : eqw a (fun _ => 0) 0 16 = true) : arr 16 (d16 ((- S a 16) % Pm)) = arr 16 a := by
 have hz := (eqw_iff a (fun _ => 0) 16 0).1 h
 have e : S a 16 = 0 := by rw [S_congr (g := fun _ => 0) fun i hi => hz i (by omega) (by omega), S_zero]
 rw [e]
 refine arr_congr fun i hi => ?_
 rw [hz i (by omega) (by omega)]
 simp [d16]
theorem neg_some {a : NI} (ha : Dig a 16) (hlt : S a 16 < Pm) (h : eqw a (fun _ => 0) 0 16 = false) : arr 16 (d16 ((- S a 16) % Pm)) = arr 16 (minusF pF a) := by
 have hm : S (minusF pF a) 16 = Pm - S a 16 := by rw [minus_le pF_dig ha (by rw [pF_S]; omega), pF_S]
 have h0 := (S_bd ha).1
 have hne : S a 16 ≠ 0 := by
  intro e
  have hz : ∀ i, i < 16 → a i = 0 := fun i hi => S_inj (f := a) (g := fun _ => 0) ha (fun _ _ => ⟨Int.le_refl 0, (by decide : (0 : Int) < 65536)⟩) (by rw [e, S_zero]) i hi
  have := (eqw_iff a (fun _ => 0) 16 0).2 fun i _ hi => hz i (by omega)
  rw [this] at h
  cases h
 exact fin_eq (minusF_dig pF a 16) (by rw [hm]; exact ⟨1, by omega⟩) (by rw [hm]; omega)
theorem rneg_any (a : NI) (w : World) (ha : Dig a 16) (hlt : S a 16 < Pm) : Cs 87 #[.agg (arr 16 a)] w (.agg (arr 16 (d16 ((- S a 16) % Pm)))) := by
 have hgu : Tryz.prog.eqGuardType Tryz.prog.depth 108 = false := by kernel_rfl
 have he : ∀ w, (binOp .eql 108 (.agg (arr 16 a)) (.agg #[Value.int .u64 0, Value.int .u64 0, Value.int .u64 0, Value.int .u64 0, Value.int .u64 0, Value.int .u64 0, Value.int .u64 0, Value.int .u64 0, Value.int .u64 0, Value.int .u64 0, Value.int .u64 0, Value.int .u64 0, Value.int .u64 0, Value.int .u64 0, Value.int .u64 0, Value.int .u64 0])).run Tryz.prog w = .ok (.bool (eqw a (fun _ => 0) 0 16)) w := fun w => run_eql_words 108 16 a (fun _ => 0) w Tryz.underlying108
 have R1 : Row ((w.alloc (.cells (arr 16 a) 108)).alloc (.cells #[Value.int .u64 0, Value.int .u64 0, Value.int .u64 0, Value.int .u64 0, Value.int .u64 0, Value.int .u64 0, Value.int .u64 0, Value.int .u64 0, Value.int .u64 0, Value.int .u64 0, Value.int .u64 0, Value.int .u64 0, Value.int .u64 0, Value.int .u64 0, Value.int .u64 0, Value.int .u64 0] 108)) w.heap.size 108 16 a := (Row.new w 108 16 a).alloc _
 have R3 : Row ((w.alloc (.cells (arr 16 a) 108)).alloc (.cells #[Value.int .u64 0, Value.int .u64 0, Value.int .u64 0, Value.int .u64 0, Value.int .u64 0, Value.int .u64 0, Value.int .u64 0, Value.int .u64 0, Value.int .u64 0, Value.int .u64 0, Value.int .u64 0, Value.int .u64 0, Value.int .u64 0, Value.int .u64 0, Value.int .u64 0, Value.int .u64 0] 108)) (w.heap.size + 1) 108 16 (fun _ => 0) := Row.new' _ 108 16 (fun _ => 0) (by simp)
 have O : Below w.heap.size w ((w.alloc (.cells (arr 16 a) 108)).alloc (.cells #[Value.int .u64 0, Value.int .u64 0, Value.int .u64 0, Value.int .u64 0, Value.int .u64 0, Value.int .u64 0, Value.int .u64 0, Value.int .u64 0, Value.int .u64 0, Value.int .u64 0, Value.int .u64 0, Value.int .u64 0, Value.int .u64 0, Value.int .u64 0, Value.int .u64 0, Value.int .u64 0] 108)) := ((Below.refl _ _).alloc (Nat.le_refl _) _).alloc (by simp) _
 have H1 := hide R1
 have H3 := hide R3
 have H4 := hide O
 clear R1 R3 O
 cases hz : eqw a (fun _ => 0) 0 16
 ·rw [hz] at he
  have HE := hide (neg_some ha hlt hz)
  clear hz
  go_enter Tryz.func87, Tryz.ntmps87
  go_wp2_with (refine wpList_load_row rfl 108 _ rfl w.heap.size rfl 108 (arr 16 a) (0, 0) _ H1.out Tryz.underlying108 rfl (info108 _) ?_)
  try rw [show ∀ (a : Act) (v : Value), a.put none v = a from fun _ _ => rfl]
  have R1 := H1.out
  have R3 := H3.out
  have O := H4.out
  clear H1 H3 H4
  generalize (w.alloc (.cells (arr 16 a) 108)).alloc (.cells #[Value.int .u64 0, Value.int .u64 0, Value.int .u64 0, Value.int .u64 0, Value.int .u64 0, Value.int .u64 0, Value.int .u64 0, Value.int .u64 0, Value.int .u64 0, Value.int .u64 0, Value.int .u64 0, Value.int .u64 0, Value.int .u64 0, Value.int .u64 0, Value.int .u64 0, Value.int .u64 0] 108) = W at *
  have hne := KW.some W
  have hg3 : ∀ w', (∃ s : KW W, w' = s.w) → w'.heap[w.heap.size]? = some (.cells (arr 16 a) 108 (0, 0)) := by
   rintro _ ⟨s, rfl⟩
   exact R1.keep s.keep
  have HG := hide hg3
  clear hg3 R1 he hgu
  refine wp_region_keep_tail 3 (by kernel_rfl) (by kernel_rfl) ?_
  simp only [List.take_succ_cons, List.take_zero, List.drop_succ_cons, List.drop_zero]
  go_big_quiet_step ((exact keep_of (prime_any _)))
  go_big_quiet_want
  refine quiet_load_row 108 _ rfl w.heap.size rfl 108 (arr 16 a) (0, 0) _ HG.out Tryz.underlying108 rfl (info108 _) ?_
  go_simp
  go_big_quiet_on
  go_big_quiet_step ((exact keep_of (minus_any pF a _ pF_dig ha)))
  refine wpQuiet_nil ?_
  intro s
  replace R3 := R3.keep s.keep
  replace O := O.trans (s.keep.mono O.size)
  generalize s.w = W8 at R3 O ⊢
  have RR := hide (R3.setAll (minusF pF a))
  have OO := hide (below_setCells (g := w.heap.size + 1) (by omega) (arr 16 (minusF pF a)).toList 0 O)
  clear HG hne
  go_wp2_with (refine wpList_store_mid rfl 108 _ _ rfl (w.heap.size + 1) 0 (arr 16 (minusF pF a)) rfl rfl (by rw [arr_size]; exact R3.there) (info108 _) (arr_one _ _) ?_)
  exact bodyPost_ret (v := .agg (arr 16 (minusF pF a))) (results_cell_row Tryz.results87 _ _ (w.heap.size + 1) 108 (arr 16 (minusF pF a)) (0, 0) _ rfl RR.out Tryz.underlying108 rfl (info108 _)) rfl ⟨by rw [HE.out], OO.out⟩
 ·rw [hz] at he
  have HE := hide (neg_zero hz)
  clear hz
  have RR := hide (H3.out.setAll a)
  have OO := hide (below_setCells (g := w.heap.size + 1) (by omega) (arr 16 a).toList 0 H4.out)
  go_enter Tryz.func87, Tryz.ntmps87
  go_wp2_with (first | (refine wpList_load_row rfl 108 _ rfl w.heap.size rfl 108 (arr 16 a) (0, 0) _ H1.out Tryz.underlying108 rfl (info108 _) ?_) | (refine wpList_store_mid rfl 108 _ _ rfl (w.heap.size + 1) 0 (arr 16 a) rfl rfl (by rw [arr_size]; exact H3.out.there) (info108 _) (arr_one _ _) ?_))
  exact bodyPost_ret (v := .agg (arr 16 a)) (results_cell_row Tryz.results87 _ _ (w.heap.size + 1) 108 (arr 16 a) (0, 0) _ rfl RR.out Tryz.underlying108 rfl (info108 _)) rfl ⟨by rw [HE.out], OO.out⟩
theorem sub_val {a b : NI} : (S a 16 + S (d16 ((- S b 16) % Pm)) 16) % Pm = (S a 16 - S b 16) % Pm := by
 have h0 : 0 ≤ (- S b 16) % Pm := Int.emod_nonneg _ (by decide)
 have h1 : (- S b 16) % Pm < Pm := Int.emod_lt_of_pos _ (by decide)
 have hP : Pm < 65536 ^ 16 := by decide
 rw [d16_S _ h0, Int.emod_eq_of_lt h0 (by omega)]
 exact ((Cg.refl (S a 16)).add (cg_emod (- S b 16))).emod
theorem rsub_any (a b : NI) (w : World) (ha : Dig a 16) (hb : Dig b 16) (hlt : S b 16 < Pm) : Cs 59 #[.agg (arr 16 a), .agg (arr 16 b)] w (.agg (arr 16 (d16 ((S a 16 - S b 16) % Pm)))) := by
 have hcall : ∀ w, Cs 57 #[.agg (arr 16 a), .agg (arr 16 (d16 ((- S b 16) % Pm)))] w (.agg (arr 16 (d16 ((S a 16 - S b 16) % Pm)))) := fun w => by
  have := radd_any a (d16 ((- S b 16) % Pm)) w ha (d16_dig _ 16)
  rwa [sub_val] at this
 have HC := hide hcall
 clear hcall
 have R1 : Row (((w.alloc (.cells (arr 16 a) 108)).alloc (.cells (arr 16 b) 108)).alloc (.cells #[Value.int .u64 0, Value.int .u64 0, Value.int .u64 0, Value.int .u64 0, Value.int .u64 0, Value.int .u64 0, Value.int .u64 0, Value.int .u64 0, Value.int .u64 0, Value.int .u64 0, Value.int .u64 0, Value.int .u64 0, Value.int .u64 0, Value.int .u64 0, Value.int .u64 0, Value.int .u64 0] 108)) w.heap.size 108 16 a := ((Row.new w 108 16 a).alloc _).alloc _
 have R2 : Row (((w.alloc (.cells (arr 16 a) 108)).alloc (.cells (arr 16 b) 108)).alloc (.cells #[Value.int .u64 0, Value.int .u64 0, Value.int .u64 0, Value.int .u64 0, Value.int .u64 0, Value.int .u64 0, Value.int .u64 0, Value.int .u64 0, Value.int .u64 0, Value.int .u64 0, Value.int .u64 0, Value.int .u64 0, Value.int .u64 0, Value.int .u64 0, Value.int .u64 0, Value.int .u64 0] 108)) (w.heap.size + 1) 108 16 b := (Row.new' _ 108 16 _ (by simp)).alloc _
 have R3 : Row (((w.alloc (.cells (arr 16 a) 108)).alloc (.cells (arr 16 b) 108)).alloc (.cells #[Value.int .u64 0, Value.int .u64 0, Value.int .u64 0, Value.int .u64 0, Value.int .u64 0, Value.int .u64 0, Value.int .u64 0, Value.int .u64 0, Value.int .u64 0, Value.int .u64 0, Value.int .u64 0, Value.int .u64 0, Value.int .u64 0, Value.int .u64 0, Value.int .u64 0, Value.int .u64 0] 108)) (w.heap.size + 1 + 1) 108 16 (fun _ => 0) := Row.new' _ 108 16 (fun _ => 0) (by simp)
 have O : Below w.heap.size w (((w.alloc (.cells (arr 16 a) 108)).alloc (.cells (arr 16 b) 108)).alloc (.cells #[Value.int .u64 0, Value.int .u64 0, Value.int .u64 0, Value.int .u64 0, Value.int .u64 0, Value.int .u64 0, Value.int .u64 0, Value.int .u64 0, Value.int .u64 0, Value.int .u64 0, Value.int .u64 0, Value.int .u64 0, Value.int .u64 0, Value.int .u64 0, Value.int .u64 0, Value.int .u64 0] 108)) := (((Below.refl _ _).alloc (Nat.le_refl _) _).alloc (by simp) _).alloc (by simp; omega) _
 go_enter Tryz.func59, Tryz.ntmps59
 go_wp2_with fail
 generalize ((w.alloc (.cells (arr 16 a) 108)).alloc (.cells (arr 16 b) 108)).alloc (.cells #[Value.int .u64 0, Value.int .u64 0, Value.int .u64 0, Value.int .u64 0, Value.int .u64 0, Value.int .u64 0, Value.int .u64 0, Value.int .u64 0, Value.int .u64 0, Value.int .u64 0, Value.int .u64 0, Value.int .u64 0, Value.int .u64 0, Value.int .u64 0, Value.int .u64 0, Value.int .u64 0] 108) = W at *
 have hne := KW.some W
 have hg1 : ∀ w', (∃ s : KW W, w' = s.w) → w'.heap[w.heap.size]? = some (.cells (arr 16 a) 108 (0, 0)) := by
  rintro _ ⟨s, rfl⟩
  exact R1.keep s.keep
 have hg2 : ∀ w', (∃ s : KW W, w' = s.w) → w'.heap[w.heap.size + 1]? = some (.cells (arr 16 b) 108 (0, 0)) := by
  rintro _ ⟨s, rfl⟩
  exact R2.keep s.keep
 have HG1 := hide hg1
 have HG2 := hide hg2
 clear hg1 hg2 R1 R2
 refine wp_region_keep_tail 4 (by kernel_rfl) (by kernel_rfl) ?_
 simp only [List.take_succ_cons, List.take_zero, List.drop_succ_cons, List.drop_zero]
 go_big_quiet_want
 refine quiet_load_row 108 _ rfl w.heap.size rfl 108 (arr 16 a) (0, 0) _ HG1.out Tryz.underlying108 rfl (info108 _) ?_
 go_simp
 go_big_quiet_on
 go_big_quiet_want
 refine quiet_load_row 108 _ rfl (w.heap.size + 1) rfl 108 (arr 16 b) (0, 0) _ HG2.out Tryz.underlying108 rfl (info108 _) ?_
 go_simp
 go_big_quiet_on
 go_big_quiet_step ((exact keep_of (rneg_any b _ hb hlt)))
 go_big_quiet_step ((exact keep_of (HC.out _)))
 refine wpQuiet_nil ?_
 intro s
 replace R3 := R3.keep s.keep
 replace O := O.trans (s.keep.mono O.size)
 generalize s.w = W8 at R3 O ⊢
 have RR := hide (R3.setAll (d16 ((S a 16 - S b 16) % Pm)))
 have OO := hide (below_setCells (g := w.heap.size + 1 + 1) (by omega) (arr 16 (d16 ((S a 16 - S b 16) % Pm))).toList 0 O)
 clear HG1 HG2 hne HC
 go_wp2_with (refine wpList_store_mid rfl 108 _ _ rfl (w.heap.size + 1 + 1) 0 (arr 16 (d16 ((S a 16 - S b 16) % Pm))) rfl rfl (by rw [arr_size]; exact R3.there) (info108 _) (arr_one _ _) ?_)
 exact bodyPost_ret (v := .agg (arr 16 (d16 ((S a 16 - S b 16) % Pm)))) (results_cell_row Tryz.results59 _ _ (w.heap.size + 1 + 1) 108 (arr 16 (d16 ((S a 16 - S b 16) % Pm))) (0, 0) _ rfl RR.out Tryz.underlying108 rfl (info108 _)) rfl ⟨rfl, OO.out⟩
open Go.RowKit
def E5.f (x : E5) : Nat → Int := fun i => [x.a, x.b, x.c, x.d, x.e].getD i 0
def pj (x z : NI) : Nat → Int := fun i => if i < 5 then x i else z (i - 5)
section
variable {P : Program} {ops : Array Oper} {W : World} {Q : Act → Prop}
end
theorem results_two {P : Program} {fn : Func} {p q : Tmp} {ty tz : TypeId} (h : fn.results = #[.cell p ty, .cell q tz]) (tmps : Array Value) (w : World) (g k : Nat) (t t' : TypeId) (cs cs' : Array Value) (fr fr' : Nat × Nat) (d d' : TypeDesc)
  (hp : tmps.getD p undef = .pointer (some ⟨g, 0, none⟩)) (hq : tmps.getD q undef = .pointer (some ⟨k, 0, none⟩)) (hg : w.heap[g]? = some (.cells cs t fr)) (hk : w.heap[k]? = some (.cells cs' t' fr'))
  (hu : P.underlying ty = some d) (hd : (match d with | .struct _ | .array _ _ => true | _ => false) = true) (hi : (P.info? ty).map (·.size) = some cs.size)
  (hu' : P.underlying tz = some d') (hd' : (match d' with | .struct _ | .array _ _ => true | _ => false) = true) (hi' : (P.info? tz).map (·.size) = some cs'.size) :
  (results fn tmps).run P w = .ok (.tuple #[.agg cs, .agg cs']) w := by
 have hp' : tmps[p]?.getD undef = .pointer (some ⟨g, 0, none⟩) := by simpa using hp
 have hq' : tmps[q]?.getD undef = .pointer (some ⟨k, 0, none⟩) := by simpa using hq
 simp [results, h, hp', hq', asAddr, run_loadVar_row w g t ty cs fr d hg hu hd hi, run_loadVar_row w k t' tz cs' fr' d' hk hu' hd' hi']
open Go.RowKit
structure St where
 dx : E5
 dz : E5
 px : E5
 pz : E5
def stepF (ax az bx bz x : E5) : St :=
 let sm := addF ax az
 let df := subF ax az
 let aa := mulF sm sm
 let bb := mulF df df
 let ee := subF aa bb
 let da := mulF (subF bx bz) sm
 let cb := mulF (addF bx bz) df
 let ps := addF da cb
 let ms := subF da cb
 ⟨mulF aa bb, mulF ee (addF aa (mulF (smallF 121665) ee)), mulF ps ps, mulF x (mulF ms ms)⟩
structure St.Ok (s : St) : Prop where
 dx : s.dx.Ok
 dz : s.dz.Ok
 px : s.px.Ok
 pz : s.pz.Ok
theorem stepF_ok {ax az bx bz x : E5} (h1 : ax.Ok) (h2 : az.Ok) (h3 : bx.Ok) (h4 : bz.Ok) (h5 : x.Ok) : (stepF ax az bx bz x).Ok := by
 have k1 := addF_ok h1 h2
 have k2 := subF_ok h1 h2
 have k3 := mulF_ok k1 k1
 have k4 := mulF_ok k2 k2
 have k5 := subF_ok k3 k4
 have k6 := mulF_ok (subF_ok h3 h4) k1
 have k7 := mulF_ok (addF_ok h3 h4) k2
 have k8 := addF_ok k6 k7
 have k9 := subF_ok k6 k7
 have k0 := smallF_ok (n := 121665) (by decide) (by decide)
 exact ⟨mulF_ok k3 k4, mulF_ok k5 (addF_ok k3 (mulF_ok k0 k5)), mulF_ok k8 k8, mulF_ok h5 (mulF_ok k9 k9)⟩
theorem and1u {x : Int} (h0 : 0 ≤ x) (h1 : x < 256) : bits .and .u8 x 1 = x % 2 := by
 obtain ⟨X, rfl⟩ := Int.eq_ofNat_of_zero_le h0
 have hX : X < 256 := by omega
 have h : ∀ n : Fin 256, bits .and .u8 ((n.val : Nat) : Int) 1 = ((n.val : Nat) : Int) % 2 := by decide +kernel
 exact h ⟨X, hX⟩
def bit (s : Yb) (i : Nat) : Int := bt s (i / 8) / 2 ^ (i % 8) % 2
theorem bit_two (s : Yb) (i : Nat) : bit s i = 0 ∨ bit s i = 1 := by unfold bit; omega
theorem bitAt_any (s : Yb) (p : Nat) (w : World) (hs : p < 8 * s.size) (hp : p < 255) : Cs 115 #[.string s, .int .i64 (p : Int)] w (.int .i64 (bit s p)) := by
 have a1 : (0 : Int) ≤ (p : Int) / 8 := by omega
 have a2 : (p : Int) / 8 < (s.size : Int) := by omega
 have a4 : p / 8 < s.size := by omega
 have a5 := bt_at s (p / 8) a4
 have a6 := bt_bd s (p / 8)
 have HB := hide (show bit s p = bt s (p / 8) / 2 ^ (p % 8) % 2 from rfl)
 rcases (show p % 8 = 0 ∨ p % 8 = 1 ∨ p % 8 = 2 ∨ p % 8 = 3 ∨ p % 8 = 4 ∨ p % 8 = 5 ∨ p % 8 = 6 ∨ p % 8 = 7 by omega) with h8 | h8 | h8 | h8 | h8 | h8 | h8 | h8
 ·have a3 : (p : Int) % 8 = 0 := by omega
  have eb : bits BinOp.and IntKind.u8 (bt s (p / 8)) 1 = bt s (p / 8) % 2 := and1u (by omega) (by omega)
  have HV := hide (show bit s p = bt s (p / 8) % 2 by rw [HB.out, h8]; simp)
  clear h8 HB
  go_enter Tryz.func115, Tryz.ntmps115
  go_wp2
  go_ret
  exact ⟨by rw [HV.out]; rfl, Below.refl _ _⟩
 ·have a3 : (p : Int) % 8 = 1 := by omega
  have eb : bits BinOp.and IntKind.u8 (bt s (p / 8) / 2) 1 = bt s (p / 8) / 2 % 2 := and1u (by omega) (by omega)
  have HV := hide (show bit s p = bt s (p / 8) / 2 % 2 by rw [HB.out, h8]; simp)
  clear h8 HB
  go_enter Tryz.func115, Tryz.ntmps115
  go_wp2
  go_ret
  exact ⟨by rw [HV.out]; rfl, Below.refl _ _⟩
 ·have a3 : (p : Int) % 8 = 2 := by omega
  have eb : bits BinOp.and IntKind.u8 (bt s (p / 8) / 4) 1 = bt s (p / 8) / 4 % 2 := and1u (by omega) (by omega)
  have HV := hide (show bit s p = bt s (p / 8) / 4 % 2 by rw [HB.out, h8]; simp)
  clear h8 HB
  go_enter Tryz.func115, Tryz.ntmps115
  go_wp2
  go_ret
  exact ⟨by rw [HV.out]; rfl, Below.refl _ _⟩
 ·have a3 : (p : Int) % 8 = 3 := by omega
  have eb : bits BinOp.and IntKind.u8 (bt s (p / 8) / 8) 1 = bt s (p / 8) / 8 % 2 := and1u (by omega) (by omega)
  have HV := hide (show bit s p = bt s (p / 8) / 8 % 2 by rw [HB.out, h8]; simp)
  clear h8 HB
  go_enter Tryz.func115, Tryz.ntmps115
  go_wp2
  go_ret
  exact ⟨by rw [HV.out]; rfl, Below.refl _ _⟩
 ·have a3 : (p : Int) % 8 = 4 := by omega
  have eb : bits BinOp.and IntKind.u8 (bt s (p / 8) / 16) 1 = bt s (p / 8) / 16 % 2 := and1u (by omega) (by omega)
  have HV := hide (show bit s p = bt s (p / 8) / 16 % 2 by rw [HB.out, h8]; simp)
  clear h8 HB
  go_enter Tryz.func115, Tryz.ntmps115
  go_wp2
  go_ret
  exact ⟨by rw [HV.out]; rfl, Below.refl _ _⟩
 ·have a3 : (p : Int) % 8 = 5 := by omega
  have eb : bits BinOp.and IntKind.u8 (bt s (p / 8) / 32) 1 = bt s (p / 8) / 32 % 2 := and1u (by omega) (by omega)
  have HV := hide (show bit s p = bt s (p / 8) / 32 % 2 by rw [HB.out, h8]; simp)
  clear h8 HB
  go_enter Tryz.func115, Tryz.ntmps115
  go_wp2
  go_ret
  exact ⟨by rw [HV.out]; rfl, Below.refl _ _⟩
 ·have a3 : (p : Int) % 8 = 6 := by omega
  have eb : bits BinOp.and IntKind.u8 (bt s (p / 8) / 64) 1 = bt s (p / 8) / 64 % 2 := and1u (by omega) (by omega)
  have HV := hide (show bit s p = bt s (p / 8) / 64 % 2 by rw [HB.out, h8]; simp)
  clear h8 HB
  go_enter Tryz.func115, Tryz.ntmps115
  go_wp2
  go_ret
  exact ⟨by rw [HV.out]; rfl, Below.refl _ _⟩
 ·have a3 : (p : Int) % 8 = 7 := by omega
  have eb : bits BinOp.and IntKind.u8 (bt s (p / 8) / 128) 1 = bt s (p / 8) / 128 % 2 := and1u (by omega) (by omega)
  have HV := hide (show bit s p = bt s (p / 8) / 128 % 2 by rw [HB.out, h8]; simp)
  clear h8 HB
  go_enter Tryz.func115, Tryz.ntmps115
  go_wp2
  go_ret
  exact ⟨by rw [HV.out]; rfl, Below.refl _ _⟩
open Go.RowKit
section
variable {P : Program} {ops : Array Oper} {md : Region.Mode} {Q : Exit → Act → World → Prop}
end
def ladF (s : Yb) (x : E5) : Nat → St
 | 0 => ⟨smallF 1, zeroE, x, smallF 1⟩
 | k + 1 => if bit s (254 - k) = 0 then stepF (ladF s x k).dx (ladF s x k).dz (ladF s x k).px (ladF s x k).pz x
  else ⟨(stepF (ladF s x k).px (ladF s x k).pz (ladF s x k).dx (ladF s x k).dz x).px, (stepF (ladF s x k).px (ladF s x k).pz (ladF s x k).dx (ladF s x k).dz x).pz, (stepF (ladF s x k).px (ladF s x k).pz (ladF s x k).dx (ladF s x k).dz x).dx, (stepF (ladF s x k).px (ladF s x k).pz (ladF s x k).dx (ladF s x k).dz x).dz⟩
theorem ladF_ok (s : Yb) {x : E5} (hx : x.Ok) : ∀ k, (ladF s x k).Ok
 | 0 => ⟨smallF_ok (by decide) (by decide), zeroE_ok, hx, smallF_ok (by decide) (by decide)⟩
 | k + 1 => by
  have ih := ladF_ok s hx k
  unfold ladF
  by_cases h : bit s (254 - k) = 0
  ·rw [if_pos h]
   exact stepF_ok ih.dx ih.dz ih.px ih.pz hx
  ·rw [if_neg h]
   have := stepF_ok ih.px ih.pz ih.dx ih.dz hx
   exact ⟨this.px, this.pz, this.dx, this.dz⟩
def qj (p q : NI) : Nat → Int := fun i => if i < 10 then p i else q (i - 10)
open Go.RowKit
theorem bs_size (l : List Int) : (bs l).size = l.length := by simp [bs, ByteArray.size]
theorem bt_bs (l : List Int) (i : Nat) (x : Int) (hl : l[i]? = some x) (h0 : 0 ≤ x) (h1 : x < 256) : bt (bs l) i = x := by
 unfold bt bs
 simp only [List.getElem?_toArray, List.getElem?_map, hl, Option.map_some, Option.getD_some]
 simp only [UInt8.toNat_ofNat']
 omega
structure BC (W : World) (g : Nat) (f : NI) (n : Nat) : Prop where
 lt : g < W.heap.size
 c : ∀ i, i < n → W.cell? ⟨g, i, none⟩ = some (.int .u8 (f i))
 fz : ∀ i, i < n → W.frozen? ⟨g, i, none⟩ = false
theorem heap_setCell_size (W : World) (a : Addr) (v : Value) : (W.setCell a v).heap.size = W.heap.size := by
 simp
theorem BC.set {W : World} {g n : Nat} {f : NI} (h : BC W g f n) {k : Nat} (hk : k < n) (v : Int) : BC (W.setCell ⟨g, k, none⟩ (.int .u8 v)) g (upd f k v) n where
 lt := by rw [heap_setCell_size]; exact h.lt
 c := fun i hi => by
  by_cases e : i = k
  ·subst e
   rw [World.cell?_setCell_same _ _ _ (h.c i hk)]
   simp [upd]
  ·rw [World.cell?_setCell_other _ _ _ _ (by simp <;> omega), h.c i hi]
   simp [upd, e]
 fz := fun i hi => by
  rw [World.frozen?_setCell]
  exact h.fz i hi
theorem row_frozen (w : World) (g j : Nat) (cs : Array Value) (t : TypeId) (hg : w.heap[g]? = some (.cells cs t (cs.size, cs.size + 1))) (hj : j < cs.size) : w.frozen? ⟨g, j, none⟩ = false := by
 unfold World.frozen?
 rw [hg]
 simp
 omega
theorem conv_str (W : World) (s : Yb) : ∃ (cap : Nat) (W1 : World), (convert 9 44 (.string s)).run Tryz.prog W = .ok (.slice (some ⟨W.heap.size, 0, none⟩) s.size cap) W1 ∧ BC W1 W.heap.size (bt s) s.size ∧ Below W.heap.size W W1 := by
 have h := run_bytes_of_string (P := Tryz.prog) W 9 44 5 s Tryz.underlying9 Tryz.underlying44 Tryz.underlying5
 generalize grownCap W s.size 0 5 = cap at h
 refine ⟨cap, _, h, ?_, ((Below.refl _ _).drew).alloc (Nat.le_refl _) _⟩
 have hg : (W.drew.alloc (.cells (bytesRow s cap) 5 ((bytesRow s cap).size, (bytesRow s cap).size + 1))).heap[W.heap.size]? = some (.cells (bytesRow s cap) 5 ((bytesRow s cap).size, (bytesRow s cap).size + 1)) := heap_alloc_new W.drew _
 have hsz : s.size ≤ (bytesRow s cap).size := by
  simp [bytesRow]
 refine ⟨by simp, fun i hi => ?_, fun i hi => row_frozen _ _ _ _ _ hg (by omega)⟩
 rw [cell_of_row _ _ _ _ _ _ hg]
 have hi' : i < s.data.size := hi
 unfold bytesRow bt
 rw [Array.getElem?_append_left (by simpa using hi'), Array.getElem?_map, Array.getElem?_eq_getElem hi']
 rfl
theorem conv_back {W : World} {g n : Nat} {f : NI} (h : BC W g f n) (cap : Nat) (hf : ∀ i, i < n → 0 ≤ f i ∧ f i < 256) :
  (convert 44 9 (.slice (some ⟨g, 0, none⟩) n cap)).run Tryz.prog W = .ok (.string (bs ((List.range n).map f))) W := by
 have hl : ((List.range n).map fun i => UInt8.ofNat (f i).toNat).length = n := by simp
 have h2 := run_convert_bytes_back (P := Tryz.prog) W 44 9 5 ⟨g, 0, none⟩ cap ((List.range n).map fun i => UInt8.ofNat (f i).toNat) Tryz.underlying44 Tryz.underlying5 Tryz.underlying9 (fun j hj => by
  rw [hl] at hj
  have hadd : (⟨g, 0, none⟩ : Addr).add j = ⟨g, j, none⟩ := by unfold Addr.add; split <;> simp_all
  rw [hadd, h.c j hj]
  have := hf j hj
  simp
  omega)
 rw [hl] at h2
 rw [h2]
 unfold bs
 congr 3
 simp [List.map_map]
theorem and_bd {x : Int} (h0 : 0 ≤ x) (h1 : x < 256) : 0 ≤ bits .and .u8 x 248 ∧ bits .and .u8 x 248 < 256 := by
 obtain ⟨X, rfl⟩ := Int.eq_ofNat_of_zero_le h0
 have hX : X < 256 := by omega
 have h : ∀ n : Fin 256, 0 ≤ bits .and .u8 ((n.val : Nat) : Int) 248 ∧ bits .and .u8 ((n.val : Nat) : Int) 248 < 256 := by decide +kernel
 exact h ⟨X, hX⟩
theorem or_bd {x : Int} (h0 : 0 ≤ x) (h1 : x < 256) : 0 ≤ bits .or .u8 (bits .and .u8 x 127) 64 ∧ bits .or .u8 (bits .and .u8 x 127) 64 < 256 := by
 obtain ⟨X, rfl⟩ := Int.eq_ofNat_of_zero_le h0
 have hX : X < 256 := by omega
 have h : ∀ n : Fin 256, 0 ≤ bits .or .u8 (bits .and .u8 ((n.val : Nat) : Int) 127) 64 ∧ bits .or .u8 (bits .and .u8 ((n.val : Nat) : Int) 127) 64 < 256 := by decide +kernel
 exact h ⟨X, hX⟩
def clF (s : Yb) : Nat → Int := upd (upd (bt s) 0 (bits .and .u8 (bt s 0) 248)) 31 (bits .or .u8 (bits .and .u8 (bt s 31) 127) 64)
def clS (s : Yb) : ByteArray := bs ((List.range 32).map (clF s))
theorem clF_bd (s : Yb) (i : Nat) : 0 ≤ clF s i ∧ clF s i < 256 := by
 unfold clF upd
 by_cases h1 : i = 31
 ·rw [if_pos h1]
  exact or_bd (bt_bd s 31).1 (bt_bd s 31).2
 ·rw [if_neg h1]
  by_cases h2 : i = 0
  ·rw [if_pos h2]
   exact and_bd (bt_bd s 0).1 (bt_bd s 0).2
  ·rw [if_neg h2]
   exact bt_bd s i
theorem clS_size (s : Yb) : (clS s).size = 32 := by unfold clS; rw [bs_size]; simp
theorem clamp_yes (s : Yb) (w : World) (hs : s.size = 32) : Cs 91 #[.string s] w (.tuple #[.string (clS s), .int .i64 0]) := by
 have n0 : ((s.size : Int) != 32) = false := by simp [hs]
 obtain ⟨cap, W1, hcv, B, hb⟩ := conv_str w s
 rw [hs] at B
 have c0 := B.c 0 (by omega)
 have c31 := B.c 31 (by omega)
 have f0 := B.fz 0 (by omega)
 have f31 := B.fz 31 (by omega)
 have gl := B.lt
 have B2 := (B.set (k := 0) (by omega) (bits .and .u8 (bt s 0) 248)).set (k := 31) (by omega) (bits .or .u8 (bits .and .u8 (bt s 31) 127) 64)
 have hbk := conv_back (f := clF s) B2 cap (fun i _ => clF_bd s i)
 rw [show bs ((List.range 32).map (clF s)) = clS s from rfl] at hbk
 have OO := hide ((hb.setCell (p := ⟨w.heap.size, 0, none⟩) (Nat.le_refl _) (.int .u8 (bits .and .u8 (bt s 0) 248))).setCell (p := ⟨w.heap.size, 31, none⟩) (Nat.le_refl _) (.int .u8 (bits .or .u8 (bits .and .u8 (bt s 31) 127) 64)))
 clear B2 B hb
 generalize clS s = C at *
 go_enter Tryz.func91, Tryz.ntmps91
 go_wp2
 exact bodyPost_ret (v := .tuple #[.string C, .int .i64 0]) (by simp [results, Tryz.results91, go_sem]) rfl ⟨rfl, OO.out⟩
theorem rclamp_yes (s : Yb) (w : World) (hs : s.size = 32) : Cs 54 #[.string s] w (.string (clS s)) := by
 obtain ⟨cap, W1, hcv, B, hb⟩ := conv_str w s
 rw [hs] at B
 have c0 := B.c 0 (by omega)
 have c31 := B.c 31 (by omega)
 have f0 := B.fz 0 (by omega)
 have f31 := B.fz 31 (by omega)
 have gl := B.lt
 have B2 := (B.set (k := 0) (by omega) (bits .and .u8 (bt s 0) 248)).set (k := 31) (by omega) (bits .or .u8 (bits .and .u8 (bt s 31) 127) 64)
 have hbk := conv_back (f := clF s) B2 cap (fun i _ => clF_bd s i)
 rw [show bs ((List.range 32).map (clF s)) = clS s from rfl] at hbk
 have OO := hide ((hb.setCell (p := ⟨w.heap.size, 0, none⟩) (Nat.le_refl _) (.int .u8 (bits .and .u8 (bt s 0) 248))).setCell (p := ⟨w.heap.size, 31, none⟩) (Nat.le_refl _) (.int .u8 (bits .or .u8 (bits .and .u8 (bt s 31) 127) 64)))
 clear B2 B hb
 generalize clS s = C at *
 go_enter Tryz.func54, Tryz.ntmps54
 go_wp2
 go_ret
 exact ⟨rfl, OO.out⟩
open Go.RowKit
def mkF (s : Yb) : Nat → Int := upd (bt s) 31 (bits .and .u8 (bt s 31) 127)
def mkS (s : Yb) : ByteArray := bs ((List.range 32).map (mkF s))
theorem mkS_size (s : Yb) : (mkS s).size = 32 := by unfold mkS; rw [bs_size]; simp
def shE (s p : Yb) : E5 := mulF (ladF (clS s) (ofF (mkS p)) 255).dx (invF (ladF (clS s) (ofF (mkS p)) 255).dz)
theorem shE_ok (s p : Yb) : (shE s p).Ok := by
 have h := ladF_ok (clS s) (ofF_ok (mkS p)) 255
 exact mulF_ok h.dx (invF_ok h.dz)
def shS (s p : Yb) : ByteArray := if (shE s p).n % Pm = 0 then ⟨#[]⟩ else lebytes ((shE s p).n % Pm)
def shC (s p : Yb) : Int := if (shE s p).n % Pm = 0 then 30 else 0
def nineS : ByteArray := lebytes ((smallF 9).n % Pm)
theorem nineS_size : nineS.size = 32 := by decide +kernel
open Go.RowKit
structure RS where
 x2 : Int
 z2 : Int
 x3 : Int
 z3 : Int
def rstep (x1 : Int) (q : RS) : RS :=
 let a := (q.x2 + q.z2) % Pm
 let aa := a * a % Pm
 let d := (q.x2 - q.z2) % Pm
 let dd := d * d % Pm
 let e := (aa - dd) % Pm
 let da := (q.x3 - q.z3) % Pm * a % Pm
 let cb := (q.x3 + q.z3) % Pm * d % Pm
 let s := (da + cb) % Pm
 let t := (da - cb) % Pm
 ⟨aa * dd % Pm, e * ((aa + 121665 * e % Pm) % Pm) % Pm, s * s % Pm, x1 * (t * t % Pm) % Pm⟩
def RS.swap (q : RS) : RS := ⟨q.x3, q.z3, q.x2, q.z2⟩
def rladF (s : Yb) (x1 : Int) : Nat → RS
 | 0 => ⟨1, 0, x1, 1⟩
 | k + 1 => if bit s (254 - k) = 0 then rstep x1 (rladF s x1 k) else (rstep x1 (rladF s x1 k).swap).swap
structure RS.Ok (q : RS) : Prop where
 x2 : 0 ≤ q.x2 ∧ q.x2 < Pm
 z2 : 0 ≤ q.z2 ∧ q.z2 < Pm
 x3 : 0 ≤ q.x3 ∧ q.x3 < Pm
 z3 : 0 ≤ q.z3 ∧ q.z3 < Pm
theorem pmod (X : Int) : 0 ≤ X % Pm ∧ X % Pm < Pm := ⟨Int.emod_nonneg _ (by decide), Int.emod_lt_of_pos _ (by decide)⟩
theorem RS.Ok.swap {q : RS} (h : q.Ok) : q.swap.Ok := ⟨h.x3, h.z3, h.x2, h.z2⟩
theorem rstep_ok (x1 : Int) (q : RS) : (rstep x1 q).Ok := ⟨pmod _, pmod _, pmod _, pmod _⟩
theorem rladF_ok (s : Yb) {x1 : Int} (h : 0 ≤ x1 ∧ x1 < Pm) : ∀ k, (rladF s x1 k).Ok
 | 0 => ⟨⟨show (0 : Int) ≤ 1 by decide, show (1 : Int) < Pm by decide⟩, ⟨show (0 : Int) ≤ 0 by decide, show (0 : Int) < Pm by decide⟩, h, ⟨show (0 : Int) ≤ 1 by decide, show (1 : Int) < Pm by decide⟩⟩
 | k + 1 => by
  unfold rladF
  by_cases hb : bit s (254 - k) = 0
  ·rw [if_pos hb]
   exact rstep_ok _ _
  ·rw [if_neg hb]
   exact (rstep_ok _ _).swap
theorem dSP {X : Int} (h : 0 ≤ X ∧ X < Pm) : S (d16 X) 16 = X := by
 have := dS X
 rwa [Int.emod_eq_of_lt h.1 h.2] at this
open Go.RowKit
def shV (K : Yb) (X : Int) : Int := (rladF K X 255).x2 * pwm (rladF K X 255).z2 (xbit 255 21) 255 % Pm
structure Lc (l : St) (q : RS) : Prop where
 x2 : Cg l.dx.n q.x2
 z2 : Cg l.dz.n q.z2
 x3 : Cg l.px.n q.x3
 z3 : Cg l.pz.n q.z3
theorem em (X : Int) : Cg X (X % Pm) := (cg_emod X).symm
theorem step_cg {ax az bx bz x : E5} {q : RS} {X : Int} (h1 : Cg ax.n q.x2) (h2 : Cg az.n q.z2) (h3 : Cg bx.n q.x3) (h4 : Cg bz.n q.z3) (h5 : Cg x.n X) : Lc (stepF ax az bx bz x) (rstep X q) := by
 have a := ((addF_n ax az).trans (h1.add h2)).trans (em _)
 have d := ((subF_n ax az).trans (h1.sub h2)).trans (em _)
 have aa := ((mulF_n _ _).trans (a.mul a)).trans (em _)
 have dd := ((mulF_n _ _).trans (d.mul d)).trans (em _)
 have e := ((subF_n _ _).trans (aa.sub dd)).trans (em _)
 have u1 := ((subF_n bx bz).trans (h3.sub h4)).trans (em _)
 have da := ((mulF_n _ _).trans (u1.mul a)).trans (em _)
 have u2 := ((addF_n bx bz).trans (h3.add h4)).trans (em _)
 have cb := ((mulF_n _ _).trans (u2.mul d)).trans (em _)
 have s := ((addF_n _ _).trans (da.add cb)).trans (em _)
 have t := ((subF_n _ _).trans (da.sub cb)).trans (em _)
 have k := ((mulF_n _ _).trans ((smallF_n 121665).mul e)).trans (em _)
 have f := ((addF_n _ _).trans (aa.add k)).trans (em _)
 exact ⟨((mulF_n _ _).trans (aa.mul dd)).trans (em _), ((mulF_n _ _).trans (e.mul f)).trans (em _), ((mulF_n _ _).trans (s.mul s)).trans (em _), ((mulF_n _ _).trans (h5.mul (((mulF_n _ _).trans (t.mul t)).trans (em _)))).trans (em _)⟩
theorem lad_cg (K : Yb) {x : E5} {X : Int} (h : Cg x.n X) : ∀ k, Lc (ladF K x k) (rladF K X k)
 | 0 => ⟨smallF_n 1, Cg.of_eq zeroE_n, h, smallF_n 1⟩
 | k + 1 => by
  have ih := lad_cg K h k
  unfold ladF rladF
  by_cases hb : bit K (254 - k) = 0
  ·rw [if_pos hb, if_pos hb]
   exact step_cg ih.x2 ih.z2 ih.x3 ih.z3 h
  ·rw [if_neg hb, if_neg hb]
   have := step_cg (q := (rladF K X k).swap) ih.x3 ih.z3 ih.x2 ih.z2 h
   exact ⟨this.x3, this.z3, this.x2, this.z2⟩
theorem shE_V (s p : Yb) : (shE s p).n % Pm = shV (clS s) (val (mkS p) % Pm) := by
 have h := lad_cg (clS s) ((ofF_n (mkS p)).trans (em _)) 255
 exact ((mulF_n _ _).trans (h.x2.mul (rinv_val h.z2))).emod
def sS (V : Int) : ByteArray := if V = 0 then ⟨#[]⟩ else lebytes V
def sC (V : Int) : Int := if V = 0 then 30 else 0
theorem shS_V (s p : Yb) : shS s p = sS (shV (clS s) (val (mkS p) % Pm)) := by
 unfold shS sS
 rw [shE_V]
theorem shC_V (s p : Yb) : shC s p = sC (shV (clS s) (val (mkS p) % Pm)) := by
 unfold shC sC
 rw [shE_V]
theorem rb_bt (f : NI) {i : Nat} (h : i < 32) : bt (bs (rb f 32)) i = by16 f i := by
 refine bt_bs _ _ _ ?_ (by unfold by16; omega) (by unfold by16; omega)
 simp only [rb, List.getElem?_map, List.getElem?_range h, Option.map_some]
 rw [if_pos h]
theorem rb_pt {f : NI} (hf : Dig f 16) : val (bs (rb f 32)) = S f 16 := by
 rw [← pt_S]
 refine S_congr fun i hi => ?_
 have h := hf i hi
 unfold pt
 rw [if_pos (by omega), if_pos (by omega), rb_bt f (by omega), rb_bt f (by omega)]
 unfold by16
 rw [show 2 * i / 2 = i by omega, show 2 * i % 2 = 0 by omega, show (2 * i + 1) / 2 = i by omega, show (2 * i + 1) % 2 = 1 by omega]
 simp
 omega
theorem and127 {x : Int} (h0 : 0 ≤ x) (h1 : x < 128) : bits .and .u8 x 127 = x := by
 obtain ⟨X, rfl⟩ := Int.eq_ofNat_of_zero_le h0
 have hX : X < 128 := by omega
 have h : ∀ n : Fin 128, bits .and .u8 ((n.val : Nat) : Int) 127 = ((n.val : Nat) : Int) := by decide +kernel
 exact h ⟨X, hX⟩
theorem bs_bt (s : Yb) (hs : s.size = 32) : bs ((List.range 32).map (bt s)) = s := by
 have hd : (bs ((List.range 32).map (bt s))).data = s.data := by
  apply Array.ext_getElem?
  intro i
  have hs' : s.data.size = 32 := hs
  by_cases hi : i < 32
  ·simp only [bs, List.getElem?_toArray, List.getElem?_map, List.getElem?_range hi, Option.map_some, bt]
   rw [Array.getElem?_eq_getElem (by omega)]
   simp
  ·simp only [bs, List.getElem?_toArray]
   rw [List.getElem?_eq_none (by simp; omega), Array.getElem?_eq_none (by omega)]
 cases s
 unfold bs at *
 simp only at hd
 rw [hd]
theorem mk_leb {W : Int} (hW : 0 ≤ W ∧ W < Pm) : val (mkS (bs (rb (d16 W) 32))) % Pm = W := by
 have hsz : (bs (rb (d16 W) 32)).size = 32 := by rw [bs_size, rb_len]
 have hb : bt (bs (rb (d16 W) 32)) 31 < 128 := by
  rw [rb_bt _ (by omega)]
  have hP : Pm < 2 ^ 255 := by decide
  have e : d16 W 15 = W / 65536 ^ 15 % 65536 := rfl
  show d16 W (31 / 2) / 256 ^ (31 % 2) % 256 < 128
  rw [show 31 / 2 = 15 from rfl, show 31 % 2 = 1 from rfl, e]
  have h1 : W / 65536 ^ 15 < 32768 := Int.ediv_lt_of_lt_mul (by decide) (by have : (32768 : Int) * 65536 ^ 15 = 2 ^ 255 := by decide
                                                                            omega)
  have h0 : 0 ≤ W / 65536 ^ 15 := Int.ediv_nonneg hW.1 (by decide)
  generalize W / 65536 ^ 15 = Y at *
  rw [show (256 : Int) ^ 1 = 256 by decide]
  omega
 have e : mkS (bs (rb (d16 W) 32)) = bs (rb (d16 W) 32) := by
  unfold mkS
  rw [show (List.range 32).map (mkF (bs (rb (d16 W) 32))) = (List.range 32).map (bt (bs (rb (d16 W) 32))) from List.map_congr_left fun i _ => by
   unfold mkF upd
   by_cases h : i = 31
   ·rw [if_pos h, h, and127 (bt_bd _ _).1 hb]
   ·rw [if_neg h]]
  exact bs_bt _ hsz
 rw [e, rb_pt (d16_dig W 16), dSP hW, Int.emod_eq_of_lt hW.1 hW.2]
theorem leb_rb {W : Int} (hW : 0 ≤ W ∧ W < Pm) : lebytes W = bs (rb (d16 W) 32) := by
 have h := lebytes_S (f := d16 W) (d16_dig W 16)
 rwa [dSP hW] at h
theorem shV_bd (K : Yb) (X : Int) : 0 ≤ shV K X ∧ shV K X < Pm := pmod _
theorem v9 : val (mkS nineS) % Pm = 9 := by decide +kernel
end Go.Proofs.YtiahdbibeleakaaGreatDoor.Mon
namespace Go.Proofs.YtiahdbibeleakaaGreatDoor
open Go.RowKit
theorem inz164 : (Tryz.prog.info? 164).map (·.size) = some 10 := by kernel_rfl
theorem pj_0 (x z : NI) (j : Nat) (h : j < 5) : w64 (Mon.pj x z) (0 + j) = w64 x j := by
 unfold Mon.pj; simp only [w64]; rw [if_pos (by omega), Nat.zero_add]
theorem pj_1 (x z : NI) (j : Nat) (_ : j < 5) : w64 (Mon.pj x z) (5 + j) = w64 z j := by
 unfold Mon.pj; simp only [w64]; rw [if_neg (by omega), Nat.add_sub_cancel_left]
theorem qj_0 (x z : NI) (j : Nat) (h : j < 10) : w64 (Mon.qj x z) (0 + j) = w64 x j := by
 unfold Mon.qj; simp only [w64]; rw [if_pos (by omega), Nat.zero_add]
theorem qj_1 (x z : NI) (j : Nat) (_ : j < 10) : w64 (Mon.qj x z) (10 + j) = w64 z j := by
 unfold Mon.qj; simp only [w64]; rw [if_neg (by omega), Nat.add_sub_cancel_left]
theorem qp_0 (x z y : NI) (j : Nat) (h : j < 5) : w64 (Mon.qj (Mon.pj x z) y) (0 + j) = w64 x j := (qj_0 _ _ j (by omega)).trans (by have := pj_0 x z j h; rwa [Nat.zero_add] at this)
theorem qp_1 (x z y : NI) (j : Nat) (h : j < 5) : w64 (Mon.qj (Mon.pj x z) y) (5 + j) = w64 z j := by
 have := qj_0 (Mon.pj x z) y (5 + j) (by omega)
 rw [Nat.zero_add] at this
 exact this.trans (pj_1 x z j h)
theorem qq_0 (x z y : NI) (j : Nat) (_ : j < 20) : (if 0 ≤ j ∧ j < 0 + 10 then w64 y (j - 0) else w64 (Mon.qj x z) j) = w64 (Mon.qj y z) j := by
 unfold Mon.qj; simp only [w64]; by_cases h : j < 10
 ·rw [if_pos (by omega), if_pos h, Nat.sub_zero]
 ·rw [if_neg (by omega), if_neg h, if_neg h]
theorem qq_1 (x z y : NI) (j : Nat) (_ : j < 20) : (if 10 ≤ j ∧ j < 10 + 10 then w64 y (j - 10) else w64 (Mon.qj x z) j) = w64 (Mon.qj x y) j := by
 unfold Mon.qj; simp only [w64]; by_cases h : j < 10
 ·rw [if_neg (by omega), if_pos h, if_pos h]
 ·rw [if_pos (by omega), if_neg h]
theorem bcc {P : Program} {a : Act} {w : World} {c : Ctx} {L : List Blk} {fn : Func} {Φ : Ending → World → Prop} {p q : Tmp} {t0 t1 : TypeId} (h : fn.results = #[.cell p t0, .cell q t1]) (M : Mem c L w) (i0 n0 : Nat) (F0 : NV) (i1 n1 : Nat) (F1 : NV) (hX : Φ (.returned (.tuple #[.agg (av n0 F0), .agg (av n1 F1)])) w) {g0 T0 g1 T1 : Nat} (hi0 : L[i0]? = some ⟨g0, .cells (av n0 F0) T0⟩ := by exact rfl) (hp0 : Ep a p (.pointer (some ⟨g0, 0, none⟩)) := by exact ⟨by kernel_rfl⟩) (hu0 : (P.underlying t0).map TypeDesc.isRow = some true := by kernel_rfl) (hz0 : (P.info? t0).map (·.size) = some n0 := by kernel_rfl) (hi1 : L[i1]? = some ⟨g1, .cells (av n1 F1) T1⟩ := by exact rfl) (hp1 : Ep a q (.pointer (some ⟨g1, 0, none⟩)) := by exact ⟨by kernel_rfl⟩) (hu1 : (P.underlying t1).map TypeDesc.isRow = some true := by kernel_rfl) (hz1 : (P.info? t1).map (·.size) = some n1 := by kernel_rfl) (hd : a.defers = [] := by kernel_rfl) : bodyPost P fn Φ .ret a w := by
 obtain ⟨d0, e0, f0⟩ := isRow_of hu0
 obtain ⟨d1, e1, f1⟩ := isRow_of hu1
 exact bodyPost_ret (Mon.results_two h _ _ g0 g1 T0 T1 (av n0 F0) (av n1 F1) (0, 0) (0, 0) _ _ hp0.out hp1.out (M.get i0 hi0) (M.get i1 hi1) e0 (by revert f0; cases d0 <;> intro f <;> first | rfl | cases f) (by rw [av_size]; exact hz0) e1 (by revert f1; cases d1 <;> intro f <;> first | rfl | cases f) (by rw [av_size]; exact hz1)) hd hX
theorem l_bitZ {s : Yb} {p : Nat} (h : Mon.bit s p = 0) (w : World) (hs : p < 8 * s.size) (hp : p < 255) : Cs 115 #[.string s, .int .i64 (p : Int)] w (.int .i64 0) := h ▸ Mon.bitAt_any s p w hs hp
theorem l_bitN {s : Yb} {p : Nat} (h : ¬ Mon.bit s p = 0) (w : World) (hs : p < 8 * s.size) (hp : p < 255) : Cs 115 #[.string s, .int .i64 (p : Int)] w (.int .i64 1) := by
 have := Mon.bit_two s p
 have e : Mon.bit s p = 1 := by omega
 exact e ▸ Mon.bitAt_any s p w hs hp
section
variable (q : Mon.St)
def tzA : Mon.E5 := Mon.addF q.dx q.dz
def tzD : Mon.E5 := Mon.subF q.dx q.dz
def tzAA : Mon.E5 := Mon.mulF (tzA q) (tzA q)
def tzDD : Mon.E5 := Mon.mulF (tzD q) (tzD q)
def tzE : Mon.E5 := Mon.subF (tzAA q) (tzDD q)
def tzU : Mon.E5 := Mon.subF q.px q.pz
def tzDA : Mon.E5 := Mon.mulF (tzU q) (tzA q)
def tzV : Mon.E5 := Mon.addF q.px q.pz
def tzCB : Mon.E5 := Mon.mulF (tzV q) (tzD q)
def tzS : Mon.E5 := Mon.addF (tzDA q) (tzCB q)
def tzT : Mon.E5 := Mon.subF (tzDA q) (tzCB q)
def tzX2 : Mon.E5 := Mon.mulF (tzAA q) (tzDD q)
def tzF : Mon.E5 := Mon.mulF (Mon.smallF 121665) (tzE q)
def tzG : Mon.E5 := Mon.addF (tzAA q) (tzF q)
def tzZ2 : Mon.E5 := Mon.mulF (tzE q) (tzG q)
def tzX3 : Mon.E5 := Mon.mulF (tzS q) (tzS q)
def tzTT : Mon.E5 := Mon.mulF (tzT q) (tzT q)
def tzZ3 (x : Mon.E5) : Mon.E5 := Mon.mulF x (tzTT q)
end
structure TK (q : Mon.St) : Prop where
 C : (Mon.smallF 121665).Ok
 tzA : (tzA q).Ok
 tzD : (tzD q).Ok
 tzAA : (tzAA q).Ok
 tzDD : (tzDD q).Ok
 tzE : (tzE q).Ok
 tzU : (tzU q).Ok
 tzDA : (tzDA q).Ok
 tzV : (tzV q).Ok
 tzCB : (tzCB q).Ok
 tzS : (tzS q).Ok
 tzT : (tzT q).Ok
 tzX2 : (tzX2 q).Ok
 tzF : (tzF q).Ok
 tzG : (tzG q).Ok
 tzZ2 : (tzZ2 q).Ok
 tzX3 : (tzX3 q).Ok
 tzTT : (tzTT q).Ok
theorem tk {q : Mon.St} (h : q.Ok) : TK q := by
 have C := Mon.smallF_ok (n := 121665) (by decide) (by decide)
 have ktzA : (tzA q).Ok := Mon.addF_ok h.dx h.dz
 have ktzD : (tzD q).Ok := Mon.subF_ok h.dx h.dz
 have ktzAA : (tzAA q).Ok := Mon.mulF_ok ktzA ktzA
 have ktzDD : (tzDD q).Ok := Mon.mulF_ok ktzD ktzD
 have ktzE : (tzE q).Ok := Mon.subF_ok ktzAA ktzDD
 have ktzU : (tzU q).Ok := Mon.subF_ok h.px h.pz
 have ktzDA : (tzDA q).Ok := Mon.mulF_ok ktzU ktzA
 have ktzV : (tzV q).Ok := Mon.addF_ok h.px h.pz
 have ktzCB : (tzCB q).Ok := Mon.mulF_ok ktzV ktzD
 have ktzS : (tzS q).Ok := Mon.addF_ok ktzDA ktzCB
 have ktzT : (tzT q).Ok := Mon.subF_ok ktzDA ktzCB
 have ktzX2 : (tzX2 q).Ok := Mon.mulF_ok ktzAA ktzDD
 have ktzF : (tzF q).Ok := Mon.mulF_ok C ktzE
 have ktzG : (tzG q).Ok := Mon.addF_ok ktzAA ktzF
 have ktzZ2 : (tzZ2 q).Ok := Mon.mulF_ok ktzE ktzG
 have ktzX3 : (tzX3 q).Ok := Mon.mulF_ok ktzS ktzS
 have ktzTT : (tzTT q).Ok := Mon.mulF_ok ktzT ktzT
 exact ⟨C, ktzA, ktzD, ktzAA, ktzDD, ktzE, ktzU, ktzDA, ktzV, ktzCB, ktzS, ktzT, ktzX2, ktzF, ktzG, ktzZ2, ktzX3, ktzTT⟩
theorem l_step (q : Mon.St) (x : Mon.E5) (hq : q.Ok) (hx : x.Ok) (w : World) (hL : Laid w)  : Cs 116 #[.agg (av 10 (w64 (Mon.pj q.dx.f q.dz.f))), .agg (av 10 (w64 (Mon.pj q.px.f q.pz.f))), .agg (av 5 (w64 x.f))] w (.tuple #[.agg (av 10 (w64 (Mon.pj (tzX2 q).f (tzZ2 q).f))), .agg (av 10 (w64 (Mon.pj (tzX3 q).f (tzZ3 q x).f)))]) := by
 go_enter Tryz.func116, Tryz.ntmps116
 have M := Mem.start hL
 have k := tk hq
 refine sR ?_
 refine pN M 3 (.cells (av 10 (w64 (Mon.pj q.dx.f q.dz.f))) 164) fun g1 u1 M => ?_
 replace M := M.nf
 refine pN M 4 (.cells (av 10 (w64 (Mon.pj q.px.f q.pz.f))) 164) fun g2 u2 M => ?_
 replace M := M.nf
 refine pN M 5 (.cells (av 5 (w64 x.f)) 143) fun g3 u3 M => ?_
 replace M := M.nf
 refine pN M 6 (.cells (av 10 (w64 (fun _ => 0))) 164) fun g4 u4 M => ?_
 replace M := M.nf
 refine pN M 7 (.cells (av 10 (w64 (fun _ => 0))) 164) fun g5 u5 M => ?_
 replace M := M.nf
 refine nT <| wp_seq ?_
 refine rg_allocs M 10 [(8, fun g => .pointer (some ⟨g, 0, none⟩), .cells (av 5 (w64 (fun _ => 0))) 143), (9, fun g => .pointer (some ⟨g, 0, none⟩), .cells (av 5 (w64 (fun _ => 0))) 143)] (by kernel_rfl) (by kernel_rfl) (⟨rfl, rfl, fun _ _ => by kernel_rfl, ⟨rfl, rfl, fun _ _ => by kernel_rfl, trivial⟩⟩) (by decide) ?_
 simp only [List.take_succ_cons, List.take_zero]
 refine kR 1 ?_
 refine kL M 20 0 rfl 0 5 (w64 q.dx.f) (fun j hj => pj_0 _ _ j hj) ?_
 refine kR 1 ?_
 refine kL M 22 0 rfl 5 5 (w64 q.dz.f) (fun j hj => pj_1 _ _ j hj) ?_
 refine kD M 23 (.agg (av 5 (w64 (tzA q).f))) (fun w M => Mon.add_any q.dx q.dz w hq.dx hq.dz) ?_
 refine kR 1 ?_
 refine kL M 25 0 rfl 0 5 (w64 q.dx.f) (fun j hj => pj_0 _ _ j hj) ?_
 refine kR 1 ?_
 refine kL M 27 0 rfl 5 5 (w64 q.dz.f) (fun j hj => pj_1 _ _ j hj) ?_
 refine kD M 28 (.agg (av 5 (w64 (tzD q).f))) (fun w M => Mon.sub_any q.dx q.dz w hq.dx hq.dz) ?_
 refine kl_nil fun u6 g6 g7 M => ?_
 replace M := M.nf
 refine ZG M 5 5 (w64 (tzA q).f) fun u7 M => ?_
 replace M := M.nf
 refine ZG M 6 5 (w64 (tzD q).f) fun u8 M => ?_
 replace M := M.nf
 refine nT <| wp_seq ?_
 refine rg_allocs M 6 [(10, fun g => .pointer (some ⟨g, 0, none⟩), .cells (av 5 (w64 (fun _ => 0))) 143), (11, fun g => .pointer (some ⟨g, 0, none⟩), .cells (av 5 (w64 (fun _ => 0))) 143)] (by kernel_rfl) (by kernel_rfl) (⟨rfl, rfl, fun _ _ => by kernel_rfl, ⟨rfl, rfl, fun _ _ => by kernel_rfl, trivial⟩⟩) (by decide) ?_
 simp only [List.take_succ_cons, List.take_zero]
 refine kB M 29 5 ?_
 refine kB M 30 5 ?_
 refine kD M 31 (.agg (av 5 (w64 (tzAA q).f))) (fun w M => Mon.mul_any (tzA q) (tzA q) w k.tzA k.tzA) ?_
 refine kB M 32 6 ?_
 refine kB M 33 6 ?_
 refine kD M 34 (.agg (av 5 (w64 (tzDD q).f))) (fun w M => Mon.mul_any (tzD q) (tzD q) w k.tzD k.tzD) ?_
 refine kl_nil fun u9 g8 g9 M => ?_
 replace M := M.nf
 refine ZG M 7 5 (w64 (tzAA q).f) fun u10 M => ?_
 replace M := M.nf
 refine ZG M 8 5 (w64 (tzDD q).f) fun u11 M => ?_
 replace M := M.nf
 refine nT <| sR ?_
 refine pB M 35 7 ?_
 refine pB M 36 8 ?_
 refine pD M 37 (.agg (av 5 (w64 (tzE q).f))) (fun w M => Mon.sub_any (tzAA q) (tzDD q) w k.tzAA k.tzDD) fun u12 M => ?_
 refine pN M 12 (.cells (av 5 (w64 (fun _ => 0))) 143) fun g10 u13 M => ?_
 replace M := M.nf
 refine ZG M 9 5 (w64 (tzE q).f) fun u14 M => ?_
 replace M := M.nf
 refine nT <| wp_seq ?_
 replace M := M.drop (.cons _ (.cons_cons _ (.cons_cons _ (.cons_cons _ (.cons_cons _ (.cons_cons _ (.cons_cons _ (.cons_cons _ (.cons_cons _ (.cons_cons _ (.slnil)))))))))))
 replace M := M.nf
 refine rg_allocs M 14 [(13, fun g => .pointer (some ⟨g, 0, none⟩), .cells (av 5 (w64 (fun _ => 0))) 143), (14, fun g => .pointer (some ⟨g, 0, none⟩), .cells (av 5 (w64 (fun _ => 0))) 143)] (by kernel_rfl) (by kernel_rfl) (⟨rfl, rfl, fun _ _ => by kernel_rfl, ⟨rfl, rfl, fun _ _ => by kernel_rfl, trivial⟩⟩) (by decide) ?_
 simp only [List.take_succ_cons, List.take_zero]
 refine kR 1 ?_
 refine kL M 39 0 rfl 0 5 (w64 q.px.f) (fun j hj => pj_0 _ _ j hj) ?_
 refine kR 1 ?_
 refine kL M 41 0 rfl 5 5 (w64 q.pz.f) (fun j hj => pj_1 _ _ j hj) ?_
 refine kD M 42 (.agg (av 5 (w64 (tzU q).f))) (fun w M => Mon.sub_any q.px q.pz w hq.px hq.pz) ?_
 refine kB M 43 4 ?_
 refine kD M 44 (.agg (av 5 (w64 (tzDA q).f))) (fun w M => Mon.mul_any (tzU q) (tzA q) w k.tzU k.tzA) ?_
 refine kR 1 ?_
 refine kL M 46 0 rfl 0 5 (w64 q.px.f) (fun j hj => pj_0 _ _ j hj) ?_
 refine kR 1 ?_
 refine kL M 48 0 rfl 5 5 (w64 q.pz.f) (fun j hj => pj_1 _ _ j hj) ?_
 refine kD M 49 (.agg (av 5 (w64 (tzV q).f))) (fun w M => Mon.add_any q.px q.pz w hq.px hq.pz) ?_
 refine kB M 50 5 ?_
 refine kD M 51 (.agg (av 5 (w64 (tzCB q).f))) (fun w M => Mon.mul_any (tzV q) (tzD q) w k.tzV k.tzD) ?_
 refine kl_nil fun u15 g11 g12 M => ?_
 replace M := M.nf
 refine ZG M 9 5 (w64 (tzDA q).f) fun u16 M => ?_
 replace M := M.nf
 refine ZG M 10 5 (w64 (tzCB q).f) fun u17 M => ?_
 replace M := M.nf
 refine nT <| wp_seq ?_
 replace M := M.drop (.cons _ (.cons_cons _ (.cons_cons _ (.cons_cons _ (.cons _ (.cons _ (.cons_cons _ (.cons_cons _ (.cons_cons _ (.cons_cons _ (.cons_cons _ (.slnil))))))))))))
 replace M := M.nf
 refine rg_allocs M 6 [(15, fun g => .pointer (some ⟨g, 0, none⟩), .cells (av 5 (w64 (fun _ => 0))) 143), (16, fun g => .pointer (some ⟨g, 0, none⟩), .cells (av 5 (w64 (fun _ => 0))) 143)] (by kernel_rfl) (by kernel_rfl) (⟨rfl, rfl, fun _ _ => by kernel_rfl, ⟨rfl, rfl, fun _ _ => by kernel_rfl, trivial⟩⟩) (by decide) ?_
 simp only [List.take_succ_cons, List.take_zero]
 refine kB M 52 6 ?_
 refine kB M 53 7 ?_
 refine kD M 54 (.agg (av 5 (w64 (tzS q).f))) (fun w M => Mon.add_any (tzDA q) (tzCB q) w k.tzDA k.tzCB) ?_
 refine kB M 55 6 ?_
 refine kB M 56 7 ?_
 refine kD M 57 (.agg (av 5 (w64 (tzT q).f))) (fun w M => Mon.sub_any (tzDA q) (tzCB q) w k.tzDA k.tzCB) ?_
 refine kl_nil fun u18 g13 g14 M => ?_
 replace M := M.nf
 refine ZG M 8 5 (w64 (tzS q).f) fun u19 M => ?_
 replace M := M.nf
 refine ZG M 9 5 (w64 (tzT q).f) fun u20 M => ?_
 replace M := M.nf
 refine nT <| wp_seq ?_
 replace M := M.drop (.cons_cons _ (.cons_cons _ (.cons_cons _ (.cons_cons _ (.cons_cons _ (.cons_cons _ (.cons _ (.cons _ (.cons_cons _ (.cons_cons _ (.slnil)))))))))))
 replace M := M.nf
 refine rg_allocs M 11 [(17, fun g => .pointer (some ⟨g, 0, none⟩), .cells (av 10 (w64 (fun _ => 0))) 164)] (by kernel_rfl) (by kernel_rfl) (⟨rfl, rfl, fun _ _ => by kernel_rfl, trivial⟩) (by decide) ?_
 simp only [List.take_succ_cons, List.take_zero]
 refine kB M 58 3 ?_
 refine kB M 59 4 ?_
 refine kD M 60 (.agg (av 5 (w64 (tzX2 q).f))) (fun w M => Mon.mul_any (tzAA q) (tzDD q) w k.tzAA k.tzDD) ?_
 refine kB M 61 5 ?_
 refine kB M 62 3 ?_
 refine kD M 63 (.agg (av 5 (w64 (Mon.smallF 121665).f))) (fun w M => Mon.small_any 121665 w (by decide) (by decide)) ?_
 refine kB M 64 5 ?_
 refine kD M 65 (.agg (av 5 (w64 (tzF q).f))) (fun w M => Mon.mul_any (Mon.smallF 121665) (tzE q) w k.C k.tzE) ?_
 refine kD M 66 (.agg (av 5 (w64 (tzG q).f))) (fun w M => Mon.add_any (tzAA q) (tzF q) w k.tzAA k.tzF) ?_
 refine kD M 67 (.agg (av 5 (w64 (tzZ2 q).f))) (fun w M => Mon.mul_any (tzE q) (tzG q) w k.tzE k.tzG) ?_
 refine kR 1 ?_
 refine kl_nil fun u21 g15 M => ?_
 replace M := M.nf
 refine ZG M 8 10 (w64 (Mon.pj (tzX2 q).f (tzZ2 q).f)) fun u22 M => ?_
 replace M := M.nf
 refine nT <| wp_seq ?_
 replace M := M.drop (.cons_cons _ (.cons_cons _ (.cons_cons _ (.cons _ (.cons _ (.cons _ (.cons_cons _ (.cons_cons _ (.cons_cons _ (.slnil))))))))))
 replace M := M.nf
 refine rg_allocs M 9 [(18, fun g => .pointer (some ⟨g, 0, none⟩), .cells (av 10 (w64 (fun _ => 0))) 164)] (by kernel_rfl) (by kernel_rfl) (⟨rfl, rfl, fun _ _ => by kernel_rfl, trivial⟩) (by decide) ?_
 simp only [List.take_succ_cons, List.take_zero]
 refine kB M 69 3 ?_
 refine kB M 70 3 ?_
 refine kD M 71 (.agg (av 5 (w64 (tzX3 q).f))) (fun w M => Mon.mul_any (tzS q) (tzS q) w k.tzS k.tzS) ?_
 refine kB M 72 0 ?_
 refine kB M 73 4 ?_
 refine kB M 74 4 ?_
 refine kD M 75 (.agg (av 5 (w64 (tzTT q).f))) (fun w M => Mon.mul_any (tzT q) (tzT q) w k.tzT k.tzT) ?_
 refine kD M 76 (.agg (av 5 (w64 (tzZ3 q x).f))) (fun w M => Mon.mul_any x (tzTT q) w hx k.tzTT) ?_
 refine kR 1 ?_
 refine kl_nil fun u23 g16 M => ?_
 replace M := M.nf
 refine ZG M 6 10 (w64 (Mon.pj (tzX3 q).f (tzZ3 q x).f)) fun u24 M => ?_
 replace M := M.nf
 refine nT <| wp_seq ?_
 replace M := M.drop (.cons _ (.cons_cons _ (.cons_cons _ (.cons _ (.cons _ (.cons_cons _ (.cons_cons _ (.slnil))))))))
 replace M := M.nf
 refine rgh M [⟨g5, .cells (av 10 (w64 (fun _ => 0))) 164⟩, ⟨g15, .cells (av 10 (w64 (Mon.pj (tzX2 q).f (tzZ2 q).f))) 164⟩, ⟨g16, .cells (av 10 (w64 (Mon.pj (tzX3 q).f (tzZ3 q x).f))) 164⟩] 3 fun u25 M => ?_
 replace M := M.nf
 refine qA (M.drop (.cons _ (.cons_cons _ (.cons_cons _ (.cons_cons _ (.slnil)))))) 0 78 1 10 (w64 (Mon.pj (tzX2 q).f (tzZ2 q).f)) ?_
 refine qA (M.drop (.cons _ (.cons_cons _ (.cons_cons _ (.cons_cons _ (.slnil)))))) 1 79 2 10 (w64 (Mon.pj (tzX3 q).f (tzZ3 q x).f)) ?_
 refine qO 2 ?_
 refine ZG M 0 10 (w64 (Mon.pj (tzX2 q).f (tzZ2 q).f)) fun u26 M => ?_
 replace M := M.nf
 refine nT ?_
 refine ⟨(M.drop (.cons _ (.cons_cons _ (.cons_cons _ (.cons_cons _ (.slnil)))))), ?_⟩
 refine qZ ?_
 refine ZG M 1 10 (w64 (Mon.pj (tzX3 q).f (tzZ3 q x).f)) fun u27 M => ?_
 replace M := M.nf
 refine nT <| au_then <| wp_ret ?_
 exact bcc Tryz.results116 M 0 10 (w64 (Mon.pj (tzX2 q).f (tzZ2 q).f)) 1 10 (w64 (Mon.pj (tzX3 q).f (tzZ3 q x).f)) ⟨rfl, below_grown M.old⟩
def swQ (q : Mon.St) : Mon.St := ⟨q.px, q.pz, q.dx, q.dz⟩
theorem swQ_ok {q : Mon.St} (h : q.Ok) : (swQ q).Ok := ⟨h.px, h.pz, h.dx, h.dz⟩
theorem l_times (s : Yb) (e : Mon.E5) (hs : s.size = 32) (hx : e.Ok) (w : World) (hL : Laid w)  : Cs 93 #[.string s, .agg (av 5 (w64 e.f))] w (.agg (av 5 (w64 (Mon.mulF (Mon.ladF s e 255).dx (Mon.invF (Mon.ladF s e 255).dz)).f))) := by
 go_enter Tryz.func93, Tryz.ntmps93
 have M := Mem.start hL
 refine sR ?_
 refine pN M 3 (.cells (av 5 (w64 e.f)) 143) fun g1 u1 M => ?_
 replace M := M.nf
 refine pN M 4 (.cells (av 5 (w64 (fun _ => 0))) 143) fun g2 u2 M => ?_
 replace M := M.nf
 refine nT <| sR ?_
 refine pD M 9 (.agg (av 5 (w64 (Mon.smallF 1).f))) (fun w M => Mon.small_any 1 w (by decide) (by decide)) fun u3 M => ?_
 refine pN M 5 (.cells (av 5 (w64 (fun _ => 0))) 143) fun g3 u4 M => ?_
 replace M := M.nf
 refine ZG M 2 5 (w64 (Mon.smallF 1).f) fun u5 M => ?_
 replace M := M.nf
 refine nT <| sR ?_
 refine pB M 10 2 ?_
 refine rV 1 ?_
 refine pB M 12 0 ?_
 refine pB M 13 2 ?_
 refine rV 2 ?_
 refine pN M 6 (.cells (av 20 (w64 (fun _ => 0))) 165) fun g4 u6 M => ?_
 replace M := M.nf
 refine ZG M 3 20 (w64 (Mon.qj (Mon.pj (Mon.smallF 1).f Mon.zeroE.f) (Mon.pj e.f (Mon.smallF 1).f))) fun u7 M => ?_
 replace M := M.nf
 refine nT <| wp_seq <| sq ?_
 refine wp_block ?_
 refine au_loop (fun j a w' => ∃ v1 : NV, a = (fm ([.string s, .agg (av 5 (w64 e.f)), v1 2, .pointer (some ⟨g1, 0, none⟩), .pointer (some ⟨g2, 0, none⟩), .pointer (some ⟨g3, 0, none⟩), .pointer (some ⟨g4, 0, none⟩)] ++ vr v1 7 9 ++ [.int .i64 (j : Int)] ++ vr v1 17 32)) ∧ Mem ⟨w, []⟩ [⟨g1, .cells (av 5 (w64 e.f)) 143⟩, ⟨g2, .cells (av 5 (w64 (fun _ => 0))) 143⟩, ⟨g3, .cells (av 5 (w64 (Mon.smallF 1).f)) 143⟩, ⟨g4, .cells (av 20 (w64 (Mon.qj (Mon.pj (Mon.ladF s e j).dx.f (Mon.ladF s e j).dz.f) (Mon.pj (Mon.ladF s e j).px.f (Mon.ladF s e j).pz.f)))) 165⟩] w') 255 (exS M) ?_ ?_
 ·intro j a u0 hj hI
  obtain ⟨v1, rfl, M⟩ := hI
  obtain ⟨q, hqe⟩ : ∃ q, Mon.ladF s e j = q := ⟨_, rfl⟩
  have hq : q.Ok := hqe ▸ Mon.ladF_ok s hx j
  rw [hqe] at M
  obtain ⟨p, hp⟩ : ∃ p : Nat, 254 - j = p := ⟨_, rfl⟩
  refine sR ?_
  refine ZT 17 ((j : Int) < 255) ?_
  refine nT <| wp_seq <| cT <| wp_skip <| au_then ?_
  refine wp_seq ?_
  refine wp_block ?_
  refine sq <| sR <| rV 2 ?_
  refine ZI 21 ((254 : Int) - (j : Int)) (p : Int) ?_
  by_cases c0 : (Mon.bit s p) = 0
  ·refine pD M 22 (.int .i64 0) (fun w M => l_bitZ c0 w (by omega) (by omega)) fun u8 M => ?_
   refine rV 1 <| nT ?_
   refine rgh M [⟨g1, .cells (av 5 (w64 e.f)) 143⟩, ⟨g2, .cells (av 5 (w64 (fun _ => 0))) 143⟩, ⟨g3, .cells (av 5 (w64 (Mon.smallF 1).f)) 143⟩] 18 fun u9 M => ?_
   replace M := M.nf
   have qM := M.drop (.cons_cons _ (.cons_cons _ (.cons_cons _ (.cons _ (.slnil)))))
   refine qV qM 0 24 (.int .i64 0) ?_
   refine qV qM 1 25 (.int .i64 0) ?_
   refine qV qM 2 26 (.int .i64 1) ?_
   refine qV qM 3 27 (.int .i64 0) ?_
   refine qH qM 4 28 (.pointer (some ⟨g4, 0, none⟩)) (fun w _ => (fun _ => by kernel_rfl) w) ?_
   refine qV qM 6 30 (.int .i64 0) ?_
   refine qV qM 7 31 (.int .i64 1) ?_
   refine qH qM 8 32 (.pointer (some ⟨g4, 10, none⟩)) (fun w _ => (fun _ => by kernel_rfl) w) ?_
   refine qA qM 10 34 0 5 (w64 e.f) ?_
   refine hl_two 5 9 (by decide) (by decide) (by kernel_rfl) rfl rfl ?_ ?_
   ·refine pL M 29 3 rfl 0 10 (w64 (Mon.pj q.dx.f q.dz.f)) (fun j hj => qj_0 _ _ j hj) ?_
    refine nT ?_
    refine ⟨(M.drop (.cons_cons _ (.cons_cons _ (.cons_cons _ (.cons _ (.slnil)))))), ?_⟩
    refine qO 9 ?_
    refine pL M 33 3 rfl 10 10 (w64 (Mon.pj q.px.f q.pz.f)) (fun j hj => qj_1 _ _ j hj) ?_
    refine nT ?_
    refine ⟨(M.drop (.cons_cons _ (.cons_cons _ (.cons_cons _ (.cons _ (.slnil)))))), ?_⟩
    refine qO 11 ?_
    refine pD M 35 (.tuple #[.agg (av 10 (w64 (Mon.pj (tzX2 q).f (tzZ2 q).f))), .agg (av 10 (w64 (Mon.pj (tzX3 q).f (tzZ3 q e).f)))]) (fun w M => l_step q e hq hx w M.laid) fun u10 M => ?_
    refine nT ?_
    refine ⟨(M.drop (.cons_cons _ (.cons_cons _ (.cons_cons _ (.cons _ (.slnil)))))), ?_⟩
    have qM := M.drop (.cons_cons _ (.cons_cons _ (.cons_cons _ (.cons _ (.slnil)))))
    refine qV qM 12 23 (.tuple #[.agg (av 10 (w64 (Mon.pj (tzX2 q).f (tzZ2 q).f))), .agg (av 10 (w64 (Mon.pj (tzX3 q).f (tzZ3 q e).f)))]) ?_
    refine qV qM 13 36 (.agg (av 10 (w64 (Mon.pj (tzX2 q).f (tzZ2 q).f)))) ?_
    refine qV qM 14 37 (.agg (av 10 (w64 (Mon.pj (tzX3 q).f (tzZ3 q e).f)))) ?_
    refine qH qM 15 38 (.pointer (some ⟨g4, 0, none⟩)) (fun w _ => (fun _ => by kernel_rfl) w) ?_
    refine qO 16 ?_
    refine pl_put M (want_no rfl) rfl 164 _ _ rfl 3 g4 0 (by kernel_rfl) 20 165 (w64 (Mon.qj (Mon.pj q.dx.f q.dz.f) (Mon.pj q.px.f q.pz.f))) rfl 10 (w64 (Mon.pj (tzX2 q).f (tzZ2 q).f)) (w64 (Mon.qj (Mon.pj (tzX2 q).f (tzZ2 q).f) (Mon.pj q.px.f q.pz.f))) (by kernel_rfl) inz164 (by decide) (fun _ _ => rfl) (fun j hj => qq_0 _ _ _ j hj) fun u11 M => ?_
    replace M := M.nf
    refine nT ?_
    refine ⟨(M.drop (.cons_cons _ (.cons_cons _ (.cons_cons _ (.cons _ (.slnil)))))), ?_⟩
    refine qH (M.drop (.cons_cons _ (.cons_cons _ (.cons_cons _ (.cons _ (.slnil)))))) 17 39 (.pointer (some ⟨g4, 10, none⟩)) (fun w _ => (fun _ => by kernel_rfl) w) ?_
    refine qZ ?_
    refine pl_put M (want_no rfl) rfl 164 _ _ rfl 3 g4 10 (by kernel_rfl) 20 165 (w64 (Mon.qj (Mon.pj (tzX2 q).f (tzZ2 q).f) (Mon.pj q.px.f q.pz.f))) rfl 10 (w64 (Mon.pj (tzX3 q).f (tzZ3 q e).f)) (w64 (Mon.qj (Mon.pj (tzX2 q).f (tzZ2 q).f) (Mon.pj (tzX3 q).f (tzZ3 q e).f))) (by kernel_rfl) inz164 (by decide) (fun _ _ => rfl) (fun j hj => qq_1 _ _ _ j hj) fun u12 M => ?_
    replace M := M.nf
    refine nT ?_
    refine au_block ?_
    refine au_then ?_
    refine rg_lit ?_
    refine zW 40 ((j : Int) + 1) ?_
    refine rV 1 <| nT ?_
    have e0 : Mon.ladF s e (j + 1) = ⟨tzX2 q, tzZ2 q, tzX3 q, tzZ3 q e⟩ := by
     show (if Mon.bit s (254 - j) = 0 then _ else _) = _
     rw [hp, if_pos c0, hqe]
     rfl
    exact exS (by rw [e0]; exact M)
   ·refine pL M 33 3 rfl 10 10 (w64 (Mon.pj q.px.f q.pz.f)) (fun j hj => qj_1 _ _ j hj) ?_
    refine nT ?_
    refine ⟨(M.drop (.cons_cons _ (.cons_cons _ (.cons_cons _ (.cons _ (.slnil)))))), ?_⟩
    refine qO 5 ?_
    refine pL M 29 3 rfl 0 10 (w64 (Mon.pj q.dx.f q.dz.f)) (fun j hj => qj_0 _ _ j hj) ?_
    refine nT ?_
    refine ⟨(M.drop (.cons_cons _ (.cons_cons _ (.cons_cons _ (.cons _ (.slnil)))))), ?_⟩
    refine qO 11 ?_
    refine pD M 35 (.tuple #[.agg (av 10 (w64 (Mon.pj (tzX2 q).f (tzZ2 q).f))), .agg (av 10 (w64 (Mon.pj (tzX3 q).f (tzZ3 q e).f)))]) (fun w M => l_step q e hq hx w M.laid) fun u10 M => ?_
    refine nT ?_
    refine ⟨(M.drop (.cons_cons _ (.cons_cons _ (.cons_cons _ (.cons _ (.slnil)))))), ?_⟩
    have qM := M.drop (.cons_cons _ (.cons_cons _ (.cons_cons _ (.cons _ (.slnil)))))
    refine qV qM 12 23 (.tuple #[.agg (av 10 (w64 (Mon.pj (tzX2 q).f (tzZ2 q).f))), .agg (av 10 (w64 (Mon.pj (tzX3 q).f (tzZ3 q e).f)))]) ?_
    refine qV qM 13 36 (.agg (av 10 (w64 (Mon.pj (tzX2 q).f (tzZ2 q).f)))) ?_
    refine qV qM 14 37 (.agg (av 10 (w64 (Mon.pj (tzX3 q).f (tzZ3 q e).f)))) ?_
    refine qH qM 15 38 (.pointer (some ⟨g4, 0, none⟩)) (fun w _ => (fun _ => by kernel_rfl) w) ?_
    refine qO 16 ?_
    refine pl_put M (want_no rfl) rfl 164 _ _ rfl 3 g4 0 (by kernel_rfl) 20 165 (w64 (Mon.qj (Mon.pj q.dx.f q.dz.f) (Mon.pj q.px.f q.pz.f))) rfl 10 (w64 (Mon.pj (tzX2 q).f (tzZ2 q).f)) (w64 (Mon.qj (Mon.pj (tzX2 q).f (tzZ2 q).f) (Mon.pj q.px.f q.pz.f))) (by kernel_rfl) inz164 (by decide) (fun _ _ => rfl) (fun j hj => qq_0 _ _ _ j hj) fun u11 M => ?_
    replace M := M.nf
    refine nT ?_
    refine ⟨(M.drop (.cons_cons _ (.cons_cons _ (.cons_cons _ (.cons _ (.slnil)))))), ?_⟩
    refine qH (M.drop (.cons_cons _ (.cons_cons _ (.cons_cons _ (.cons _ (.slnil)))))) 17 39 (.pointer (some ⟨g4, 10, none⟩)) (fun w _ => (fun _ => by kernel_rfl) w) ?_
    refine qZ ?_
    refine pl_put M (want_no rfl) rfl 164 _ _ rfl 3 g4 10 (by kernel_rfl) 20 165 (w64 (Mon.qj (Mon.pj (tzX2 q).f (tzZ2 q).f) (Mon.pj q.px.f q.pz.f))) rfl 10 (w64 (Mon.pj (tzX3 q).f (tzZ3 q e).f)) (w64 (Mon.qj (Mon.pj (tzX2 q).f (tzZ2 q).f) (Mon.pj (tzX3 q).f (tzZ3 q e).f))) (by kernel_rfl) inz164 (by decide) (fun _ _ => rfl) (fun j hj => qq_1 _ _ _ j hj) fun u12 M => ?_
    replace M := M.nf
    refine nT ?_
    refine au_block ?_
    refine au_then ?_
    refine rg_lit ?_
    refine zW 40 ((j : Int) + 1) ?_
    refine rV 1 <| nT ?_
    have e0 : Mon.ladF s e (j + 1) = ⟨tzX2 q, tzZ2 q, tzX3 q, tzZ3 q e⟩ := by
     show (if Mon.bit s (254 - j) = 0 then _ else _) = _
     rw [hp, if_pos c0, hqe]
     rfl
    exact exS (by rw [e0]; exact M)
  ·refine pD M 22 (.int .i64 1) (fun w M => l_bitN c0 w (by omega) (by omega)) fun u8 M => ?_
   refine rV 1 <| nT ?_
   refine rgh M [⟨g1, .cells (av 5 (w64 e.f)) 143⟩, ⟨g2, .cells (av 5 (w64 (fun _ => 0))) 143⟩, ⟨g3, .cells (av 5 (w64 (Mon.smallF 1).f)) 143⟩] 18 fun u9 M => ?_
   replace M := M.nf
   have qM := M.drop (.cons_cons _ (.cons_cons _ (.cons_cons _ (.cons _ (.slnil)))))
   refine qV qM 0 24 (.int .i64 1) ?_
   refine qV qM 1 25 (.int .i64 1) ?_
   refine qV qM 2 26 (.int .i64 0) ?_
   refine qV qM 3 27 (.int .i64 1) ?_
   refine qH qM 4 28 (.pointer (some ⟨g4, 10, none⟩)) (fun w _ => (fun _ => by kernel_rfl) w) ?_
   refine qV qM 6 30 (.int .i64 1) ?_
   refine qV qM 7 31 (.int .i64 0) ?_
   refine qH qM 8 32 (.pointer (some ⟨g4, 0, none⟩)) (fun w _ => (fun _ => by kernel_rfl) w) ?_
   refine qA qM 10 34 0 5 (w64 e.f) ?_
   refine hl_two 5 9 (by decide) (by decide) (by kernel_rfl) rfl rfl ?_ ?_
   ·refine pL M 29 3 rfl 10 10 (w64 (Mon.pj q.px.f q.pz.f)) (fun j hj => qj_1 _ _ j hj) ?_
    refine nT ?_
    refine ⟨(M.drop (.cons_cons _ (.cons_cons _ (.cons_cons _ (.cons _ (.slnil)))))), ?_⟩
    refine qO 9 ?_
    refine pL M 33 3 rfl 0 10 (w64 (Mon.pj q.dx.f q.dz.f)) (fun j hj => qj_0 _ _ j hj) ?_
    refine nT ?_
    refine ⟨(M.drop (.cons_cons _ (.cons_cons _ (.cons_cons _ (.cons _ (.slnil)))))), ?_⟩
    refine qO 11 ?_
    refine pD M 35 (.tuple #[.agg (av 10 (w64 (Mon.pj (tzX2 (swQ q)).f (tzZ2 (swQ q)).f))), .agg (av 10 (w64 (Mon.pj (tzX3 (swQ q)).f (tzZ3 (swQ q) e).f)))]) (fun w M => l_step (swQ q) e (swQ_ok hq) hx w M.laid) fun u10 M => ?_
    refine nT ?_
    refine ⟨(M.drop (.cons_cons _ (.cons_cons _ (.cons_cons _ (.cons _ (.slnil)))))), ?_⟩
    have qM := M.drop (.cons_cons _ (.cons_cons _ (.cons_cons _ (.cons _ (.slnil)))))
    refine qV qM 12 23 (.tuple #[.agg (av 10 (w64 (Mon.pj (tzX2 (swQ q)).f (tzZ2 (swQ q)).f))), .agg (av 10 (w64 (Mon.pj (tzX3 (swQ q)).f (tzZ3 (swQ q) e).f)))]) ?_
    refine qV qM 13 36 (.agg (av 10 (w64 (Mon.pj (tzX2 (swQ q)).f (tzZ2 (swQ q)).f)))) ?_
    refine qV qM 14 37 (.agg (av 10 (w64 (Mon.pj (tzX3 (swQ q)).f (tzZ3 (swQ q) e).f)))) ?_
    refine qH qM 15 38 (.pointer (some ⟨g4, 10, none⟩)) (fun w _ => (fun _ => by kernel_rfl) w) ?_
    refine qO 16 ?_
    refine pl_put M (want_no rfl) rfl 164 _ _ rfl 3 g4 10 (by kernel_rfl) 20 165 (w64 (Mon.qj (Mon.pj q.dx.f q.dz.f) (Mon.pj q.px.f q.pz.f))) rfl 10 (w64 (Mon.pj (tzX2 (swQ q)).f (tzZ2 (swQ q)).f)) (w64 (Mon.qj (Mon.pj q.dx.f q.dz.f) (Mon.pj (tzX2 (swQ q)).f (tzZ2 (swQ q)).f))) (by kernel_rfl) inz164 (by decide) (fun _ _ => rfl) (fun j hj => qq_1 _ _ _ j hj) fun u11 M => ?_
    replace M := M.nf
    refine nT ?_
    refine ⟨(M.drop (.cons_cons _ (.cons_cons _ (.cons_cons _ (.cons _ (.slnil)))))), ?_⟩
    refine qH (M.drop (.cons_cons _ (.cons_cons _ (.cons_cons _ (.cons _ (.slnil)))))) 17 39 (.pointer (some ⟨g4, 0, none⟩)) (fun w _ => (fun _ => by kernel_rfl) w) ?_
    refine qZ ?_
    refine pl_put M (want_no rfl) rfl 164 _ _ rfl 3 g4 0 (by kernel_rfl) 20 165 (w64 (Mon.qj (Mon.pj q.dx.f q.dz.f) (Mon.pj (tzX2 (swQ q)).f (tzZ2 (swQ q)).f))) rfl 10 (w64 (Mon.pj (tzX3 (swQ q)).f (tzZ3 (swQ q) e).f)) (w64 (Mon.qj (Mon.pj (tzX3 (swQ q)).f (tzZ3 (swQ q) e).f) (Mon.pj (tzX2 (swQ q)).f (tzZ2 (swQ q)).f))) (by kernel_rfl) inz164 (by decide) (fun _ _ => rfl) (fun j hj => qq_0 _ _ _ j hj) fun u12 M => ?_
    replace M := M.nf
    refine nT ?_
    refine au_block ?_
    refine au_then ?_
    refine rg_lit ?_
    refine zW 40 ((j : Int) + 1) ?_
    refine rV 1 <| nT ?_
    have e0 : Mon.ladF s e (j + 1) = ⟨tzX3 (swQ q), tzZ3 (swQ q) e, tzX2 (swQ q), tzZ2 (swQ q)⟩ := by
     show (if Mon.bit s (254 - j) = 0 then _ else _) = _
     rw [hp, if_neg c0, hqe]
     rfl
    exact exS (by rw [e0]; exact M)
   ·refine pL M 33 3 rfl 0 10 (w64 (Mon.pj q.dx.f q.dz.f)) (fun j hj => qj_0 _ _ j hj) ?_
    refine nT ?_
    refine ⟨(M.drop (.cons_cons _ (.cons_cons _ (.cons_cons _ (.cons _ (.slnil)))))), ?_⟩
    refine qO 5 ?_
    refine pL M 29 3 rfl 10 10 (w64 (Mon.pj q.px.f q.pz.f)) (fun j hj => qj_1 _ _ j hj) ?_
    refine nT ?_
    refine ⟨(M.drop (.cons_cons _ (.cons_cons _ (.cons_cons _ (.cons _ (.slnil)))))), ?_⟩
    refine qO 11 ?_
    refine pD M 35 (.tuple #[.agg (av 10 (w64 (Mon.pj (tzX2 (swQ q)).f (tzZ2 (swQ q)).f))), .agg (av 10 (w64 (Mon.pj (tzX3 (swQ q)).f (tzZ3 (swQ q) e).f)))]) (fun w M => l_step (swQ q) e (swQ_ok hq) hx w M.laid) fun u10 M => ?_
    refine nT ?_
    refine ⟨(M.drop (.cons_cons _ (.cons_cons _ (.cons_cons _ (.cons _ (.slnil)))))), ?_⟩
    have qM := M.drop (.cons_cons _ (.cons_cons _ (.cons_cons _ (.cons _ (.slnil)))))
    refine qV qM 12 23 (.tuple #[.agg (av 10 (w64 (Mon.pj (tzX2 (swQ q)).f (tzZ2 (swQ q)).f))), .agg (av 10 (w64 (Mon.pj (tzX3 (swQ q)).f (tzZ3 (swQ q) e).f)))]) ?_
    refine qV qM 13 36 (.agg (av 10 (w64 (Mon.pj (tzX2 (swQ q)).f (tzZ2 (swQ q)).f)))) ?_
    refine qV qM 14 37 (.agg (av 10 (w64 (Mon.pj (tzX3 (swQ q)).f (tzZ3 (swQ q) e).f)))) ?_
    refine qH qM 15 38 (.pointer (some ⟨g4, 10, none⟩)) (fun w _ => (fun _ => by kernel_rfl) w) ?_
    refine qO 16 ?_
    refine pl_put M (want_no rfl) rfl 164 _ _ rfl 3 g4 10 (by kernel_rfl) 20 165 (w64 (Mon.qj (Mon.pj q.dx.f q.dz.f) (Mon.pj q.px.f q.pz.f))) rfl 10 (w64 (Mon.pj (tzX2 (swQ q)).f (tzZ2 (swQ q)).f)) (w64 (Mon.qj (Mon.pj q.dx.f q.dz.f) (Mon.pj (tzX2 (swQ q)).f (tzZ2 (swQ q)).f))) (by kernel_rfl) inz164 (by decide) (fun _ _ => rfl) (fun j hj => qq_1 _ _ _ j hj) fun u11 M => ?_
    replace M := M.nf
    refine nT ?_
    refine ⟨(M.drop (.cons_cons _ (.cons_cons _ (.cons_cons _ (.cons _ (.slnil)))))), ?_⟩
    refine qH (M.drop (.cons_cons _ (.cons_cons _ (.cons_cons _ (.cons _ (.slnil)))))) 17 39 (.pointer (some ⟨g4, 0, none⟩)) (fun w _ => (fun _ => by kernel_rfl) w) ?_
    refine qZ ?_
    refine pl_put M (want_no rfl) rfl 164 _ _ rfl 3 g4 0 (by kernel_rfl) 20 165 (w64 (Mon.qj (Mon.pj q.dx.f q.dz.f) (Mon.pj (tzX2 (swQ q)).f (tzZ2 (swQ q)).f))) rfl 10 (w64 (Mon.pj (tzX3 (swQ q)).f (tzZ3 (swQ q) e).f)) (w64 (Mon.qj (Mon.pj (tzX3 (swQ q)).f (tzZ3 (swQ q) e).f) (Mon.pj (tzX2 (swQ q)).f (tzZ2 (swQ q)).f))) (by kernel_rfl) inz164 (by decide) (fun _ _ => rfl) (fun j hj => qq_0 _ _ _ j hj) fun u12 M => ?_
    replace M := M.nf
    refine nT ?_
    refine au_block ?_
    refine au_then ?_
    refine rg_lit ?_
    refine zW 40 ((j : Int) + 1) ?_
    refine rV 1 <| nT ?_
    have e0 : Mon.ladF s e (j + 1) = ⟨tzX3 (swQ q), tzZ3 (swQ q) e, tzX2 (swQ q), tzZ2 (swQ q)⟩ := by
     show (if Mon.bit s (254 - j) = 0 then _ else _) = _
     rw [hp, if_neg c0, hqe]
     rfl
    exact exS (by rw [e0]; exact M)
 ·intro a u0 hI
  obtain ⟨v1, rfl, M⟩ := hI
  refine sR ?_
  refine ZF 17 ((255 : Int) < 255) ?_
  refine nT <| wp_seq <| cF ?_
  refine wp_exit ?_
  refine au_then_exit ?_
  refine au_then_exit ?_
  refine au_block_exit ?_
  refine au_then <| wp_seq ?_
  refine rgh M [⟨g1, .cells (av 5 (w64 e.f)) 143⟩, ⟨g2, .cells (av 5 (w64 (fun _ => 0))) 143⟩, ⟨g3, .cells (av 5 (w64 (Mon.smallF 1).f)) 143⟩, ⟨g4, .cells (av 20 (w64 (Mon.qj (Mon.pj (Mon.ladF s e 255).dx.f (Mon.ladF s e 255).dz.f) (Mon.pj (Mon.ladF s e 255).px.f (Mon.ladF s e 255).pz.f)))) 165⟩] 8 fun u8 M => ?_
  replace M := M.nf
  refine qV M 0 41 (.pointer (some ⟨g4, 0, none⟩)) ?_
  refine qV M 1 42 (.pointer (some ⟨g4, 0, none⟩)) ?_
  refine qL M 2 43 3 0 5 (w64 (Mon.ladF s e 255).dx.f) (fun j hj => qp_0 _ _ _ j hj) ?_
  refine qV M 3 44 (.pointer (some ⟨g4, 0, none⟩)) ?_
  refine qV M 4 45 (.pointer (some ⟨g4, 5, none⟩)) ?_
  refine qL M 5 46 3 5 5 (w64 (Mon.ladF s e 255).dz.f) (fun j hj => qp_1 _ _ _ j hj) ?_
  refine qO 6 ?_
  refine pD M 47 (.agg (av 5 (w64 (Mon.invF (Mon.ladF s e 255).dz).f))) (fun w M => Mon.inv_any (Mon.ladF s e 255).dz w (Mon.ladF_ok s hx 255).dz) fun u9 M => ?_
  refine nT ?_
  refine ⟨M, ?_⟩
  refine qO 7 ?_
  refine pD M 48 (.agg (av 5 (w64 (Mon.mulF (Mon.ladF s e 255).dx (Mon.invF (Mon.ladF s e 255).dz)).f))) (fun w M => Mon.mul_any (Mon.ladF s e 255).dx (Mon.invF (Mon.ladF s e 255).dz) w (Mon.ladF_ok s hx 255).dx (Mon.invF_ok (Mon.ladF_ok s hx 255).dz)) fun u10 M => ?_
  refine nT ?_
  refine ⟨M, ?_⟩
  refine qZ ?_
  refine ZG M 1 5 (w64 (Mon.mulF (Mon.ladF s e 255).dx (Mon.invF (Mon.ladF s e 255).dz)).f) fun u11 M => ?_
  replace M := M.nf
  refine nT <| au_then <| wp_ret ?_
  exact bc Tryz.results93 M 1 5 (w64 (Mon.mulF (Mon.ladF s e 255).dx (Mon.invF (Mon.ladF s e 255).dz)).f) ⟨rfl, below_grown M.old⟩
open Go.RowKit
section
variable (q : Mon.RS)
def yA : Int := (q.x2 + q.z2) % Mon.Pm
def yAA : Int := yA q * yA q % Mon.Pm
def yD : Int := (q.x2 - q.z2) % Mon.Pm
def yDD : Int := yD q * yD q % Mon.Pm
def yE : Int := (yAA q - yDD q) % Mon.Pm
def yU : Int := (q.x3 - q.z3) % Mon.Pm
def yDA : Int := yU q * yA q % Mon.Pm
def yV : Int := (q.x3 + q.z3) % Mon.Pm
def yCB : Int := yV q * yD q % Mon.Pm
def yS : Int := (yDA q + yCB q) % Mon.Pm
def yT : Int := (yDA q - yCB q) % Mon.Pm
def yTT : Int := yT q * yT q % Mon.Pm
def yX3 : Int := yS q * yS q % Mon.Pm
def yX2 : Int := yAA q * yDD q % Mon.Pm
def yF : Int := 121665 * yE q % Mon.Pm
def yG : Int := (yAA q + yF q) % Mon.Pm
def yZ2 : Int := yE q * yG q % Mon.Pm
def yZ3 (x : Int) : Int := x * yTT q % Mon.Pm
end
abbrev nF (X : Int) : Nat → Value := w64 (Mon.d16 X)
abbrev BdP (X : Int) : Prop := 0 ≤ X ∧ X < Mon.Pm
section
variable {X Y : Int}
theorem l_add (hx : BdP X) (hy : BdP Y) (w : World) : Cs 57 #[.agg (av 16 (nF X)), .agg (av 16 (nF Y))] w (.agg (av 16 (nF ((X + Y) % Mon.Pm)))) := by
 have h := Mon.radd_any (Mon.d16 X) (Mon.d16 Y) w (Mon.d16_dig _ 16) (Mon.d16_dig _ 16)
 rwa [Mon.dSP hx, Mon.dSP hy] at h
theorem l_sub (hx : BdP X) (hy : BdP Y) (w : World) : Cs 59 #[.agg (av 16 (nF X)), .agg (av 16 (nF Y))] w (.agg (av 16 (nF ((X - Y) % Mon.Pm)))) := by
 have h := Mon.rsub_any (Mon.d16 X) (Mon.d16 Y) w (Mon.d16_dig _ 16) (Mon.d16_dig _ 16) (by rw [Mon.dSP hy]; exact hy.2)
 rwa [Mon.dSP hx, Mon.dSP hy] at h
theorem l_mul (hx : BdP X) (hy : BdP Y) (w : World) : Cs 58 #[.agg (av 16 (nF X)), .agg (av 16 (nF Y))] w (.agg (av 16 (nF (X * Y % Mon.Pm)))) := by
 have h := Mon.rmul_any (Mon.d16 X) (Mon.d16 Y) w (Mon.d16_dig _ 16) (Mon.d16_dig _ 16)
 rwa [Mon.dSP hx, Mon.dSP hy] at h
theorem l_inv (hx : BdP X) (w : World) : Cs 60 #[.agg (av 16 (nF X))] w (.agg (av 16 (nF (Mon.pwm X (Mon.xbit 255 21) 255)))) := by
 have h := Mon.rinv_any (Mon.d16 X) w (Mon.d16_dig _ 16)
 rwa [Mon.dSP hx] at h
end
theorem l_small (n : Int) (w : World) (h0 : 0 ≤ n) (h1 : n < 4294967296) : Cs 56 #[.int .u32 n] w (.agg (av 16 (nF n))) := Mon.rsmall_any n w h0 h1
theorem l_bytes (X : Int) (w : World) (hL : Laid w) : Cs 61 #[.agg (av 16 (nF X))] w (.string (Mon.bs (Mon.rb (Mon.d16 X) 32))) := l_rbytes _ (Mon.d16_dig _ 16) w hL
theorem l_of {u : Yb} {x : Int} (h : Mon.val (Mon.mkS u) % Mon.Pm = x) (w : World) (hL : Laid w) : Cs 55 #[.string (Mon.mkS u)] w (.agg (av 16 (nF x))) := by
 subst h
 exact l_rof (Mon.mkS u) (Mon.mkS_size u) w hL
theorem l_clamp {s K : Yb} (h : Mon.clS s = K) (hs : s.size = 32) (w : World) : Cs 54 #[.string s] w (.string K) := h ▸ Mon.rclamp_yes s w hs
theorem run_shr8 {P : Program} {a : Act} {o : Oper} (t rt : TypeId) (x y : Operand) (ho : o.op = .binOp .shr t x y rt) (k : Int) (ky : IntKind) (m : Nat) (hx : a.eval x = .int .u8 k) (hy : a.eval y = .int ky (m : Int)) (_hm : m ≤ 8) (w : World) :
  (execOp a.eval o).run P w = .ok (.value (.int .u8 (k / 2 ^ m))) w := by
 unfold execOp
 simp [ho, hx, hy, eqGuard, binOp]
theorem run_remM {P : Program} {a : Act} {o : Oper} (t rt : TypeId) (x y : Operand) (ho : o.op = .binOp .rem t x y rt) (m d : Nat) (hx : a.eval x = .int .i64 (m : Int)) (hy : a.eval y = .int .i64 (d : Int)) (hd : 0 < d) (w : World) :
  (execOp a.eval o).run P w = .ok (.value (.int .i64 ((m % d : Nat) : Int))) w := by
 have h0 : ¬ d = 0 := by omega
 have e : Int.tmod (m : Int) (d : Int) = (m : Int) % (d : Int) := rfl
 unfold execOp
 simp [ho, hx, hy, eqGuard, binOp, Op.intDiv, h0, e]
theorem quo8 (j : Nat) (hj : j < 1000000) : IntKind.wrap .i64 ((j : Int).tdiv 8) = ((j / 8 : Nat) : Int) := by
 rw [Int.tdiv_eq_ediv_of_nonneg (by omega), wrap64 (by omega) (by omega)]
 omega
theorem mk_set {u : Yb} (h : u.size = 32) : bs ((sb u).set 31 (bits .and .u8 (bt u 31) 127)) = Mon.mkS u := by
 show _ = bs ((List.range 32).map (Mon.mkF u))
 congr 1
 apply List.ext_getElem?
 intro i
 rw [List.getElem?_set, List.getElem?_map, sb_length, h]
 by_cases h31 : 31 = i
 ·subst h31
  simp [Mon.mkF, Mon.upd]
  rfl
 ·rw [if_neg h31]
  by_cases hi : i < 32
  ·rw [sb_get u i (by omega), List.getElem?_range hi]
   simp [Mon.mkF, Mon.upd, Ne.symm h31]
   rfl
  ·rw [List.getElem?_eq_none (by rw [sb_length]; omega), List.getElem?_eq_none (by rw [List.length_range]; omega)]
   rfl
theorem wrapU {x : Int} (h0 : 0 ≤ x) (h1 : x < 18446744073709551616) : IntKind.wrap .u64 x = x := by
 unfold IntKind.wrap
 simp [IntKind.bits, IntKind.signed]
 omega
theorem bd127 (x : Int) : 0 ≤ bits .and .u8 x 127 ∧ bits .and .u8 x 127 < 256 := cv8_nn _
theorem bit_eq (K : Yb) (p : Nat) : bits .and .u8 (bt K (p / 8) / 2 ^ (p % 8)) 1 = Mon.bit K p := by
 have h := bt_nn K (p / 8)
 have h2 : bt K (p / 8) / 2 ^ (p % 8) ≤ bt K (p / 8) := Int.ediv_le_self _ h.1
 have h3 : 0 ≤ bt K (p / 8) / 2 ^ (p % 8) := Int.ediv_nonneg h.1 (Int.le_of_lt (Int.pow_pos (by decide)))
 exact Mon.and1u h3 (by omega)
theorem l_ladder (sec u K : Yb) (x1 : Int) (hsec : sec.size = 32) (hu : u.size = 32) (hK : Mon.clS sec = K) (h1 : Mon.val (Mon.mkS u) % Mon.Pm = x1) (w : World) (hL : Laid w)  : Cs 30 #[.string sec, .string u] w (.string (Mon.bs (Mon.rb (Mon.d16 ((Mon.rladF K x1 255).x2 * Mon.pwm (Mon.rladF K x1 255).z2 (Mon.xbit 255 21) 255 % Mon.Pm)) 32))) := by
 go_enter Tryz.func30, Tryz.ntmps30
 have M := Mem.start hL
 have hX : BdP x1 := h1 ▸ Mon.pmod _
 have hKs : K.size = 32 := hK ▸ Mon.clS_size sec
 refine sq <| sR <| rV 1 ?_
 refine pD M 24 (.string K) (fun w M => l_clamp hK hsec w) fun u1 M => ?_
 refine rV 1 <| nT <| sR <| rV 1 ?_
 refine pl_conv M (want_no rfl) (some 26) rfl _ rfl u (by kernel_rfl) ?_
 intro g1 cpg1 Zg1 u2 hZg1 M
 replace M := M.nf
 refine rV 1 <| nT <| sR <| rV 2 ?_
 refine pH 29 (.pointer (some ⟨g1, 31, none⟩)) (run_ix0 44 5 Tryz.underlying44 inz5 _ _ rfl g1 u.size cpg1 (by kernel_rfl) .i64 31 (by kernel_rfl) (by omega)) ?_
 refine pE M 30 g1 31 (.int .u8 (bt u 31)) (fun w M => hZg1.cell (M.get 0 rfl) (by unfold vs8; rw [List.getElem?_map, sb_get _ _ (by omega)]; rfl)) ?_
 refine rV 1 ?_
 refine pH 32 (.pointer (some ⟨g1, 31, none⟩)) (run_ix0 44 5 Tryz.underlying44 inz5 _ _ rfl g1 u.size cpg1 (by kernel_rfl) .i64 31 (by kernel_rfl) (by omega)) ?_
 refine pl_putS M (want_no rfl) rfl 5 _ _ rfl 0 g1 31 (by kernel_rfl) _ rfl cpg1 _ hZg1 (by rw [vs8_length, sb_length]; omega) (.int .u8 (bits .and .u8 (bt u 31) 127)) (by kernel_rfl) inz5 rfl rfl ?_
 intro ZA u3 hZA M
 rw [show (vs8 (sb u)).set 31 (.int .u8 (bits .and .u8 (bt u 31) 127)) = vs8 ((sb u).set 31 (bits .and .u8 (bt u 31) 127)) by unfold vs8; rw [List.map_set]] at hZA
 replace M := M.nf
 refine nT <| sR <| rV 1 ?_
 refine pl_back M (want_no rfl) (some 34) rfl _ rfl 0 g1 u.size cpg1 (by kernel_rfl) _ rfl ((sb u).set 31 (bits .and .u8 (bt u 31) 127)) cpg1 hZA (by rw [List.length_set, sb_length]) (fun y hy => by rcases List.mem_or_eq_of_mem_set hy with h | h; exact sb_nn u y h; rw [h]; exact bd127 _) ?_
 rw [mk_set hu]
 refine pD M 35 (.agg (av 16 (nF x1))) (fun w M => l_of h1 w M.laid) fun u4 M => ?_
 refine pN M 7 (.cells (av 16 (w64 (fun _ => 0))) 108) fun g2 u5 M => ?_
 replace M := M.nf
 refine ZG M 1 16 (nF x1) fun u6 M => ?_
 replace M := M.nf
 refine nT <| sR ?_
 refine pD M 36 (.agg (av 16 (nF 1))) (fun w M => l_small 1 w (by decide) (by decide)) fun u7 M => ?_
 refine pN M 8 (.cells (av 16 (w64 (fun _ => 0))) 108) fun g3 u8 M => ?_
 replace M := M.nf
 refine ZG M 2 16 (nF 1) fun u9 M => ?_
 replace M := M.nf
 refine nT <| sR <| rV 1 ?_
 refine pN M 9 (.cells (av 16 (w64 (fun _ => 0))) 108) fun g4 u10 M => ?_
 replace M := M.nf
 refine ZG M 3 16 (nF 0) fun u11 M => ?_
 replace M := M.nf
 refine nT <| sR ?_
 refine pB M 38 1 ?_
 refine pN M 10 (.cells (av 16 (w64 (fun _ => 0))) 108) fun g5 u12 M => ?_
 replace M := M.nf
 refine ZG M 4 16 (nF x1) fun u13 M => ?_
 replace M := M.nf
 refine nT <| sR ?_
 refine pD M 39 (.agg (av 16 (nF 1))) (fun w M => l_small 1 w (by decide) (by decide)) fun u14 M => ?_
 refine pN M 11 (.cells (av 16 (w64 (fun _ => 0))) 108) fun g6 u15 M => ?_
 replace M := M.nf
 refine ZG M 5 16 (nF 1) fun u16 M => ?_
 replace M := M.nf
 refine nT <| wp_seq <| sq ?_
 refine wp_block ?_
 refine au_loop (fun j a w' => ∃ v1 : NV, a = (fm ([.string sec, .string u] ++ vr v1 2 2 ++ [.string ⟨#[]⟩, .string K, .slice (some ⟨g1, 0, none⟩) u.size cpg1, .pointer (some ⟨g2, 0, none⟩), .pointer (some ⟨g3, 0, none⟩), .pointer (some ⟨g4, 0, none⟩), .pointer (some ⟨g5, 0, none⟩), .pointer (some ⟨g6, 0, none⟩), .int .i64 (254 - ((j : Nat) : Int))] ++ vr v1 13 105)) ∧ Mem ⟨w, []⟩ [⟨g1, ZA⟩, ⟨g2, .cells (av 16 (nF x1)) 108⟩, ⟨g3, .cells (av 16 (nF (Mon.rladF K x1 j).x2)) 108⟩, ⟨g4, .cells (av 16 (nF (Mon.rladF K x1 j).z2)) 108⟩, ⟨g5, .cells (av 16 (nF (Mon.rladF K x1 j).x3)) 108⟩, ⟨g6, .cells (av 16 (nF (Mon.rladF K x1 j).z3)) 108⟩] w') 255 (exS M) ?_ ?_
 ·intro j a u0 hj hI
  obtain ⟨v1, rfl, M⟩ := hI
  obtain ⟨q, hqe⟩ : ∃ q, Mon.rladF K x1 j = q := ⟨_, rfl⟩
  have hq : q.Ok := hqe ▸ Mon.rladF_ok K hX j
  rw [hqe] at M
  obtain ⟨p, hp⟩ : ∃ p : Nat, 254 - j = p := ⟨_, rfl⟩
  have hpi : (254 : Int) - ((j : Nat) : Int) = (p : Int) := by omega
  rw [hpi]
  refine wp_seq <| sR <| rV 1 ?_
  refine ZT 41 ((0 : Int) ≤ (p : Int)) ?_
  refine nT <| cT <| wp_skip <| au_then <| wp_seq ?_
  refine wp_block ?_
  refine sR <| rV 2 ?_
  refine ZQ 46 .i64 (IntKind.wrap .i64 ((p : Int).tdiv 8)) (quo8 p (by omega)) ?_
  refine pH 47 (.int .u8 (bt K (p / 8))) (run_ixS 9 Tryz.underlying9 _ _ rfl K (by kernel_rfl) .i64 (p / 8) (by kernel_rfl) (by omega)) ?_
  refine rV 1 ?_
  refine pH 49 (.int .i64 ((p % 8 : Nat) : Int)) (run_remM 3 3 _ _ rfl p 8 (by kernel_rfl) (by kernel_rfl) (by decide)) ?_
  refine zJ 50 (.int .u64 ((p % 8 : Nat) : Int)) (.int .u64 (IntKind.wrap .u64 ((p % 8 : Nat) : Int))) (by rw [show IntKind.wrap .u64 ((p % 8 : Nat) : Int) = ((p % 8 : Nat) : Int) from wrapU (by omega) (by omega)]) ?_
  refine pH 51 (.int .u8 (bt K (p / 8) / 2 ^ (p % 8))) (run_shr8 5 106 _ _ rfl (bt K (p / 8)) .u64 (p % 8) (by kernel_rfl) (by kernel_rfl) (by omega)) ?_
  refine rV 1 ?_
  by_cases c0 : (Mon.bit K p) = 0
  ·refine zJ 53 (.bool false) (.bool (decide (bits .and .u8 (bt K (p / 8) / 2 ^ (p % 8)) 1 = 1))) (by rw [bit_eq, decide_eq_false (by have := Mon.bit_two K p; omega)]) ?_
   refine rV 1 <| nT <| wp_seq <| sq <| cF ?_
   refine wp_skip <| au_then <| sR ?_
   refine pB M 59 2 ?_
   refine pB M 60 3 ?_
   refine pD M 61 (.agg (av 16 (nF (yA q)))) (fun w M => l_add hq.x2 hq.z2 w) fun u17 M => ?_
   refine pN M 14 (.cells (av 16 (w64 (fun _ => 0))) 108) fun g7 u18 M => ?_
   replace M := M.nf
   refine ZG M 6 16 (nF (yA q)) fun u19 M => ?_
   replace M := M.nf
   refine nT <| sR ?_
   refine pB M 62 6 ?_
   refine pB M 63 6 ?_
   refine pC M 64 58 #[.agg (av 16 (nF (yA q))), .agg (av 16 (nF (yA q)))] (.agg (av 16 (nF (yAA q)))) (fun w M => l_mul (Mon.pmod _) (Mon.pmod _) w) fun u20 M => ?_
   refine pN M 15 (.cells (av 16 (w64 (fun _ => 0))) 108) fun g8 u21 M => ?_
   replace M := M.nf
   refine ZG M 7 16 (nF (yAA q)) fun u22 M => ?_
   replace M := M.nf
   refine nT <| sR ?_
   refine pB M 65 2 ?_
   refine pB M 66 3 ?_
   refine pD M 67 (.agg (av 16 (nF (yD q)))) (fun w M => l_sub hq.x2 hq.z2 w) fun u23 M => ?_
   refine pN M 16 (.cells (av 16 (w64 (fun _ => 0))) 108) fun g9 u24 M => ?_
   replace M := M.nf
   refine ZG M 8 16 (nF (yD q)) fun u25 M => ?_
   replace M := M.nf
   refine nT <| sR ?_
   refine pB M 68 8 ?_
   refine pB M 69 8 ?_
   refine pC M 70 58 #[.agg (av 16 (nF (yD q))), .agg (av 16 (nF (yD q)))] (.agg (av 16 (nF (yDD q)))) (fun w M => l_mul (Mon.pmod _) (Mon.pmod _) w) fun u26 M => ?_
   refine pN M 17 (.cells (av 16 (w64 (fun _ => 0))) 108) fun g10 u27 M => ?_
   replace M := M.nf
   refine ZG M 9 16 (nF (yDD q)) fun u28 M => ?_
   replace M := M.nf
   refine nT <| sR ?_
   refine pB M 71 7 ?_
   refine pB M 72 9 ?_
   refine pC M 73 59 #[.agg (av 16 (nF (yAA q))), .agg (av 16 (nF (yDD q)))] (.agg (av 16 (nF (yE q)))) (fun w M => l_sub (Mon.pmod _) (Mon.pmod _) w) fun u29 M => ?_
   refine pN M 18 (.cells (av 16 (w64 (fun _ => 0))) 108) fun g11 u30 M => ?_
   replace M := M.nf
   refine ZG M 10 16 (nF (yE q)) fun u31 M => ?_
   replace M := M.nf
   refine nT <| wp_seq ?_
   refine rg_allocs M 5 [(19, fun g => .pointer (some ⟨g, 0, none⟩), .cells (av 16 (w64 (fun _ => 0))) 108)] (by kernel_rfl) (by kernel_rfl) (⟨rfl, rfl, fun _ _ => by kernel_rfl, trivial⟩) (by decide) ?_
   simp only [List.take_succ_cons, List.take_zero]
   refine kB M 74 4 ?_
   refine kB M 75 5 ?_
   refine kD M 76 (.agg (av 16 (nF (yU q)))) (fun w M => l_sub hq.x3 hq.z3 w) ?_
   refine kB M 77 6 ?_
   refine kC M 78 58 #[.agg (av 16 (nF (yU q))), .agg (av 16 (nF (yA q)))] (.agg (av 16 (nF (yDA q)))) (fun w M => l_mul (Mon.pmod _) (Mon.pmod _) w) ?_
   refine kl_nil fun u32 g12 M => ?_
   replace M := M.nf
   refine ZG M 11 16 (nF (yDA q)) fun u33 M => ?_
   replace M := M.nf
   refine nT <| wp_seq ?_
   refine rg_allocs M 5 [(20, fun g => .pointer (some ⟨g, 0, none⟩), .cells (av 16 (w64 (fun _ => 0))) 108)] (by kernel_rfl) (by kernel_rfl) (⟨rfl, rfl, fun _ _ => by kernel_rfl, trivial⟩) (by decide) ?_
   simp only [List.take_succ_cons, List.take_zero]
   refine kB M 79 4 ?_
   refine kB M 80 5 ?_
   refine kD M 81 (.agg (av 16 (nF (yV q)))) (fun w M => l_add hq.x3 hq.z3 w) ?_
   refine kB M 82 8 ?_
   refine kC M 83 58 #[.agg (av 16 (nF (yV q))), .agg (av 16 (nF (yD q)))] (.agg (av 16 (nF (yCB q)))) (fun w M => l_mul (Mon.pmod _) (Mon.pmod _) w) ?_
   refine kl_nil fun u34 g13 M => ?_
   replace M := M.nf
   refine ZG M 12 16 (nF (yCB q)) fun u35 M => ?_
   replace M := M.nf
   refine nT <| sR ?_
   refine pB M 84 11 ?_
   refine pB M 85 12 ?_
   refine pC M 86 57 #[.agg (av 16 (nF (yDA q))), .agg (av 16 (nF (yCB q)))] (.agg (av 16 (nF (yS q)))) (fun w M => l_add (Mon.pmod _) (Mon.pmod _) w) fun u36 M => ?_
   refine pN M 21 (.cells (av 16 (w64 (fun _ => 0))) 108) fun g14 u37 M => ?_
   replace M := M.nf
   refine ZG M 13 16 (nF (yS q)) fun u38 M => ?_
   replace M := M.nf
   refine nT <| sR ?_
   refine pB M 87 13 ?_
   refine pB M 88 13 ?_
   refine pC M 89 58 #[.agg (av 16 (nF (yS q))), .agg (av 16 (nF (yS q)))] (.agg (av 16 (nF (yX3 q)))) (fun w M => l_mul (Mon.pmod _) (Mon.pmod _) w) fun u39 M => ?_
   refine ZG M 4 16 (nF (yX3 q)) fun u40 M => ?_
   replace M := M.nf
   refine nT <| sR ?_
   refine pB M 90 11 ?_
   refine pB M 91 12 ?_
   refine pC M 92 59 #[.agg (av 16 (nF (yDA q))), .agg (av 16 (nF (yCB q)))] (.agg (av 16 (nF (yT q)))) (fun w M => l_sub (Mon.pmod _) (Mon.pmod _) w) fun u41 M => ?_
   refine pN M 22 (.cells (av 16 (w64 (fun _ => 0))) 108) fun g15 u42 M => ?_
   replace M := M.nf
   refine ZG M 14 16 (nF (yT q)) fun u43 M => ?_
   replace M := M.nf
   refine nT <| wp_seq ?_
   refine rg_tail M 5 (by kernel_rfl) (by kernel_rfl) ?_
   simp only [List.take_succ_cons, List.take_zero]
   refine kB M 93 1 ?_
   refine kB M 94 14 ?_
   refine kB M 95 14 ?_
   refine kC M 96 58 #[.agg (av 16 (nF (yT q))), .agg (av 16 (nF (yT q)))] (.agg (av 16 (nF (yTT q)))) (fun w M => l_mul (Mon.pmod _) (Mon.pmod _) w) ?_
   refine kC M 97 58 #[.agg (av 16 (nF x1)), .agg (av 16 (nF (yTT q)))] (.agg (av 16 (nF (yZ3 q x1)))) (fun w M => l_mul hX (Mon.pmod _) w) ?_
   refine kl_nil fun u44 M => ?_
   replace M := M.nf
   refine ZG M 5 16 (nF (yZ3 q x1)) fun u45 M => ?_
   replace M := M.nf
   refine nT <| sR ?_
   refine pB M 98 7 ?_
   refine pB M 99 9 ?_
   refine pC M 100 58 #[.agg (av 16 (nF (yAA q))), .agg (av 16 (nF (yDD q)))] (.agg (av 16 (nF (yX2 q)))) (fun w M => l_mul (Mon.pmod _) (Mon.pmod _) w) fun u46 M => ?_
   refine ZG M 2 16 (nF (yX2 q)) fun u47 M => ?_
   replace M := M.nf
   refine nT <| wp_seq ?_
   refine rg_tail M 7 (by kernel_rfl) (by kernel_rfl) ?_
   simp only [List.take_succ_cons, List.take_zero]
   refine kB M 101 10 ?_
   refine kB M 102 7 ?_
   refine kD M 103 (.agg (av 16 (nF 121665))) (fun w M => l_small 121665 w (by decide) (by decide)) ?_
   refine kB M 104 10 ?_
   refine kC M 105 58 #[.agg (av 16 (nF 121665)), .agg (av 16 (nF (yE q)))] (.agg (av 16 (nF (yF q)))) (fun w M => l_mul ⟨by decide, by decide⟩ (Mon.pmod _) w) ?_
   refine kC M 106 57 #[.agg (av 16 (nF (yAA q))), .agg (av 16 (nF (yF q)))] (.agg (av 16 (nF (yG q)))) (fun w M => l_add (Mon.pmod _) (Mon.pmod _) w) ?_
   refine kC M 107 58 #[.agg (av 16 (nF (yE q))), .agg (av 16 (nF (yG q)))] (.agg (av 16 (nF (yZ2 q)))) (fun w M => l_mul (Mon.pmod _) (Mon.pmod _) w) ?_
   refine kl_nil fun u48 M => ?_
   replace M := M.nf
   refine ZG M 3 16 (nF (yZ2 q)) fun u49 M => ?_
   replace M := M.nf
   refine nT <| sq <| cF <| wp_skip ?_
   refine au_block ?_
   refine au_then ?_
   refine rg_lit ?_
   refine rV 1 ?_
   refine ZI 43 ((p : Int) - 1) (254 - ((j + 1 : Nat) : Int)) ?_
   refine rV 1 <| nT ?_
   have e0 : Mon.rladF K x1 (j + 1) = ⟨(yX2 q), (yZ2 q), (yX3 q), (yZ3 q x1)⟩ := by
    show (if Mon.bit K (254 - j) = 0 then _ else _) = _
    rw [hp, if_pos c0, hqe]
    rfl
   exact exS (by rw [e0]; exact M.drop (.cons_cons _ (.cons_cons _ (.cons_cons _ (.cons_cons _ (.cons_cons _ (.cons_cons _ (.cons _ (.cons _ (.cons _ (.cons _ (.cons _ (.cons _ (.cons _ (.cons _ (.cons _ (.slnil)))))))))))))))))
  ·refine zJ 53 (.bool true) (.bool (decide (bits .and .u8 (bt K (p / 8) / 2 ^ (p % 8)) 1 = 1))) (by rw [bit_eq, decide_eq_true (by have := Mon.bit_two K p; omega)]) ?_
   refine rV 1 <| nT <| wp_seq <| sq <| cT ?_
   refine sR ?_
   refine pB M 55 4 ?_
   refine pB M 56 2 ?_
   refine ZG M 2 16 (nF q.x3) fun u17 M => ?_
   replace M := M.nf
   refine ZG M 4 16 (nF q.x2) fun u18 M => ?_
   replace M := M.nf
   refine nT ?_
   refine rg_lit ?_
   refine pB M 57 5 ?_
   refine pB M 58 3 ?_
   refine ZG M 3 16 (nF q.z3) fun u19 M => ?_
   replace M := M.nf
   refine ZG M 5 16 (nF q.z2) fun u20 M => ?_
   replace M := M.nf
   refine nT <| sR ?_
   refine pB M 59 2 ?_
   refine pB M 60 3 ?_
   refine pD M 61 (.agg (av 16 (nF (yA q.swap)))) (fun w M => l_add hq.x3 hq.z3 w) fun u21 M => ?_
   refine pN M 14 (.cells (av 16 (w64 (fun _ => 0))) 108) fun g7 u22 M => ?_
   replace M := M.nf
   refine ZG M 6 16 (nF (yA q.swap)) fun u23 M => ?_
   replace M := M.nf
   refine nT <| sR ?_
   refine pB M 62 6 ?_
   refine pB M 63 6 ?_
   refine pC M 64 58 #[.agg (av 16 (nF (yA q.swap))), .agg (av 16 (nF (yA q.swap)))] (.agg (av 16 (nF (yAA q.swap)))) (fun w M => l_mul (Mon.pmod _) (Mon.pmod _) w) fun u24 M => ?_
   refine pN M 15 (.cells (av 16 (w64 (fun _ => 0))) 108) fun g8 u25 M => ?_
   replace M := M.nf
   refine ZG M 7 16 (nF (yAA q.swap)) fun u26 M => ?_
   replace M := M.nf
   refine nT <| sR ?_
   refine pB M 65 2 ?_
   refine pB M 66 3 ?_
   refine pD M 67 (.agg (av 16 (nF (yD q.swap)))) (fun w M => l_sub hq.x3 hq.z3 w) fun u27 M => ?_
   refine pN M 16 (.cells (av 16 (w64 (fun _ => 0))) 108) fun g9 u28 M => ?_
   replace M := M.nf
   refine ZG M 8 16 (nF (yD q.swap)) fun u29 M => ?_
   replace M := M.nf
   refine nT <| sR ?_
   refine pB M 68 8 ?_
   refine pB M 69 8 ?_
   refine pC M 70 58 #[.agg (av 16 (nF (yD q.swap))), .agg (av 16 (nF (yD q.swap)))] (.agg (av 16 (nF (yDD q.swap)))) (fun w M => l_mul (Mon.pmod _) (Mon.pmod _) w) fun u30 M => ?_
   refine pN M 17 (.cells (av 16 (w64 (fun _ => 0))) 108) fun g10 u31 M => ?_
   replace M := M.nf
   refine ZG M 9 16 (nF (yDD q.swap)) fun u32 M => ?_
   replace M := M.nf
   refine nT <| sR ?_
   refine pB M 71 7 ?_
   refine pB M 72 9 ?_
   refine pC M 73 59 #[.agg (av 16 (nF (yAA q.swap))), .agg (av 16 (nF (yDD q.swap)))] (.agg (av 16 (nF (yE q.swap)))) (fun w M => l_sub (Mon.pmod _) (Mon.pmod _) w) fun u33 M => ?_
   refine pN M 18 (.cells (av 16 (w64 (fun _ => 0))) 108) fun g11 u34 M => ?_
   replace M := M.nf
   refine ZG M 10 16 (nF (yE q.swap)) fun u35 M => ?_
   replace M := M.nf
   refine nT <| wp_seq ?_
   refine rg_allocs M 5 [(19, fun g => .pointer (some ⟨g, 0, none⟩), .cells (av 16 (w64 (fun _ => 0))) 108)] (by kernel_rfl) (by kernel_rfl) (⟨rfl, rfl, fun _ _ => by kernel_rfl, trivial⟩) (by decide) ?_
   simp only [List.take_succ_cons, List.take_zero]
   refine kB M 74 4 ?_
   refine kB M 75 5 ?_
   refine kD M 76 (.agg (av 16 (nF (yU q.swap)))) (fun w M => l_sub hq.x2 hq.z2 w) ?_
   refine kB M 77 6 ?_
   refine kC M 78 58 #[.agg (av 16 (nF (yU q.swap))), .agg (av 16 (nF (yA q.swap)))] (.agg (av 16 (nF (yDA q.swap)))) (fun w M => l_mul (Mon.pmod _) (Mon.pmod _) w) ?_
   refine kl_nil fun u36 g12 M => ?_
   replace M := M.nf
   refine ZG M 11 16 (nF (yDA q.swap)) fun u37 M => ?_
   replace M := M.nf
   refine nT <| wp_seq ?_
   refine rg_allocs M 5 [(20, fun g => .pointer (some ⟨g, 0, none⟩), .cells (av 16 (w64 (fun _ => 0))) 108)] (by kernel_rfl) (by kernel_rfl) (⟨rfl, rfl, fun _ _ => by kernel_rfl, trivial⟩) (by decide) ?_
   simp only [List.take_succ_cons, List.take_zero]
   refine kB M 79 4 ?_
   refine kB M 80 5 ?_
   refine kD M 81 (.agg (av 16 (nF (yV q.swap)))) (fun w M => l_add hq.x2 hq.z2 w) ?_
   refine kB M 82 8 ?_
   refine kC M 83 58 #[.agg (av 16 (nF (yV q.swap))), .agg (av 16 (nF (yD q.swap)))] (.agg (av 16 (nF (yCB q.swap)))) (fun w M => l_mul (Mon.pmod _) (Mon.pmod _) w) ?_
   refine kl_nil fun u38 g13 M => ?_
   replace M := M.nf
   refine ZG M 12 16 (nF (yCB q.swap)) fun u39 M => ?_
   replace M := M.nf
   refine nT <| sR ?_
   refine pB M 84 11 ?_
   refine pB M 85 12 ?_
   refine pC M 86 57 #[.agg (av 16 (nF (yDA q.swap))), .agg (av 16 (nF (yCB q.swap)))] (.agg (av 16 (nF (yS q.swap)))) (fun w M => l_add (Mon.pmod _) (Mon.pmod _) w) fun u40 M => ?_
   refine pN M 21 (.cells (av 16 (w64 (fun _ => 0))) 108) fun g14 u41 M => ?_
   replace M := M.nf
   refine ZG M 13 16 (nF (yS q.swap)) fun u42 M => ?_
   replace M := M.nf
   refine nT <| sR ?_
   refine pB M 87 13 ?_
   refine pB M 88 13 ?_
   refine pC M 89 58 #[.agg (av 16 (nF (yS q.swap))), .agg (av 16 (nF (yS q.swap)))] (.agg (av 16 (nF (yX3 q.swap)))) (fun w M => l_mul (Mon.pmod _) (Mon.pmod _) w) fun u43 M => ?_
   refine ZG M 4 16 (nF (yX3 q.swap)) fun u44 M => ?_
   replace M := M.nf
   refine nT <| sR ?_
   refine pB M 90 11 ?_
   refine pB M 91 12 ?_
   refine pC M 92 59 #[.agg (av 16 (nF (yDA q.swap))), .agg (av 16 (nF (yCB q.swap)))] (.agg (av 16 (nF (yT q.swap)))) (fun w M => l_sub (Mon.pmod _) (Mon.pmod _) w) fun u45 M => ?_
   refine pN M 22 (.cells (av 16 (w64 (fun _ => 0))) 108) fun g15 u46 M => ?_
   replace M := M.nf
   refine ZG M 14 16 (nF (yT q.swap)) fun u47 M => ?_
   replace M := M.nf
   refine nT <| wp_seq ?_
   refine rg_tail M 5 (by kernel_rfl) (by kernel_rfl) ?_
   simp only [List.take_succ_cons, List.take_zero]
   refine kB M 93 1 ?_
   refine kB M 94 14 ?_
   refine kB M 95 14 ?_
   refine kC M 96 58 #[.agg (av 16 (nF (yT q.swap))), .agg (av 16 (nF (yT q.swap)))] (.agg (av 16 (nF (yTT q.swap)))) (fun w M => l_mul (Mon.pmod _) (Mon.pmod _) w) ?_
   refine kC M 97 58 #[.agg (av 16 (nF x1)), .agg (av 16 (nF (yTT q.swap)))] (.agg (av 16 (nF (yZ3 q.swap x1)))) (fun w M => l_mul hX (Mon.pmod _) w) ?_
   refine kl_nil fun u48 M => ?_
   replace M := M.nf
   refine ZG M 5 16 (nF (yZ3 q.swap x1)) fun u49 M => ?_
   replace M := M.nf
   refine nT <| sR ?_
   refine pB M 98 7 ?_
   refine pB M 99 9 ?_
   refine pC M 100 58 #[.agg (av 16 (nF (yAA q.swap))), .agg (av 16 (nF (yDD q.swap)))] (.agg (av 16 (nF (yX2 q.swap)))) (fun w M => l_mul (Mon.pmod _) (Mon.pmod _) w) fun u50 M => ?_
   refine ZG M 2 16 (nF (yX2 q.swap)) fun u51 M => ?_
   replace M := M.nf
   refine nT <| wp_seq ?_
   refine rg_tail M 7 (by kernel_rfl) (by kernel_rfl) ?_
   simp only [List.take_succ_cons, List.take_zero]
   refine kB M 101 10 ?_
   refine kB M 102 7 ?_
   refine kD M 103 (.agg (av 16 (nF 121665))) (fun w M => l_small 121665 w (by decide) (by decide)) ?_
   refine kB M 104 10 ?_
   refine kC M 105 58 #[.agg (av 16 (nF 121665)), .agg (av 16 (nF (yE q.swap)))] (.agg (av 16 (nF (yF q.swap)))) (fun w M => l_mul ⟨by decide, by decide⟩ (Mon.pmod _) w) ?_
   refine kC M 106 57 #[.agg (av 16 (nF (yAA q.swap))), .agg (av 16 (nF (yF q.swap)))] (.agg (av 16 (nF (yG q.swap)))) (fun w M => l_add (Mon.pmod _) (Mon.pmod _) w) ?_
   refine kC M 107 58 #[.agg (av 16 (nF (yE q.swap))), .agg (av 16 (nF (yG q.swap)))] (.agg (av 16 (nF (yZ2 q.swap)))) (fun w M => l_mul (Mon.pmod _) (Mon.pmod _) w) ?_
   refine kl_nil fun u52 M => ?_
   replace M := M.nf
   refine ZG M 3 16 (nF (yZ2 q.swap)) fun u53 M => ?_
   replace M := M.nf
   refine nT <| sq <| cT <| sR ?_
   refine pB M 109 4 ?_
   refine pB M 110 2 ?_
   refine ZG M 2 16 (nF (yX3 q.swap)) fun u54 M => ?_
   replace M := M.nf
   refine ZG M 4 16 (nF (yX2 q.swap)) fun u55 M => ?_
   replace M := M.nf
   refine nT ?_
   refine rg_lit ?_
   refine pB M 111 5 ?_
   refine pB M 112 3 ?_
   refine ZG M 3 16 (nF (yZ3 q.swap x1)) fun u56 M => ?_
   replace M := M.nf
   refine ZG M 5 16 (nF (yZ2 q.swap)) fun u57 M => ?_
   replace M := M.nf
   refine pl_nil ?_
   refine au_block ?_
   refine au_then ?_
   refine rg_lit ?_
   refine rV 1 ?_
   refine ZI 43 ((p : Int) - 1) (254 - ((j + 1 : Nat) : Int)) ?_
   refine rV 1 <| nT ?_
   have e0 : Mon.rladF K x1 (j + 1) = ⟨(yX3 q.swap), (yZ3 q.swap x1), (yX2 q.swap), (yZ2 q.swap)⟩ := by
    show (if Mon.bit K (254 - j) = 0 then _ else _) = _
    rw [hp, if_neg c0, hqe]
    rfl
   exact exS (by rw [e0]; exact M.drop (.cons_cons _ (.cons_cons _ (.cons_cons _ (.cons_cons _ (.cons_cons _ (.cons_cons _ (.cons _ (.cons _ (.cons _ (.cons _ (.cons _ (.cons _ (.cons _ (.cons _ (.cons _ (.slnil)))))))))))))))))
 ·intro a u0 hI
  obtain ⟨v1, rfl, M⟩ := hI
  refine wp_seq <| sR <| rV 1 ?_
  refine ZF 41 ((0 : Int) ≤ (254 - ((255 : Nat) : Int))) ?_
  refine nT <| cF ?_
  refine wp_exit ?_
  refine au_then_exit ?_
  refine au_then_exit ?_
  refine au_block_exit ?_
  refine au_then <| wp_seq ?_
  refine rg_tail M 5 (by kernel_rfl) (by kernel_rfl) ?_
  simp only [List.take_succ_cons, List.take_zero]
  refine kB M 113 2 ?_
  refine kB M 114 3 ?_
  refine kD M 115 (.agg (av 16 (nF (Mon.pwm (Mon.rladF K x1 255).z2 (Mon.xbit 255 21) 255)))) (fun w M => l_inv (Mon.rladF_ok K hX 255).z2 w) ?_
  refine kC M 116 58 #[.agg (av 16 (nF (Mon.rladF K x1 255).x2)), .agg (av 16 (nF (Mon.pwm (Mon.rladF K x1 255).z2 (Mon.xbit 255 21) 255)))] (.agg (av 16 (nF ((Mon.rladF K x1 255).x2 * (Mon.pwm (Mon.rladF K x1 255).z2 (Mon.xbit 255 21) 255) % Mon.Pm)))) (fun w M => l_mul (Mon.rladF_ok K hX 255).x2 (Mon.pwm_bd _ _ _) w) ?_
  refine kD M 117 (.string (Mon.bs (Mon.rb (Mon.d16 ((Mon.rladF K x1 255).x2 * (Mon.pwm (Mon.rladF K x1 255).z2 (Mon.xbit 255 21) 255) % Mon.Pm)) 32))) (fun w M => l_bytes ((Mon.rladF K x1 255).x2 * (Mon.pwm (Mon.rladF K x1 255).z2 (Mon.xbit 255 21) 255) % Mon.Pm) w M.laid) ?_
  refine kl_nil fun u17 M => ?_
  replace M := M.nf
  refine rV 1 <| nT <| wp_ret ?_
  exact b1 M
open Go.RowKit
theorem quo8L (j : Nat) (hj : j < 1000000) : IntKind.wrap .i64 ((j : Int).tdiv 8) = ((j / 8 : Nat) : Int) := by
 rw [Int.tdiv_eq_ediv_of_nonneg (by omega), wrap64 (by omega) (by omega)]
 omega
theorem sw_or (s : Yb) (m r : Nat) (hr : r < 8) : uo (Mon.sw s m r) (sl (cv .u64 (bt s (8 * m + r))) (r * 8)) = Mon.sw s m (r + 1) := by
 have hb := bt_nn s (8 * m + r)
 have hs := Mon.sw_bd s m r
 have e : cv .u64 (bt s (8 * m + r)) = bt s (8 * m + r) := wrapL hb.1 (by omega)
 have e2 : (2 : Int) ^ (r * 8) = 256 ^ r := by rw [Nat.mul_comm, Int.pow_mul]; rfl
 have h7 : (256 : Int) ^ r ≤ 72057594037927936 := by
  rcases (by omega : r = 0 ∨ r = 1 ∨ r = 2 ∨ r = 3 ∨ r = 4 ∨ r = 5 ∨ r = 6 ∨ r = 7) with rfl | rfl | rfl | rfl | rfl | rfl | rfl | rfl <;> decide
 have h0 : (0 : Int) < 256 ^ r := Int.pow_pos (by decide)
 have h8 : bt s (8 * m + r) * 256 ^ r ≤ 255 * 72057594037927936 := Int.mul_le_mul (by omega) h7 (Int.le_of_lt h0) (by decide)
 have h9 : 0 ≤ bt s (8 * m + r) * 256 ^ r := Int.mul_nonneg hb.1 (Int.le_of_lt h0)
 rw [e]
 unfold sl
 rw [e2, wrapL h9 (by omega)]
 have e3 : ((256 ^ r : Nat) : Int) = 256 ^ r := by norm_cast
 exact (Mon.or_join' (r * 8) (256 ^ r) (by rw [Nat.mul_comm, Nat.pow_mul]) ⟨hs.1, by omega⟩ ⟨h9, by omega⟩ (by rw [e3]; exact Int.mul_emod_left _ _) (by rw [e3]; exact hs.2)).trans rfl
theorem sw_nx (s : Yb) {j : Nat} : upd (Mon.swk s j) (j / 8) (uo (Mon.swk s j (j / 8)) (sl (cv .u64 (bt s j)) (j % 8 * 8))) = Mon.swk s (j + 1) := by
 obtain ⟨m, r, hr, rfl⟩ : ∃ m r, r < 8 ∧ j = 8 * m + r := ⟨j / 8, j % 8, by omega, by omega⟩
 rw [show (8 * m + r) / 8 = m by omega, show (8 * m + r) % 8 = r by omega, show Mon.swk s (8 * m + r) m = Mon.sw s m r by unfold Mon.swk; rw [show min (8 * m + r - 8 * m) 8 = r by omega], sw_or s m r hr]
 funext i
 unfold upd Mon.swk
 by_cases h : i = m
 ·subst h
  rw [if_pos rfl, show min (8 * i + r + 1 - 8 * i) 8 = r + 1 by omega]
 ·rw [if_neg h]
  congr 1
  omega
theorem sw_z (s : Yb) : Mon.swk s 0 = fun _ => 0 := by
 funext i
 unfold Mon.swk
 rw [show min (0 - 8 * i) 8 = 0 by omega]
 rfl
theorem l_words (s : Yb) (hs : s.size = 32) (w : World) (hL : Laid w)  : Cs 146 #[.string s] w (.agg (av 4 (w64 (Mon.swk s 32)))) := by
 go_enter Tryz.func146, Tryz.ntmps146
 have M := Mem.start hL
 refine sR ?_
 refine pN M 2 (.cells (av 4 (w64 (fun _ => 0))) 173) fun g1 u1 M => ?_
 replace M := M.nf
 refine nT <| sR ?_
 refine pN M 3 (.cells (av 4 (w64 (fun _ => 0))) 173) fun g2 u2 M => ?_
 replace M := M.nf
 refine nT <| wp_seq <| sq ?_
 refine wp_block ?_
 refine au_loop (fun j a w' => ∃ v1 : NV, a = (fm ([.string s, v1 1, .pointer (some ⟨g1, 0, none⟩), .pointer (some ⟨g2, 0, none⟩), v1 4, .int .i64 (j : Int)] ++ vr v1 6 18)) ∧ Mem ⟨w, []⟩ [⟨g1, .cells (av 4 (w64 (fun _ => 0))) 173⟩, ⟨g2, .cells (av 4 (w64 (Mon.swk s j))) 173⟩] w') 32 (exS (by rw [sw_z]; exact M)) ?_ ?_
 ·intro j a u0 hj hI
  obtain ⟨v1, rfl, M⟩ := hI
  refine sR ?_
  refine ZT 6 ((j : Int) < 32) ?_
  refine nT <| wp_seq <| cT <| wp_skip <| au_then ?_
  refine wp_seq ?_
  refine wp_block ?_
  refine sq ?_
  refine rgh M [⟨g1, .cells (av 4 (w64 (fun _ => 0))) 173⟩, ⟨g2, .cells (av 4 (w64 (Mon.swk s j))) 173⟩] 14 fun u3 M => ?_
  replace M := M.nf
  refine qV M 0 8 (.int .i64 (j : Int)) ?_
  refine qH M 1 9 (.int .i64 ((j / 8 : Nat) : Int)) (fun w _ => (fun w => Eq.trans (b := .ok (.value (.int .i64 (IntKind.wrap .i64 ((j : Int).tdiv 8)))) w) (by kernel_rfl) (by rw [quo8L j (by omega)])) w) ?_
  refine qH M 2 10 (.pointer (some ⟨g2, ((j / 8 : Nat)), none⟩)) (fun w _ => (run_ix1 173 4 33 Tryz.underlying173 inz33 _ _ rfl g2 (by kernel_rfl) .i64 ((j / 8 : Nat)) (by kernel_rfl) (by omega)) w) ?_
  refine qE M 3 11 1 ((j / 8 : Nat)) ?_
  refine qV M 4 12 (.string s) ?_
  refine qV M 5 13 (.int .i64 (j : Int)) ?_
  refine qH M 6 14 (.int .u8 (bt s j)) (fun w _ => (run_ixS 9 Tryz.underlying9 _ _ rfl s (by kernel_rfl) .i64 j (by kernel_rfl) (by omega)) w) ?_
  refine qV M 7 15 (.int .u64 (cv .u64 (bt s j))) ?_
  refine qV M 8 16 (.int .i64 (j : Int)) ?_
  refine qH M 9 17 (.int .i64 ((j % 8 : Nat) : Int)) (fun w _ => (run_remL 3 3 _ _ rfl j 8 (by kernel_rfl) (by kernel_rfl) (by decide)) w) ?_
  refine qH M 10 18 (.int .i64 ((j % 8 * 8 : Nat) : Int)) (fun w _ => (fun w => Eq.trans (b := .ok (.value (.int .i64 (IntKind.wrap .i64 (((j % 8 : Nat) : Int) * 8)))) w) (by kernel_rfl) (by rw [wrap64 (by omega) (by omega)]; rfl)) w) ?_
  refine qH M 11 19 (.int .u64 (sl (cv .u64 (bt s j)) (j % 8 * 8))) (fun w _ => (Pol.run_shlU 33 3 _ _ rfl _ .i64 (j % 8 * 8) (by kernel_rfl) (by kernel_rfl) (by omega)) w) ?_
  refine qV M 12 20 (.int .u64 (uo ((Mon.swk s j) ((j / 8 : Nat))) (sl (cv .u64 (bt s j)) (j % 8 * 8)))) ?_
  refine qH M 13 21 (.pointer (some ⟨g2, ((j / 8 : Nat)), none⟩)) (fun w _ => (run_ix1 173 4 33 Tryz.underlying173 inz33 _ _ rfl g2 (by kernel_rfl) .i64 ((j / 8 : Nat)) (by kernel_rfl) (by omega)) w) ?_
  refine qZ ?_
  refine ZP64 M 1 ((j / 8 : Nat)) (uo ((Mon.swk s j) ((j / 8 : Nat))) (sl (cv .u64 (bt s j)) (j % 8 * 8))) fun u4 M => ?_
  replace M := M.nf
  refine nT ?_
  refine au_block ?_
  refine au_then ?_
  refine rg_lit ?_
  refine ZI 22 ((j : Int) + 1) ((j + 1 : Nat) : Int) ?_
  refine rV 1 <| nT ?_
  rw [sw_nx s] at M
  exact exS M
 ·intro a u0 hI
  obtain ⟨v1, rfl, M⟩ := hI
  refine sR ?_
  refine ZF 6 ((32 : Int) < 32) ?_
  refine nT <| wp_seq <| cF ?_
  refine wp_exit ?_
  refine au_then_exit ?_
  refine au_then_exit ?_
  refine au_block_exit ?_
  refine au_then <| sR ?_
  refine pB M 23 1 ?_
  refine ZG M 0 4 (w64 (Mon.swk s 32)) fun u3 M => ?_
  replace M := M.nf
  refine nT <| wp_ret ?_
  exact bc Tryz.results146 M 0 4 (w64 (Mon.swk s 32)) ⟨rfl, below_grown M.old⟩
theorem l_num (s : Yb) (w : World) : Cs 147 #[.agg (av 4 (w64 (Mon.swk s 32)))] w (.agg (av 5 (w64 (Mon.ofF s).f))) := Mon.number_any (Mon.sw s 0 8) (Mon.sw s 1 8) (Mon.sw s 2 8) (Mon.sw s 3 8) w (Mon.sw64 s 0) (Mon.sw64 s 1) (Mon.sw64 s 2) (Mon.sw64 s 3)
theorem l_ofN (u : Yb) (hu : u.size = 32) (w : World) (hL : Laid w)  : Cs 114 #[.string u] w (.tuple #[.agg (av 5 (w64 (Mon.ofF u).f)), .int .i64 0]) := by
 go_enter Tryz.func114, Tryz.ntmps114
 have M := Mem.start hL
 refine sR ?_
 refine pN M 2 (.cells (av 5 (w64 (fun _ => 0))) 143) fun g1 u1 M => ?_
 replace M := M.nf
 refine rV 1 <| nT <| wp_seq <| sR <| rV 2 ?_
 refine ZD 6 ((u.size : Int) = 32) ?_
 refine nT <| cF <| wp_skip <| au_then <| sR ?_
 refine rV 1 ?_
 refine pD M 9 (.agg (av 4 (w64 (Mon.swk u 32)))) (fun w M => l_words u hu w M.laid) fun u2 M => ?_
 refine pD M 10 (.agg (av 5 (w64 (Mon.ofF u).f))) (fun w M => l_num u w) fun u3 M => ?_
 refine ZG M 0 5 (w64 (Mon.ofF u).f) fun u4 M => ?_
 replace M := M.nf
 refine rV 1 <| nT <| wp_ret ?_
 exact bct Tryz.results114 M 0 5 (w64 (Mon.ofF u).f) (.int .i64 0) ⟨rfl, below_grown M.old⟩
theorem l_coord (u : Yb) (hu : u.size = 32) (w : World) (hL : Laid w)  : Cs 92 #[.string u] w (.tuple #[.agg (av 5 (w64 (Mon.ofF (Mon.mkS u)).f)), .int .i64 0]) := by
 go_enter Tryz.func92, Tryz.ntmps92
 have M := Mem.start hL
 refine sR ?_
 refine pN M 2 (.cells (av 5 (w64 (fun _ => 0))) 143) fun g1 u1 M => ?_
 replace M := M.nf
 refine rV 1 <| nT <| wp_seq <| sR <| rV 2 ?_
 refine ZD 7 ((u.size : Int) = 32) ?_
 refine nT <| cF <| wp_skip <| au_then <| sR ?_
 refine rV 1 ?_
 refine pl_conv M (want_no rfl) (some 10) rfl _ rfl u (by kernel_rfl) ?_
 intro g2 cpg2 Zg2 u2 hZg2 M
 replace M := M.nf
 refine rV 1 <| nT <| sR <| rV 1 ?_
 refine pH 12 (.pointer (some ⟨g2, 31, none⟩)) (run_ix0 44 5 Tryz.underlying44 inz5 _ _ rfl g2 u.size cpg2 (by kernel_rfl) .i64 31 (by kernel_rfl) (by omega)) ?_
 refine pE M 13 g2 31 (.int .u8 (bt u 31)) (fun w M => hZg2.cell (M.get 1 rfl) (by unfold vs8; rw [List.getElem?_map, sb_get _ _ (by omega)]; rfl)) ?_
 refine rV 1 ?_
 refine pH 15 (.pointer (some ⟨g2, 31, none⟩)) (run_ix0 44 5 Tryz.underlying44 inz5 _ _ rfl g2 u.size cpg2 (by kernel_rfl) .i64 31 (by kernel_rfl) (by omega)) ?_
 refine pl_putS M (want_no rfl) rfl 5 _ _ rfl 1 g2 31 (by kernel_rfl) _ rfl cpg2 _ hZg2 (by rw [vs8_length, sb_length]; omega) (.int .u8 (bits .and .u8 (bt u 31) 127)) (by kernel_rfl) inz5 rfl rfl ?_
 intro ZA u3 hZA M
 rw [show (vs8 (sb u)).set 31 (.int .u8 (bits .and .u8 (bt u 31) 127)) = vs8 ((sb u).set 31 (bits .and .u8 (bt u 31) 127)) by unfold vs8; rw [List.map_set]] at hZA
 replace M := M.nf
 refine nT <| sR <| rV 1 ?_
 refine pl_back M (want_no rfl) (some 17) rfl _ rfl 1 g2 u.size cpg2 (by kernel_rfl) _ rfl ((sb u).set 31 (bits .and .u8 (bt u 31) 127)) cpg2 hZA (by rw [List.length_set, sb_length]) (fun y hy => by rcases List.mem_or_eq_of_mem_set hy with h | h; exact sb_nn u y h; rw [h]; exact bd127 _) ?_
 rw [mk_set hu]
 refine pD M 18 (.tuple #[.agg (av 5 (w64 (Mon.ofF (Mon.mkS u)).f)), .int .i64 0]) (fun w M => l_ofN (Mon.mkS u) (Mon.mkS_size u) w M.laid) fun u4 M => ?_
 refine rV 2 ?_
 refine ZG M 0 5 (w64 (Mon.ofF (Mon.mkS u)).f) fun u5 M => ?_
 replace M := M.nf
 refine rV 1 <| nT <| wp_ret ?_
 exact bct Tryz.results92 M 0 5 (w64 (Mon.ofF (Mon.mkS u)).f) (.int .i64 0) ⟨rfl, below_grown M.old⟩
end Go.Proofs.YtiahdbibeleakaaGreatDoor
