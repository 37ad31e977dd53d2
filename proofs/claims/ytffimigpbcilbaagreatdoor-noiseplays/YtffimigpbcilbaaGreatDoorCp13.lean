/- Part 13 of the walks and facts. -/
import Derived.Test.YtffimigpbcilbaaGreatDoorCpDef
import Derived.Test.YtffimigpbcilbaaGreatDoorCp7
import Derived.Test.YtffimigpbcilbaaGreatDoorCp11
import Derived.Test.YtffimigpbcilbaaGreatDoorCp12
set_option maxHeartbeats 16000000
set_option maxRecDepth 100000
set_option linter.unusedSimpArgs false
namespace Go.Proofs.YtffimigpbcilbaaGreatDoor
open Go.RowKit
theorem jC {α : Type _} {a : α} {l m : List α} (h : l.Sublist m) : (a :: l).Sublist (a :: m) := .cons_cons a h
theorem jK {α : Type _} {a : α} {l m : List α} (h : l.Sublist m) : l.Sublist (a :: m) := .cons a h
section
variable {P : Program} {ops : Array Oper} {rest : List Oper} {o : Oper} {a : Act} {w W : World} {c : Ctx} {L : List Blk} {Q : Exit → Act → World → Prop} {R : Act → Prop} {n g T : Nat} {F : NV} {ty : TypeId} {x : Operand}
theorem pB (M : Mem c L w) (d : Tmp) (i : Nat) (h : PL P ops Q rest (a.put (some d) (.agg (av n F))) w) (hw : Wn ops o a = true := by first | exact want_no rfl | kernel_rfl) (hd : o.dst = some d := by exact rfl) (ho : o.op = .load ty x := by exact rfl) (hi : L[i]? = some ⟨g, .cells (av n F) T⟩ := by exact rfl) (hx : Ev a x (pJ g) := by exact ⟨by kernel_rfl⟩) (hu : (P.underlying ty).map TypeDesc.isRow = some true := by kernel_rfl) (hz : (P.info? ty).map (·.size) = some n := by kernel_rfl) : PL P ops Q (o :: rest) a w := pA M d i n F h hw hd ho hi hx hu hz
theorem kB (M : Mem c L W) (d : Tmp) (i : Nat) (h : KL P ops W R rest (a.put (some d) (.agg (av n F)))) (hw : Wn ops o a = true := by first | exact want_no rfl | kernel_rfl) (hd : o.dst = some d := by exact rfl) (ho : o.op = .load ty x := by exact rfl) (hi : L[i]? = some ⟨g, .cells (av n F) T⟩ := by exact rfl) (hx : Ev a x (pJ g) := by exact ⟨by kernel_rfl⟩) (hu : (P.underlying ty).map TypeDesc.isRow = some true := by kernel_rfl) (hz : (P.info? ty).map (·.size) = some n := by kernel_rfl) : KL P ops W R (o :: rest) a := kA M d i n F h hw hd ho hi hx hu hz
end
section
variable {P : Program} {ops : Array Oper} {o : Oper} {a : Act} {w : World} {Q : Exit → Act → World → Prop} {n fuel : Nat} {listed : Array Bool}
theorem qL {c : Ctx} {Ls : List Blk} (M : Mem c Ls w) (i : Nat) (d : Tmp) (j off k : Nat) (F' : NV) {g m T : Nat} {F : NV} {ty : TypeId} {x : Operand} (hp : ∀ j, j < k → F (off + j) = F' j) (h : HL P ops Q (Mem c Ls) n fuel (listed.setIfInBounds i true) (a.put (some d) (.agg (av k F'))) w) (hj : Ls[j]? = some ⟨g, .cells (av m F) T⟩ := by exact rfl) (hi : ops.toList[i]? = some o := by exact rfl) (hin : i < n := by decide) (hf : Region.free .any ops listed i = true := by kernel_rfl) (hr : (Region.ready .any ops listed).contains i = true := by kernel_rfl) (hw : Wn ops o a = true := by first | exact want_no rfl | kernel_rfl) (hd : o.dst = some d := by exact rfl) (ho : o.op = .load ty x := by exact rfl) (hx : Ev a x (pJ g off) := by exact ⟨by kernel_rfl⟩) (hk : off + k ≤ m := by decide) (hu : (P.underlying ty).map TypeDesc.isRow = some true := by kernel_rfl) (hz : (P.info? ty).map (·.size) = some k := by kernel_rfl) : HL P ops Q (Mem c Ls) n (fuel + 1) listed a w := by
 obtain ⟨t, h1, h2⟩ := isRow_of hu
 exact hl_load M i hi hin hf hr hw (some d) hd ty x ho j g off hx.out m T F hj k F' hp hk t h1 h2 hz h
theorem qA {c : Ctx} {Ls : List Blk} (M : Mem c Ls w) (i : Nat) (d : Tmp) (j m : Nat) (F : NV) {g T : Nat} {ty : TypeId} {x : Operand} (h : HL P ops Q (Mem c Ls) n fuel (listed.setIfInBounds i true) (a.put (some d) (.agg (av m F))) w) (hj : Ls[j]? = some ⟨g, .cells (av m F) T⟩ := by exact rfl) (hi : ops.toList[i]? = some o := by exact rfl) (hin : i < n := by decide) (hf : Region.free .any ops listed i = true := by kernel_rfl) (hr : (Region.ready .any ops listed).contains i = true := by kernel_rfl) (hw : Wn ops o a = true := by first | exact want_no rfl | kernel_rfl) (hd : o.dst = some d := by exact rfl) (ho : o.op = .load ty x := by exact rfl) (hx : Ev a x (pJ g) := by exact ⟨by kernel_rfl⟩) (hu : (P.underlying ty).map TypeDesc.isRow = some true := by kernel_rfl) (hz : (P.info? ty).map (·.size) = some m := by kernel_rfl) : HL P ops Q (Mem c Ls) n (fuel + 1) listed a w :=
 qL M i d j 0 m F (fun j _ => by rw [Nat.zero_add]) h hj hi hin hf hr hw hd ho hx (by omega) hu hz
end
theorem quo2 (j : Nat) (hj : j < 1000000) : IntKind.wrap .i64 ((j : Int).tdiv 2) = ((j / 2 : Nat) : Int) := by
 rw [Int.tdiv_eq_ediv_of_nonneg (by omega), wrap64 (by omega) (by omega)]
 omega
theorem run_remL {P : Program} {a : Act} {o : Oper} (t rt : TypeId) (x y : Operand) (ho : o.op = .binOp .rem t x y rt) (m d : Nat) (hx : a.eval x = .int .i64 (m : Int)) (hy : a.eval y = .int .i64 (d : Int)) (hd : 0 < d) (w : World) :
  (execOp a.eval o).run P w = .ok (.value (.int .i64 ((m % d : Nat) : Int))) w := by
 have h0 : ¬ d = 0 := by omega
 have e : Int.tmod (m : Int) (d : Int) = (m : Int) % (d : Int) := rfl
 unfold execOp
 simp [ho, hx, hy, eqGuard, binOp, Op.intDiv, h0, e]
theorem wrapL {x : Int} (h0 : 0 ≤ x) (h1 : x < 18446744073709551616) : IntKind.wrap .u64 x = x := by
 unfold IntKind.wrap
 simp [IntKind.bits, IntKind.signed]
 omega
theorem pt_nx (s : Yb) {j : Nat} : upd (Mon.pt s j) (j / 2) (uo (Mon.pt s j (j / 2)) (sl (cv .u64 (bt s j)) (8 * (j % 2)))) = Mon.pt s (j + 1) := by
 have hb := bt_nn s j
 have e : cv .u64 (bt s j) = bt s j := wrapL hb.1 (by omega)
 rw [e]
 unfold sl uo
 obtain ⟨m, hm⟩ : ∃ m, j = 2 * m ∨ j = 2 * m + 1 := ⟨j / 2, by omega⟩
 funext i
 rcases hm with rfl | rfl
 ·rw [show 2 * m / 2 = m by omega, show 8 * (2 * m % 2) = 0 by omega, show Mon.pt s (2 * m) m = 0 by unfold Mon.pt; rw [if_neg (by omega), if_neg (by omega)]; rfl, Int.pow_zero, Int.mul_one, wrapL hb.1 (by omega)]
  exact (congrArg (fun v => upd (Mon.pt s (2 * m)) m v i) (Mon.ptor0 s (2 * m))).trans (Mon.pt_even s m i)
 ·rw [show (2 * m + 1) / 2 = m by omega, show 8 * ((2 * m + 1) % 2) = 8 by omega, show Mon.pt s (2 * m + 1) m = bt s (2 * m) by unfold Mon.pt; rw [if_pos (by omega), if_neg (by omega)]; exact Int.add_zero _, show IntKind.wrap .u64 (bt s (2 * m + 1) * 2 ^ 8) = bt s (2 * m + 1) * 256 from wrapL (x := bt s (2 * m + 1) * 256) (by omega) (by omega)]
  exact (congrArg (fun v => upd (Mon.pt s (2 * m + 1)) m v i) (Mon.ptor1 s (2 * m) (2 * m + 1))).trans (Mon.pt_odd s m i)
theorem pt_z (s : Yb) : Mon.pt s 0 = fun _ => 0 := by
 funext i
 unfold Mon.pt
 rw [if_neg (by omega), if_neg (by omega)]
 rfl
def rbF (f : NI) (k : Nat) : Nat → Int := fun i => if i < k then Mon.by16 f i else 0
theorem rb_nx (f : NI) (j : Nat) (h : 0 ≤ f (j / 2)) : upd (rbF f j) j (cv .u8 (sr (f (j / 2)) (8 * (j % 2)))) = rbF f (j + 1) := by
 have e : cv .u8 (sr (f (j / 2)) (8 * (j % 2))) = Mon.by16 f j := by
  have e1 : sr (f (j / 2)) (8 * (j % 2)) = f (j / 2) / 256 ^ (j % 2) := by
   unfold sr
   rw [Int.fdiv_eq_ediv_of_nonneg _ (Int.le_of_lt (Int.pow_pos (by decide)))]
   rcases (by omega : j % 2 = 0 ∨ j % 2 = 1) with h2 | h2 <;> rw [h2] <;> rfl
  have h3 : 0 ≤ f (j / 2) / 256 ^ (j % 2) := Int.ediv_nonneg h (Int.le_of_lt (Int.pow_pos (by decide)))
  rw [e1]
  unfold cv Mon.by16 IntKind.wrap
  simp [IntKind.bits, IntKind.signed]
 rw [e]
 funext i
 unfold upd rbF
 by_cases h1 : i = j
 ·subst h1
  rw [if_pos rfl, if_pos (by omega)]
 ·rw [if_neg h1]
  by_cases h2 : i < j
  ·rw [if_pos h2, if_pos (by omega)]
  ·rw [if_neg h2, if_neg (by omega)]
theorem l_parts (s : Yb) (hs : s.size = 32) (w : World) (hL : Laid w)  : Cs 61 #[.string s] w (.agg (av 16 (w64 (Mon.pt s 32)))) := by
 go_enter Tryz.func61, Tryz.ntmps61
 have M := Mem.start hL
 refine sR <| pN M 2 (.cells (av 16 (w64 (fun _ => 0))) 88) fun g1 u1 M => ?_
 replace M := M.nf
 refine nT <| sR <| pN M 3 (.cells (av 16 (w64 (fun _ => 0))) 88) fun g2 u2 M => ?_
 replace M := M.nf
 refine nT <| wp_seq <| sq <| wp_block ?_
 refine au_loop (fun j a w' => ∃ v1 : NV, a = (fm ([.string s, v1 1, pJ g1, pJ g2, .int .i64 (j : Int)] ++ vr v1 5 28)) ∧ Mem ⟨w, []⟩ [⟨g1, .cells (av 16 (w64 (fun _ => 0))) 88⟩, ⟨g2, .cells (av 16 (w64 (Mon.pt s j))) 88⟩] w') 32 (exS (by rw [pt_z]; exact M)) ?_ ?_
 ·intro j a u0 hj hI
  obtain ⟨v1, rfl, M⟩ := hI
  refine wp_seq <| sR <| rV 1 <| ZT 6 ((j : Int) < 32) <| rV 4 <| ZT 11 ((j : Int) < (s.size : Int)) <| rV 1 <| nT <| cT <| wp_skip <| au_then <| wp_seq <| wp_block <| rgh M [⟨g1, .cells (av 16 (w64 (fun _ => 0))) 88⟩, ⟨g2, .cells (av 16 (w64 (Mon.pt s j))) 88⟩] 17 fun u3 M => ?_
  replace M := M.nf
  refine qV M 0 15 (.int .i64 (j : Int)) <| qH M 1 16 (.int .i64 ((j / 2 : Nat) : Int)) (fun w _ => (fun w => Eq.trans (b := .ok (.value (.int .i64 (IntKind.wrap .i64 ((j : Int).tdiv 2)))) w) (by kernel_rfl) (by rw [quo2 j (by omega)])) w) <| qV M 2 17 (.int .i64 (j : Int)) <| qH M 3 18 (.int .i64 ((j / 2 : Nat) : Int)) (fun w _ => (fun w => Eq.trans (b := .ok (.value (.int .i64 (IntKind.wrap .i64 ((j : Int).tdiv 2)))) w) (by kernel_rfl) (by rw [quo2 j (by omega)])) w) <| qH M 4 19 (.pointer (some ⟨g2, ((j / 2 : Nat)), none⟩)) (fun w _ => (run_ix1 88 16 86 Tryz.underlying88 inz86 _ _ rfl g2 (by kernel_rfl) .i64 ((j / 2 : Nat)) (by kernel_rfl) (by omega)) w) <| qE M 5 20 1 ((j / 2 : Nat)) <| qV M 6 21 (.string s) <| qV M 7 22 (.int .i64 (j : Int)) <| qH M 8 23 (.int .u8 (bt s j)) (fun w _ => (run_ixS 9 Tryz.underlying9 _ _ rfl s (by kernel_rfl) .i64 j (by kernel_rfl) (by omega)) w) <| qV M 9 24 (.int .u64 (cv .u64 (bt s j))) <| qV M 10 25 (.int .i64 (j : Int)) <| qH M 11 26 (.int .i64 ((j % 2 : Nat) : Int)) (fun w _ => (run_remL 3 3 _ _ rfl j 2 (by kernel_rfl) (by kernel_rfl) (by decide)) w) ?_
  refine qH M 12 27 (.int .i64 ((8 * (j % 2) : Nat) : Int)) (fun w _ => (fun w => Eq.trans (b := .ok (.value (.int .i64 (IntKind.wrap .i64 ((8 : Int) * ((j % 2 : Nat) : Int))))) w) (by kernel_rfl) (by rw [wrap64 (by omega) (by omega)]; rfl)) w) ?_
  refine qH M 13 28 (.int .u64 ((8 * (j % 2) : Nat) : Int)) (fun w _ => (fun w => Eq.trans (b := .ok (.value (.int .u64 (IntKind.wrap .u64 ((8 * (j % 2) : Nat) : Int)))) w) (by kernel_rfl) (by rw [wrapL (by omega) (by omega)])) w) <| qH M 14 29 (.int .u64 (sl (cv .u64 (bt s j)) (8 * (j % 2)))) (fun w _ => (Pol.run_shlU 86 92 _ _ rfl _ .u64 (8 * (j % 2)) (by kernel_rfl) (by kernel_rfl) (by omega)) w) <| qV M 15 30 (.int .u64 (uo ((Mon.pt s j) ((j / 2 : Nat))) (sl (cv .u64 (bt s j)) (8 * (j % 2))))) <| qH M 16 31 (.pointer (some ⟨g2, ((j / 2 : Nat)), none⟩)) (fun w _ => (run_ix1 88 16 86 Tryz.underlying88 inz86 _ _ rfl g2 (by kernel_rfl) .i64 ((j / 2 : Nat)) (by kernel_rfl) (by omega)) w) <| qZ ?_
  refine ZP64 M 1 ((j / 2 : Nat)) (uo ((Mon.pt s j) ((j / 2 : Nat))) (sl (cv .u64 (bt s j)) (8 * (j % 2)))) fun u4 M => ?_
  replace M := M.nf
  refine nT <| au_block <| au_then <| rg_lit <| rV 1 <| ZI 14 ((j : Int) + 1) ((j + 1 : Nat) : Int) <| rV 1 <| nT ?_
  rw [pt_nx s] at M
  exact exS M
 ·intro a u0 hI
  obtain ⟨v1, rfl, M⟩ := hI
  refine wp_seq <| sR <| rV 1 <| ZF 6 ((32 : Int) < 32) <| rV 6 <| nT <| cF <| wp_exit <| au_then_exit <| au_then_exit <| au_block_exit <| au_then <| sR <| pA M 32 1 16 (w64 (Mon.pt s 32)) <| ZG M 0 16 (w64 (Mon.pt s 32)) fun u3 M => ?_
  replace M := M.nf
  refine nT <| wp_ret ?_
  exact bc Tryz.results61 M 0 16 (w64 (Mon.pt s 32)) ⟨rfl, below_grown M.old⟩
theorem l_rbytes (f : NI) (hf : Mon.Dig f 16) (w : World) (hL : Laid w)  : Cs 44 #[.agg (av 16 (w64 f))] w (.string (bs (Mon.rb f 32))) := by
 go_enter Tryz.func44, Tryz.ntmps44
 have M := Mem.start hL
 refine sR <| pN M 1 (.cells (av 16 (w64 f)) 88) fun g1 u1 M => ?_
 replace M := M.nf
 refine rV 1 <| nT <| sR <| ZM M 5 (fun g2 => .slice (some ⟨g2, 0, none⟩) 32 32) (.cells (av 32 (w8 (rbF f 0))) 5) fun g2 u2 M => ?_
 replace M := M.nf
 refine rV 1 <| nT <| wp_seq <| sq <| wp_block ?_
 refine au_loop (fun j a w' => ∃ v1 : NV, a = (fm ([.agg (av 16 (w64 f)), pJ g1, .string ⟨#[]⟩, .slice (some ⟨g2, 0, none⟩) 32 32, .int .i64 (j : Int)] ++ vr v1 5 20)) ∧ Mem ⟨w, []⟩ [⟨g1, .cells (av 16 (w64 f)) 88⟩, ⟨g2, .cells (av 32 (w8 (rbF f j))) 5⟩] w') 32 (exS M) ?_ ?_
 ·intro j a u0 hj hI
  obtain ⟨v1, rfl, M⟩ := hI
  refine wp_seq <| sR <| rV 1 <| ZT 7 ((j : Int) < 32) <| nT <| cT <| wp_skip <| au_then <| wp_seq <| wp_block <| rg_lit <| rV 3 <| ZQ 13 .i64 (IntKind.wrap .i64 ((j : Int).tdiv 2)) (quo2 j (by omega)) <| ZX 14 .i64 g1 ((j / 2 : Nat)) 16 <| ZE M 15 0 ((j / 2 : Nat)) <| rV 1 ?_
  refine pH 17 (.int .i64 ((j % 2 : Nat) : Int)) (run_remL 3 3 _ _ rfl j 2 (by kernel_rfl) (by kernel_rfl) (by decide)) ?_
  refine zJ 18 (.int .i64 ((8 * (j % 2) : Nat) : Int)) (.int .i64 (IntKind.wrap .i64 ((8 : Int) * ((j % 2 : Nat) : Int)))) (by rw [wrap64 (by omega) (by omega)]; rfl) ?_
  refine zJ 19 (.int .u64 ((8 * (j % 2) : Nat) : Int)) (.int .u64 (IntKind.wrap .u64 ((8 * (j % 2) : Nat) : Int))) (by rw [wrapL (by omega) (by omega)]) <| pH 20 (.int .u64 (sr (f (j / 2)) (8 * (j % 2)))) (Pol.run_shrU 86 92 _ _ rfl _ .u64 (8 * (j % 2)) (by kernel_rfl) (by kernel_rfl) (by omega)) <| rV 1 <| pH 22 (pJ g2 j) (run_ix0 61 5 Tryz.underlying61 inz5 _ _ rfl g2 32 32 (by kernel_rfl) .i64 j (by kernel_rfl) (by omega)) <| ZP8 M 1 j (cv .u8 (sr (f (j / 2)) (8 * (j % 2)))) fun u3 M => ?_
  replace M := M.nf
  refine pl_nil <| au_block <| au_then <| rg_lit <| rV 1 <| ZI 9 ((j : Int) + 1) ((j + 1 : Nat) : Int) <| rV 1 <| nT ?_
  rw [rb_nx f j (hf (j / 2) (by omega)).1] at M
  exact exS M
 ·intro a u0 hI
  obtain ⟨v1, rfl, M⟩ := hI
  refine wp_seq <| sR <| rV 1 <| ZF 7 ((32 : Int) < 32) <| nT <| cF <| wp_exit <| au_then_exit <| au_then_exit <| au_block_exit <| au_then <| sR <| rV 1 ?_
  refine pl_back M (want_no rfl) (some 24) rfl _ rfl 1 g2 32 32 (by kernel_rfl) _ rfl ((List.range 32).map (rbF f 32)) 32 (sb_av 32 _ 5) rfl (fun y hy => by obtain ⟨i, hi, rfl⟩ := List.mem_map.1 hy; unfold rbF; rw [if_pos (List.mem_range.1 hi)]; unfold Mon.by16; omega) ?_
  refine rV 1 <| nT <| wp_ret ?_
  exact b1 M
theorem l_rof0 (s : Yb) (hs : s.size = 32) (w : World) (hL : Laid w)  : Cs 38 #[.string s] w (.agg (av 16 (w64 (Mon.d16 (Mon.S (Mon.wid (Mon.pt s 32) 16) 32 % Mon.Pm))))) := by
 go_enter Tryz.func38, Tryz.ntmps38
 have M := Mem.start hL
 refine sR <| pN M 2 (.cells (av 16 (w64 (fun _ => 0))) 88) fun g1 u1 M => ?_
 replace M := M.nf
 refine nT <| sR <| rV 1 <| pD M 4 (.agg (av 16 (w64 (Mon.pt s 32)))) (fun w M => l_parts s hs w M.laid) fun u2 M => pD M 5 (.agg (av 32 (w64 (Mon.wid (Mon.pt s 32) 16)))) (fun w M => Mon.wide_any (Mon.pt s 32) w) fun u3 M => pD M 6 (.agg (av 16 (w64 (Mon.d16 (Mon.S (Mon.wid (Mon.pt s 32) 16) 32 % Mon.Pm))))) (fun w M => Mon.reduce_any (Mon.wid (Mon.pt s 32) 16) w (Mon.wid_48 (Mon.pt_dig s 32))) fun u4 M => ZG M 0 16 (w64 (Mon.d16 (Mon.S (Mon.wid (Mon.pt s 32) 16) 32 % Mon.Pm))) fun u5 M => ?_
 replace M := M.nf
 refine nT <| wp_ret ?_
 exact bc Tryz.results38 M 0 16 (w64 (Mon.d16 (Mon.S (Mon.wid (Mon.pt s 32) 16) 32 % Mon.Pm))) ⟨rfl, below_grown M.old⟩
theorem l_rof (s : Yb) (hs : s.size = 32) (w : World) (hL : Laid w) : Cs 38 #[.string s] w (.agg (av 16 (w64 (Mon.d16 (Mon.val s % Mon.Pm))))) := by
 have h := l_rof0 s hs w hL
 rwa [Mon.wid_S, Mon.pt_S] at h
open Go.RowKit
theorem inz135 : (Tryz.prog.info? 135).map (·.size) = some 10 := by kernel_rfl
theorem pj_0 (x z : NI) (j : Nat) (h : j < 5) : w64 (Mon.pj x z) (0 + j) = w64 x j := by
 unfold Mon.pj; simp only [w64]; rw [if_pos (by omega), Nat.zero_add]
theorem pj_1 (x z : NI) (j : Nat) (_ : j < 5) : w64 (Mon.pj x z) (5 + j) = w64 z j := by
 unfold Mon.pj; simp only [w64]; rw [if_neg (by omega), Nat.add_sub_cancel_left]
theorem qj_0 (x z : NI) (j : Nat) (h : j < 10) : w64 (Mon.qj x z) (0 + j) = w64 x j := by
 unfold Mon.qj; simp only [w64]; rw [if_pos (by omega), Nat.zero_add]
theorem qj_1 (x z : NI) (j : Nat) (_ : j < 10) : w64 (Mon.qj x z) (10 + j) = w64 z j := by
 unfold Mon.qj; simp only [w64]; rw [if_neg (by omega), Nat.add_sub_cancel_left]
theorem qp_0 (x z y : NI) (j : Nat) (h : j < 5) : w64 (Mon.qj (Mon.pj x z) y) (0 + j) = w64 x j := (qj_0 _ _ j (by omega)).trans (by have := pj_0 x z j h; rwa [Nat.zero_add] at this)
theorem qp_1 (x z y : NI) (j : Nat) (h : j < 5) : w64 (Mon.qj (Mon.pj x z) y) (5 + j) = w64 z j := by
 have := qj_0 (Mon.pj x z) y (5 + j) (by omega)
 rw [Nat.zero_add] at this
 exact this.trans (pj_1 x z j h)
theorem qq_0 (x z y : NI) (j : Nat) (_ : j < 20) : (if 0 ≤ j ∧ j < 0 + 10 then w64 y (j - 0) else w64 (Mon.qj x z) j) = w64 (Mon.qj y z) j := by
 unfold Mon.qj; simp only [w64]; by_cases h : j < 10
 ·rw [if_pos (by omega), if_pos h, Nat.sub_zero]
 ·rw [if_neg (by omega), if_neg h, if_neg h]
theorem qq_1 (x z y : NI) (j : Nat) (_ : j < 20) : (if 10 ≤ j ∧ j < 10 + 10 then w64 y (j - 10) else w64 (Mon.qj x z) j) = w64 (Mon.qj x y) j := by
 unfold Mon.qj; simp only [w64]; by_cases h : j < 10
 ·rw [if_neg (by omega), if_pos h, if_pos h]
 ·rw [if_pos (by omega), if_neg h]
theorem bcc {P : Program} {a : Act} {w : World} {c : Ctx} {L : List Blk} {fn : Func} {Φ : Ending → World → Prop} {p q : Tmp} {t0 t1 : TypeId} (h : fn.results = #[.cell p t0, .cell q t1]) (M : Mem c L w) (i0 n0 : Nat) (F0 : NV) (i1 n1 : Nat) (F1 : NV) (hX : Φ (.returned (.tuple #[.agg (av n0 F0), .agg (av n1 F1)])) w) {g0 T0 g1 T1 : Nat} (hi0 : L[i0]? = some ⟨g0, .cells (av n0 F0) T0⟩ := by exact rfl) (hp0 : Ep a p (pJ g0) := by exact ⟨by kernel_rfl⟩) (hu0 : (P.underlying t0).map TypeDesc.isRow = some true := by kernel_rfl) (hz0 : (P.info? t0).map (·.size) = some n0 := by kernel_rfl) (hi1 : L[i1]? = some ⟨g1, .cells (av n1 F1) T1⟩ := by exact rfl) (hp1 : Ep a q (pJ g1) := by exact ⟨by kernel_rfl⟩) (hu1 : (P.underlying t1).map TypeDesc.isRow = some true := by kernel_rfl) (hz1 : (P.info? t1).map (·.size) = some n1 := by kernel_rfl) (hd : a.defers = [] := by kernel_rfl) : bodyPost P fn Φ .ret a w := by
 obtain ⟨d0, e0, f0⟩ := isRow_of hu0
 obtain ⟨d1, e1, f1⟩ := isRow_of hu1
 exact bodyPost_ret (Mon.results_two h _ _ g0 g1 T0 T1 (av n0 F0) (av n1 F1) (0, 0) (0, 0) _ _ hp0.out hp1.out (M.get i0 hi0) (M.get i1 hi1) e0 (by revert f0; cases d0 <;> intro f <;> first | rfl | cases f) (by rw [av_size]; exact hz0) e1 (by revert f1; cases d1 <;> intro f <;> first | rfl | cases f) (by rw [av_size]; exact hz1)) hd hX
theorem l_bitZ {s : Yb} {p : Nat} (h : Mon.bit s p = 0) (w : World) (hs : p < 8 * s.size) (hp : p < 255) : Cs 91 #[.string s, .int .i64 (p : Int)] w (.int .i64 0) := h ▸ Mon.bitAt_any s p w hs hp
theorem l_bitN {s : Yb} {p : Nat} (h : ¬ Mon.bit s p = 0) (w : World) (hs : p < 8 * s.size) (hp : p < 255) : Cs 91 #[.string s, .int .i64 (p : Int)] w (.int .i64 1) := by
 have := Mon.bit_two s p
 have e : Mon.bit s p = 1 := by omega
 exact e ▸ Mon.bitAt_any s p w hs hp
section
variable (q : Mon.St)
def tzA : Mon.E5 := Mon.addF q.dx q.dz
def tzD : Mon.E5 := Mon.subF q.dx q.dz
def tzAA : Mon.E5 := Mon.mulF (tzA q) (tzA q)
def tzDD : Mon.E5 := Mon.mulF (tzD q) (tzD q)
def tzE : Mon.E5 := Mon.subF (tzAA q) (tzDD q)
def tzU : Mon.E5 := Mon.subF q.px q.pz
def tzDA : Mon.E5 := Mon.mulF (tzU q) (tzA q)
def tzV : Mon.E5 := Mon.addF q.px q.pz
def tzCB : Mon.E5 := Mon.mulF (tzV q) (tzD q)
def tzS : Mon.E5 := Mon.addF (tzDA q) (tzCB q)
def tzT : Mon.E5 := Mon.subF (tzDA q) (tzCB q)
def tzX2 : Mon.E5 := Mon.mulF (tzAA q) (tzDD q)
def tzF : Mon.E5 := Mon.mulF (Mon.smallF 121665) (tzE q)
def tzG : Mon.E5 := Mon.addF (tzAA q) (tzF q)
def tzZ2 : Mon.E5 := Mon.mulF (tzE q) (tzG q)
def tzX3 : Mon.E5 := Mon.mulF (tzS q) (tzS q)
def tzTT : Mon.E5 := Mon.mulF (tzT q) (tzT q)
def tzZ3 (x : Mon.E5) : Mon.E5 := Mon.mulF x (tzTT q)
end
structure TK (q : Mon.St) : Prop where
 C : (Mon.smallF 121665).Ok
 tzA : (tzA q).Ok
 tzD : (tzD q).Ok
 tzAA : (tzAA q).Ok
 tzDD : (tzDD q).Ok
 tzE : (tzE q).Ok
 tzU : (tzU q).Ok
 tzDA : (tzDA q).Ok
 tzV : (tzV q).Ok
 tzCB : (tzCB q).Ok
 tzS : (tzS q).Ok
 tzT : (tzT q).Ok
 tzX2 : (tzX2 q).Ok
 tzF : (tzF q).Ok
 tzG : (tzG q).Ok
 tzZ2 : (tzZ2 q).Ok
 tzX3 : (tzX3 q).Ok
 tzTT : (tzTT q).Ok
theorem tk {q : Mon.St} (h : q.Ok) : TK q := by
 have C := Mon.smallF_ok (n := 121665) (by decide) (by decide)
 have ktzA : (tzA q).Ok := Mon.addF_ok h.dx h.dz
 have ktzD : (tzD q).Ok := Mon.subF_ok h.dx h.dz
 have ktzAA : (tzAA q).Ok := Mon.mulF_ok ktzA ktzA
 have ktzDD : (tzDD q).Ok := Mon.mulF_ok ktzD ktzD
 have ktzE : (tzE q).Ok := Mon.subF_ok ktzAA ktzDD
 have ktzU : (tzU q).Ok := Mon.subF_ok h.px h.pz
 have ktzDA : (tzDA q).Ok := Mon.mulF_ok ktzU ktzA
 have ktzV : (tzV q).Ok := Mon.addF_ok h.px h.pz
 have ktzCB : (tzCB q).Ok := Mon.mulF_ok ktzV ktzD
 have ktzS : (tzS q).Ok := Mon.addF_ok ktzDA ktzCB
 have ktzT : (tzT q).Ok := Mon.subF_ok ktzDA ktzCB
 have ktzX2 : (tzX2 q).Ok := Mon.mulF_ok ktzAA ktzDD
 have ktzF : (tzF q).Ok := Mon.mulF_ok C ktzE
 have ktzG : (tzG q).Ok := Mon.addF_ok ktzAA ktzF
 have ktzZ2 : (tzZ2 q).Ok := Mon.mulF_ok ktzE ktzG
 have ktzX3 : (tzX3 q).Ok := Mon.mulF_ok ktzS ktzS
 have ktzTT : (tzTT q).Ok := Mon.mulF_ok ktzT ktzT
 exact ⟨C, ktzA, ktzD, ktzAA, ktzDD, ktzE, ktzU, ktzDA, ktzV, ktzCB, ktzS, ktzT, ktzX2, ktzF, ktzG, ktzZ2, ktzX3, ktzTT⟩
theorem l_step (q : Mon.St) (x : Mon.E5) (hq : q.Ok) (hx : x.Ok) (w : World) (hL : Laid w)  : Cs 92 #[.agg (av 10 (w64 (Mon.pj q.dx.f q.dz.f))), .agg (av 10 (w64 (Mon.pj q.px.f q.pz.f))), .agg (av 5 (w64 x.f))] w (.tuple #[.agg (av 10 (w64 (Mon.pj (tzX2 q).f (tzZ2 q).f))), .agg (av 10 (w64 (Mon.pj (tzX3 q).f (tzZ3 q x).f)))]) := by
 go_enter Tryz.func92, Tryz.ntmps92
 have M := Mem.start hL
 have k := tk hq
 refine sR <| pN M 3 (.cells (av 10 (w64 (Mon.pj q.dx.f q.dz.f))) 135) fun g1 u1 M => ?_
 replace M := M.nf
 refine pN M 4 (.cells (av 10 (w64 (Mon.pj q.px.f q.pz.f))) 135) fun g2 u2 M => ?_
 replace M := M.nf
 refine pN M 5 (.cells (av 5 (w64 x.f)) 116) fun g3 u3 M => ?_
 replace M := M.nf
 refine pN M 6 (.cells (av 10 (w64 (fun _ => 0))) 135) fun g4 u4 M => ?_
 replace M := M.nf
 refine pN M 7 (.cells (av 10 (w64 (fun _ => 0))) 135) fun g5 u5 M => ?_
 replace M := M.nf
 refine nT <| wp_seq <| rg_allocs M 10 [(8, fun g => pJ g, .cells (av 5 (w64 (fun _ => 0))) 116), (9, fun g => pJ g, .cells (av 5 (w64 (fun _ => 0))) 116)] (by kernel_rfl) (by kernel_rfl) (⟨rfl, rfl, fun _ _ => by kernel_rfl, ⟨rfl, rfl, fun _ _ => by kernel_rfl, trivial⟩⟩) (by decide) ?_
 simp only [List.take_succ_cons, List.take_zero]
 refine kR 1 <| kL M 20 0 rfl 0 5 (w64 q.dx.f) (fun j hj => pj_0 _ _ j hj) <| kR 1 <| kL M 22 0 rfl 5 5 (w64 q.dz.f) (fun j hj => pj_1 _ _ j hj) <| kD M 23 (.agg (av 5 (w64 (tzA q).f))) (fun w M => Mon.add_any q.dx q.dz w hq.dx hq.dz) <| kR 1 <| kL M 25 0 rfl 0 5 (w64 q.dx.f) (fun j hj => pj_0 _ _ j hj) <| kR 1 <| kL M 27 0 rfl 5 5 (w64 q.dz.f) (fun j hj => pj_1 _ _ j hj) <| kD M 28 (.agg (av 5 (w64 (tzD q).f))) (fun w M => Mon.sub_any q.dx q.dz w hq.dx hq.dz) <| kl_nil fun u6 g6 g7 M => ?_
 replace M := M.nf
 refine ZG M 5 5 (w64 (tzA q).f) fun u7 M => ?_
 replace M := M.nf
 refine ZG M 6 5 (w64 (tzD q).f) fun u8 M => ?_
 replace M := M.nf
 refine nT <| wp_seq <| rg_allocs M 6 [(10, fun g => pJ g, .cells (av 5 (w64 (fun _ => 0))) 116), (11, fun g => pJ g, .cells (av 5 (w64 (fun _ => 0))) 116)] (by kernel_rfl) (by kernel_rfl) (⟨rfl, rfl, fun _ _ => by kernel_rfl, ⟨rfl, rfl, fun _ _ => by kernel_rfl, trivial⟩⟩) (by decide) ?_
 simp only [List.take_succ_cons, List.take_zero]
 refine kB M 29 5 <| kB M 30 5 <| kD M 31 (.agg (av 5 (w64 (tzAA q).f))) (fun w M => Mon.mul_any (tzA q) (tzA q) w k.tzA k.tzA) <| kB M 32 6 <| kB M 33 6 <| kD M 34 (.agg (av 5 (w64 (tzDD q).f))) (fun w M => Mon.mul_any (tzD q) (tzD q) w k.tzD k.tzD) <| kl_nil fun u9 g8 g9 M => ?_
 replace M := M.nf
 refine ZG M 7 5 (w64 (tzAA q).f) fun u10 M => ?_
 replace M := M.nf
 refine ZG M 8 5 (w64 (tzDD q).f) fun u11 M => ?_
 replace M := M.nf
 refine nT <| sR <| pB M 35 7 <| pB M 36 8 <| pD M 37 (.agg (av 5 (w64 (tzE q).f))) (fun w M => Mon.sub_any (tzAA q) (tzDD q) w k.tzAA k.tzDD) fun u12 M => pN M 12 (.cells (av 5 (w64 (fun _ => 0))) 116) fun g10 u13 M => ?_
 replace M := M.nf
 refine ZG M 9 5 (w64 (tzE q).f) fun u14 M => ?_
 replace M := M.nf
 refine nT <| wp_seq ?_
 replace M := M.drop (jK (jC (.cons_cons _ (jC (.cons_cons _ (jC (.cons_cons _ (jC (.cons_cons _ (jC (.slnil)))))))))))
 replace M := M.nf
 refine rg_allocs M 14 [(13, fun g => pJ g, .cells (av 5 (w64 (fun _ => 0))) 116), (14, fun g => pJ g, .cells (av 5 (w64 (fun _ => 0))) 116)] (by kernel_rfl) (by kernel_rfl) (⟨rfl, rfl, fun _ _ => by kernel_rfl, ⟨rfl, rfl, fun _ _ => by kernel_rfl, trivial⟩⟩) (by decide) ?_
 simp only [List.take_succ_cons, List.take_zero]
 refine kR 1 <| kL M 39 0 rfl 0 5 (w64 q.px.f) (fun j hj => pj_0 _ _ j hj) <| kR 1 <| kL M 41 0 rfl 5 5 (w64 q.pz.f) (fun j hj => pj_1 _ _ j hj) <| kD M 42 (.agg (av 5 (w64 (tzU q).f))) (fun w M => Mon.sub_any q.px q.pz w hq.px hq.pz) <| kB M 43 4 <| kD M 44 (.agg (av 5 (w64 (tzDA q).f))) (fun w M => Mon.mul_any (tzU q) (tzA q) w k.tzU k.tzA) <| kR 1 <| kL M 46 0 rfl 0 5 (w64 q.px.f) (fun j hj => pj_0 _ _ j hj) <| kR 1 <| kL M 48 0 rfl 5 5 (w64 q.pz.f) (fun j hj => pj_1 _ _ j hj) <| kD M 49 (.agg (av 5 (w64 (tzV q).f))) (fun w M => Mon.add_any q.px q.pz w hq.px hq.pz) <| kB M 50 5 <| kD M 51 (.agg (av 5 (w64 (tzCB q).f))) (fun w M => Mon.mul_any (tzV q) (tzD q) w k.tzV k.tzD) <| kl_nil fun u15 g11 g12 M => ?_
 replace M := M.nf
 refine ZG M 9 5 (w64 (tzDA q).f) fun u16 M => ?_
 replace M := M.nf
 refine ZG M 10 5 (w64 (tzCB q).f) fun u17 M => ?_
 replace M := M.nf
 refine nT <| wp_seq ?_
 replace M := M.drop (jK (jC (.cons_cons _ (jC (jK (.cons _ (jC (.cons_cons _ (jC (.cons_cons _ (jC (.slnil))))))))))))
 replace M := M.nf
 refine rg_allocs M 6 [(15, fun g => pJ g, .cells (av 5 (w64 (fun _ => 0))) 116), (16, fun g => pJ g, .cells (av 5 (w64 (fun _ => 0))) 116)] (by kernel_rfl) (by kernel_rfl) (⟨rfl, rfl, fun _ _ => by kernel_rfl, ⟨rfl, rfl, fun _ _ => by kernel_rfl, trivial⟩⟩) (by decide) ?_
 simp only [List.take_succ_cons, List.take_zero]
 refine kB M 52 6 <| kB M 53 7 <| kD M 54 (.agg (av 5 (w64 (tzS q).f))) (fun w M => Mon.add_any (tzDA q) (tzCB q) w k.tzDA k.tzCB) <| kB M 55 6 <| kB M 56 7 <| kD M 57 (.agg (av 5 (w64 (tzT q).f))) (fun w M => Mon.sub_any (tzDA q) (tzCB q) w k.tzDA k.tzCB) <| kl_nil fun u18 g13 g14 M => ?_
 replace M := M.nf
 refine ZG M 8 5 (w64 (tzS q).f) fun u19 M => ?_
 replace M := M.nf
 refine ZG M 9 5 (w64 (tzT q).f) fun u20 M => ?_
 replace M := M.nf
 refine nT <| wp_seq ?_
 replace M := M.drop (jC (.cons_cons _ (jC (.cons_cons _ (jC (.cons_cons _ (jK (.cons _ (jC (.cons_cons _ (.slnil)))))))))))
 replace M := M.nf
 refine rg_allocs M 11 [(17, fun g => pJ g, .cells (av 10 (w64 (fun _ => 0))) 135)] (by kernel_rfl) (by kernel_rfl) (⟨rfl, rfl, fun _ _ => by kernel_rfl, trivial⟩) (by decide) ?_
 simp only [List.take_succ_cons, List.take_zero]
 refine kB M 58 3 <| kB M 59 4 <| kD M 60 (.agg (av 5 (w64 (tzX2 q).f))) (fun w M => Mon.mul_any (tzAA q) (tzDD q) w k.tzAA k.tzDD) <| kB M 61 5 <| kB M 62 3 <| kD M 63 (.agg (av 5 (w64 (Mon.smallF 121665).f))) (fun w M => Mon.small_any 121665 w (by decide) (by decide)) <| kB M 64 5 <| kD M 65 (.agg (av 5 (w64 (tzF q).f))) (fun w M => Mon.mul_any (Mon.smallF 121665) (tzE q) w k.C k.tzE) <| kD M 66 (.agg (av 5 (w64 (tzG q).f))) (fun w M => Mon.add_any (tzAA q) (tzF q) w k.tzAA k.tzF) <| kD M 67 (.agg (av 5 (w64 (tzZ2 q).f))) (fun w M => Mon.mul_any (tzE q) (tzG q) w k.tzE k.tzG) <| kR 1 <| kl_nil fun u21 g15 M => ?_
 replace M := M.nf
 refine ZG M 8 10 (w64 (Mon.pj (tzX2 q).f (tzZ2 q).f)) fun u22 M => ?_
 replace M := M.nf
 refine nT <| wp_seq ?_
 replace M := M.drop (jC (.cons_cons _ (jC (jK (.cons _ (jK (jC (.cons_cons _ (jC (.slnil))))))))))
 replace M := M.nf
 refine rg_allocs M 9 [(18, fun g => pJ g, .cells (av 10 (w64 (fun _ => 0))) 135)] (by kernel_rfl) (by kernel_rfl) (⟨rfl, rfl, fun _ _ => by kernel_rfl, trivial⟩) (by decide) ?_
 simp only [List.take_succ_cons, List.take_zero]
 refine kB M 69 3 <| kB M 70 3 <| kD M 71 (.agg (av 5 (w64 (tzX3 q).f))) (fun w M => Mon.mul_any (tzS q) (tzS q) w k.tzS k.tzS) <| kB M 72 0 <| kB M 73 4 <| kB M 74 4 <| kD M 75 (.agg (av 5 (w64 (tzTT q).f))) (fun w M => Mon.mul_any (tzT q) (tzT q) w k.tzT k.tzT) <| kD M 76 (.agg (av 5 (w64 (tzZ3 q x).f))) (fun w M => Mon.mul_any x (tzTT q) w hx k.tzTT) <| kR 1 <| kl_nil fun u23 g16 M => ?_
 replace M := M.nf
 refine ZG M 6 10 (w64 (Mon.pj (tzX3 q).f (tzZ3 q x).f)) fun u24 M => ?_
 replace M := M.nf
 refine nT <| wp_seq ?_
 replace M := M.drop (jK (jC (.cons_cons _ (jK (.cons _ (jC (.cons_cons _ (.slnil))))))))
 replace M := M.nf
 refine rgh M [⟨g5, .cells (av 10 (w64 (fun _ => 0))) 135⟩, ⟨g15, .cells (av 10 (w64 (Mon.pj (tzX2 q).f (tzZ2 q).f))) 135⟩, ⟨g16, .cells (av 10 (w64 (Mon.pj (tzX3 q).f (tzZ3 q x).f))) 135⟩] 3 fun u25 M => ?_
 replace M := M.nf
 refine qA (M.drop (jK (jC (.cons_cons _ (jC (.slnil)))))) 0 78 1 10 (w64 (Mon.pj (tzX2 q).f (tzZ2 q).f)) <| qA (M.drop (jK (jC (.cons_cons _ (jC (.slnil)))))) 1 79 2 10 (w64 (Mon.pj (tzX3 q).f (tzZ3 q x).f)) <| qO 2 ?_
 refine ZG M 0 10 (w64 (Mon.pj (tzX2 q).f (tzZ2 q).f)) fun u26 M => ?_
 replace M := M.nf
 refine nT ?_
 refine ⟨(M.drop (jK (jC (.cons_cons _ (jC (.slnil)))))), ?_⟩
 refine qZ ?_
 refine ZG M 1 10 (w64 (Mon.pj (tzX3 q).f (tzZ3 q x).f)) fun u27 M => ?_
 replace M := M.nf
 refine nT <| au_then <| wp_ret ?_
 exact bcc Tryz.results92 M 0 10 (w64 (Mon.pj (tzX2 q).f (tzZ2 q).f)) 1 10 (w64 (Mon.pj (tzX3 q).f (tzZ3 q x).f)) ⟨rfl, below_grown M.old⟩
def swQ (q : Mon.St) : Mon.St := ⟨q.px, q.pz, q.dx, q.dz⟩
theorem swQ_ok {q : Mon.St} (h : q.Ok) : (swQ q).Ok := ⟨h.px, h.pz, h.dx, h.dz⟩
theorem l_times (s : Yb) (e : Mon.E5) (hs : s.size = 32) (hx : e.Ok) (w : World) (hL : Laid w)  : Cs 68 #[.string s, .agg (av 5 (w64 e.f))] w (.agg (av 5 (w64 (Mon.mulF (Mon.ladF s e 255).dx (Mon.invF (Mon.ladF s e 255).dz)).f))) := by
 go_enter Tryz.func68, Tryz.ntmps68
 have M := Mem.start hL
 refine sR <| pN M 3 (.cells (av 5 (w64 e.f)) 116) fun g1 u1 M => ?_
 replace M := M.nf
 refine pN M 4 (.cells (av 5 (w64 (fun _ => 0))) 116) fun g2 u2 M => ?_
 replace M := M.nf
 refine nT <| sR <| pD M 9 (.agg (av 5 (w64 (Mon.smallF 1).f))) (fun w M => Mon.small_any 1 w (by decide) (by decide)) fun u3 M => pN M 5 (.cells (av 5 (w64 (fun _ => 0))) 116) fun g3 u4 M => ?_
 replace M := M.nf
 refine ZG M 2 5 (w64 (Mon.smallF 1).f) fun u5 M => ?_
 replace M := M.nf
 refine nT <| sR <| pB M 10 2 <| rV 1 <| pB M 12 0 <| pB M 13 2 <| rV 2 <| pN M 6 (.cells (av 20 (w64 (fun _ => 0))) 136) fun g4 u6 M => ?_
 replace M := M.nf
 refine ZG M 3 20 (w64 (Mon.qj (Mon.pj (Mon.smallF 1).f Mon.zeroE.f) (Mon.pj e.f (Mon.smallF 1).f))) fun u7 M => ?_
 replace M := M.nf
 refine nT <| wp_seq <| sq <| wp_block ?_
 refine au_loop (fun j a w' => ∃ v1 : NV, a = (fm ([.string s, .agg (av 5 (w64 e.f)), v1 2, pJ g1, pJ g2, pJ g3, pJ g4] ++ vr v1 7 9 ++ [.int .i64 (j : Int)] ++ vr v1 17 32)) ∧ Mem ⟨w, []⟩ [⟨g1, .cells (av 5 (w64 e.f)) 116⟩, ⟨g2, .cells (av 5 (w64 (fun _ => 0))) 116⟩, ⟨g3, .cells (av 5 (w64 (Mon.smallF 1).f)) 116⟩, ⟨g4, .cells (av 20 (w64 (Mon.qj (Mon.pj (Mon.ladF s e j).dx.f (Mon.ladF s e j).dz.f) (Mon.pj (Mon.ladF s e j).px.f (Mon.ladF s e j).pz.f)))) 136⟩] w') 255 (exS M) ?_ ?_
 ·intro j a u0 hj hI
  obtain ⟨v1, rfl, M⟩ := hI
  obtain ⟨q, hqe⟩ : ∃ q, Mon.ladF s e j = q := ⟨_, rfl⟩
  have hq : q.Ok := hqe ▸ Mon.ladF_ok s hx j
  rw [hqe] at M
  obtain ⟨p, hp⟩ : ∃ p : Nat, 254 - j = p := ⟨_, rfl⟩
  refine sR <| ZT 17 ((j : Int) < 255) <| nT <| wp_seq <| cT <| wp_skip <| au_then <| wp_seq <| wp_block <| sq <| sR <| rV 2 <| ZI 21 ((254 : Int) - (j : Int)) (p : Int) ?_
  by_cases c0 : (Mon.bit s p) = 0
  ·refine pD M 22 (.int .i64 0) (fun w M => l_bitZ c0 w (by omega) (by omega)) fun u8 M => rV 1 <| nT <| rgh M [⟨g1, .cells (av 5 (w64 e.f)) 116⟩, ⟨g2, .cells (av 5 (w64 (fun _ => 0))) 116⟩, ⟨g3, .cells (av 5 (w64 (Mon.smallF 1).f)) 116⟩] 18 fun u9 M => ?_
   replace M := M.nf
   have qM := M.drop (jC (.cons_cons _ (jC (jK (.slnil)))))
   refine qV qM 0 24 (.int .i64 0) <| qV qM 1 25 (.int .i64 0) <| qV qM 2 26 (.int .i64 1) <| qV qM 3 27 (.int .i64 0) <| qH qM 4 28 (pJ g4) (fun w _ => (fun _ => by kernel_rfl) w) <| qV qM 6 30 (.int .i64 0) <| qV qM 7 31 (.int .i64 1) <| qH qM 8 32 (pJ g4 10) (fun w _ => (fun _ => by kernel_rfl) w) <| qA qM 10 34 0 5 (w64 e.f) ?_
   refine hl_two 5 9 (by decide) (by decide) (by kernel_rfl) rfl rfl ?_ ?_
   ·refine pL M 29 3 rfl 0 10 (w64 (Mon.pj q.dx.f q.dz.f)) (fun j hj => qj_0 _ _ j hj) <| nT ?_
    refine ⟨(M.drop (jC (.cons_cons _ (jC (jK (.slnil)))))), ?_⟩
    refine qO 9 ?_
    refine pL M 33 3 rfl 10 10 (w64 (Mon.pj q.px.f q.pz.f)) (fun j hj => qj_1 _ _ j hj) <| nT ?_
    refine ⟨(M.drop (jC (.cons_cons _ (jC (jK (.slnil)))))), ?_⟩
    refine qO 11 ?_
    refine pD M 35 (.tuple #[.agg (av 10 (w64 (Mon.pj (tzX2 q).f (tzZ2 q).f))), .agg (av 10 (w64 (Mon.pj (tzX3 q).f (tzZ3 q e).f)))]) (fun w M => l_step q e hq hx w M.laid) fun u10 M => nT ?_
    refine ⟨(M.drop (jC (.cons_cons _ (jC (jK (.slnil)))))), ?_⟩
    have qM := M.drop (jC (.cons_cons _ (jC (jK (.slnil)))))
    refine qV qM 12 23 (.tuple #[.agg (av 10 (w64 (Mon.pj (tzX2 q).f (tzZ2 q).f))), .agg (av 10 (w64 (Mon.pj (tzX3 q).f (tzZ3 q e).f)))]) <| qV qM 13 36 (.agg (av 10 (w64 (Mon.pj (tzX2 q).f (tzZ2 q).f)))) <| qV qM 14 37 (.agg (av 10 (w64 (Mon.pj (tzX3 q).f (tzZ3 q e).f)))) <| qH qM 15 38 (pJ g4) (fun w _ => (fun _ => by kernel_rfl) w) <| qO 16 ?_
    refine pl_put M (want_no rfl) rfl 135 _ _ rfl 3 g4 0 (by kernel_rfl) 20 136 (w64 (Mon.qj (Mon.pj q.dx.f q.dz.f) (Mon.pj q.px.f q.pz.f))) rfl 10 (w64 (Mon.pj (tzX2 q).f (tzZ2 q).f)) (w64 (Mon.qj (Mon.pj (tzX2 q).f (tzZ2 q).f) (Mon.pj q.px.f q.pz.f))) (by kernel_rfl) inz135 (by decide) (fun _ _ => rfl) (fun j hj => qq_0 _ _ _ j hj) fun u11 M => ?_
    replace M := M.nf
    refine nT ?_
    refine ⟨(M.drop (jC (.cons_cons _ (jC (jK (.slnil)))))), ?_⟩
    refine qH (M.drop (jC (.cons_cons _ (jC (jK (.slnil)))))) 17 39 (pJ g4 10) (fun w _ => (fun _ => by kernel_rfl) w) <| qZ ?_
    refine pl_put M (want_no rfl) rfl 135 _ _ rfl 3 g4 10 (by kernel_rfl) 20 136 (w64 (Mon.qj (Mon.pj (tzX2 q).f (tzZ2 q).f) (Mon.pj q.px.f q.pz.f))) rfl 10 (w64 (Mon.pj (tzX3 q).f (tzZ3 q e).f)) (w64 (Mon.qj (Mon.pj (tzX2 q).f (tzZ2 q).f) (Mon.pj (tzX3 q).f (tzZ3 q e).f))) (by kernel_rfl) inz135 (by decide) (fun _ _ => rfl) (fun j hj => qq_1 _ _ _ j hj) fun u12 M => ?_
    replace M := M.nf
    refine nT <| au_block <| au_then <| rg_lit <| zW 40 ((j : Int) + 1) <| rV 1 <| nT ?_
    have e0 : Mon.ladF s e (j + 1) = ⟨tzX2 q, tzZ2 q, tzX3 q, tzZ3 q e⟩ := by
     show (if Mon.bit s (254 - j) = 0 then _ else _) = _
     rw [hp, if_pos c0, hqe]
     rfl
    exact exS (by rw [e0]; exact M)
   ·refine pL M 33 3 rfl 10 10 (w64 (Mon.pj q.px.f q.pz.f)) (fun j hj => qj_1 _ _ j hj) <| nT ?_
    refine ⟨(M.drop (jC (.cons_cons _ (jC (jK (.slnil)))))), ?_⟩
    refine qO 5 ?_
    refine pL M 29 3 rfl 0 10 (w64 (Mon.pj q.dx.f q.dz.f)) (fun j hj => qj_0 _ _ j hj) <| nT ?_
    refine ⟨(M.drop (jC (.cons_cons _ (jC (jK (.slnil)))))), ?_⟩
    refine qO 11 ?_
    refine pD M 35 (.tuple #[.agg (av 10 (w64 (Mon.pj (tzX2 q).f (tzZ2 q).f))), .agg (av 10 (w64 (Mon.pj (tzX3 q).f (tzZ3 q e).f)))]) (fun w M => l_step q e hq hx w M.laid) fun u10 M => nT ?_
    refine ⟨(M.drop (jC (.cons_cons _ (jC (jK (.slnil)))))), ?_⟩
    have qM := M.drop (jC (.cons_cons _ (jC (jK (.slnil)))))
    refine qV qM 12 23 (.tuple #[.agg (av 10 (w64 (Mon.pj (tzX2 q).f (tzZ2 q).f))), .agg (av 10 (w64 (Mon.pj (tzX3 q).f (tzZ3 q e).f)))]) <| qV qM 13 36 (.agg (av 10 (w64 (Mon.pj (tzX2 q).f (tzZ2 q).f)))) <| qV qM 14 37 (.agg (av 10 (w64 (Mon.pj (tzX3 q).f (tzZ3 q e).f)))) <| qH qM 15 38 (pJ g4) (fun w _ => (fun _ => by kernel_rfl) w) <| qO 16 ?_
    refine pl_put M (want_no rfl) rfl 135 _ _ rfl 3 g4 0 (by kernel_rfl) 20 136 (w64 (Mon.qj (Mon.pj q.dx.f q.dz.f) (Mon.pj q.px.f q.pz.f))) rfl 10 (w64 (Mon.pj (tzX2 q).f (tzZ2 q).f)) (w64 (Mon.qj (Mon.pj (tzX2 q).f (tzZ2 q).f) (Mon.pj q.px.f q.pz.f))) (by kernel_rfl) inz135 (by decide) (fun _ _ => rfl) (fun j hj => qq_0 _ _ _ j hj) fun u11 M => ?_
    replace M := M.nf
    refine nT ?_
    refine ⟨(M.drop (jC (.cons_cons _ (jC (jK (.slnil)))))), ?_⟩
    refine qH (M.drop (jC (.cons_cons _ (jC (jK (.slnil)))))) 17 39 (pJ g4 10) (fun w _ => (fun _ => by kernel_rfl) w) <| qZ ?_
    refine pl_put M (want_no rfl) rfl 135 _ _ rfl 3 g4 10 (by kernel_rfl) 20 136 (w64 (Mon.qj (Mon.pj (tzX2 q).f (tzZ2 q).f) (Mon.pj q.px.f q.pz.f))) rfl 10 (w64 (Mon.pj (tzX3 q).f (tzZ3 q e).f)) (w64 (Mon.qj (Mon.pj (tzX2 q).f (tzZ2 q).f) (Mon.pj (tzX3 q).f (tzZ3 q e).f))) (by kernel_rfl) inz135 (by decide) (fun _ _ => rfl) (fun j hj => qq_1 _ _ _ j hj) fun u12 M => ?_
    replace M := M.nf
    refine nT <| au_block <| au_then <| rg_lit <| zW 40 ((j : Int) + 1) <| rV 1 <| nT ?_
    have e0 : Mon.ladF s e (j + 1) = ⟨tzX2 q, tzZ2 q, tzX3 q, tzZ3 q e⟩ := by
     show (if Mon.bit s (254 - j) = 0 then _ else _) = _
     rw [hp, if_pos c0, hqe]
     rfl
    exact exS (by rw [e0]; exact M)
  ·refine pD M 22 (.int .i64 1) (fun w M => l_bitN c0 w (by omega) (by omega)) fun u8 M => rV 1 <| nT <| rgh M [⟨g1, .cells (av 5 (w64 e.f)) 116⟩, ⟨g2, .cells (av 5 (w64 (fun _ => 0))) 116⟩, ⟨g3, .cells (av 5 (w64 (Mon.smallF 1).f)) 116⟩] 18 fun u9 M => ?_
   replace M := M.nf
   have qM := M.drop (jC (.cons_cons _ (jC (jK (.slnil)))))
   refine qV qM 0 24 (.int .i64 1) <| qV qM 1 25 (.int .i64 1) <| qV qM 2 26 (.int .i64 0) <| qV qM 3 27 (.int .i64 1) <| qH qM 4 28 (pJ g4 10) (fun w _ => (fun _ => by kernel_rfl) w) <| qV qM 6 30 (.int .i64 1) <| qV qM 7 31 (.int .i64 0) <| qH qM 8 32 (pJ g4) (fun w _ => (fun _ => by kernel_rfl) w) <| qA qM 10 34 0 5 (w64 e.f) ?_
   refine hl_two 5 9 (by decide) (by decide) (by kernel_rfl) rfl rfl ?_ ?_
   ·refine pL M 29 3 rfl 10 10 (w64 (Mon.pj q.px.f q.pz.f)) (fun j hj => qj_1 _ _ j hj) <| nT ?_
    refine ⟨(M.drop (jC (.cons_cons _ (jC (jK (.slnil)))))), ?_⟩
    refine qO 9 ?_
    refine pL M 33 3 rfl 0 10 (w64 (Mon.pj q.dx.f q.dz.f)) (fun j hj => qj_0 _ _ j hj) <| nT ?_
    refine ⟨(M.drop (jC (.cons_cons _ (jC (jK (.slnil)))))), ?_⟩
    refine qO 11 ?_
    refine pD M 35 (.tuple #[.agg (av 10 (w64 (Mon.pj (tzX2 (swQ q)).f (tzZ2 (swQ q)).f))), .agg (av 10 (w64 (Mon.pj (tzX3 (swQ q)).f (tzZ3 (swQ q) e).f)))]) (fun w M => l_step (swQ q) e (swQ_ok hq) hx w M.laid) fun u10 M => nT ?_
    refine ⟨(M.drop (jC (.cons_cons _ (jC (jK (.slnil)))))), ?_⟩
    have qM := M.drop (jC (.cons_cons _ (jC (jK (.slnil)))))
    refine qV qM 12 23 (.tuple #[.agg (av 10 (w64 (Mon.pj (tzX2 (swQ q)).f (tzZ2 (swQ q)).f))), .agg (av 10 (w64 (Mon.pj (tzX3 (swQ q)).f (tzZ3 (swQ q) e).f)))]) <| qV qM 13 36 (.agg (av 10 (w64 (Mon.pj (tzX2 (swQ q)).f (tzZ2 (swQ q)).f)))) <| qV qM 14 37 (.agg (av 10 (w64 (Mon.pj (tzX3 (swQ q)).f (tzZ3 (swQ q) e).f)))) <| qH qM 15 38 (pJ g4 10) (fun w _ => (fun _ => by kernel_rfl) w) <| qO 16 ?_
    refine pl_put M (want_no rfl) rfl 135 _ _ rfl 3 g4 10 (by kernel_rfl) 20 136 (w64 (Mon.qj (Mon.pj q.dx.f q.dz.f) (Mon.pj q.px.f q.pz.f))) rfl 10 (w64 (Mon.pj (tzX2 (swQ q)).f (tzZ2 (swQ q)).f)) (w64 (Mon.qj (Mon.pj q.dx.f q.dz.f) (Mon.pj (tzX2 (swQ q)).f (tzZ2 (swQ q)).f))) (by kernel_rfl) inz135 (by decide) (fun _ _ => rfl) (fun j hj => qq_1 _ _ _ j hj) fun u11 M => ?_
    replace M := M.nf
    refine nT ?_
    refine ⟨(M.drop (jC (.cons_cons _ (jC (jK (.slnil)))))), ?_⟩
    refine qH (M.drop (jC (.cons_cons _ (jC (jK (.slnil)))))) 17 39 (pJ g4) (fun w _ => (fun _ => by kernel_rfl) w) <| qZ ?_
    refine pl_put M (want_no rfl) rfl 135 _ _ rfl 3 g4 0 (by kernel_rfl) 20 136 (w64 (Mon.qj (Mon.pj q.dx.f q.dz.f) (Mon.pj (tzX2 (swQ q)).f (tzZ2 (swQ q)).f))) rfl 10 (w64 (Mon.pj (tzX3 (swQ q)).f (tzZ3 (swQ q) e).f)) (w64 (Mon.qj (Mon.pj (tzX3 (swQ q)).f (tzZ3 (swQ q) e).f) (Mon.pj (tzX2 (swQ q)).f (tzZ2 (swQ q)).f))) (by kernel_rfl) inz135 (by decide) (fun _ _ => rfl) (fun j hj => qq_0 _ _ _ j hj) fun u12 M => ?_
    replace M := M.nf
    refine nT <| au_block <| au_then <| rg_lit <| zW 40 ((j : Int) + 1) <| rV 1 <| nT ?_
    have e0 : Mon.ladF s e (j + 1) = ⟨tzX3 (swQ q), tzZ3 (swQ q) e, tzX2 (swQ q), tzZ2 (swQ q)⟩ := by
     show (if Mon.bit s (254 - j) = 0 then _ else _) = _
     rw [hp, if_neg c0, hqe]
     rfl
    exact exS (by rw [e0]; exact M)
   ·refine pL M 33 3 rfl 0 10 (w64 (Mon.pj q.dx.f q.dz.f)) (fun j hj => qj_0 _ _ j hj) <| nT ?_
    refine ⟨(M.drop (jC (.cons_cons _ (jC (jK (.slnil)))))), ?_⟩
    refine qO 5 ?_
    refine pL M 29 3 rfl 10 10 (w64 (Mon.pj q.px.f q.pz.f)) (fun j hj => qj_1 _ _ j hj) <| nT ?_
    refine ⟨(M.drop (jC (.cons_cons _ (jC (jK (.slnil)))))), ?_⟩
    refine qO 11 ?_
    refine pD M 35 (.tuple #[.agg (av 10 (w64 (Mon.pj (tzX2 (swQ q)).f (tzZ2 (swQ q)).f))), .agg (av 10 (w64 (Mon.pj (tzX3 (swQ q)).f (tzZ3 (swQ q) e).f)))]) (fun w M => l_step (swQ q) e (swQ_ok hq) hx w M.laid) fun u10 M => nT ?_
    refine ⟨(M.drop (jC (.cons_cons _ (jC (jK (.slnil)))))), ?_⟩
    have qM := M.drop (jC (.cons_cons _ (jC (jK (.slnil)))))
    refine qV qM 12 23 (.tuple #[.agg (av 10 (w64 (Mon.pj (tzX2 (swQ q)).f (tzZ2 (swQ q)).f))), .agg (av 10 (w64 (Mon.pj (tzX3 (swQ q)).f (tzZ3 (swQ q) e).f)))]) <| qV qM 13 36 (.agg (av 10 (w64 (Mon.pj (tzX2 (swQ q)).f (tzZ2 (swQ q)).f)))) <| qV qM 14 37 (.agg (av 10 (w64 (Mon.pj (tzX3 (swQ q)).f (tzZ3 (swQ q) e).f)))) <| qH qM 15 38 (pJ g4 10) (fun w _ => (fun _ => by kernel_rfl) w) <| qO 16 ?_
    refine pl_put M (want_no rfl) rfl 135 _ _ rfl 3 g4 10 (by kernel_rfl) 20 136 (w64 (Mon.qj (Mon.pj q.dx.f q.dz.f) (Mon.pj q.px.f q.pz.f))) rfl 10 (w64 (Mon.pj (tzX2 (swQ q)).f (tzZ2 (swQ q)).f)) (w64 (Mon.qj (Mon.pj q.dx.f q.dz.f) (Mon.pj (tzX2 (swQ q)).f (tzZ2 (swQ q)).f))) (by kernel_rfl) inz135 (by decide) (fun _ _ => rfl) (fun j hj => qq_1 _ _ _ j hj) fun u11 M => ?_
    replace M := M.nf
    refine nT ?_
    refine ⟨(M.drop (jC (.cons_cons _ (jC (jK (.slnil)))))), ?_⟩
    refine qH (M.drop (jC (.cons_cons _ (jC (jK (.slnil)))))) 17 39 (pJ g4) (fun w _ => (fun _ => by kernel_rfl) w) <| qZ ?_
    refine pl_put M (want_no rfl) rfl 135 _ _ rfl 3 g4 0 (by kernel_rfl) 20 136 (w64 (Mon.qj (Mon.pj q.dx.f q.dz.f) (Mon.pj (tzX2 (swQ q)).f (tzZ2 (swQ q)).f))) rfl 10 (w64 (Mon.pj (tzX3 (swQ q)).f (tzZ3 (swQ q) e).f)) (w64 (Mon.qj (Mon.pj (tzX3 (swQ q)).f (tzZ3 (swQ q) e).f) (Mon.pj (tzX2 (swQ q)).f (tzZ2 (swQ q)).f))) (by kernel_rfl) inz135 (by decide) (fun _ _ => rfl) (fun j hj => qq_0 _ _ _ j hj) fun u12 M => ?_
    replace M := M.nf
    refine nT <| au_block <| au_then <| rg_lit <| zW 40 ((j : Int) + 1) <| rV 1 <| nT ?_
    have e0 : Mon.ladF s e (j + 1) = ⟨tzX3 (swQ q), tzZ3 (swQ q) e, tzX2 (swQ q), tzZ2 (swQ q)⟩ := by
     show (if Mon.bit s (254 - j) = 0 then _ else _) = _
     rw [hp, if_neg c0, hqe]
     rfl
    exact exS (by rw [e0]; exact M)
 ·intro a u0 hI
  obtain ⟨v1, rfl, M⟩ := hI
  refine sR <| ZF 17 ((255 : Int) < 255) <| nT <| wp_seq <| cF <| wp_exit <| au_then_exit <| au_then_exit <| au_block_exit <| au_then <| wp_seq <| rgh M [⟨g1, .cells (av 5 (w64 e.f)) 116⟩, ⟨g2, .cells (av 5 (w64 (fun _ => 0))) 116⟩, ⟨g3, .cells (av 5 (w64 (Mon.smallF 1).f)) 116⟩, ⟨g4, .cells (av 20 (w64 (Mon.qj (Mon.pj (Mon.ladF s e 255).dx.f (Mon.ladF s e 255).dz.f) (Mon.pj (Mon.ladF s e 255).px.f (Mon.ladF s e 255).pz.f)))) 136⟩] 8 fun u8 M => ?_
  replace M := M.nf
  refine qV M 0 41 (pJ g4) <| qV M 1 42 (pJ g4) <| qL M 2 43 3 0 5 (w64 (Mon.ladF s e 255).dx.f) (fun j hj => qp_0 _ _ _ j hj) <| qV M 3 44 (pJ g4) <| qV M 4 45 (pJ g4 5) <| qL M 5 46 3 5 5 (w64 (Mon.ladF s e 255).dz.f) (fun j hj => qp_1 _ _ _ j hj) <| qO 6 ?_
  refine pD M 47 (.agg (av 5 (w64 (Mon.invF (Mon.ladF s e 255).dz).f))) (fun w M => Mon.inv_any (Mon.ladF s e 255).dz w (Mon.ladF_ok s hx 255).dz) fun u9 M => nT ?_
  refine ⟨M, ?_⟩
  refine qO 7 ?_
  refine pD M 48 (.agg (av 5 (w64 (Mon.mulF (Mon.ladF s e 255).dx (Mon.invF (Mon.ladF s e 255).dz)).f))) (fun w M => Mon.mul_any (Mon.ladF s e 255).dx (Mon.invF (Mon.ladF s e 255).dz) w (Mon.ladF_ok s hx 255).dx (Mon.invF_ok (Mon.ladF_ok s hx 255).dz)) fun u10 M => nT ?_
  refine ⟨M, ?_⟩
  refine qZ ?_
  refine ZG M 1 5 (w64 (Mon.mulF (Mon.ladF s e 255).dx (Mon.invF (Mon.ladF s e 255).dz)).f) fun u11 M => ?_
  replace M := M.nf
  refine nT <| au_then <| wp_ret ?_
  exact bc Tryz.results68 M 1 5 (w64 (Mon.mulF (Mon.ladF s e 255).dx (Mon.invF (Mon.ladF s e 255).dz)).f) ⟨rfl, below_grown M.old⟩
open Go.RowKit
section
variable (q : Mon.RS)
def yA : Int := (q.x2 + q.z2) % Mon.Pm
def yAA : Int := yA q * yA q % Mon.Pm
def yD : Int := (q.x2 - q.z2) % Mon.Pm
def yDD : Int := yD q * yD q % Mon.Pm
def yE : Int := (yAA q - yDD q) % Mon.Pm
def yU : Int := (q.x3 - q.z3) % Mon.Pm
def yDA : Int := yU q * yA q % Mon.Pm
def yV : Int := (q.x3 + q.z3) % Mon.Pm
def yCB : Int := yV q * yD q % Mon.Pm
def yS : Int := (yDA q + yCB q) % Mon.Pm
def yT : Int := (yDA q - yCB q) % Mon.Pm
def yTT : Int := yT q * yT q % Mon.Pm
def yX3 : Int := yS q * yS q % Mon.Pm
def yX2 : Int := yAA q * yDD q % Mon.Pm
def yF : Int := 121665 * yE q % Mon.Pm
def yG : Int := (yAA q + yF q) % Mon.Pm
def yZ2 : Int := yE q * yG q % Mon.Pm
def yZ3 (x : Int) : Int := x * yTT q % Mon.Pm
end
abbrev nF (X : Int) : Nat → Value := w64 (Mon.d16 X)
abbrev BdP (X : Int) : Prop := 0 ≤ X ∧ X < Mon.Pm
section
variable {X Y : Int}
theorem l_add (hx : BdP X) (hy : BdP Y) (w : World) : Cs 40 #[.agg (av 16 (nF X)), .agg (av 16 (nF Y))] w (.agg (av 16 (nF ((X + Y) % Mon.Pm)))) := by
 have h := Mon.radd_any (Mon.d16 X) (Mon.d16 Y) w (Mon.d16_dig _ 16) (Mon.d16_dig _ 16)
 rwa [Mon.dSP hx, Mon.dSP hy] at h
theorem l_sub (hx : BdP X) (hy : BdP Y) (w : World) : Cs 42 #[.agg (av 16 (nF X)), .agg (av 16 (nF Y))] w (.agg (av 16 (nF ((X - Y) % Mon.Pm)))) := by
 have h := Mon.rsub_any (Mon.d16 X) (Mon.d16 Y) w (Mon.d16_dig _ 16) (Mon.d16_dig _ 16) (by rw [Mon.dSP hy]; exact hy.2)
 rwa [Mon.dSP hx, Mon.dSP hy] at h
theorem l_mul (hx : BdP X) (hy : BdP Y) (w : World) : Cs 41 #[.agg (av 16 (nF X)), .agg (av 16 (nF Y))] w (.agg (av 16 (nF (X * Y % Mon.Pm)))) := by
 have h := Mon.rmul_any (Mon.d16 X) (Mon.d16 Y) w (Mon.d16_dig _ 16) (Mon.d16_dig _ 16)
 rwa [Mon.dSP hx, Mon.dSP hy] at h
theorem l_inv (hx : BdP X) (w : World) : Cs 43 #[.agg (av 16 (nF X))] w (.agg (av 16 (nF (Mon.pwm X (Mon.xbit 255 21) 255)))) := by
 have h := Mon.rinv_any (Mon.d16 X) w (Mon.d16_dig _ 16)
 rwa [Mon.dSP hx] at h
end
theorem l_small (n : Int) (w : World) (h0 : 0 ≤ n) (h1 : n < 4294967296) : Cs 39 #[.int .u32 n] w (.agg (av 16 (nF n))) := Mon.rsmall_any n w h0 h1
theorem l_bytes (X : Int) (w : World) (hL : Laid w) : Cs 44 #[.agg (av 16 (nF X))] w (.string (bs (Mon.rb (Mon.d16 X) 32))) := l_rbytes _ (Mon.d16_dig _ 16) w hL
theorem l_of {u : Yb} {x : Int} (h : Mon.val (Mon.mkS u) % Mon.Pm = x) (w : World) (hL : Laid w) : Cs 38 #[.string (Mon.mkS u)] w (.agg (av 16 (nF x))) := by
 subst h
 exact l_rof (Mon.mkS u) (Mon.mkS_size u) w hL
theorem l_clamp {s K : Yb} (h : Mon.clS s = K) (hs : s.size = 32) (w : World) : Cs 37 #[.string s] w (.string K) := h ▸ Mon.rclamp_yes s w hs
theorem run_shr8 {P : Program} {a : Act} {o : Oper} (t rt : TypeId) (x y : Operand) (ho : o.op = .binOp .shr t x y rt) (k : Int) (ky : IntKind) (m : Nat) (hx : a.eval x = .int .u8 k) (hy : a.eval y = .int ky (m : Int)) (_hm : m ≤ 8) (w : World) :
  (execOp a.eval o).run P w = .ok (.value (.int .u8 (k / 2 ^ m))) w := by
 unfold execOp
 simp [ho, hx, hy, eqGuard, binOp]
theorem run_remM {P : Program} {a : Act} {o : Oper} (t rt : TypeId) (x y : Operand) (ho : o.op = .binOp .rem t x y rt) (m d : Nat) (hx : a.eval x = .int .i64 (m : Int)) (hy : a.eval y = .int .i64 (d : Int)) (hd : 0 < d) (w : World) :
  (execOp a.eval o).run P w = .ok (.value (.int .i64 ((m % d : Nat) : Int))) w := by
 have h0 : ¬ d = 0 := by omega
 have e : Int.tmod (m : Int) (d : Int) = (m : Int) % (d : Int) := rfl
 unfold execOp
 simp [ho, hx, hy, eqGuard, binOp, Op.intDiv, h0, e]
theorem quo8 (j : Nat) (hj : j < 1000000) : IntKind.wrap .i64 ((j : Int).tdiv 8) = ((j / 8 : Nat) : Int) := by
 rw [Int.tdiv_eq_ediv_of_nonneg (by omega), wrap64 (by omega) (by omega)]
 omega
theorem mk_set {u : Yb} (h : u.size = 32) : bs ((sb u).set 31 (bits .and .u8 (bt u 31) 127)) = Mon.mkS u := by
 show _ = bs ((List.range 32).map (Mon.mkF u))
 congr 1
 apply List.ext_getElem?
 intro i
 rw [List.getElem?_set, List.getElem?_map, sb_length, h]
 by_cases h31 : 31 = i
 ·subst h31
  simp [Mon.mkF, Mon.upd] <;> rfl
 ·rw [if_neg h31]
  by_cases hi : i < 32
  ·rw [sb_get u i (by omega), List.getElem?_range hi]
   simp [Mon.mkF, Mon.upd, Ne.symm h31] <;> rfl
  ·rw [List.getElem?_eq_none (by rw [sb_length]; omega), List.getElem?_eq_none (by rw [List.length_range]; omega)]
   rfl
theorem wrapU {x : Int} (h0 : 0 ≤ x) (h1 : x < 18446744073709551616) : IntKind.wrap .u64 x = x := by
 unfold IntKind.wrap
 simp [IntKind.bits, IntKind.signed]
 omega
theorem bd127 (x : Int) : 0 ≤ bits .and .u8 x 127 ∧ bits .and .u8 x 127 < 256 := cv8_nn _
theorem bit_eq (K : Yb) (p : Nat) : bits .and .u8 (bt K (p / 8) / 2 ^ (p % 8)) 1 = Mon.bit K p := by
 have h := bt_nn K (p / 8)
 have h2 : bt K (p / 8) / 2 ^ (p % 8) ≤ bt K (p / 8) := Int.ediv_le_self _ h.1
 have h3 : 0 ≤ bt K (p / 8) / 2 ^ (p % 8) := Int.ediv_nonneg h.1 (Int.le_of_lt (Int.pow_pos (by decide)))
 exact Mon.and1u h3 (by omega)
theorem l_ladder (sec u K : Yb) (x1 : Int) (hsec : sec.size = 32) (hu : u.size = 32) (hK : Mon.clS sec = K) (h1 : Mon.val (Mon.mkS u) % Mon.Pm = x1) (w : World) (hL : Laid w)  : Cs 20 #[.string sec, .string u] w (.string (bs (Mon.rb (Mon.d16 ((Mon.rladF K x1 255).x2 * Mon.pwm (Mon.rladF K x1 255).z2 (Mon.xbit 255 21) 255 % Mon.Pm)) 32))) := by
 go_enter Tryz.func20, Tryz.ntmps20
 have M := Mem.start hL
 have hX : BdP x1 := h1 ▸ Mon.pmod _
 have hKs : K.size = 32 := hK ▸ Mon.clS_size sec
 refine sq <| sR <| rV 1 <| pD M 24 (.string K) (fun w M => l_clamp hK hsec w) fun u1 M => rV 1 <| nT <| sR <| rV 1 <| pl_conv M (want_no rfl) (some 26) rfl _ rfl u (by kernel_rfl) ?_
 intro g1 cpg1 Zg1 u2 hZg1 M
 replace M := M.nf
 refine rV 1 <| nT <| sR <| rV 2 <| pH 29 (pJ g1 31) (run_ix0 61 5 Tryz.underlying61 inz5 _ _ rfl g1 u.size cpg1 (by kernel_rfl) .i64 31 (by kernel_rfl) (by omega)) ?_
 refine pE M 30 g1 31 (.int .u8 (bt u 31)) (fun w M => hZg1.cell (M.get 0 rfl) (by unfold vs8; rw [List.getElem?_map, sb_get _ _ (by omega)]; rfl)) ?_
 refine rV 1 <| pH 32 (pJ g1 31) (run_ix0 61 5 Tryz.underlying61 inz5 _ _ rfl g1 u.size cpg1 (by kernel_rfl) .i64 31 (by kernel_rfl) (by omega)) <| pl_putS M (want_no rfl) rfl 5 _ _ rfl 0 g1 31 (by kernel_rfl) _ rfl cpg1 _ hZg1 (by rw [vs8_length, sb_length]; omega) (.int .u8 (bits .and .u8 (bt u 31) 127)) (by kernel_rfl) inz5 rfl rfl ?_
 intro ZA u3 hZA M
 rw [show (vs8 (sb u)).set 31 (.int .u8 (bits .and .u8 (bt u 31) 127)) = vs8 ((sb u).set 31 (bits .and .u8 (bt u 31) 127)) by unfold vs8; rw [List.map_set]] at hZA
 replace M := M.nf
 refine nT <| sR <| rV 1 <| pl_back M (want_no rfl) (some 34) rfl _ rfl 0 g1 u.size cpg1 (by kernel_rfl) _ rfl ((sb u).set 31 (bits .and .u8 (bt u 31) 127)) cpg1 hZA (by rw [List.length_set, sb_length]) (fun y hy => by rcases List.mem_or_eq_of_mem_set hy with h | h; exact sb_nn u y h; rw [h]; exact bd127 _) ?_
 rw [mk_set hu]
 refine pD M 35 (.agg (av 16 (nF x1))) (fun w M => l_of h1 w M.laid) fun u4 M => pN M 7 (.cells (av 16 (w64 (fun _ => 0))) 88) fun g2 u5 M => ?_
 replace M := M.nf
 refine ZG M 1 16 (nF x1) fun u6 M => ?_
 replace M := M.nf
 refine nT <| sR <| pD M 36 (.agg (av 16 (nF 1))) (fun w M => l_small 1 w (by decide) (by decide)) fun u7 M => pN M 8 (.cells (av 16 (w64 (fun _ => 0))) 88) fun g3 u8 M => ?_
 replace M := M.nf
 refine ZG M 2 16 (nF 1) fun u9 M => ?_
 replace M := M.nf
 refine nT <| sR <| rV 1 <| pN M 9 (.cells (av 16 (w64 (fun _ => 0))) 88) fun g4 u10 M => ?_
 replace M := M.nf
 refine ZG M 3 16 (nF 0) fun u11 M => ?_
 replace M := M.nf
 refine nT <| sR <| pB M 38 1 <| pN M 10 (.cells (av 16 (w64 (fun _ => 0))) 88) fun g5 u12 M => ?_
 replace M := M.nf
 refine ZG M 4 16 (nF x1) fun u13 M => ?_
 replace M := M.nf
 refine nT <| sR <| pD M 39 (.agg (av 16 (nF 1))) (fun w M => l_small 1 w (by decide) (by decide)) fun u14 M => pN M 11 (.cells (av 16 (w64 (fun _ => 0))) 88) fun g6 u15 M => ?_
 replace M := M.nf
 refine ZG M 5 16 (nF 1) fun u16 M => ?_
 replace M := M.nf
 refine nT <| wp_seq <| sq <| wp_block ?_
 refine au_loop (fun j a w' => ∃ v1 : NV, a = (fm ([.string sec, .string u] ++ vr v1 2 2 ++ [.string ⟨#[]⟩, .string K, .slice (some ⟨g1, 0, none⟩) u.size cpg1, pJ g2, pJ g3, pJ g4, pJ g5, pJ g6, .int .i64 (254 - ((j : Nat) : Int))] ++ vr v1 13 105)) ∧ Mem ⟨w, []⟩ [⟨g1, ZA⟩, ⟨g2, .cells (av 16 (nF x1)) 88⟩, ⟨g3, .cells (av 16 (nF (Mon.rladF K x1 j).x2)) 88⟩, ⟨g4, .cells (av 16 (nF (Mon.rladF K x1 j).z2)) 88⟩, ⟨g5, .cells (av 16 (nF (Mon.rladF K x1 j).x3)) 88⟩, ⟨g6, .cells (av 16 (nF (Mon.rladF K x1 j).z3)) 88⟩] w') 255 (exS M) ?_ ?_
 ·intro j a u0 hj hI
  obtain ⟨v1, rfl, M⟩ := hI
  obtain ⟨q, hqe⟩ : ∃ q, Mon.rladF K x1 j = q := ⟨_, rfl⟩
  have hq : q.Ok := hqe ▸ Mon.rladF_ok K hX j
  rw [hqe] at M
  obtain ⟨p, hp⟩ : ∃ p : Nat, 254 - j = p := ⟨_, rfl⟩
  have hpi : (254 : Int) - ((j : Nat) : Int) = (p : Int) := by omega
  rw [hpi]
  refine wp_seq <| sR <| rV 1 <| ZT 41 ((0 : Int) ≤ (p : Int)) <| nT <| cT <| wp_skip <| au_then <| wp_seq <| wp_block <| sR <| rV 2 <| ZQ 46 .i64 (IntKind.wrap .i64 ((p : Int).tdiv 8)) (quo8 p (by omega)) <| pH 47 (.int .u8 (bt K (p / 8))) (run_ixS 9 Tryz.underlying9 _ _ rfl K (by kernel_rfl) .i64 (p / 8) (by kernel_rfl) (by omega)) <| rV 1 <| pH 49 (.int .i64 ((p % 8 : Nat) : Int)) (run_remM 3 3 _ _ rfl p 8 (by kernel_rfl) (by kernel_rfl) (by decide)) ?_
  refine zJ 50 (.int .u64 ((p % 8 : Nat) : Int)) (.int .u64 (IntKind.wrap .u64 ((p % 8 : Nat) : Int))) (by rw [show IntKind.wrap .u64 ((p % 8 : Nat) : Int) = ((p % 8 : Nat) : Int) from wrapU (by omega) (by omega)]) <| pH 51 (.int .u8 (bt K (p / 8) / 2 ^ (p % 8))) (run_shr8 5 92 _ _ rfl (bt K (p / 8)) .u64 (p % 8) (by kernel_rfl) (by kernel_rfl) (by omega)) <| rV 1 ?_
  by_cases c0 : (Mon.bit K p) = 0
  ·refine zJ 53 (.bool false) (.bool (decide (bits .and .u8 (bt K (p / 8) / 2 ^ (p % 8)) 1 = 1))) (by rw [bit_eq, decide_eq_false (by have := Mon.bit_two K p; omega)]) <| rV 1 <| nT <| wp_seq <| sq <| cF <| wp_skip <| au_then <| sR <| pB M 59 2 <| pB M 60 3 <| pD M 61 (.agg (av 16 (nF (yA q)))) (fun w M => l_add hq.x2 hq.z2 w) fun u17 M => pN M 14 (.cells (av 16 (w64 (fun _ => 0))) 88) fun g7 u18 M => ?_
   replace M := M.nf
   refine ZG M 6 16 (nF (yA q)) fun u19 M => ?_
   replace M := M.nf
   refine nT <| sR <| pB M 62 6 <| pB M 63 6 <| pC M 64 41 #[.agg (av 16 (nF (yA q))), .agg (av 16 (nF (yA q)))] (.agg (av 16 (nF (yAA q)))) (fun w M => l_mul (Mon.pmod _) (Mon.pmod _) w) fun u20 M => pN M 15 (.cells (av 16 (w64 (fun _ => 0))) 88) fun g8 u21 M => ?_
   replace M := M.nf
   refine ZG M 7 16 (nF (yAA q)) fun u22 M => ?_
   replace M := M.nf
   refine nT <| sR <| pB M 65 2 <| pB M 66 3 <| pD M 67 (.agg (av 16 (nF (yD q)))) (fun w M => l_sub hq.x2 hq.z2 w) fun u23 M => pN M 16 (.cells (av 16 (w64 (fun _ => 0))) 88) fun g9 u24 M => ?_
   replace M := M.nf
   refine ZG M 8 16 (nF (yD q)) fun u25 M => ?_
   replace M := M.nf
   refine nT <| sR <| pB M 68 8 <| pB M 69 8 <| pC M 70 41 #[.agg (av 16 (nF (yD q))), .agg (av 16 (nF (yD q)))] (.agg (av 16 (nF (yDD q)))) (fun w M => l_mul (Mon.pmod _) (Mon.pmod _) w) fun u26 M => pN M 17 (.cells (av 16 (w64 (fun _ => 0))) 88) fun g10 u27 M => ?_
   replace M := M.nf
   refine ZG M 9 16 (nF (yDD q)) fun u28 M => ?_
   replace M := M.nf
   refine nT <| sR <| pB M 71 7 <| pB M 72 9 <| pC M 73 42 #[.agg (av 16 (nF (yAA q))), .agg (av 16 (nF (yDD q)))] (.agg (av 16 (nF (yE q)))) (fun w M => l_sub (Mon.pmod _) (Mon.pmod _) w) fun u29 M => pN M 18 (.cells (av 16 (w64 (fun _ => 0))) 88) fun g11 u30 M => ?_
   replace M := M.nf
   refine ZG M 10 16 (nF (yE q)) fun u31 M => ?_
   replace M := M.nf
   refine nT <| wp_seq <| rg_allocs M 5 [(19, fun g => pJ g, .cells (av 16 (w64 (fun _ => 0))) 88)] (by kernel_rfl) (by kernel_rfl) (⟨rfl, rfl, fun _ _ => by kernel_rfl, trivial⟩) (by decide) ?_
   simp only [List.take_succ_cons, List.take_zero]
   refine kB M 74 4 <| kB M 75 5 <| kD M 76 (.agg (av 16 (nF (yU q)))) (fun w M => l_sub hq.x3 hq.z3 w) <| kB M 77 6 <| kC M 78 41 #[.agg (av 16 (nF (yU q))), .agg (av 16 (nF (yA q)))] (.agg (av 16 (nF (yDA q)))) (fun w M => l_mul (Mon.pmod _) (Mon.pmod _) w) <| kl_nil fun u32 g12 M => ?_
   replace M := M.nf
   refine ZG M 11 16 (nF (yDA q)) fun u33 M => ?_
   replace M := M.nf
   refine nT <| wp_seq <| rg_allocs M 5 [(20, fun g => pJ g, .cells (av 16 (w64 (fun _ => 0))) 88)] (by kernel_rfl) (by kernel_rfl) (⟨rfl, rfl, fun _ _ => by kernel_rfl, trivial⟩) (by decide) ?_
   simp only [List.take_succ_cons, List.take_zero]
   refine kB M 79 4 <| kB M 80 5 <| kD M 81 (.agg (av 16 (nF (yV q)))) (fun w M => l_add hq.x3 hq.z3 w) <| kB M 82 8 <| kC M 83 41 #[.agg (av 16 (nF (yV q))), .agg (av 16 (nF (yD q)))] (.agg (av 16 (nF (yCB q)))) (fun w M => l_mul (Mon.pmod _) (Mon.pmod _) w) <| kl_nil fun u34 g13 M => ?_
   replace M := M.nf
   refine ZG M 12 16 (nF (yCB q)) fun u35 M => ?_
   replace M := M.nf
   refine nT <| sR <| pB M 84 11 <| pB M 85 12 <| pC M 86 40 #[.agg (av 16 (nF (yDA q))), .agg (av 16 (nF (yCB q)))] (.agg (av 16 (nF (yS q)))) (fun w M => l_add (Mon.pmod _) (Mon.pmod _) w) fun u36 M => pN M 21 (.cells (av 16 (w64 (fun _ => 0))) 88) fun g14 u37 M => ?_
   replace M := M.nf
   refine ZG M 13 16 (nF (yS q)) fun u38 M => ?_
   replace M := M.nf
   refine nT <| sR <| pB M 87 13 <| pB M 88 13 <| pC M 89 41 #[.agg (av 16 (nF (yS q))), .agg (av 16 (nF (yS q)))] (.agg (av 16 (nF (yX3 q)))) (fun w M => l_mul (Mon.pmod _) (Mon.pmod _) w) fun u39 M => ZG M 4 16 (nF (yX3 q)) fun u40 M => ?_
   replace M := M.nf
   refine nT <| sR <| pB M 90 11 <| pB M 91 12 <| pC M 92 42 #[.agg (av 16 (nF (yDA q))), .agg (av 16 (nF (yCB q)))] (.agg (av 16 (nF (yT q)))) (fun w M => l_sub (Mon.pmod _) (Mon.pmod _) w) fun u41 M => pN M 22 (.cells (av 16 (w64 (fun _ => 0))) 88) fun g15 u42 M => ?_
   replace M := M.nf
   refine ZG M 14 16 (nF (yT q)) fun u43 M => ?_
   replace M := M.nf
   refine nT <| wp_seq <| rg_tail M 5 (by kernel_rfl) (by kernel_rfl) ?_
   simp only [List.take_succ_cons, List.take_zero]
   refine kB M 93 1 <| kB M 94 14 <| kB M 95 14 <| kC M 96 41 #[.agg (av 16 (nF (yT q))), .agg (av 16 (nF (yT q)))] (.agg (av 16 (nF (yTT q)))) (fun w M => l_mul (Mon.pmod _) (Mon.pmod _) w) <| kC M 97 41 #[.agg (av 16 (nF x1)), .agg (av 16 (nF (yTT q)))] (.agg (av 16 (nF (yZ3 q x1)))) (fun w M => l_mul hX (Mon.pmod _) w) <| kl_nil fun u44 M => ?_
   replace M := M.nf
   refine ZG M 5 16 (nF (yZ3 q x1)) fun u45 M => ?_
   replace M := M.nf
   refine nT <| sR <| pB M 98 7 <| pB M 99 9 <| pC M 100 41 #[.agg (av 16 (nF (yAA q))), .agg (av 16 (nF (yDD q)))] (.agg (av 16 (nF (yX2 q)))) (fun w M => l_mul (Mon.pmod _) (Mon.pmod _) w) fun u46 M => ZG M 2 16 (nF (yX2 q)) fun u47 M => ?_
   replace M := M.nf
   refine nT <| wp_seq <| rg_tail M 7 (by kernel_rfl) (by kernel_rfl) ?_
   simp only [List.take_succ_cons, List.take_zero]
   refine kB M 101 10 <| kB M 102 7 <| kD M 103 (.agg (av 16 (nF 121665))) (fun w M => l_small 121665 w (by decide) (by decide)) <| kB M 104 10 <| kC M 105 41 #[.agg (av 16 (nF 121665)), .agg (av 16 (nF (yE q)))] (.agg (av 16 (nF (yF q)))) (fun w M => l_mul ⟨by decide, by decide⟩ (Mon.pmod _) w) <| kC M 106 40 #[.agg (av 16 (nF (yAA q))), .agg (av 16 (nF (yF q)))] (.agg (av 16 (nF (yG q)))) (fun w M => l_add (Mon.pmod _) (Mon.pmod _) w) <| kC M 107 41 #[.agg (av 16 (nF (yE q))), .agg (av 16 (nF (yG q)))] (.agg (av 16 (nF (yZ2 q)))) (fun w M => l_mul (Mon.pmod _) (Mon.pmod _) w) <| kl_nil fun u48 M => ?_
   replace M := M.nf
   refine ZG M 3 16 (nF (yZ2 q)) fun u49 M => ?_
   replace M := M.nf
   refine nT <| sq <| cF <| wp_skip <| au_block <| au_then <| rg_lit <| rV 1 <| ZI 43 ((p : Int) - 1) (254 - ((j + 1 : Nat) : Int)) <| rV 1 <| nT ?_
   have e0 : Mon.rladF K x1 (j + 1) = ⟨(yX2 q), (yZ2 q), (yX3 q), (yZ3 q x1)⟩ := by
    show (if Mon.bit K (254 - j) = 0 then _ else _) = _
    rw [hp, if_pos c0, hqe]
    rfl
   exact exS (by rw [e0]; exact M.drop (jC (.cons_cons _ (jC (.cons_cons _ (jC (.cons_cons _ (jK (.cons _ (jK (.cons _ (jK (.cons _ (jK (.cons _ (jK (.slnil)))))))))))))))))
  ·refine zJ 53 (.bool true) (.bool (decide (bits .and .u8 (bt K (p / 8) / 2 ^ (p % 8)) 1 = 1))) (by rw [bit_eq, decide_eq_true (by have := Mon.bit_two K p; omega)]) <| rV 1 <| nT <| wp_seq <| sq <| cT <| sR <| pB M 55 4 <| pB M 56 2 <| ZG M 2 16 (nF q.x3) fun u17 M => ?_
   replace M := M.nf
   refine ZG M 4 16 (nF q.x2) fun u18 M => ?_
   replace M := M.nf
   refine nT <| rg_lit <| pB M 57 5 <| pB M 58 3 <| ZG M 3 16 (nF q.z3) fun u19 M => ?_
   replace M := M.nf
   refine ZG M 5 16 (nF q.z2) fun u20 M => ?_
   replace M := M.nf
   refine nT <| sR <| pB M 59 2 <| pB M 60 3 <| pD M 61 (.agg (av 16 (nF (yA q.swap)))) (fun w M => l_add hq.x3 hq.z3 w) fun u21 M => pN M 14 (.cells (av 16 (w64 (fun _ => 0))) 88) fun g7 u22 M => ?_
   replace M := M.nf
   refine ZG M 6 16 (nF (yA q.swap)) fun u23 M => ?_
   replace M := M.nf
   refine nT <| sR <| pB M 62 6 <| pB M 63 6 <| pC M 64 41 #[.agg (av 16 (nF (yA q.swap))), .agg (av 16 (nF (yA q.swap)))] (.agg (av 16 (nF (yAA q.swap)))) (fun w M => l_mul (Mon.pmod _) (Mon.pmod _) w) fun u24 M => pN M 15 (.cells (av 16 (w64 (fun _ => 0))) 88) fun g8 u25 M => ?_
   replace M := M.nf
   refine ZG M 7 16 (nF (yAA q.swap)) fun u26 M => ?_
   replace M := M.nf
   refine nT <| sR <| pB M 65 2 <| pB M 66 3 <| pD M 67 (.agg (av 16 (nF (yD q.swap)))) (fun w M => l_sub hq.x3 hq.z3 w) fun u27 M => pN M 16 (.cells (av 16 (w64 (fun _ => 0))) 88) fun g9 u28 M => ?_
   replace M := M.nf
   refine ZG M 8 16 (nF (yD q.swap)) fun u29 M => ?_
   replace M := M.nf
   refine nT <| sR <| pB M 68 8 <| pB M 69 8 <| pC M 70 41 #[.agg (av 16 (nF (yD q.swap))), .agg (av 16 (nF (yD q.swap)))] (.agg (av 16 (nF (yDD q.swap)))) (fun w M => l_mul (Mon.pmod _) (Mon.pmod _) w) fun u30 M => pN M 17 (.cells (av 16 (w64 (fun _ => 0))) 88) fun g10 u31 M => ?_
   replace M := M.nf
   refine ZG M 9 16 (nF (yDD q.swap)) fun u32 M => ?_
   replace M := M.nf
   refine nT <| sR <| pB M 71 7 <| pB M 72 9 <| pC M 73 42 #[.agg (av 16 (nF (yAA q.swap))), .agg (av 16 (nF (yDD q.swap)))] (.agg (av 16 (nF (yE q.swap)))) (fun w M => l_sub (Mon.pmod _) (Mon.pmod _) w) fun u33 M => pN M 18 (.cells (av 16 (w64 (fun _ => 0))) 88) fun g11 u34 M => ?_
   replace M := M.nf
   refine ZG M 10 16 (nF (yE q.swap)) fun u35 M => ?_
   replace M := M.nf
   refine nT <| wp_seq <| rg_allocs M 5 [(19, fun g => pJ g, .cells (av 16 (w64 (fun _ => 0))) 88)] (by kernel_rfl) (by kernel_rfl) (⟨rfl, rfl, fun _ _ => by kernel_rfl, trivial⟩) (by decide) ?_
   simp only [List.take_succ_cons, List.take_zero]
   refine kB M 74 4 <| kB M 75 5 <| kD M 76 (.agg (av 16 (nF (yU q.swap)))) (fun w M => l_sub hq.x2 hq.z2 w) <| kB M 77 6 <| kC M 78 41 #[.agg (av 16 (nF (yU q.swap))), .agg (av 16 (nF (yA q.swap)))] (.agg (av 16 (nF (yDA q.swap)))) (fun w M => l_mul (Mon.pmod _) (Mon.pmod _) w) <| kl_nil fun u36 g12 M => ?_
   replace M := M.nf
   refine ZG M 11 16 (nF (yDA q.swap)) fun u37 M => ?_
   replace M := M.nf
   refine nT <| wp_seq <| rg_allocs M 5 [(20, fun g => pJ g, .cells (av 16 (w64 (fun _ => 0))) 88)] (by kernel_rfl) (by kernel_rfl) (⟨rfl, rfl, fun _ _ => by kernel_rfl, trivial⟩) (by decide) ?_
   simp only [List.take_succ_cons, List.take_zero]
   refine kB M 79 4 <| kB M 80 5 <| kD M 81 (.agg (av 16 (nF (yV q.swap)))) (fun w M => l_add hq.x2 hq.z2 w) <| kB M 82 8 <| kC M 83 41 #[.agg (av 16 (nF (yV q.swap))), .agg (av 16 (nF (yD q.swap)))] (.agg (av 16 (nF (yCB q.swap)))) (fun w M => l_mul (Mon.pmod _) (Mon.pmod _) w) <| kl_nil fun u38 g13 M => ?_
   replace M := M.nf
   refine ZG M 12 16 (nF (yCB q.swap)) fun u39 M => ?_
   replace M := M.nf
   refine nT <| sR <| pB M 84 11 <| pB M 85 12 <| pC M 86 40 #[.agg (av 16 (nF (yDA q.swap))), .agg (av 16 (nF (yCB q.swap)))] (.agg (av 16 (nF (yS q.swap)))) (fun w M => l_add (Mon.pmod _) (Mon.pmod _) w) fun u40 M => pN M 21 (.cells (av 16 (w64 (fun _ => 0))) 88) fun g14 u41 M => ?_
   replace M := M.nf
   refine ZG M 13 16 (nF (yS q.swap)) fun u42 M => ?_
   replace M := M.nf
   refine nT <| sR <| pB M 87 13 <| pB M 88 13 <| pC M 89 41 #[.agg (av 16 (nF (yS q.swap))), .agg (av 16 (nF (yS q.swap)))] (.agg (av 16 (nF (yX3 q.swap)))) (fun w M => l_mul (Mon.pmod _) (Mon.pmod _) w) fun u43 M => ZG M 4 16 (nF (yX3 q.swap)) fun u44 M => ?_
   replace M := M.nf
   refine nT <| sR <| pB M 90 11 <| pB M 91 12 <| pC M 92 42 #[.agg (av 16 (nF (yDA q.swap))), .agg (av 16 (nF (yCB q.swap)))] (.agg (av 16 (nF (yT q.swap)))) (fun w M => l_sub (Mon.pmod _) (Mon.pmod _) w) fun u45 M => pN M 22 (.cells (av 16 (w64 (fun _ => 0))) 88) fun g15 u46 M => ?_
   replace M := M.nf
   refine ZG M 14 16 (nF (yT q.swap)) fun u47 M => ?_
   replace M := M.nf
   refine nT <| wp_seq <| rg_tail M 5 (by kernel_rfl) (by kernel_rfl) ?_
   simp only [List.take_succ_cons, List.take_zero]
   refine kB M 93 1 <| kB M 94 14 <| kB M 95 14 <| kC M 96 41 #[.agg (av 16 (nF (yT q.swap))), .agg (av 16 (nF (yT q.swap)))] (.agg (av 16 (nF (yTT q.swap)))) (fun w M => l_mul (Mon.pmod _) (Mon.pmod _) w) <| kC M 97 41 #[.agg (av 16 (nF x1)), .agg (av 16 (nF (yTT q.swap)))] (.agg (av 16 (nF (yZ3 q.swap x1)))) (fun w M => l_mul hX (Mon.pmod _) w) <| kl_nil fun u48 M => ?_
   replace M := M.nf
   refine ZG M 5 16 (nF (yZ3 q.swap x1)) fun u49 M => ?_
   replace M := M.nf
   refine nT <| sR <| pB M 98 7 <| pB M 99 9 <| pC M 100 41 #[.agg (av 16 (nF (yAA q.swap))), .agg (av 16 (nF (yDD q.swap)))] (.agg (av 16 (nF (yX2 q.swap)))) (fun w M => l_mul (Mon.pmod _) (Mon.pmod _) w) fun u50 M => ZG M 2 16 (nF (yX2 q.swap)) fun u51 M => ?_
   replace M := M.nf
   refine nT <| wp_seq <| rg_tail M 7 (by kernel_rfl) (by kernel_rfl) ?_
   simp only [List.take_succ_cons, List.take_zero]
   refine kB M 101 10 <| kB M 102 7 <| kD M 103 (.agg (av 16 (nF 121665))) (fun w M => l_small 121665 w (by decide) (by decide)) <| kB M 104 10 <| kC M 105 41 #[.agg (av 16 (nF 121665)), .agg (av 16 (nF (yE q.swap)))] (.agg (av 16 (nF (yF q.swap)))) (fun w M => l_mul ⟨by decide, by decide⟩ (Mon.pmod _) w) <| kC M 106 40 #[.agg (av 16 (nF (yAA q.swap))), .agg (av 16 (nF (yF q.swap)))] (.agg (av 16 (nF (yG q.swap)))) (fun w M => l_add (Mon.pmod _) (Mon.pmod _) w) <| kC M 107 41 #[.agg (av 16 (nF (yE q.swap))), .agg (av 16 (nF (yG q.swap)))] (.agg (av 16 (nF (yZ2 q.swap)))) (fun w M => l_mul (Mon.pmod _) (Mon.pmod _) w) <| kl_nil fun u52 M => ?_
   replace M := M.nf
   refine ZG M 3 16 (nF (yZ2 q.swap)) fun u53 M => ?_
   replace M := M.nf
   refine nT <| sq <| cT <| sR <| pB M 109 4 <| pB M 110 2 <| ZG M 2 16 (nF (yX3 q.swap)) fun u54 M => ?_
   replace M := M.nf
   refine ZG M 4 16 (nF (yX2 q.swap)) fun u55 M => ?_
   replace M := M.nf
   refine nT <| rg_lit <| pB M 111 5 <| pB M 112 3 <| ZG M 3 16 (nF (yZ3 q.swap x1)) fun u56 M => ?_
   replace M := M.nf
   refine ZG M 5 16 (nF (yZ2 q.swap)) fun u57 M => ?_
   replace M := M.nf
   refine pl_nil <| au_block <| au_then <| rg_lit <| rV 1 <| ZI 43 ((p : Int) - 1) (254 - ((j + 1 : Nat) : Int)) <| rV 1 <| nT ?_
   have e0 : Mon.rladF K x1 (j + 1) = ⟨(yX3 q.swap), (yZ3 q.swap x1), (yX2 q.swap), (yZ2 q.swap)⟩ := by
    show (if Mon.bit K (254 - j) = 0 then _ else _) = _
    rw [hp, if_neg c0, hqe]
    rfl
   exact exS (by rw [e0]; exact M.drop (jC (.cons_cons _ (jC (.cons_cons _ (jC (.cons_cons _ (jK (.cons _ (jK (.cons _ (jK (.cons _ (jK (.cons _ (jK (.slnil)))))))))))))))))
 ·intro a u0 hI
  obtain ⟨v1, rfl, M⟩ := hI
  refine wp_seq <| sR <| rV 1 <| ZF 41 ((0 : Int) ≤ (254 - ((255 : Nat) : Int))) <| nT <| cF <| wp_exit <| au_then_exit <| au_then_exit <| au_block_exit <| au_then <| wp_seq <| rg_tail M 5 (by kernel_rfl) (by kernel_rfl) ?_
  simp only [List.take_succ_cons, List.take_zero]
  refine kB M 113 2 <| kB M 114 3 <| kD M 115 (.agg (av 16 (nF (Mon.pwm (Mon.rladF K x1 255).z2 (Mon.xbit 255 21) 255)))) (fun w M => l_inv (Mon.rladF_ok K hX 255).z2 w) <| kC M 116 41 #[.agg (av 16 (nF (Mon.rladF K x1 255).x2)), .agg (av 16 (nF (Mon.pwm (Mon.rladF K x1 255).z2 (Mon.xbit 255 21) 255)))] (.agg (av 16 (nF ((Mon.rladF K x1 255).x2 * (Mon.pwm (Mon.rladF K x1 255).z2 (Mon.xbit 255 21) 255) % Mon.Pm)))) (fun w M => l_mul (Mon.rladF_ok K hX 255).x2 (Mon.pwm_bd _ _ _) w) <| kD M 117 (.string (bs (Mon.rb (Mon.d16 ((Mon.rladF K x1 255).x2 * (Mon.pwm (Mon.rladF K x1 255).z2 (Mon.xbit 255 21) 255) % Mon.Pm)) 32))) (fun w M => l_bytes ((Mon.rladF K x1 255).x2 * (Mon.pwm (Mon.rladF K x1 255).z2 (Mon.xbit 255 21) 255) % Mon.Pm) w M.laid) <| kl_nil fun u17 M => ?_
  replace M := M.nf
  refine rV 1 <| nT <| wp_ret ?_
  exact b1 M
open Go.RowKit
theorem quo8L (j : Nat) (hj : j < 1000000) : IntKind.wrap .i64 ((j : Int).tdiv 8) = ((j / 8 : Nat) : Int) := by
 rw [Int.tdiv_eq_ediv_of_nonneg (by omega), wrap64 (by omega) (by omega)]
 omega
theorem sw_or (s : Yb) (m r : Nat) (hr : r < 8) : uo (Mon.sw s m r) (sl (cv .u64 (bt s (8 * m + r))) (r * 8)) = Mon.sw s m (r + 1) := by
 have hb := bt_nn s (8 * m + r)
 have hs := Mon.sw_bd s m r
 have e : cv .u64 (bt s (8 * m + r)) = bt s (8 * m + r) := wrapL hb.1 (by omega)
 have e2 : (2 : Int) ^ (r * 8) = 256 ^ r := by rw [Nat.mul_comm, Int.pow_mul]; rfl
 have h7 : (256 : Int) ^ r ≤ 72057594037927936 := by
  rcases (by omega : r = 0 ∨ r = 1 ∨ r = 2 ∨ r = 3 ∨ r = 4 ∨ r = 5 ∨ r = 6 ∨ r = 7) with rfl | rfl | rfl | rfl | rfl | rfl | rfl | rfl <;> decide
 have h0 : (0 : Int) < 256 ^ r := Int.pow_pos (by decide)
 have h8 : bt s (8 * m + r) * 256 ^ r ≤ 255 * 72057594037927936 := Int.mul_le_mul (by omega) h7 (Int.le_of_lt h0) (by decide)
 have h9 : 0 ≤ bt s (8 * m + r) * 256 ^ r := Int.mul_nonneg hb.1 (Int.le_of_lt h0)
 rw [e]
 unfold sl
 rw [e2, wrapL h9 (by omega)]
 have e3 : ((256 ^ r : Nat) : Int) = 256 ^ r := by norm_cast
 exact (Mon.or_join' (r * 8) (256 ^ r) (by rw [Nat.mul_comm, Nat.pow_mul]) ⟨hs.1, by omega⟩ ⟨h9, by omega⟩ (by rw [e3]; exact Int.mul_emod_left _ _) (by rw [e3]; exact hs.2)).trans rfl
theorem sw_nx (s : Yb) {j : Nat} : upd (Mon.swk s j) (j / 8) (uo (Mon.swk s j (j / 8)) (sl (cv .u64 (bt s j)) (j % 8 * 8))) = Mon.swk s (j + 1) := by
 obtain ⟨m, r, hr, rfl⟩ : ∃ m r, r < 8 ∧ j = 8 * m + r := ⟨j / 8, j % 8, by omega, by omega⟩
 rw [show (8 * m + r) / 8 = m by omega, show (8 * m + r) % 8 = r by omega, show Mon.swk s (8 * m + r) m = Mon.sw s m r by unfold Mon.swk; rw [show min (8 * m + r - 8 * m) 8 = r by omega], sw_or s m r hr]
 funext i
 unfold upd Mon.swk
 by_cases h : i = m
 ·subst h
  rw [if_pos rfl, show min (8 * i + r + 1 - 8 * i) 8 = r + 1 by omega]
 ·rw [if_neg h]
  congr 1
  omega
theorem sw_z (s : Yb) : Mon.swk s 0 = fun _ => 0 := by
 funext i
 unfold Mon.swk
 rw [show min (0 - 8 * i) 8 = 0 by omega]
 rfl
theorem l_words (s : Yb) (hs : s.size = 32) (w : World) (hL : Laid w)  : Cs 118 #[.string s] w (.agg (av 4 (w64 (Mon.swk s 32)))) := by
 go_enter Tryz.func118, Tryz.ntmps118
 have M := Mem.start hL
 refine sR <| pN M 2 (.cells (av 4 (w64 (fun _ => 0))) 144) fun g1 u1 M => ?_
 replace M := M.nf
 refine nT <| sR <| pN M 3 (.cells (av 4 (w64 (fun _ => 0))) 144) fun g2 u2 M => ?_
 replace M := M.nf
 refine nT <| wp_seq <| sq <| wp_block ?_
 refine au_loop (fun j a w' => ∃ v1 : NV, a = (fm ([.string s, v1 1, pJ g1, pJ g2, v1 4, .int .i64 (j : Int)] ++ vr v1 6 18)) ∧ Mem ⟨w, []⟩ [⟨g1, .cells (av 4 (w64 (fun _ => 0))) 144⟩, ⟨g2, .cells (av 4 (w64 (Mon.swk s j))) 144⟩] w') 32 (exS (by rw [sw_z]; exact M)) ?_ ?_
 ·intro j a u0 hj hI
  obtain ⟨v1, rfl, M⟩ := hI
  refine sR <| ZT 6 ((j : Int) < 32) <| nT <| wp_seq <| cT <| wp_skip <| au_then <| wp_seq <| wp_block <| sq <| rgh M [⟨g1, .cells (av 4 (w64 (fun _ => 0))) 144⟩, ⟨g2, .cells (av 4 (w64 (Mon.swk s j))) 144⟩] 14 fun u3 M => ?_
  replace M := M.nf
  refine qV M 0 8 (.int .i64 (j : Int)) <| qH M 1 9 (.int .i64 ((j / 8 : Nat) : Int)) (fun w _ => (fun w => Eq.trans (b := .ok (.value (.int .i64 (IntKind.wrap .i64 ((j : Int).tdiv 8)))) w) (by kernel_rfl) (by rw [quo8L j (by omega)])) w) <| qH M 2 10 (.pointer (some ⟨g2, ((j / 8 : Nat)), none⟩)) (fun w _ => (run_ix1 144 4 86 Tryz.underlying144 inz86 _ _ rfl g2 (by kernel_rfl) .i64 ((j / 8 : Nat)) (by kernel_rfl) (by omega)) w) <| qE M 3 11 1 ((j / 8 : Nat)) <| qV M 4 12 (.string s) <| qV M 5 13 (.int .i64 (j : Int)) <| qH M 6 14 (.int .u8 (bt s j)) (fun w _ => (run_ixS 9 Tryz.underlying9 _ _ rfl s (by kernel_rfl) .i64 j (by kernel_rfl) (by omega)) w) <| qV M 7 15 (.int .u64 (cv .u64 (bt s j))) <| qV M 8 16 (.int .i64 (j : Int)) <| qH M 9 17 (.int .i64 ((j % 8 : Nat) : Int)) (fun w _ => (run_remL 3 3 _ _ rfl j 8 (by kernel_rfl) (by kernel_rfl) (by decide)) w) ?_
  refine qH M 10 18 (.int .i64 ((j % 8 * 8 : Nat) : Int)) (fun w _ => (fun w => Eq.trans (b := .ok (.value (.int .i64 (IntKind.wrap .i64 (((j % 8 : Nat) : Int) * 8)))) w) (by kernel_rfl) (by rw [wrap64 (by omega) (by omega)]; rfl)) w) ?_
  refine qH M 11 19 (.int .u64 (sl (cv .u64 (bt s j)) (j % 8 * 8))) (fun w _ => (Pol.run_shlU 86 3 _ _ rfl _ .i64 (j % 8 * 8) (by kernel_rfl) (by kernel_rfl) (by omega)) w) <| qV M 12 20 (.int .u64 (uo ((Mon.swk s j) ((j / 8 : Nat))) (sl (cv .u64 (bt s j)) (j % 8 * 8)))) <| qH M 13 21 (.pointer (some ⟨g2, ((j / 8 : Nat)), none⟩)) (fun w _ => (run_ix1 144 4 86 Tryz.underlying144 inz86 _ _ rfl g2 (by kernel_rfl) .i64 ((j / 8 : Nat)) (by kernel_rfl) (by omega)) w) <| qZ ?_
  refine ZP64 M 1 ((j / 8 : Nat)) (uo ((Mon.swk s j) ((j / 8 : Nat))) (sl (cv .u64 (bt s j)) (j % 8 * 8))) fun u4 M => ?_
  replace M := M.nf
  refine nT <| au_block <| au_then <| rg_lit <| ZI 22 ((j : Int) + 1) ((j + 1 : Nat) : Int) <| rV 1 <| nT ?_
  rw [sw_nx s] at M
  exact exS M
 ·intro a u0 hI
  obtain ⟨v1, rfl, M⟩ := hI
  refine sR <| ZF 6 ((32 : Int) < 32) <| nT <| wp_seq <| cF <| wp_exit <| au_then_exit <| au_then_exit <| au_block_exit <| au_then <| sR <| pB M 23 1 <| ZG M 0 4 (w64 (Mon.swk s 32)) fun u3 M => ?_
  replace M := M.nf
  refine nT <| wp_ret ?_
  exact bc Tryz.results118 M 0 4 (w64 (Mon.swk s 32)) ⟨rfl, below_grown M.old⟩
theorem l_num (s : Yb) (w : World) : Cs 119 #[.agg (av 4 (w64 (Mon.swk s 32)))] w (.agg (av 5 (w64 (Mon.ofF s).f))) := Mon.number_any (Mon.sw s 0 8) (Mon.sw s 1 8) (Mon.sw s 2 8) (Mon.sw s 3 8) w (Mon.sw64 s 0) (Mon.sw64 s 1) (Mon.sw64 s 2) (Mon.sw64 s 3)
theorem l_ofN (u : Yb) (hu : u.size = 32) (w : World) (hL : Laid w)  : Cs 90 #[.string u] w (.tuple #[.agg (av 5 (w64 (Mon.ofF u).f)), .int .i64 0]) := by
 go_enter Tryz.func90, Tryz.ntmps90
 have M := Mem.start hL
 refine sR <| pN M 2 (.cells (av 5 (w64 (fun _ => 0))) 116) fun g1 u1 M => ?_
 replace M := M.nf
 refine rV 1 <| nT <| wp_seq <| sR <| rV 2 <| ZD 6 ((u.size : Int) = 32) <| nT <| cF <| wp_skip <| au_then <| sR <| rV 1 <| pD M 9 (.agg (av 4 (w64 (Mon.swk u 32)))) (fun w M => l_words u hu w M.laid) fun u2 M => pD M 10 (.agg (av 5 (w64 (Mon.ofF u).f))) (fun w M => l_num u w) fun u3 M => ZG M 0 5 (w64 (Mon.ofF u).f) fun u4 M => ?_
 replace M := M.nf
 refine rV 1 <| nT <| wp_ret ?_
 exact bct Tryz.results90 M 0 5 (w64 (Mon.ofF u).f) (.int .i64 0) ⟨rfl, below_grown M.old⟩
theorem l_coord (u : Yb) (hu : u.size = 32) (w : World) (hL : Laid w)  : Cs 67 #[.string u] w (.tuple #[.agg (av 5 (w64 (Mon.ofF (Mon.mkS u)).f)), .int .i64 0]) := by
 go_enter Tryz.func67, Tryz.ntmps67
 have M := Mem.start hL
 refine sR <| pN M 2 (.cells (av 5 (w64 (fun _ => 0))) 116) fun g1 u1 M => ?_
 replace M := M.nf
 refine rV 1 <| nT <| wp_seq <| sR <| rV 2 <| ZD 7 ((u.size : Int) = 32) <| nT <| cF <| wp_skip <| au_then <| sR <| rV 1 <| pl_conv M (want_no rfl) (some 10) rfl _ rfl u (by kernel_rfl) ?_
 intro g2 cpg2 Zg2 u2 hZg2 M
 replace M := M.nf
 refine rV 1 <| nT <| sR <| rV 1 <| pH 12 (pJ g2 31) (run_ix0 61 5 Tryz.underlying61 inz5 _ _ rfl g2 u.size cpg2 (by kernel_rfl) .i64 31 (by kernel_rfl) (by omega)) ?_
 refine pE M 13 g2 31 (.int .u8 (bt u 31)) (fun w M => hZg2.cell (M.get 1 rfl) (by unfold vs8; rw [List.getElem?_map, sb_get _ _ (by omega)]; rfl)) ?_
 refine rV 1 <| pH 15 (pJ g2 31) (run_ix0 61 5 Tryz.underlying61 inz5 _ _ rfl g2 u.size cpg2 (by kernel_rfl) .i64 31 (by kernel_rfl) (by omega)) <| pl_putS M (want_no rfl) rfl 5 _ _ rfl 1 g2 31 (by kernel_rfl) _ rfl cpg2 _ hZg2 (by rw [vs8_length, sb_length]; omega) (.int .u8 (bits .and .u8 (bt u 31) 127)) (by kernel_rfl) inz5 rfl rfl ?_
 intro ZA u3 hZA M
 rw [show (vs8 (sb u)).set 31 (.int .u8 (bits .and .u8 (bt u 31) 127)) = vs8 ((sb u).set 31 (bits .and .u8 (bt u 31) 127)) by unfold vs8; rw [List.map_set]] at hZA
 replace M := M.nf
 refine nT <| sR <| rV 1 <| pl_back M (want_no rfl) (some 17) rfl _ rfl 1 g2 u.size cpg2 (by kernel_rfl) _ rfl ((sb u).set 31 (bits .and .u8 (bt u 31) 127)) cpg2 hZA (by rw [List.length_set, sb_length]) (fun y hy => by rcases List.mem_or_eq_of_mem_set hy with h | h; exact sb_nn u y h; rw [h]; exact bd127 _) ?_
 rw [mk_set hu]
 refine pD M 18 (.tuple #[.agg (av 5 (w64 (Mon.ofF (Mon.mkS u)).f)), .int .i64 0]) (fun w M => l_ofN (Mon.mkS u) (Mon.mkS_size u) w M.laid) fun u4 M => rV 2 <| ZG M 0 5 (w64 (Mon.ofF (Mon.mkS u)).f) fun u5 M => ?_
 replace M := M.nf
 refine rV 1 <| nT <| wp_ret ?_
 exact bct Tryz.results67 M 0 5 (w64 (Mon.ofF (Mon.mkS u)).f) (.int .i64 0) ⟨rfl, below_grown M.old⟩
open Go.RowKit
theorem l_same0 {m : Mon.E5} (hm : m.Ok) (h : m.n % Mon.Pm = 0) (w : World) : Cs 69 #[.agg (av 5 (w64 m.f)), .agg (av 5 (w64 (fun _ => 0)))] w (.bool true) := by
 have := Mon.same_any m Mon.zeroE w hm Mon.zeroE_ok
 rw [Mon.zeroE_n, h] at this
 exact this
theorem l_sameN {m : Mon.E5} (hm : m.Ok) (h : ¬ m.n % Mon.Pm = 0) (w : World) : Cs 69 #[.agg (av 5 (w64 m.f)), .agg (av 5 (w64 (fun _ => 0)))] w (.bool false) := by
 have := Mon.same_any m Mon.zeroE w hm Mon.zeroE_ok
 rw [Mon.zeroE_n, show (0 : Int) % Mon.Pm = 0 from rfl, show (m.n % Mon.Pm == 0) = false by simpa using h] at this
 exact this
theorem l_shared (s p : Yb) (hs : s.size = 32) (hp : p.size = 32) (w : World) (hL : Laid w)  : Cs 46 #[.string s, .string p] w (.tuple #[.string (Mon.shS s p), .int .i64 (Mon.shC s p)]) := by
 go_enter Tryz.func46, Tryz.ntmps46
 have M := Mem.start hL
 refine sq <| sR <| rV 1 <| pD M 12 (.tuple #[.string (Mon.clS s), .int .i64 0]) (fun w M => Mon.clamp_yes s w hs) fun u1 M => rV 5 <| nT <| wp_seq <| sq <| cF <| wp_skip <| au_then <| sR <| rV 1 <| pD M 20 (.tuple #[.agg (av 5 (w64 (Mon.ofF (Mon.mkS p)).f)), .int .i64 0]) (fun w M => l_coord p hp w M.laid) fun u2 M => rV 3 <| pN M 8 (.cells (av 5 (w64 (fun _ => 0))) 116) fun g1 u3 M => ?_
 refine ZG M 0 5 (w64 (Mon.ofF (Mon.mkS p)).f) fun u4 M => rV 1 <| nT <| wp_seq <| sq <| cF <| wp_skip <| au_then ?_
 refine sR <| rV 1 <| pB M 27 0 <| pC M 28 68 #[.string (Mon.clS s), .agg (av 5 (w64 (Mon.ofF (Mon.mkS p)).f))] (.agg (av 5 (w64 (Mon.shE s p).f))) (fun w M => l_times (Mon.clS s) (Mon.ofF (Mon.mkS p)) (Mon.clS_size s) (Mon.ofF_ok _) w M.laid) fun u5 M => pN M 9 (.cells (av 5 (w64 (fun _ => 0))) 116) fun g2 u6 M => ZG M 1 5 (w64 (Mon.shE s p).f) fun u7 M => nT <| wp_seq ?_
 refine sR <| pB M 29 1 <| rV 1 ?_
 by_cases c0 : ((Mon.shE s p).n % Mon.Pm) = 0
 ·refine pD M 31 (.bool true) (fun w M => l_same0 (Mon.shE_ok s p) c0 w) fun u8 M => nT <| cT <| sq <| wp_ret <| au_then_ret ?_
  have e0 : (Mon.shS s p) = ⟨#[]⟩ := by first | (simp only [Mon.shS, if_pos c0]; done) | simp [Mon.shS, c0]
  have e1 : (Mon.shC s p) = 30 := by first | (simp only [Mon.shC, if_pos c0]; done) | simp [Mon.shC, c0]
  exact bX (.tuple #[.string ⟨#[]⟩, .int .i64 30]) ⟨by rw [e0, e1], below_grown M.old⟩
 ·refine pD M 31 (.bool false) (fun w M => l_sameN (Mon.shE_ok s p) c0 w) fun u8 M => nT <| cF <| wp_skip <| au_then <| sR <| pB M 32 1 <| pD M 33 (.string (Mon.lebytes ((Mon.shE s p).n % Mon.Pm))) (fun w M => Mon.bytes_any (Mon.shE s p) w (Mon.shE_ok s p)) fun u9 M => rV 2 <| nT <| wp_ret ?_
  have e0 : (Mon.shS s p) = (Mon.lebytes ((Mon.shE s p).n % Mon.Pm)) := by first | (simp only [Mon.shS, if_neg c0]; done) | simp [Mon.shS, c0]
  have e1 : (Mon.shC s p) = 0 := by first | (simp only [Mon.shC, if_neg c0]; done) | simp [Mon.shC, c0]
  exact bX (.tuple #[.string (Mon.lebytes ((Mon.shE s p).n % Mon.Pm)), .int .i64 0]) ⟨by rw [e0, e1], below_grown M.old⟩
theorem Mon.shL (s p : Yb) (w : World) (hL : Laid w) (V : Int) (hs : s.size = 32) (hp : p.size = 32) (hV : Mon.shV (Mon.clS s) (Mon.val (Mon.mkS p) % Mon.Pm) = V) : Cs 46 #[.string s, .string p] w (.tuple #[.string (Mon.sS V), .int .i64 (Mon.sC V)]) := by
 have h := l_shared s p hs hp w hL
 rwa [Mon.shS_V, Mon.shC_V, hV] at h
theorem l_public (s S : Yb) (c : Int) (H : ∀ w, Laid w → Cs 46 #[.string s, .string Mon.nineS] w (.tuple #[.string S, .int .i64 c])) (w : World) (hL : Laid w)  : Cs 49 #[.string s] w (.tuple #[.string S, .int .i64 c]) := by
 go_enter Tryz.func49, Tryz.ntmps49
 have M := Mem.start hL
 refine sq <| sR <| rV 1 <| pD M 5 (.agg (av 5 (w64 (Mon.smallF 9).f))) (fun w M => Mon.small_any 9 w (by decide) (by decide)) fun u1 M => pD M 6 (.string Mon.nineS) (fun w M => Mon.bytes_any (Mon.smallF 9) w (Mon.smallF_ok (by decide) (by decide))) fun u2 M => pD M 7 (.tuple #[.string S, .int .i64 c]) (fun w M => H w M.laid) fun u3 M => rV 4 <| nT <| wp_ret ?_
 exact b1 M
theorem pub_tellsL (s : Yb) (hs : s.size = 32) (w : World) (hL : Laid w) : Cs 49 #[.string s] w (.tuple #[.string (Mon.lebytes (Mon.shV (Mon.clS s) 9)), .int .i64 0]) := by
 have h1 := l_public s _ _ (fun w hL => Mon.shL s Mon.nineS w hL (Mon.shV (Mon.clS s) 9) hs Mon.nineS_size (by rw [Mon.v9])) w hL
 rwa [Mon.sS_ne (Mon.tells9.cl s).ne0, Mon.sC_ne (Mon.tells9.cl s).ne0] at h1
open Go.RowKit
def ls (l : List Value) : Nat → Value := fun i => l.getD i undef
theorem getD_app (l : List Value) (j : Nat) : l.getD j undef = l[j]?.getD undef := by simp
theorem part_ls (l : List Value) (off n : Nat) (l' : List Value) (h : (l.drop off).take n = l') (j : Nat) (hj : j < n) : ls l (off + j) = ls l' j := by
 subst h
 unfold ls
 rw [getD_app, getD_app, List.getElem?_take, if_pos hj, List.getElem?_drop]
theorem put_ls (l : List Value) (k : Nat) (v : Value) (l' : List Value) (h : l.set k v = l') {n : Nat} (j : Nat) (hj : j < n) (hl : n ≤ l.length := by exact Nat.le_of_ble_eq_true rfl) : (if j = k then v else ls l j) = ls l' j := by
 subst h
 unfold ls
 rw [getD_app, getD_app, List.getElem?_set]
 by_cases e : k = j
 ·subst e
  rw [if_pos rfl, if_pos rfl, if_pos (by omega)]
  rfl
 ·rw [if_neg (fun h => e h.symm), if_neg e]
theorem one_ls (l : List Value) (h : l.all (·.oneCell') = true) {n : Nat} (hn : n ≤ l.length := by exact Nat.le_of_ble_eq_true rfl) (j : Nat) (hj : j < n) : (ls l j).oneCell' = true := by
 unfold ls
 rw [getD_app, List.getElem?_eq_getElem (by omega)]
 exact List.all_eq_true.1 h _ (List.getElem_mem _)
theorem seq_pos {a b : Yb} (h : a = b) : (a.toList == b.toList) = true := by rw [h, beq_self_eq_true]
theorem seq_neg {a b : Yb} (h : ¬ a = b) : (a.toList == b.toList) = false := by
 rw [beq_eq_false_iff_ne]
 intro e
 rw [ByteArray.toList_eq, ByteArray.toList_eq] at e
 exact h (ByteArray.ext (Array.toList_inj.1 e))
theorem ro_below1 {w w' : World} {g : Nat} {Z : Obj} (h : Grw w w' [g]) (h0 : w.heap[g]? = some Z) (h1 : w'.heap[g]? = some Z) : Below w.heap.size w w' := ⟨h.os, h.tape, h.output, h.size, fun k hk => by
 by_cases e : k = g
 ·subst e
  rw [h0, h1]
 ·exact h.block k hk (by simpa using e)⟩
theorem results_tct {P : Program} {fn : Func} {p q r : Tmp} {ty : TypeId} (h : fn.results = #[.tmp p, .cell q ty, .tmp r]) (tmps : Array Value) (w : World) (g : Nat) (t : TypeId) (cs : Array Value) (fr : Nat × Nat) (d : TypeDesc) (v x : Value) (hp : tmps.getD p undef = v) (hq : tmps.getD q undef = pJ g) (hr : tmps.getD r undef = x) (hg : w.heap[g]? = some (.cells cs t fr))
  (hu : P.underlying ty = some d) (hd : (match d with | .struct _ | .array _ _ => true | _ => false) = true) (hi : (P.info? ty).map (·.size) = some cs.size) : (results fn tmps).run P w = .ok (.tuple #[v, .agg cs, x]) w := by
 subst hp hr
 have hp' : tmps[q]?.getD undef = pJ g := by simpa using hq
 simp [results, h, hp', asAddr, run_loadVar_row w g t ty cs fr d hg hu hd hi]
theorem inz64 : (Tryz.prog.info? 64).map (·.size) = some 4 := by kernel_rfl
structure St where
 h : ByteArray
 c : ByteArray
 k : ByteArray
 e : Int
def stL (s : St) (R : List Value) : Nat → Value := ls (.string s.h :: .string s.c :: .string s.k :: .int .i64 s.e :: R)
theorem put_st0 (s : St) (R : List Value) (x : Yb) (j : Nat) : (if j = 0 then .string x else stL s R j) = stL ⟨x, s.c, s.k, s.e⟩ R j := by
 rcases j with _ | _ | _ | _ | j <;> first | rfl | (rw [if_neg (by omega)]; rfl)
theorem put_st1 (s : St) (R : List Value) (x : Yb) (j : Nat) : (if j = 1 then .string x else stL s R j) = stL ⟨s.h, x, s.k, s.e⟩ R j := by
 rcases j with _ | _ | _ | _ | j <;> first | rfl | (rw [if_neg (by omega)]; rfl)
theorem put_st2 (s : St) (R : List Value) (x : Yb) (j : Nat) : (if j = 2 then .string x else stL s R j) = stL ⟨s.h, s.c, x, s.e⟩ R j := by
 rcases j with _ | _ | _ | _ | j <;> first | rfl | (rw [if_neg (by omega)]; rfl)
theorem put_st3 (s : St) (R : List Value) (x : Int) (j : Nat) : (if j = 3 then .int .i64 x else stL s R j) = stL ⟨s.h, s.c, s.k, x⟩ R j := by
 rcases j with _ | _ | _ | _ | j <;> first | rfl | (rw [if_neg (by omega)]; rfl)
theorem part_st (s : St) (R : List Value) (j : Nat) (h : j < 4) : stL s R (0 + j) = stL s [] j := by
 rcases j with _ | _ | _ | _ | j <;> first | rfl | omega
theorem one_st (s : St) (j : Nat) (h : j < 4) : (stL s [] j).oneCell' = true := by
 rcases j with _ | _ | _ | _ | j <;> first | rfl | omega
def Bh (t : Yb) : ByteArray := Bla.blV 32 strE t
theorem Bh_size (t : Yb) : (Bh t).size = 32 := Bla.bl_size t
theorem c_Bh (t : Yb) (w : World) (hL : Laid w) : Cs 45 #[.string t] w (.string (Bh t)) := Bla.c_of t w hL
def nameS : ByteArray := ⟨#[78, 111, 105, 115, 101, 95, 73, 75, 95, 50, 53, 53, 49, 57, 95, 67, 104, 97, 67, 104, 97, 80, 111, 108, 121, 95, 66, 76, 65, 75, 69, 50, 115]⟩
def shN (x y : Yb) : Int := Mon.shV (Mon.clS x) (Mon.val (Mon.mkS y) % Mon.Pm)
def puV (x : Yb) : ByteArray := Mon.lebytes (Mon.shV (Mon.clS x) 9)
theorem puV_size (x : Yb) : (puV x).size = 32 := Mon.leb_size _
def nxA (c t : Yb) : ByteArray := Bla.txt c t 0
def nxB (c t : Yb) : ByteArray := Bla.txt c t 1
def n0 : ByteArray := nS 0
def mixF (s : St) (t : Yb) : St := ⟨Bh (s.h ++ t), s.c, s.k, s.e⟩
def beginF (pr pu : Yb) (s : St) : St := mixF (mixF ⟨Bh nameS, Bh nameS, s.k, s.e⟩ pr) pu
def pubF (s : St) (x : Yb) : ByteArray := if s.e = 0 then puV x else ⟨#[]⟩
def addF (s : St) (x y : Yb) : St := if s.e = 0 then (if shN x y = 0 then ⟨s.h, s.c, s.k, 30⟩ else ⟨s.h, nxA s.c (Mon.lebytes (shN x y)), nxB s.c (Mon.lebytes (shN x y)), s.e⟩) else s
def sealV (s : St) (t : Yb) : ByteArray := if s.e = 0 then sealS s.k n0 s.h t else ⟨#[]⟩
def sealF (s : St) (t : Yb) : St := if s.e = 0 then mixF ⟨s.h, s.c, s.k, 0⟩ (sealS s.k n0 s.h t) else s
def openV (s : St) (t : Yb) : ByteArray := if s.e = 0 then (if tgX s.k n0 s.h t = t.extract (t.size - 16) t.size then opS s.k n0 t else ⟨#[]⟩) else ⟨#[]⟩
def openF (s : St) (t : Yb) : St := if s.e = 0 then (if tgX s.k n0 s.h t = t.extract (t.size - 16) t.size then mixF ⟨s.h, s.c, s.k, 0⟩ t else mixF ⟨s.h, s.c, s.k, 100⟩ t) else s
theorem st_eq {a b : St} (h1 : a.h = b.h) (h2 : a.c = b.c) (h3 : a.k = b.k) (h4 : a.e = b.e) : a = b := by
 cases a; cases b
 simp only at h1 h2 h3 h4
 subst h1 h2 h3 h4
 rfl
theorem c_shZ (x y : Yb) (hx : x.size = 32) (hy : y.size = 32) (h : shN x y = 0) (w : World) (hL : Laid w) : Cs 46 #[.string x, .string y] w (.tuple #[.string ⟨#[]⟩, .int .i64 30]) := Mon.shL x y w hL 0 hx hy h
theorem c_shN (x y : Yb) (hx : x.size = 32) (hy : y.size = 32) (h : ¬ shN x y = 0) (w : World) (hL : Laid w) : Cs 46 #[.string x, .string y] w (.tuple #[.string (Mon.lebytes (shN x y)), .int .i64 0]) := by
 have h1 := Mon.shL x y w hL (shN x y) hx hy rfl
 rwa [Mon.sS_ne h, Mon.sC_ne h] at h1
theorem nxA_size (c t : Yb) : (nxA c t).size = 32 := Bla.tg_size _ _ _
theorem nxB_size (c t : Yb) : (nxB c t).size = 32 := Bla.tg_size _ _ _
theorem n0_size : n0.size = 12 := nS_size 0
theorem sf_seal {k h t : Yb} (hk : k.size = 32) (hh : h.size = 32) (ht : t.size ≤ 65536) : sf k n0 h t 0 = 0 := sf_ok ⟨hk, n0_size⟩ (by omega) (by omega) (Nat.zero_le _)
theorem sf_open {k h t : Yb} (hk : k.size = 32) (hh : h.size = 32) (ht : t.size ≤ 65536) (h6 : 16 ≤ t.size) : sf k n0 h t 16 = 0 := sf_ok ⟨hk, n0_size⟩ (by omega) (by omega) h6
def endF (s : St) : St := ⟨s.h, s.c, ⟨#[]⟩, s.e⟩
abbrev zb : ByteArray := ⟨#[]⟩
abbrev sQ (l : List ByteArray) : Nat → Value := ls (l.map .string)
abbrev zq (n : Nat) : Nat → Value := ls (List.replicate n (.string ⟨#[]⟩))
abbrev tl (s : St) : Nat → Value := ls [.string s.h, .string s.c, .string s.k]
abbrev tm (s : St) (l : List ByteArray) : Nat → Value := ls (.string s.h :: .string s.c :: .string s.k :: l.map .string)
section
variable {P : Program} {ops : Array Oper} {rest : List Oper} {o : Oper} {a : Act} {w : World} {c : Ctx} {L : List Blk} {Q : Exit → Act → World → Prop}
theorem ZL (M : Mem c L w) (i n : Nat) (F' : NV) {g T : Nat} {F : NV} (h : ∀ w2, Mem c (L.set i ⟨g, .cells (av n F') T⟩) w2 → PL P ops Q rest a w2) {ty : TypeId} {x y : Operand} (hw : Wn ops o a = true := by first | exact want_no rfl | kernel_rfl) (hd : o.dst = none := by exact rfl) (ho : o.op = .store ty x y := by exact rfl) (hi : L[i]? = some ⟨g, .cells (av n F) T⟩ := by exact rfl) (h1 : ∀ j, j < n → (F' j).oneCell' = true := by exact one_ls _ rfl) (hx : Ev a x (pJ g) := by exact ⟨by kernel_rfl⟩) (hy : Ev a y (.agg (av n F')) := by exact ⟨by kernel_rfl⟩) (hz : (P.info? ty).map (·.size) = some n := by kernel_rfl) : PL P ops Q (o :: rest) a w := pl_put M hw hd ty x y ho i g 0 hx.out n T F hi n F' F' hy.out hz (by omega) h1 (fun j hj => by rw [if_pos (by omega), Nat.sub_zero]) h
theorem btct {fn : Func} {Φ : Ending → World → Prop} {p q r : Tmp} {t1 : TypeId} (h : fn.results = #[.tmp p, .cell q t1, .tmp r]) (M : Mem c L w) (x0 : Value) (i1 n1 : Nat) (F1 : NV) (x2 : Value) (hX : Φ (.returned (.tuple #[x0, .agg (av n1 F1), x2])) w) {g1 T1 : Nat} (hp0 : Ep a p x0 := by exact ⟨by kernel_rfl⟩) (hi1 : L[i1]? = some ⟨g1, .cells (av n1 F1) T1⟩ := by exact rfl) (hp1 : Ep a q (pJ g1) := by exact ⟨by kernel_rfl⟩) (hu1 : (P.underlying t1).map TypeDesc.isRow = some true := by kernel_rfl) (hz1 : (P.info? t1).map (·.size) = some n1 := by kernel_rfl) (hp2 : Ep a r x2 := by exact ⟨by kernel_rfl⟩) (hd : a.defers = [] := by kernel_rfl) : bodyPost P fn Φ .ret a w := by
 obtain ⟨d1, e1, f1⟩ := isRow_of hu1
 exact bodyPost_ret (results_tct h _ _ g1 T1 (av n1 F1) (0, 0) _ _ _ hp0.out hp1.out hp2.out (M.get i1 hi1) e1 (by revert f1; cases d1 <;> intro f <;> first | rfl | cases f) (by rw [av_size]; exact hz1)) hd hX
end
open Go.RowKit
theorem c_mixS (g n T : Nat) (hn : 4 ≤ n) (s : St) (R : List Value) (t : Yb) (hs : s.h.size + t.size < 1000000) (w : World) (hL : Laid w)  (hg : w.heap[g]? = some (.cells (av n (stL s R)) T)) (h0 : 2 < g) : Calls Tryz.prog 31 #[pJ g, .string t] w fun r w' => r = .returned (.tuple #[]) ∧ Grw w w' [g] ∧ w'.heap[g]? = some (.cells (av n (stL (mixF s t) R)) T) := by
 go_enter Tryz.func31, Tryz.ntmps31
 have M := Mem.startp hL hg h0
 refine rg_lit <| rV 4 <| ZE M 8 0 0 <| rV 1 ?_
 refine pH 10 (.string (s.h ++ t)) (run_cat 9 9 _ _ rfl s.h t (by kernel_rfl) (by kernel_rfl) (by (try simp only [ByteArray.size_append, ByteArray.size_extract]); omega)) ?_
 refine ZC M 11 (fun w M => c_Bh (s.h ++ t) w M.laid) fun u1 M => rV 2 <| pP M 0 rfl 0 (.string (Bh (s.h ++ t))) (stL ⟨(Bh (s.h ++ t)), s.c, s.k, s.e⟩ R) (by omega) (fun j _ => put_st0 _ _ _ j) fun u2 M => pl_nil ?_
 have e0 : mixF s t = ⟨(Bh (s.h ++ t)), s.c, s.k, s.e⟩ := rfl
 exact bodyPost_end (v := .tuple #[]) (results_none Tryz.results31 _ _) (by kernel_rfl) ⟨rfl, M.old, by rw [e0]; exact M.get 0 rfl⟩
theorem c_begin (g n T : Nat) (hn : 4 ≤ n) (s : St) (R : List Value) (pr pu : Yb) (hp : pr.size ≤ 5000) (hq : pu.size ≤ 5000) (w : World) (hL : Laid w)  (hg : w.heap[g]? = some (.cells (av n (stL s R)) T)) (h0 : 2 < g) : Calls Tryz.prog 21 #[pJ g, .string pr, .string pu] w fun r w' => r = .returned (.tuple #[]) ∧ Grw w w' [g] ∧ w'.heap[g]? = some (.cells (av n (stL (beginF pr pu s) R)) T) := by
 go_enter Tryz.func21, Tryz.ntmps21
 have M := Mem.startp hL hg h0
 refine sR <| rV 1 <| ZC M 7 (fun w M => c_Bh nameS w M.laid) fun u1 M => rV 2 <| pP M 0 rfl 0 (.string (Bh nameS)) (stL ⟨(Bh nameS), s.c, s.k, s.e⟩ R) (by omega) (fun j _ => put_st0 _ _ _ j) fun u2 M => nT <| sR <| rV 4 <| ZE M 14 0 0 <| rV 2 <| pP M 0 rfl 1 (.string (Bh nameS)) (stL ⟨(Bh nameS), (Bh nameS), s.k, s.e⟩ R) (by omega) (fun j _ => put_st1 _ _ _ j) fun u3 M => nT <| sR <| rV 2 ?_
 refine ZY M 19 0 (.tuple #[]) (.cells (av n (stL (mixF ⟨(Bh nameS), (Bh nameS), s.k, s.e⟩ pr) R)) T) (fun w M => c_mixS g n T (by omega) ⟨(Bh nameS), (Bh nameS), s.k, s.e⟩ R pr (by show (Bh _).size + _ < _; rw [Bh_size]; omega) w M.laid (M.get 0 rfl) (M.ne0 0 rfl)) fun u4 M => ?_
 refine nT <| rg_lit <| rV 2 ?_
 refine ZY M 22 0 (.tuple #[]) (.cells (av n (stL (mixF (mixF ⟨(Bh nameS), (Bh nameS), s.k, s.e⟩ pr) pu) R)) T) (fun w M => c_mixS g n T (by omega) (mixF ⟨(Bh nameS), (Bh nameS), s.k, s.e⟩ pr) R pu (by show (Bh _).size + _ < _; rw [Bh_size]; omega) w M.laid (M.get 0 rfl) (M.ne0 0 rfl)) fun u5 M => ?_
 refine pl_nil ?_
 have e0 : beginF pr pu s = (mixF (mixF ⟨(Bh nameS), (Bh nameS), s.k, s.e⟩ pr) pu) := rfl
 exact bodyPost_end (v := .tuple #[]) (results_none Tryz.results21 _ _) (by kernel_rfl) ⟨rfl, M.old, by rw [e0]; exact M.get 0 rfl⟩
theorem c_made (g n T : Nat) (hn : 4 ≤ n) (s : St) (R : List Value) (hs : s.h.size = 32) (w : World) (hL : Laid w)  (hg : w.heap[g]? = some (.cells (av n (stL s R)) T)) (h0 : 2 < g) : Cs 34 #[pJ g] w (.bool true) := by
 go_enter Tryz.func34, Tryz.ntmps34
 have M := Mem.startp hL hg h0
 refine sq <| sR <| rV 3 <| ZE M 6 0 0 ?_
 by_cases c0 : s.h = (⟨#[]⟩ : Yb)
 ·exact absurd hs (by rw [c0]; decide)
 ·refine zJ 7 (.bool true) (.bool (!(s.h.toList == (⟨#[]⟩ : Yb).toList))) (by rw [seq_neg c0]; rfl) <| rV 1 <| nT <| wp_ret ?_
  exact bX (.bool true) ⟨rfl, ro_below1 M.old hg (M.get 0 rfl)⟩
theorem c_public (g n T : Nat) (hn : 4 ≤ n) (s : St) (R : List Value) (x : Yb) (hx : x.size = 32) (w : World) (hL : Laid w)  (hg : w.heap[g]? = some (.cells (av n (stL s R)) T)) (h0 : 2 < g) : Calls Tryz.prog 25 #[pJ g, .string x] w fun r w' => r = .returned (.string (pubF s x)) ∧ Grw w w' [g] ∧ w'.heap[g]? = some (.cells (av n (stL (s) R)) T) := by
 go_enter Tryz.func25, Tryz.ntmps25
 have M := Mem.startp hL hg h0
 refine sq <| wp_seq <| sR <| rV 3 <| ZE M 8 0 3 ?_
 by_cases c0 : s.e = 0
 ·refine wT 9 c0 <| nT <| cT <| rg_lit <| rV 2 <| pD M 13 (.tuple #[.string (puV x), .int .i64 0]) (fun w M => pub_tellsL x hx w M.laid) fun u1 M => rV 6 <| pP M 0 rfl 3 (.int .i64 0) (stL ⟨s.h, s.c, s.k, 0⟩ R) (by omega) (fun j _ => put_st3 _ _ _ j) fun u2 M => nT <| sq <| wp_ret ?_
  have e0 : s = ⟨s.h, s.c, s.k, 0⟩ := st_eq rfl rfl rfl c0
  have e1 : (pubF s x) = (puV x) := by simp only [pubF, if_pos c0]
  exact bX (.string (puV x)) ⟨by rw [e1], M.old, by rw [e0]; exact M.get 0 rfl⟩
 ·refine wF 9 c0 <| nT <| cF <| wp_skip <| au_then <| sq <| wp_ret ?_
  have e1 : (pubF s x) = ⟨#[]⟩ := by simp only [pubF, if_neg c0]
  exact bX (.string zb) ⟨by rw [e1], M.old, M.get 0 rfl⟩
theorem pubF_le (s : St) (x : Yb) : (pubF s x).size ≤ 32 := by
 unfold pubF
 split
 ·rw [puV_size]; exact Nat.le_refl _
 ·exact Nat.zero_le _
theorem c_show (g n T : Nat) (hn : 4 ≤ n) (s : St) (R : List Value) (x : Yb) (hx : x.size = 32) (hs : s.h.size ≤ 32) (w : World) (hL : Laid w)  (hg : w.heap[g]? = some (.cells (av n (stL s R)) T)) (h0 : 2 < g) : Calls Tryz.prog 22 #[pJ g, .string x] w fun r w' => r = .returned (.string (pubF s x)) ∧ Grw w w' [g] ∧ w'.heap[g]? = some (.cells (av n (stL (mixF s (pubF s x)) R)) T) := by
 go_enter Tryz.func22, Tryz.ntmps22
 have M := Mem.startp hL hg h0
 refine sq <| sR <| rV 2 <| ZY M 8 0 (.string (pubF s x)) (.cells (av n (stL s R)) T) (fun w M => c_public g n T (by omega) s R x (hx) w M.laid (M.get 0 rfl) (M.ne0 0 rfl)) fun u1 M => rV 1 <| nT <| sR <| rV 2 <| ZY M 11 0 (.tuple #[]) (.cells (av n (stL (mixF s (pubF s x)) R)) T) (fun w M => c_mixS g n T (by omega) s R (pubF s x) (by have := pubF_le s x; omega) w M.laid (M.get 0 rfl) (M.ne0 0 rfl)) fun u2 M => nT <| sq <| wp_ret ?_
 have e0 : mixF s (pubF s x) = (mixF s (pubF s x)) := rfl
 exact bX (.string (pubF s x)) ⟨rfl, M.old, by rw [e0]; exact M.get 0 rfl⟩
theorem c_next (g n T : Nat) (hn : 4 ≤ n) (s : St) (R : List Value) (t : Yb) (ht : t.size < 10000) (w : World) (hL : Laid w)  (hg : w.heap[g]? = some (.cells (av n (stL s R)) T)) (h0 : 2 < g) : Cs 35 #[pJ g, .string t] w (.tuple #[.string (nxA s.c t), .string (nxB s.c t)]) := by
 go_enter Tryz.func35, Tryz.ntmps35
 have M := Mem.startp hL hg h0
 refine sq <| sR <| rV 3 <| ZE M 12 0 1 <| rV 1 <| pl_calln M (want_no rfl) (some 14) rfl 56 #[.string s.c, .string t, .int .i64 2] (fun g1 => .tuple #[.slice (some ⟨g1, 0, none⟩) 2 2, .int .i64 0]) (.cells (av 2 (Bla.ws (Bla.txt s.c t))) 9) (fun _ => by kernel_rfl) (fun w M => Bla.c_ch s.c t ht 2 (by decide) (by decide) w M.laid) fun g1 u1 M => rV 5 <| nT <| wp_seq <| rgh M [⟨g, .cells (av n (stL s R)) T⟩, ⟨g1, .cells (av 2 (Bla.ws (Bla.txt s.c t))) 9⟩] 7 fun u2 M => qV M 0 17 (.slice (some ⟨g1, 0, none⟩) 2 2) <| qV M 1 18 (pJ g1) <| qE M 2 19 1 0 <| qV M 3 20 (.slice (some ⟨g1, 0, none⟩) 2 2) <| qV M 4 21 (pJ g1 1) <| qE M 5 22 1 1 ?_
 refine qV M 6 4 (.string (nxA s.c t)) <| qZ ?_
 refine rV 1 <| nT <| au_then <| wp_ret ?_
 exact bX (.tuple #[.string (nxA s.c t), .string (nxB s.c t)]) ⟨rfl, ro_below1 M.old hg (M.get 0 rfl)⟩
theorem c_add (g n T : Nat) (hn : 4 ≤ n) (s : St) (R : List Value) (x y : Yb) (hx : x.size = 32) (hy : s.e = 0 → y.size = 32) (w : World) (hL : Laid w)  (hg : w.heap[g]? = some (.cells (av n (stL s R)) T)) (h0 : 2 < g) : Calls Tryz.prog 23 #[pJ g, .string x, .string y] w fun r w' => r = .returned (.tuple #[]) ∧ Grw w w' [g] ∧ w'.heap[g]? = some (.cells (av n (stL (addF s x y) R)) T) := by
 go_enter Tryz.func23, Tryz.ntmps23
 have M := Mem.startp hL hg h0
 refine wp_seq <| sR <| rV 3 <| ZE M 11 0 3 ?_
 by_cases c0 : s.e = 0
 ·refine wD 12 c0 <| nT <| cF <| wp_skip <| au_then <| sR <| rV 2 ?_
  by_cases c1 : shN x y = 0
  ·refine ZC M 16 (fun w M => c_shZ x y hx (hy c0) c1 w M.laid) fun u1 M => rV 5 <| nT <| wp_seq <| sq <| cT <| sR <| rV 4 <| pP M 0 rfl 3 (.int .i64 30) (stL ⟨s.h, s.c, s.k, 30⟩ R) (by omega) (fun j _ => put_st3 _ _ _ j) fun u2 M => nT <| wp_ret <| au_then_ret ?_
   have e0 : addF s x y = ⟨s.h, s.c, s.k, 30⟩ := by simp only [addF, if_pos c0, if_pos c1]
   exact bodyPost_ret (v := .tuple #[]) (results_none Tryz.results23 _ _) (by kernel_rfl) ⟨rfl, M.old, by rw [e0]; exact M.get 0 rfl⟩
  ·refine ZC M 16 (fun w M => c_shN x y hx (hy c0) c1 w M.laid) fun u1 M => rV 5 <| nT <| wp_seq <| sq <| cF <| wp_skip <| au_then <| rg_lit <| rV 4 <| ZC M 30 (fun w M => c_next g n T (by omega) s R (Mon.lebytes (shN x y)) (by rw [Mon.leb_size]; decide) w M.laid (M.get 0 rfl) (M.ne0 0 rfl)) fun u2 M => rV 5 <| pP M 0 rfl 1 (.string (nxA s.c (Mon.lebytes (shN x y)))) (stL ⟨s.h, (nxA s.c (Mon.lebytes (shN x y))), s.k, s.e⟩ R) (by omega) (fun j _ => put_st1 _ _ _ j) fun u3 M => rV 2 <| pP M 0 rfl 2 (.string (nxB s.c (Mon.lebytes (shN x y)))) (stL ⟨s.h, (nxA s.c (Mon.lebytes (shN x y))), (nxB s.c (Mon.lebytes (shN x y))), s.e⟩ R) (by omega) (fun j _ => put_st2 _ _ _ j) fun u4 M => pl_nil ?_
   have e0 : addF s x y = ⟨s.h, (nxA s.c (Mon.lebytes (shN x y))), (nxB s.c (Mon.lebytes (shN x y))), s.e⟩ := by simp only [addF, if_pos c0, if_neg c1]
   exact bodyPost_end (v := .tuple #[]) (results_none Tryz.results23 _ _) (by kernel_rfl) ⟨rfl, M.old, by rw [e0]; exact M.get 0 rfl⟩
 ·refine wU 12 c0 <| nT <| cT <| wp_ret <| au_then_ret ?_
  have e0 : addF s x y = s := by simp only [addF, if_neg c0]
  exact bodyPost_ret (v := .tuple #[]) (results_none Tryz.results23 _ _) (by kernel_rfl) ⟨rfl, M.old, by rw [e0]; exact M.get 0 rfl⟩
theorem c_seal (g n T : Nat) (hn : 4 ≤ n) (s : St) (R : List Value) (t : Yb) (hs : s.h.size = 32) (hk : s.e = 0 → s.k.size = 32) (ht : t.size ≤ 5000) (w : World) (hL : Laid w)  (hg : w.heap[g]? = some (.cells (av n (stL s R)) T)) (h0 : 2 < g) : Calls Tryz.prog 24 #[pJ g, .string t] w fun r w' => r = .returned (.string (sealV s t)) ∧ Grw w w' [g] ∧ w'.heap[g]? = some (.cells (av n (stL (sealF s t) R)) T) := by
 go_enter Tryz.func24, Tryz.ntmps24
 have M := Mem.startp hL hg h0
 refine sq <| wp_seq <| sR <| rV 3 <| ZE M 8 0 3 ?_
 by_cases c0 : s.e = 0
 ·refine wT 9 c0 <| nT <| cT <| wp_seq <| rgh M [⟨g, .cells (av n (stL s R)) T⟩] 18 fun u1 M => qV M 0 11 (pJ g) <| qV M 1 12 (pJ g) <| qV M 2 13 (pJ g) <| qV M 3 14 (pJ g 2) <| qE M 4 15 0 2 <| qV M 6 17 (pJ g) <| qV M 7 18 (pJ g) <| qV M 8 19 (pJ g) <| qE M 9 20 0 0 <| qV M 10 21 (.string t) <| qO 5 ?_
  refine ZC M 16 (fun w M => c_Nonce 0 w M.laid) fun u2 M => nT ?_
  refine ⟨M, ?_⟩
  refine qO 11 ?_
  refine pC M 22 47 #[.string s.k, .string n0, .string s.h, .string t] (.tuple #[.string (sealS s.k n0 s.h t), .int .i64 0]) (fun w M => c_SealA _ _ _ t (sf_seal (hk c0) hs (by omega)) w M.laid) fun u3 M => nT ?_
  refine ⟨M, ?_⟩
  refine qV M 12 10 (.tuple #[.string (sealS s.k n0 s.h t), .int .i64 0]) <| qV M 13 23 (.string (sealS s.k n0 s.h t)) <| qV M 14 24 (.int .i64 0) <| qV M 15 4 (.string (sealS s.k n0 s.h t)) <| qV M 16 25 (pJ g) <| qV M 17 26 (pJ g 3) <| qZ ?_
  refine pP M 0 rfl 3 (.int .i64 0) (stL ⟨s.h, s.c, s.k, 0⟩ R) (by omega) (fun j _ => put_st3 _ _ _ j) fun u4 M => nT <| au_then <| rg_lit <| rV 2 <| ZY M 29 0 (.tuple #[]) (.cells (av n (stL (mixF ⟨s.h, s.c, s.k, 0⟩ (sealS s.k n0 s.h t)) R)) T) (fun w M => c_mixS g n T (by omega) ⟨s.h, s.c, s.k, 0⟩ R (sealS s.k n0 s.h t) (by show s.h.size + _ < _; rw [sealS_size]; omega) w M.laid (M.get 0 rfl) (M.ne0 0 rfl)) fun u5 M => nT <| sq <| wp_ret ?_
  have e0 : sealF s t = (mixF ⟨s.h, s.c, s.k, 0⟩ (sealS s.k n0 s.h t)) := by simp only [sealF, if_pos c0]
  have e1 : (sealV s t) = (sealS s.k n0 s.h t) := by simp only [sealV, if_pos c0]
  exact bX (.string (sealS s.k n0 s.h t)) ⟨by rw [e1], M.old, by rw [e0]; exact M.get 0 rfl⟩
 ·refine wF 9 c0 <| nT <| cF <| wp_skip <| au_then <| sq <| wp_ret ?_
  have e0 : sealF s t = s := by simp only [sealF, if_neg c0]
  have e1 : (sealV s t) = ⟨#[]⟩ := by simp only [sealV, if_neg c0]
  exact bX (.string zb) ⟨by rw [e1], M.old, by rw [e0]; exact M.get 0 rfl⟩
theorem c_open (g n T : Nat) (hn : 4 ≤ n) (s : St) (R : List Value) (t : Yb) (hs : s.h.size = 32) (hk : s.e = 0 → s.k.size = 32) (ht : t.size ≤ 5000) (h6 : 16 ≤ t.size) (w : World) (hL : Laid w)  (hg : w.heap[g]? = some (.cells (av n (stL s R)) T)) (h0 : 2 < g) : Calls Tryz.prog 32 #[pJ g, .string t] w fun r w' => r = .returned (.string (openV s t)) ∧ Grw w w' [g] ∧ w'.heap[g]? = some (.cells (av n (stL (openF s t) R)) T) := by
 go_enter Tryz.func32, Tryz.ntmps32
 have M := Mem.startp hL hg h0
 refine sq <| wp_seq <| sR <| rV 3 <| ZE M 8 0 3 ?_
 by_cases c0 : s.e = 0
 ·refine wT 9 c0 <| nT <| cT <| wp_seq <| rgh M [⟨g, .cells (av n (stL s R)) T⟩] 18 fun u1 M => qV M 0 11 (pJ g) <| qV M 1 12 (pJ g) <| qV M 2 13 (pJ g) <| qV M 3 14 (pJ g 2) <| qE M 4 15 0 2 <| qV M 6 17 (pJ g) <| qV M 7 18 (pJ g) <| qV M 8 19 (pJ g) <| qE M 9 20 0 0 <| qV M 10 21 (.string t) <| qO 5 ?_
  refine ZC M 16 (fun w M => c_Nonce 0 w M.laid) fun u2 M => nT ?_
  refine ⟨M, ?_⟩
  refine qO 11 ?_
  by_cases c1 : tgX s.k n0 s.h t = t.extract (t.size - 16) t.size
  ·refine pC M 22 54 #[.string s.k, .string n0, .string s.h, .string t] (.tuple #[.string (opS s.k n0 t), .int .i64 0]) (fun w M => c_OpenA _ _ _ t (sf_open (hk c0) hs (by omega) h6) c1 w M.laid) fun u3 M => nT ?_
   refine ⟨M, ?_⟩
   refine qV M 12 10 (.tuple #[.string (opS s.k n0 t), .int .i64 0]) <| qV M 13 23 (.string (opS s.k n0 t)) <| qV M 14 24 (.int .i64 0) <| qV M 15 4 (.string (opS s.k n0 t)) <| qV M 16 25 (pJ g) <| qV M 17 26 (pJ g 3) <| qZ ?_
   refine pP M 0 rfl 3 (.int .i64 0) (stL ⟨s.h, s.c, s.k, 0⟩ R) (by omega) (fun j _ => put_st3 _ _ _ j) fun u4 M => nT <| au_then <| rg_lit <| rV 2 <| ZY M 29 0 (.tuple #[]) (.cells (av n (stL (mixF ⟨s.h, s.c, s.k, 0⟩ t) R)) T) (fun w M => c_mixS g n T (by omega) ⟨s.h, s.c, s.k, 0⟩ R t (by show s.h.size + t.size < _; omega) w M.laid (M.get 0 rfl) (M.ne0 0 rfl)) fun u5 M => nT <| sq <| wp_ret ?_
   have e0 : openF s t = (mixF ⟨s.h, s.c, s.k, 0⟩ t) := by simp only [openF, if_pos c0, if_pos c1]
   have e1 : (openV s t) = (opS s.k n0 t) := by simp only [openV, if_pos c0, if_pos c1]
   exact bX (.string (opS s.k n0 t)) ⟨by rw [e1], M.old, by rw [e0]; exact M.get 0 rfl⟩
  ·refine pC M 22 54 #[.string s.k, .string n0, .string s.h, .string t] (.tuple #[.string zb, .int .i64 100]) (fun w M => c_OpenB _ _ _ t (sf_open (hk c0) hs (by omega) h6) c1 w M.laid) fun u3 M => nT ?_
   refine ⟨M, ?_⟩
   refine qV M 12 10 (.tuple #[.string zb, .int .i64 100]) <| qV M 13 23 (.string zb) <| qV M 14 24 (.int .i64 100) <| qV M 15 4 (.string zb) <| qV M 16 25 (pJ g) <| qV M 17 26 (pJ g 3) <| qZ ?_
   refine pP M 0 rfl 3 (.int .i64 100) (stL ⟨s.h, s.c, s.k, 100⟩ R) (by omega) (fun j _ => put_st3 _ _ _ j) fun u4 M => nT <| au_then <| rg_lit <| rV 2 <| ZY M 29 0 (.tuple #[]) (.cells (av n (stL (mixF ⟨s.h, s.c, s.k, 100⟩ t) R)) T) (fun w M => c_mixS g n T (by omega) ⟨s.h, s.c, s.k, 100⟩ R t (by show s.h.size + t.size < _; omega) w M.laid (M.get 0 rfl) (M.ne0 0 rfl)) fun u5 M => nT <| sq <| wp_ret ?_
   have e0 : openF s t = (mixF ⟨s.h, s.c, s.k, 100⟩ t) := by simp only [openF, if_pos c0, if_neg c1]
   have e1 : (openV s t) = ⟨#[]⟩ := by simp only [openV, if_pos c0, if_neg c1]
   exact bX (.string zb) ⟨by rw [e1], M.old, by rw [e0]; exact M.get 0 rfl⟩
 ·refine wF 9 c0 <| nT <| cF <| wp_skip <| au_then <| sq <| wp_ret ?_
  have e0 : openF s t = s := by simp only [openF, if_neg c0]
  have e1 : (openV s t) = ⟨#[]⟩ := by simp only [openV, if_neg c0]
  exact bX (.string zb) ⟨by rw [e1], M.old, by rw [e0]; exact M.get 0 rfl⟩
theorem c_end (g n T : Nat) (hn : 4 ≤ n) (s : St) (R : List Value)  (w : World) (hL : Laid w)  (hg : w.heap[g]? = some (.cells (av n (stL s R)) T)) (h0 : 2 < g) : Calls Tryz.prog 26 #[pJ g] w fun r w' => r = .returned (.int .i64 s.e) ∧ Grw w w' [g] ∧ w'.heap[g]? = some (.cells (av n (stL (endF s) R)) T) := by
 go_enter Tryz.func26, Tryz.ntmps26
 have M := Mem.startp hL hg h0
 refine sq <| sR <| rV 3 <| pP M 0 rfl 2 (.string zb) (stL ⟨s.h, s.c, ⟨#[]⟩, s.e⟩ R) (by omega) (fun j _ => put_st2 _ _ _ j) fun u1 M => nT <| sR <| rV 3 <| ZE M 9 0 3 <| rV 1 <| nT <| wp_ret ?_
 have e0 : endF s = ⟨s.h, s.c, ⟨#[]⟩, s.e⟩ := rfl
 exact bX (.int .i64 s.e) ⟨rfl, M.old, by rw [e0]; exact M.get 0 rfl⟩
end Go.Proofs.YtffimigpbcilbaaGreatDoor
