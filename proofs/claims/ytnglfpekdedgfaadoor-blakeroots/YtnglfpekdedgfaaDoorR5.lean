/- The roots are the words to begin with; the walk of BlakeRoots. -/
import Derived.Test.YtnglfpekdedgfaaDoorR4
namespace Go.Proofs.YtnglfpekdedgfaaDoor
open Go.RowKit

def HQ : Nat → Int := r8 7640891576956012808 13503953896175478587 4354685564936845355 11912009170470909681 5840696475078001361 11170449401992604703 2270897969802886507 6620516959819538809
theorem squares : lst false (NR 8) = (List.range 8).map HQ := by decide +kernel
theorem square_at (i : Nat) (hi : i < 8) : (vs64 (lst false (NR 8)))[i]? = some (.int .u64 (HQ i)) := by
  unfold vs64
  rw [List.getElem?_map, squares, List.getElem?_map, List.getElem?_range hi]
  rfl
theorem half : ∀ i, i < 8 → HB i = cv .u32 (sr (HQ i) 32) := lt8 (by decide +kernel)
theorem pl_calls {P : Program} {ops : Array Oper} {rest : List Oper} {o : Oper} {a : Act} {w : World} {c : Ctx} {L : List Blk} {Q : Exit → Act → World → Prop} (M : Mem c L w) (hw : Region.wanted o (yielded ops a.tmps) = true) (d : Option Tmp) (hd : o.dst = d) (f : FuncId) (args : Array Value) (n : Nat) (l : List Value) (hrun : ∀ w, (execOp a.eval o).run P w = .ok (.enter f args) w)
    (hc : ∀ w, Mem c L w → Calls P f args w fun e w' => ∃ g cap Z, e = .returned (.slice (some ⟨g, 0, none⟩) n cap) ∧ w.heap.size ≤ g ∧ w'.heap[g]? = some Z ∧ SB Z cap l ∧ Below w.heap.size w w')
    (h : ∀ g cap Z w', SB Z cap l → Mem c (L ++ [⟨g, Z⟩]) w' → PL P ops Q rest (a.put d (.slice (some ⟨g, 0, none⟩) n cap)) w') : PL P ops Q (o :: rest) a w :=
  pl_callq hw d hd f args hrun ((hc w M).mono fun _ w' ⟨g, cap, Z, he, h1, h2, h3, hb⟩ => ⟨_, he, h g cap Z w' h3 (M.new g Z hb h2 h1)⟩)
set_option maxRecDepth 100000 in
set_option maxHeartbeats 4000000 in
theorem c_begin  (w : World) (hL : Laid w)  :
    Calls Tryd.prog 16 #[] w fun r w' => r = .returned (.agg (av 8 (w32 HB))) ∧ Below w.heap.size w w' := by
  go_enter Tryd.func16, Tryd.ntmps16
  have M := Mem.start hL
  refine wp_seq ?_
  refine rg_lit ?_
  refine pl_new M (want_no rfl) (some 0) rfl (.cells (av 8 (w32 (fun _ => 0))) 38) (fun _ => by kernel_rfl) ?_
  intro g1 u1 M
  replace M : Mem ⟨w, []⟩ [⟨g1, .cells (av 8 (w32 (fun _ => 0))) 38⟩] u1 := M
  refine pl_nil ?_
  refine au_then ?_
  refine wp_seq ?_
  refine rg_lit ?_
  refine pl_val (want_no rfl) (some 1) rfl (.agg (av 8 (w32 HB))) (fun _ => by kernel_rfl) ?_
  refine pl_put M (want_no rfl) rfl 38 _ _ rfl 0 g1 0 (by kernel_rfl) 8 38 (w32 (fun _ => 0)) rfl 8 (w32 HB) (w32 HB) (by kernel_rfl) inz38 (by decide) (fun _ _ => rfl) (fun j hj => by rw [if_pos (by omega), Nat.sub_zero]) ?_
  intro u2 M
  replace M : Mem ⟨w, []⟩ [⟨g1, .cells (av 8 (w32 HB)) 38⟩] u2 := M
  refine pl_nil ?_
  refine au_then ?_
  refine wp_ret ?_
  exact bodyPost_ret (v := .agg (av 8 (w32 HB))) (results_cell_row Tryd.results16 _ _ g1 38 (av 8 (w32 HB)) (0, 0) _ (by kernel_rfl) (M.get 0 rfl) Tryd.underlying38 rfl (by rw [av_size]; exact inz38)) (by kernel_rfl) ⟨rfl, below_grown M.old⟩

set_option maxRecDepth 100000 in
set_option maxHeartbeats 4000000 in
theorem c_blakeroots (at_ : Int) (w : World) (hL : Laid w)  :
    Calls Tryd.prog 5 #[.int .i64 at_] w fun r w' => r = .returned (.bool true) ∧ Below w.heap.size w w' := by
  go_enter Tryd.func5, Tryd.ntmps5
  have M := Mem.start hL
  obtain ⟨q, hq⟩ : ∃ q, q = (BitVec.ofInt 64 at_ &&& BitVec.ofInt 64 65535).toNat := ⟨_, rfl⟩
  have hq1 : q ≤ 65535 := by rw [hq, BitVec.toNat_and]; exact Nat.le_trans Nat.and_le_right (by decide)
  refine wp_seq ?_
  refine rg_lit ?_
  refine pl_val (want_no rfl) (some 2) rfl (.bool false) (fun _ => by kernel_rfl) ?_
  refine pl_nil ?_
  refine au_then ?_
  refine wp_seq ?_
  refine rg_lit ?_
  refine pl_val (want_no rfl) (some 4) rfl (.int .i64 at_) (fun _ => by kernel_rfl) ?_
  refine pl_val (want_no rfl) (some 5) rfl (.int .i64 ((q : Nat) : Int)) (fun w => Eq.trans (b := .ok (.value (.int .i64 (IntKind.wrap .i64 ((BitVec.ofInt 64 at_ &&& BitVec.ofInt 64 65535).toNat : Int)))) w) (by kernel_rfl) (by rw [← hq, wrap64 (by omega) (by omega)])) ?_
  refine pl_val (want_no rfl) (some 6) rfl (.int .i64 ((q % 8 : Nat) : Int)) (fun w => Eq.trans (b := .ok (.value (.int .i64 (Int.tmod ((q : Nat) : Int) 8))) w) (by kernel_rfl) (by rw [rem8])) ?_
  refine pl_val (want_no rfl) (some 3) rfl (.int .i64 ((q % 8 : Nat) : Int)) (fun _ => by kernel_rfl) ?_
  refine pl_nil ?_
  refine au_then ?_
  refine wp_seq ?_
  refine rg_held M [] 13 rfl (by kernel_rfl) (by kernel_rfl) (fun _ _ d _ _ h => by cases d <;> exact h) ?_
  intro u1 M
  replace M : Mem ⟨w, []⟩ [] u1 := M
  refine hl_val M 1 rfl (by decide) (by kernel_rfl) (by kernel_rfl) (want_no rfl) (some 8) rfl (.int .i64 ((q % 8 : Nat) : Int)) (fun _ _ => by kernel_rfl) ?_
  refine hl_val M 4 rfl (by decide) (by kernel_rfl) (by kernel_rfl) (want_no rfl) (some 11) rfl (.int .i64 ((q % 8 : Nat) : Int)) (fun _ _ => by kernel_rfl) ?_
  refine hl_one 0 (by decide) (by kernel_rfl) rfl ?_
  refine pl_call M (want_no rfl) (some 7) rfl 16 #[] (.agg (av 8 (w32 HB))) (fun _ => by kernel_rfl) (fun w M => c_begin w M.laid) ?_
  intro u2 M
  refine pl_nil ?_
  refine au_then ?_
  refine ⟨M, ?_⟩
  refine hl_val M 2 rfl (by decide) (by kernel_rfl) (by kernel_rfl) (want_no rfl) (some 9) rfl (.int .u32 (HB ((q % 8 : Nat)))) (fun w _ => (run_ixA 38 8 37 Tryd.underlying38 inz37 (fun _ => by kernel_rfl) _ _ rfl (w32 HB) (by kernel_rfl) .i64 ((q % 8 : Nat)) (by kernel_rfl) (by omega) rfl) w) ?_
  refine hl_one 3 (by decide) (by kernel_rfl) rfl ?_
  refine pl_calls M (want_no rfl) (some 10) rfl 17 #[.int .i64 8, .bool false] 8 (vs64 (lst false (NR 8))) (fun _ => by kernel_rfl) (fun w M => c_roots 8 false (by decide) (by decide) w M.laid) ?_
  intro gb capb Zb u3 hZb M
  replace M : Mem ⟨w, []⟩ [⟨gb, Zb⟩] u3 := M
  refine pl_nil ?_
  refine au_then ?_
  refine ⟨(M.drop (.cons _ (.slnil))), ?_⟩
  refine hl_val (M.drop (.cons _ (.slnil))) 5 rfl (by decide) (by kernel_rfl) (by kernel_rfl) (want_no rfl) (some 12) rfl (.pointer (some ⟨gb, 0 + q % 8, none⟩)) (fun w _ => (run_ixL 41 40 Tryd.underlying41 inz40 _ _ rfl gb 0 8 capb (by kernel_rfl) .i64 (q % 8) (by kernel_rfl) (by omega)) w) ?_
  refine hl_one 6 (by decide) (by kernel_rfl) rfl ?_
  refine pl_cell M (want_no rfl) (some 13) rfl 40 _ rfl gb (0 + q % 8) (by kernel_rfl) (.int .u64 (HQ (q % 8))) (fun _ => by kernel_rfl) (fun w M => by rw [Nat.zero_add]; exact hZb.cell (M.get 0 rfl) (square_at (q % 8) (by omega))) ?_
  refine pl_nil ?_
  refine au_then ?_
  refine ⟨(M.drop (.cons _ (.slnil))), ?_⟩
  refine hl_val (M.drop (.cons _ (.slnil))) 7 rfl (by decide) (by kernel_rfl) (by kernel_rfl) (want_no rfl) (some 14) rfl (.int .u64 (sr (HQ (q % 8)) 32)) (fun _ _ => by kernel_rfl) ?_
  refine hl_val (M.drop (.cons _ (.slnil))) 8 rfl (by decide) (by kernel_rfl) (by kernel_rfl) (want_no rfl) (some 15) rfl (.int .u32 (cv .u32 (sr (HQ (q % 8)) 32))) (fun _ _ => by kernel_rfl) ?_
  refine hl_val (M.drop (.cons _ (.slnil))) 9 rfl (by decide) (by kernel_rfl) (by kernel_rfl) (want_no rfl) (some 16) rfl (.bool true) (fun w _ => (fun w => Eq.trans (b := .ok (.value (.bool (decide (HB (q % 8) = cv .u32 (sr (HQ (q % 8)) 32))))) w) (by kernel_rfl) (by rw [decide_eq_true (half (q % 8) (by omega))])) w) ?_
  refine hl_val (M.drop (.cons _ (.slnil))) 10 rfl (by decide) (by kernel_rfl) (by kernel_rfl) (want_no rfl) (some 17) rfl (.bool true) (fun _ _ => by kernel_rfl) ?_
  refine hl_one 11 (by decide) (by kernel_rfl) rfl ?_
  refine pl_call M (want_on 10 true rfl 17 rfl (by kernel_rfl)) (some 18) rfl 7 #[] (.bool true) (fun _ => by kernel_rfl) (fun w M => c_alive w M.laid) ?_
  intro u4 M
  refine pl_nil ?_
  refine au_then ?_
  refine ⟨(M.drop (.cons _ (.slnil))), ?_⟩
  refine hl_val (M.drop (.cons _ (.slnil))) 12 rfl (by decide) (by kernel_rfl) (by kernel_rfl) (want_no rfl) (some 19) rfl (.bool true) (fun _ _ => by kernel_rfl) ?_
  refine hl_end (by kernel_rfl) (by kernel_rfl) rfl ?_
  refine pl_val (want_no rfl) (some 2) rfl (.bool true) (fun _ => by kernel_rfl) ?_
  refine pl_nil ?_
  refine au_then ?_
  refine au_then ?_
  refine wp_ret ?_
  exact bodyPost_ret (v := .bool true) (results_tmp1 Tryd.results5 _ _ _ (by kernel_rfl)) (by kernel_rfl) ⟨rfl, below_grown M.old⟩


end Go.Proofs.YtnglfpekdedgfaaDoor
