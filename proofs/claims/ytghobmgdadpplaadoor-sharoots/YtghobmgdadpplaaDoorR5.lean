/- The roots are the constants; the walk of ShaRoots. -/
import Derived.Test.YtghobmgdadpplaaDoorR4
namespace Go.Proofs.YtghobmgdadpplaaDoor
open Go.RowKit

theorem lst_grow (cube : Bool) (j : Nat) : ∀ k, ∃ r, lst cube (j + k) = lst cube j ++ r
  | 0 => ⟨[], by simp⟩
  | k + 1 => by
    obtain ⟨r, hr⟩ := lst_grow cube j k
    show ∃ r', (if isp (2 + (j + k)) then lst cube (j + k) ++ [rc cube (2 + (j + k))] else lst cube (j + k)) = _
    split
    · exact ⟨r ++ [rc cube (2 + (j + k))], by rw [hr, List.append_assoc]⟩
    · exact ⟨r, hr⟩
theorem lst_at (cube : Bool) (n N i : Nat) (h1 : 1 ≤ n) (h2 : n ≤ 80) (hi : i < n) (hN : NR n ≤ N) : (lst cube (NR n))[i]? = (lst cube N)[i]? := by
  obtain ⟨r, hr⟩ := lst_grow cube (NR n) (N - NR n)
  rw [show NR n + (N - NR n) = N by omega] at hr
  rw [hr, List.getElem?_append_left (by rw [lst_length, (NR_ok n h1 h2).1]; exact hi)]
theorem cubes : lst true 408 = (List.range 80).map KF := by decide +kernel
theorem squares : lst false 18 = (List.range 8).map HB := by decide +kernel
theorem NR_le0 : ((List.range 80).all fun m => decide (NR (m + 1) ≤ 408)) = true := by decide +kernel
theorem NR_le (n : Nat) (h1 : 1 ≤ n) (h2 : n ≤ 80) : NR n ≤ 408 := by
  have h := List.all_eq_true.1 NR_le0 (n - 1) (List.mem_range.2 (by omega))
  simp only [decide_eq_true_eq, show n - 1 + 1 = n by omega] at h
  exact h
theorem cube_at (n i : Nat) (h1 : 1 ≤ n) (h2 : n ≤ 80) (hi : i < n) : (vs64 (lst true (NR n)))[i]? = some (.int .u64 (KF i)) := by
  unfold vs64
  rw [List.getElem?_map, lst_at true n 408 i h1 h2 hi (NR_le n h1 h2), cubes, List.getElem?_map, List.getElem?_range (by omega)]
  rfl
theorem square_at (i : Nat) (hi : i < 8) : (vs64 (lst false (NR 8)))[i]? = some (.int .u64 (HB i)) := by
  unfold vs64
  rw [List.getElem?_map, lst_at false 8 18 i (by decide) (by decide) hi (by decide), squares, List.getElem?_map, List.getElem?_range hi]
  rfl
theorem pl_calls {P : Program} {ops : Array Oper} {rest : List Oper} {o : Oper} {a : Act} {w : World} {c : Ctx} {L : List Blk} {Q : Exit → Act → World → Prop} (M : Mem c L w) (hw : Region.wanted o (yielded ops a.tmps) = true) (d : Option Tmp) (hd : o.dst = d) (f : FuncId) (args : Array Value) (n : Nat) (l : List Value) (hrun : ∀ w, (execOp a.eval o).run P w = .ok (.enter f args) w)
    (hc : ∀ w, Mem c L w → Calls P f args w fun e w' => ∃ g cap Z, e = .returned (.slice (some ⟨g, 0, none⟩) n cap) ∧ w.heap.size ≤ g ∧ w'.heap[g]? = some Z ∧ SB Z cap l ∧ Below w.heap.size w w')
    (h : ∀ g cap Z w', SB Z cap l → Mem c (L ++ [⟨g, Z⟩]) w' → PL P ops Q rest (a.put d (.slice (some ⟨g, 0, none⟩) n cap)) w') : PL P ops Q (o :: rest) a w :=
  pl_callq hw d hd f args hrun ((hc w M).mono fun _ w' ⟨g, cap, Z, he, h1, h2, h3, hb⟩ => ⟨_, he, h g cap Z w' h3 (M.new g Z hb h2 h1)⟩)
theorem rem80 (n : Nat) : Int.tmod (n : Int) 80 = ((n % 80 : Nat) : Int) := by
  rw [Int.tmod_eq_emod_of_nonneg (by omega)]
  omega

set_option maxRecDepth 100000 in
set_option maxHeartbeats 4000000 in
theorem c_sharoots (at_ : Int) (w : World) (hL : Laid w)  :
    Calls Tryd.prog 4 #[.int .i64 at_] w fun r w' => r = .returned (.bool true) ∧ Below w.heap.size w w' := by
  go_enter Tryd.func4, Tryd.ntmps4
  have M := Mem.start hL
  obtain ⟨q, hq⟩ : ∃ q, q = (BitVec.ofInt 64 at_ &&& BitVec.ofInt 64 65535).toNat := ⟨_, rfl⟩
  have hq1 : q ≤ 65535 := by rw [hq, BitVec.toNat_and]; exact Nat.le_trans Nat.and_le_right (by decide)
  obtain ⟨n, hn⟩ : ∃ n, n = 1 + q % 80 := ⟨_, rfl⟩
  have h1 : 1 ≤ n := by omega
  have h2 : n ≤ 80 := by omega
  refine wp_seq ?_
  refine rg_lit ?_
  refine pl_val (want_no rfl) (some 2) rfl (.bool false) (fun _ => by kernel_rfl) ?_
  refine pl_nil ?_
  refine au_then ?_
  refine wp_seq ?_
  refine rg_lit ?_
  refine pl_call M (want_no rfl) (some 10) rfl 10 #[] (.agg (av 80 (w64 KF))) (fun _ => by kernel_rfl) (fun w M => c_K w M.laid) ?_
  intro u1 M
  refine pl_new M (want_no rfl) (some 3) rfl (.cells (av 80 (w64 (fun _ => 0))) 26) (fun _ => by kernel_rfl) ?_
  intro g1 u2 M
  replace M : Mem ⟨w, none⟩ [⟨g1, .cells (av 80 (w64 (fun _ => 0))) 26⟩] u2 := M
  refine pl_put M (want_no rfl) rfl 26 _ _ rfl 0 g1 0 (by kernel_rfl) 80 26 (w64 (fun _ => 0)) rfl 80 (w64 KF) (w64 KF) (by kernel_rfl) inz26 (by decide) (fun _ _ => rfl) (fun j hj => by rw [if_pos (by omega), Nat.sub_zero]) ?_
  intro u3 M
  replace M : Mem ⟨w, none⟩ [⟨g1, .cells (av 80 (w64 KF)) 26⟩] u3 := M
  refine pl_nil ?_
  refine au_then ?_
  refine wp_seq ?_
  refine rg_lit ?_
  refine pl_call M (want_no rfl) (some 11) rfl 11 #[] (.agg (av 8 (w64 HB))) (fun _ => by kernel_rfl) (fun w M => c_begin w M.laid) ?_
  intro u4 M
  refine pl_new M (want_no rfl) (some 4) rfl (.cells (av 8 (w64 (fun _ => 0))) 28) (fun _ => by kernel_rfl) ?_
  intro g2 u5 M
  replace M : Mem ⟨w, none⟩ [⟨g1, .cells (av 80 (w64 KF)) 26⟩, ⟨g2, .cells (av 8 (w64 (fun _ => 0))) 28⟩] u5 := M
  refine pl_put M (want_no rfl) rfl 28 _ _ rfl 1 g2 0 (by kernel_rfl) 8 28 (w64 (fun _ => 0)) rfl 8 (w64 HB) (w64 HB) (by kernel_rfl) inz28 (by decide) (fun _ _ => rfl) (fun j hj => by rw [if_pos (by omega), Nat.sub_zero]) ?_
  intro u6 M
  replace M : Mem ⟨w, none⟩ [⟨g1, .cells (av 80 (w64 KF)) 26⟩, ⟨g2, .cells (av 8 (w64 HB)) 28⟩] u6 := M
  refine pl_nil ?_
  refine au_then ?_
  refine wp_seq ?_
  refine rg_lit ?_
  refine pl_val (want_no rfl) (some 12) rfl (.int .i64 at_) (fun _ => by kernel_rfl) ?_
  refine pl_val (want_no rfl) (some 13) rfl (.int .i64 ((q : Nat) : Int)) (fun w => Eq.trans (b := .ok (.value (.int .i64 (IntKind.wrap .i64 ((BitVec.ofInt 64 at_ &&& BitVec.ofInt 64 65535).toNat : Int)))) w) (by kernel_rfl) (by rw [← hq, wrap64 (by omega) (by omega)])) ?_
  refine pl_val (want_no rfl) (some 14) rfl (.int .i64 ((q % 80 : Nat) : Int)) (fun w => Eq.trans (b := .ok (.value (.int .i64 (Int.tmod ((q : Nat) : Int) 80))) w) (by kernel_rfl) (by rw [rem80])) ?_
  refine pl_val (want_no rfl) (some 15) rfl (.int .i64 (n : Int)) (fun w => Eq.trans (b := .ok (.value (.int .i64 (IntKind.wrap .i64 (1 + ((q % 80 : Nat) : Int))))) w) (by kernel_rfl) (by rw [wrap64 (by omega) (by omega)]; congr 3; omega)) ?_
  refine pl_val (want_no rfl) (some 5) rfl (.int .i64 (n : Int)) (fun _ => by kernel_rfl) ?_
  refine pl_nil ?_
  refine au_then ?_
  refine wp_seq ?_
  refine rg_lit ?_
  refine pl_val (want_no rfl) (some 16) rfl (.int .i64 (n : Int)) (fun _ => by kernel_rfl) ?_
  refine pl_calls M (want_no rfl) (some 17) rfl 12 #[.int .i64 ((n : Nat) : Int), .bool true] n (vs64 (lst true (NR n))) (fun _ => by kernel_rfl) (fun w M => c_roots n true h1 h2 w M.laid) ?_
  intro ga capa Za u7 hZa M
  replace M : Mem ⟨w, none⟩ [⟨g1, .cells (av 80 (w64 KF)) 26⟩, ⟨g2, .cells (av 8 (w64 HB)) 28⟩, ⟨ga, Za⟩] u7 := M
  refine pl_val (want_no rfl) (some 6) rfl (.slice (some ⟨ga, 0, none⟩) n capa) (fun _ => by kernel_rfl) ?_
  refine pl_nil ?_
  refine au_then ?_
  refine wp_seq ?_
  refine wp_seq ?_
  refine rg_lit ?_
  refine pl_val (want_no rfl) (some 7) rfl (.int .i64 0) (fun _ => by kernel_rfl) ?_
  refine pl_nil ?_
  refine au_then ?_
  refine wp_block ?_
  refine au_loop (fun j a w' => ∃ v1 : Nat → Value, a = ⟨#[.int .i64 at_, undef, v1 2, .pointer (some ⟨g1, 0, none⟩), .pointer (some ⟨g2, 0, none⟩), .int .i64 (n : Int), .slice (some ⟨ga, 0, none⟩) n capa, .int .i64 (j : Int), undef, undef, .agg (av 80 (w64 KF)), .agg (av 8 (w64 HB)), .int .i64 at_, .int .i64 ((q : Nat) : Int), .int .i64 ((q % 80 : Nat) : Int), .int .i64 (n : Int), .int .i64 (n : Int), .slice (some ⟨ga, 0, none⟩) n capa, v1 18, v1 19, v1 20, v1 21, v1 22, v1 23, v1 24, v1 25, v1 26, v1 27, v1 28, v1 29, v1 30, undef, undef, undef, undef, undef, undef, undef, undef, undef, undef, undef, undef, undef, undef], []⟩ ∧ Mem ⟨w, none⟩ [⟨g1, .cells (av 80 (w64 KF)) 26⟩, ⟨g2, .cells (av 8 (w64 HB)) 28⟩, ⟨ga, Za⟩] w') n ⟨fun k_ => ([.bool false, undef, undef, undef, undef, undef, undef, undef, undef, undef, undef, undef, undef, undef, undef, undef, undef, undef, undef, undef, undef, undef, undef, undef, undef, undef, undef, undef, undef] : List Value).getD (k_ - 2) undef, by kernel_rfl, M⟩ ?_ ?_
  · intro j a u0 hj hI
    obtain ⟨v1, rfl, M⟩ := hI
    refine wp_seq ?_
    refine wp_seq ?_
    refine rg_lit ?_
    refine pl_val (want_no rfl) (some 18) rfl (.int .i64 (j : Int)) (fun _ => by kernel_rfl) ?_
    refine pl_val (want_no rfl) (some 19) rfl (.int .i64 (n : Int)) (fun _ => by kernel_rfl) ?_
    refine pl_val (want_no rfl) (some 20) rfl (.bool true) (fun w => Eq.trans (b := .ok (.value (.bool (decide ((j : Int) < ((n : Nat) : Int))))) w) (by kernel_rfl) (by rw [decide_eq_true (by omega)])) ?_
    refine pl_nil ?_
    refine au_then ?_
    refine wp_cond_true (by kernel_rfl) ?_
    refine wp_skip ?_
    refine au_then ?_
    refine wp_seq ?_
    refine wp_block ?_
    refine wp_seq ?_
    refine rg_tail M 7 (by kernel_rfl) (by kernel_rfl) ?_
    simp only [List.take_succ_cons, List.take_zero]
    refine k_val (want_no rfl) (some 23) rfl (.slice (some ⟨ga, 0, none⟩) n capa) (fun _ => by kernel_rfl) ?_
    refine k_val (want_no rfl) (some 24) rfl (.int .i64 (j : Int)) (fun _ => by kernel_rfl) ?_
    refine k_val (want_no rfl) (some 25) rfl (.pointer (some ⟨ga, 0 + j, none⟩)) (run_ixL 30 25 Tryd.underlying30 inz25 _ _ rfl ga 0 n capa (by kernel_rfl) .i64 j (by kernel_rfl) hj) ?_
    refine k_cell M (want_no rfl) (some 26) rfl 25 _ rfl ga (0 + j) (by kernel_rfl) (.int .u64 (KF j)) (fun _ => by kernel_rfl) (fun w M => by rw [Nat.zero_add]; exact hZa.cell (M.get 2 rfl) (cube_at n j h1 h2 hj)) ?_
    refine k_val (want_no rfl) (some 27) rfl (.int .i64 (j : Int)) (fun _ => by kernel_rfl) ?_
    refine k_val (want_no rfl) (some 28) rfl (.pointer (some ⟨g1, j, none⟩)) (run_ix1 26 80 25 Tryd.underlying26 inz25 _ _ rfl g1 (by kernel_rfl) .i64 (j) (by kernel_rfl) (by omega)) ?_
    refine k_cell M (want_no rfl) (some 29) rfl 25 _ rfl g1 j (by kernel_rfl) (.int .u64 (KF j)) (fun _ => by kernel_rfl) (fun w M => M.cell 0 rfl (by omega) rfl) ?_
    refine kl_nil ?_
    intro u8 M
    replace M : Mem ⟨w, none⟩ [⟨g1, .cells (av 80 (w64 KF)) 26⟩, ⟨g2, .cells (av 8 (w64 HB)) 28⟩, ⟨ga, Za⟩] u8 := M
    refine pl_val (want_no rfl) (some 30) rfl (.bool false) (fun w => Eq.trans (b := .ok (.value (.bool (!(decide (KF j = KF j))))) w) (by kernel_rfl) (by rw [decide_eq_true rfl]; rfl)) ?_
    refine pl_nil ?_
    refine au_then ?_
    refine wp_cond_false (by kernel_rfl) ?_
    refine wp_skip ?_
    refine au_block ?_
    refine au_then ?_
    refine rg_lit ?_
    refine pl_val (want_no rfl) (some 21) rfl (.int .i64 (j : Int)) (fun _ => by kernel_rfl) ?_
    refine pl_val (want_no rfl) (some 22) rfl (.int .i64 ((j + 1 : Nat) : Int)) (fun w => Eq.trans (b := .ok (.value (.int .i64 (IntKind.wrap .i64 ((j : Int) + 1)))) w) (by kernel_rfl) (by rw [wrap64 (by omega) (by omega)]; congr 3)) ?_
    refine pl_val (want_no rfl) (some 7) rfl (.int .i64 ((j + 1 : Nat) : Int)) (fun _ => by kernel_rfl) ?_
    refine pl_nil ?_
    refine au_then ?_
    exact ⟨fun k_ => ([v1 2, undef, undef, undef, undef, undef, undef, undef, undef, undef, undef, undef, undef, undef, undef, undef, .int .i64 (j : Int), .int .i64 (n : Int), .bool true, .int .i64 (j : Int), .int .i64 ((j + 1 : Nat) : Int), .slice (some ⟨ga, 0, none⟩) n capa, .int .i64 (j : Int), .pointer (some ⟨ga, 0 + j, none⟩), .int .u64 (KF j), .int .i64 (j : Int), .pointer (some ⟨g1, j, none⟩), .int .u64 (KF j), .bool false] : List Value).getD (k_ - 2) undef, by kernel_rfl, M⟩
  · intro a u0 hI
    obtain ⟨v1, rfl, M⟩ := hI
    refine wp_seq ?_
    refine wp_seq ?_
    refine rg_lit ?_
    refine pl_val (want_no rfl) (some 18) rfl (.int .i64 (n : Int)) (fun _ => by kernel_rfl) ?_
    refine pl_val (want_no rfl) (some 19) rfl (.int .i64 (n : Int)) (fun _ => by kernel_rfl) ?_
    refine pl_val (want_no rfl) (some 20) rfl (.bool false) (fun w => Eq.trans (b := .ok (.value (.bool (decide (((n : Nat) : Int) < ((n : Nat) : Int))))) w) (by kernel_rfl) (by rw [decide_eq_false (by omega)])) ?_
    refine pl_nil ?_
    refine au_then ?_
    refine wp_cond_false (by kernel_rfl) ?_
    refine wp_exit ?_
    refine au_then_exit ?_
    refine au_then_exit ?_
    refine au_block_exit ?_
    refine au_then ?_
    refine wp_seq ?_
    refine rg_lit ?_
    refine pl_calls M (want_no rfl) (some 31) rfl 12 #[.int .i64 8, .bool false] 8 (vs64 (lst false (NR 8))) (fun _ => by kernel_rfl) (fun w M => c_roots 8 false (by decide) (by decide) w M.laid) ?_
    intro gb capb Zb u9 hZb M
    replace M : Mem ⟨w, none⟩ [⟨g1, .cells (av 80 (w64 KF)) 26⟩, ⟨g2, .cells (av 8 (w64 HB)) 28⟩, ⟨ga, Za⟩, ⟨gb, Zb⟩] u9 := M
    refine pl_val (want_no rfl) (some 8) rfl (.slice (some ⟨gb, 0, none⟩) 8 capb) (fun _ => by kernel_rfl) ?_
    refine pl_nil ?_
    refine au_then ?_
    refine wp_seq ?_
    refine wp_seq ?_
    refine rg_lit ?_
    refine pl_val (want_no rfl) (some 9) rfl (.int .i64 0) (fun _ => by kernel_rfl) ?_
    refine pl_nil ?_
    refine au_then ?_
    refine wp_block ?_
    refine au_loop (fun j a w' => ∃ v2 : Nat → Value, a = ⟨#[.int .i64 at_, undef, v2 2, .pointer (some ⟨g1, 0, none⟩), .pointer (some ⟨g2, 0, none⟩), .int .i64 (n : Int), .slice (some ⟨ga, 0, none⟩) n capa, .int .i64 (n : Int), .slice (some ⟨gb, 0, none⟩) 8 capb, .int .i64 (j : Int), .agg (av 80 (w64 KF)), .agg (av 8 (w64 HB)), .int .i64 at_, .int .i64 ((q : Nat) : Int), .int .i64 ((q % 80 : Nat) : Int), .int .i64 (n : Int), .int .i64 (n : Int), .slice (some ⟨ga, 0, none⟩) n capa, .int .i64 (n : Int), .int .i64 (n : Int), .bool false, v1 21, v1 22, v1 23, v1 24, v1 25, v1 26, v1 27, v1 28, v1 29, v1 30, .slice (some ⟨gb, 0, none⟩) 8 capb, v2 32, v2 33, v2 34, v2 35, v2 36, v2 37, v2 38, v2 39, v2 40, v2 41, v2 42, v2 43, undef], []⟩ ∧ Mem ⟨w, none⟩ [⟨g1, .cells (av 80 (w64 KF)) 26⟩, ⟨g2, .cells (av 8 (w64 HB)) 28⟩, ⟨ga, Za⟩, ⟨gb, Zb⟩] w') 8 ⟨fun k_ => ([v1 2, undef, undef, undef, undef, undef, undef, undef, undef, undef, undef, undef, undef, undef, undef, undef, undef, undef, undef, undef, undef, undef, undef, undef, undef, undef, undef, undef, undef, undef, undef, undef, undef, undef, undef, undef, undef, undef, undef, undef, undef, undef] : List Value).getD (k_ - 2) undef, by kernel_rfl, M⟩ ?_ ?_
    · intro j a u0 hj hI
      obtain ⟨v2, rfl, M⟩ := hI
      refine wp_seq ?_
      refine wp_seq ?_
      refine rg_lit ?_
      refine pl_val (want_no rfl) (some 32) rfl (.int .i64 (j : Int)) (fun _ => by kernel_rfl) ?_
      refine pl_val (want_no rfl) (some 33) rfl (.bool true) (fun w => Eq.trans (b := .ok (.value (.bool (decide ((j : Int) < 8)))) w) (by kernel_rfl) (by rw [decide_eq_true (by omega)])) ?_
      refine pl_nil ?_
      refine au_then ?_
      refine wp_cond_true (by kernel_rfl) ?_
      refine wp_skip ?_
      refine au_then ?_
      refine wp_seq ?_
      refine wp_block ?_
      refine wp_seq ?_
      refine rg_tail M 7 (by kernel_rfl) (by kernel_rfl) ?_
      simp only [List.take_succ_cons, List.take_zero]
      refine k_val (want_no rfl) (some 36) rfl (.slice (some ⟨gb, 0, none⟩) 8 capb) (fun _ => by kernel_rfl) ?_
      refine k_val (want_no rfl) (some 37) rfl (.int .i64 (j : Int)) (fun _ => by kernel_rfl) ?_
      refine k_val (want_no rfl) (some 38) rfl (.pointer (some ⟨gb, 0 + j, none⟩)) (run_ixL 30 25 Tryd.underlying30 inz25 _ _ rfl gb 0 8 capb (by kernel_rfl) .i64 j (by kernel_rfl) hj) ?_
      refine k_cell M (want_no rfl) (some 39) rfl 25 _ rfl gb (0 + j) (by kernel_rfl) (.int .u64 (HB j)) (fun _ => by kernel_rfl) (fun w M => by rw [Nat.zero_add]; exact hZb.cell (M.get 3 rfl) (square_at j hj)) ?_
      refine k_val (want_no rfl) (some 40) rfl (.int .i64 (j : Int)) (fun _ => by kernel_rfl) ?_
      refine k_val (want_no rfl) (some 41) rfl (.pointer (some ⟨g2, j, none⟩)) (run_ix1 28 8 25 Tryd.underlying28 inz25 _ _ rfl g2 (by kernel_rfl) .i64 (j) (by kernel_rfl) (by omega)) ?_
      refine k_cell M (want_no rfl) (some 42) rfl 25 _ rfl g2 j (by kernel_rfl) (.int .u64 (HB j)) (fun _ => by kernel_rfl) (fun w M => M.cell 1 rfl (by omega) rfl) ?_
      refine kl_nil ?_
      intro u10 M
      replace M : Mem ⟨w, none⟩ [⟨g1, .cells (av 80 (w64 KF)) 26⟩, ⟨g2, .cells (av 8 (w64 HB)) 28⟩, ⟨ga, Za⟩, ⟨gb, Zb⟩] u10 := M
      refine pl_val (want_no rfl) (some 43) rfl (.bool false) (fun w => Eq.trans (b := .ok (.value (.bool (!(decide (HB j = HB j))))) w) (by kernel_rfl) (by rw [decide_eq_true rfl]; rfl)) ?_
      refine pl_nil ?_
      refine au_then ?_
      refine wp_cond_false (by kernel_rfl) ?_
      refine wp_skip ?_
      refine au_block ?_
      refine au_then ?_
      refine rg_lit ?_
      refine pl_val (want_no rfl) (some 34) rfl (.int .i64 (j : Int)) (fun _ => by kernel_rfl) ?_
      refine pl_val (want_no rfl) (some 35) rfl (.int .i64 ((j + 1 : Nat) : Int)) (fun w => Eq.trans (b := .ok (.value (.int .i64 (IntKind.wrap .i64 ((j : Int) + 1)))) w) (by kernel_rfl) (by rw [wrap64 (by omega) (by omega)]; congr 3)) ?_
      refine pl_val (want_no rfl) (some 9) rfl (.int .i64 ((j + 1 : Nat) : Int)) (fun _ => by kernel_rfl) ?_
      refine pl_nil ?_
      refine au_then ?_
      exact ⟨fun k_ => ([v2 2, undef, undef, undef, undef, undef, undef, undef, undef, undef, undef, undef, undef, undef, undef, undef, undef, undef, undef, undef, undef, undef, undef, undef, undef, undef, undef, undef, undef, undef, .int .i64 (j : Int), .bool true, .int .i64 (j : Int), .int .i64 ((j + 1 : Nat) : Int), .slice (some ⟨gb, 0, none⟩) 8 capb, .int .i64 (j : Int), .pointer (some ⟨gb, 0 + j, none⟩), .int .u64 (HB j), .int .i64 (j : Int), .pointer (some ⟨g2, j, none⟩), .int .u64 (HB j), .bool false] : List Value).getD (k_ - 2) undef, by kernel_rfl, M⟩
    · intro a u0 hI
      obtain ⟨v2, rfl, M⟩ := hI
      refine wp_seq ?_
      refine wp_seq ?_
      refine rg_lit ?_
      refine pl_val (want_no rfl) (some 32) rfl (.int .i64 (8 : Int)) (fun _ => by kernel_rfl) ?_
      refine pl_val (want_no rfl) (some 33) rfl (.bool false) (fun w => Eq.trans (b := .ok (.value (.bool (decide ((8 : Int) < 8)))) w) (by kernel_rfl) (by rw [decide_eq_false (by omega)])) ?_
      refine pl_nil ?_
      refine au_then ?_
      refine wp_cond_false (by kernel_rfl) ?_
      refine wp_exit ?_
      refine au_then_exit ?_
      refine au_then_exit ?_
      refine au_block_exit ?_
      refine au_then ?_
      refine wp_seq ?_
      refine rg_lit ?_
      refine pl_call M (want_no rfl) (some 44) rfl 7 #[] (.bool true) (fun _ => by kernel_rfl) (fun w M => c_alive w M.laid) ?_
      intro u11 M
      refine pl_val (want_no rfl) (some 2) rfl (.bool true) (fun _ => by kernel_rfl) ?_
      refine pl_nil ?_
      refine au_then ?_
      refine wp_ret ?_
      exact bodyPost_ret (v := .bool true) (results_tmp1 Tryd.results4 _ _ _ (by kernel_rfl)) (by kernel_rfl) ⟨rfl, below_grown M.old⟩


end Go.Proofs.YtghobmgdadpplaaDoor
