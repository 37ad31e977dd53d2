/- Bytes are taken: the walk of take. -/
import Derived.Test.YtghobmgdadpplaaDoorD4
namespace Go.Proofs.YtghobmgdadpplaaDoor
open Go.RowKit

theorem rem128 (x : Int) (h0 : 0 ≤ x) (p : Nat) (hp : x % 128 = (p : Int)) : IntKind.wrap .i64 (Int.tmod x 128) = (p : Int) := by
  rw [Int.tmod_eq_emod_of_nonneg h0, hp, wrap64 (by omega) (by omega)]
theorem cv_u64 (n : Nat) (h : n < 18446744073709551616) : cv .u64 (n : Int) = (n : Int) := by
  unfold cv
  simp [IntKind.wrap, IntKind.signed, IntKind.bits]
  omega
theorem bt_extract (s : ByteArray) (k : Nat) (i : Nat) : bt (s.extract k s.size) i = bt s (k + i) := by
  unfold bt
  congr 2
  have e : (s.extract k s.size).data[i]? = s.data[k + i]? := by
    have hs : s.data.size = s.size := rfl
    rw [ByteArray.data_extract, Array.getElem?_extract]
    by_cases h : k + i < s.size
    · rw [if_pos (by omega)]
    · rw [if_neg (by omega), Array.getElem?_eq_none (by omega)]
  rw [e]
theorem size_extract (s : ByteArray) (k : Nat) : (s.extract k s.size).size = s.size - k := by simp [ByteArray.size_extract]
theorem extract_extract (s : ByteArray) (k q : Nat) (hk : k + q ≤ s.size) : (s.extract k s.size).extract q (s.extract k s.size).size = s.extract (k + q) s.size := by
  have hs : s.size = s.data.size := rfl
  apply ByteArray.ext
  rw [ByteArray.data_extract, ByteArray.data_extract, ByteArray.data_extract, size_extract]
  apply Array.ext_getElem?
  intro i
  rw [Array.getElem?_extract, Array.getElem?_extract, Array.getElem?_extract]
  by_cases h : k + q + i < s.size
  · rw [if_pos (by simp; omega), if_pos (by omega), if_pos (by omega), Nat.add_assoc]
  · rw [if_neg (by simp; omega), if_neg (by omega)]
theorem extract_all (s : ByteArray) : s.extract 0 s.size = s := by simp
theorem run_strl {P : Program} {a : Act} {o : Oper} (t : TypeId) (hu : P.underlying t = some .string) (x lo : Operand) (ho : o.op = .slice t x (some lo) none none) (s : ByteArray) (hx : a.eval x = .string s) (k : IntKind) (i : Nat) (hi : a.eval lo = .int k (i : Int)) (hle : i ≤ s.size) (v : ByteArray) (hv : s.extract i s.size = v) (w : World) :
    (execOp a.eval o).run P w = .ok (.value (.string v)) w := by
  subst hv
  unfold execOp
  simp [ho, hx, hi, run_sliceAt_string w t (.string s) (some (.int k i)) none none hu, run_slice_string_l w t s hu k i (by omega) (by omega)]

set_option maxRecDepth 100000 in
set_option maxHeartbeats 4000000 in
theorem c_take (H : HS) (hH : H.ok) (g : Nat) (s : ByteArray) (w : World) (hL : Laid w) (hg : w.heap[g]? = some (.cells (av 138 (hF true H.ws H.rs H.ct)) 47)) (h0 : g ≠ 0) :
    Calls Tryd.prog 16 #[.pointer (some ⟨g, 0, none⟩), .string s] w fun r w' => r = .returned (.tuple #[]) ∧ w.grownBy w' (some g) ∧ w'.heap[g]? = some (.cells (av 138 (hF true (tk H s s.size).ws (tk H s s.size).rs (tk H s s.size).ct)) 47) := by
  go_enter Tryd.func16, Tryd.ntmps16
  have M := Mem.startp hL hg h0
  refine wp_block ?_
  refine wp_loop_ghost (fun n a w' => ∃ (v : Nat → Value) (k : Nat) (rem : ByteArray), k + n = s.size ∧ rem = s.extract k s.size ∧ a = ⟨#[.pointer (some ⟨g, 0, none⟩), .string rem, undef, undef, v 4, v 5, v 6, v 7, v 8, v 9, v 10, v 11, v 12, v 13, v 14, v 15, v 16, v 17, v 18, v 19, v 20, v 21, v 22, v 23, v 24, v 25, v 26, v 27, v 28, v 29, v 30, v 31, v 32, v 33, v 34, v 35, v 36, v 37, v 38, v 39, v 40, v 41, v 42, v 43, v 44, v 45, v 46, v 47, v 48, v 49], []⟩ ∧ Mem ⟨w, some g⟩ [⟨g, .cells (av 138 (hF true (tk H s k).ws (tk H s k).rs (tk H s k).ct)) 47⟩] w') s.size ⟨fun _ => undef, 0, s, by omega, (extract_all s).symm, by kernel_rfl, M⟩ ?_
  intro n a u0 hI
  obtain ⟨v, k, rem, hk, hrem, rfl, M⟩ := hI
  have hsz : rem.size = n := by rw [hrem, size_extract]; omega
  obtain ⟨G, hG⟩ : ∃ G, G = tk H s k := ⟨_, rfl⟩
  have hok : G.ok := by rw [hG]; exact tk_ok hH s k
  rw [← hG] at M
  rcases Nat.eq_zero_or_pos n with hn | hn
  · skip
    refine wp_seq ?_
    refine wp_seq ?_
    refine rg_lit ?_
    refine pl_val (want_no rfl) (some 6) rfl (.string rem) (fun _ => by kernel_rfl) ?_
    refine pl_val (want_no rfl) (some 7) rfl (.int .i64 (rem.size : Int)) (fun _ => by kernel_rfl) ?_
    refine pl_val (want_no rfl) (some 8) rfl (.bool false) (fun w => Eq.trans (b := .ok (.value (.bool (decide ((0 : Int) < (rem.size : Int))))) w) (by kernel_rfl) (by rw [decide_eq_false (by omega)])) ?_
    refine pl_nil ?_
    refine au_then ?_
    refine wp_cond_false (by kernel_rfl) ?_
    refine wp_exit ?_
    refine au_then_exit ?_
    refine au_then_exit ?_
    refine au_block_exit ?_
    have ek : k = s.size := by omega
    rw [hG, ek] at M
    exact bodyPost_end (v := .tuple #[]) (results_none Tryd.results16 _ _) (by kernel_rfl) ⟨rfl, M.old, M.get 0 rfl⟩
  have hp : ∃ p : Nat, G.ct % 128 = (p : Int) ∧ p < 128 := ⟨(G.ct % 128).toNat, by unfold HS.ok at hok; omega, by omega⟩
  obtain ⟨p, hp, hp1⟩ := hp
  obtain ⟨q, hq⟩ : ∃ q, q = Nat.min rem.size (128 - p) := ⟨_, rfl⟩
  have hq1 : q ≤ n := by rw [hq, hsz]; exact Nat.min_le_left _ _
  have hq2 : q ≤ 128 - p := by rw [hq]; exact Nat.min_le_right _ _
  have hq3 : 0 < q := by rw [hq, hsz]; exact Nat.lt_min.2 ⟨hn, by omega⟩
  have hrun := tk_run H hH s k p rem (fun i => by rw [hrem, bt_extract]) (by rw [← hG]; exact hp) q (by omega)
  rw [← hG] at hrun
  obtain ⟨e1, e2, e3⟩ := hrun
  have hct : ua G.ct (cv .u64 (q : Int)) = (tk H s (k + q)).ct := by rw [e2, cv_u64 q (by omega)]
  by_cases hf : p + q = 128
  · skip
    refine wp_seq ?_
    refine wp_seq ?_
    refine rg_lit ?_
    refine pl_val (want_no rfl) (some 6) rfl (.string rem) (fun _ => by kernel_rfl) ?_
    refine pl_val (want_no rfl) (some 7) rfl (.int .i64 (rem.size : Int)) (fun _ => by kernel_rfl) ?_
    refine pl_val (want_no rfl) (some 8) rfl (.bool true) (fun w => Eq.trans (b := .ok (.value (.bool (decide ((0 : Int) < (rem.size : Int))))) w) (by kernel_rfl) (by rw [decide_eq_true (by omega)])) ?_
    refine pl_nil ?_
    refine au_then ?_
    refine wp_cond_true (by kernel_rfl) ?_
    refine wp_skip ?_
    refine au_then ?_
    refine wp_block ?_
    refine wp_seq ?_
    refine rg_lit ?_
    refine pl_val (want_no rfl) (some 9) rfl (.pointer (some ⟨g, 0, none⟩)) (fun _ => by kernel_rfl) ?_
    refine pl_val (want_no rfl) (some 10) rfl (.pointer (some ⟨g, 0, none⟩)) (fun _ => by kernel_rfl) ?_
    refine pl_val (want_no rfl) (some 11) rfl (.pointer (some ⟨g, 137, none⟩)) (fun _ => by kernel_rfl) ?_
    refine pl_cell M (want_no rfl) (some 12) rfl 25 _ rfl g 137 (by kernel_rfl) (.int .u64 G.ct) (fun _ => by kernel_rfl) (fun w M => M.cell 0 rfl (by decide) rfl) ?_
    refine pl_val (want_no rfl) (some 13) rfl (.int .u64 (Int.tmod G.ct 128)) (fun _ => by kernel_rfl) ?_
    refine pl_val (want_no rfl) (some 14) rfl (.int .i64 (p : Int)) (fun w => Eq.trans (b := .ok (.value (.int .i64 (IntKind.wrap .i64 (Int.tmod G.ct 128)))) w) (by kernel_rfl) (by rw [rem128 G.ct hok.1 p hp])) ?_
    refine pl_val (want_no rfl) (some 4) rfl (.int .i64 (p : Int)) (fun _ => by kernel_rfl) ?_
    refine pl_nil ?_
    refine au_then ?_
    refine wp_seq ?_
    refine rg_lit ?_
    refine pl_val (want_no rfl) (some 15) rfl (.pointer (some ⟨g, 0, none⟩)) (fun _ => by kernel_rfl) ?_
    refine pl_val (want_no rfl) (some 16) rfl (.pointer (some ⟨g, 0, none⟩)) (fun _ => by kernel_rfl) ?_
    refine pl_val (want_no rfl) (some 17) rfl (.pointer (some ⟨g, 9, none⟩)) (fun _ => by kernel_rfl) ?_
    refine pl_val (want_no rfl) (some 18) rfl (.int .i64 (p : Int)) (fun _ => by kernel_rfl) ?_
    refine pl_val (want_no rfl) (some 19) rfl (.slice (some ⟨g, (9 + p), none⟩) (128 - p) (128 - p)) (run_slA 45 128 5 Tryd.underlying45 inz5 _ _ rfl g 9 (by kernel_rfl) .i64 p (by kernel_rfl) hp1) ?_
    refine pl_val (want_no rfl) (some 20) rfl (.string rem) (fun _ => by kernel_rfl) ?_
    refine pl_copyS M (want_no rfl) (some 21) rfl 41 9 3 5 Tryd.underlying41 inz5 0 g 138 47 (hF true G.ws G.rs G.ct) rfl (9 + p) (128 - p) (128 - p) rem q hq (by omega) (hF true G.ws (cpy G.rs p q rem) G.ct) (hF_cpy true G.ws G.rs G.ct p q rem (by omega)) (fun _ => by kernel_rfl) ?_
    intro u1 M
    replace M : Mem ⟨w, some g⟩ [⟨g, .cells (av 138 (hF true G.ws (cpy G.rs p q rem) G.ct)) 47⟩] u1 := M
    refine pl_val (want_no rfl) (some 5) rfl (.int .i64 (q : Int)) (fun _ => by kernel_rfl) ?_
    refine pl_nil ?_
    refine au_then ?_
    refine wp_seq ?_
    refine rg_lit ?_
    refine pl_val (want_no rfl) (some 22) rfl (.pointer (some ⟨g, 0, none⟩)) (fun _ => by kernel_rfl) ?_
    refine pl_val (want_no rfl) (some 23) rfl (.pointer (some ⟨g, 0, none⟩)) (fun _ => by kernel_rfl) ?_
    refine pl_val (want_no rfl) (some 24) rfl (.pointer (some ⟨g, 137, none⟩)) (fun _ => by kernel_rfl) ?_
    refine pl_cell M (want_no rfl) (some 25) rfl 25 _ rfl g 137 (by kernel_rfl) (.int .u64 G.ct) (fun _ => by kernel_rfl) (fun w M => M.cell 0 rfl (by decide) rfl) ?_
    refine pl_val (want_no rfl) (some 26) rfl (.int .i64 (q : Int)) (fun _ => by kernel_rfl) ?_
    refine pl_val (want_no rfl) (some 27) rfl (.int .u64 (cv .u64 (q : Int))) (fun _ => by kernel_rfl) ?_
    refine pl_val (want_no rfl) (some 28) rfl (.int .u64 (ua G.ct (cv .u64 (q : Int)))) (fun _ => by kernel_rfl) ?_
    refine pl_val (want_no rfl) (some 29) rfl (.pointer (some ⟨g, 0, none⟩)) (fun _ => by kernel_rfl) ?_
    refine pl_val (want_no rfl) (some 30) rfl (.pointer (some ⟨g, 137, none⟩)) (fun _ => by kernel_rfl) ?_
    refine pl_put1 M (want_no rfl) rfl 25 _ _ rfl 0 g 137 (by kernel_rfl) 138 47 (hF true G.ws (cpy G.rs p q rem) G.ct) rfl (.int .u64 (ua G.ct (cv .u64 (q : Int)))) (hF true G.ws (cpy G.rs p q rem) (ua G.ct (cv .u64 (q : Int)))) (by kernel_rfl) inz25 (by decide) rfl rfl (hF_putc true G.ws (cpy G.rs p q rem) G.ct (ua G.ct (cv .u64 (q : Int)))) ?_
    intro u2 M
    replace M : Mem ⟨w, some g⟩ [⟨g, .cells (av 138 (hF true G.ws (cpy G.rs p q rem) (ua G.ct (cv .u64 (q : Int))))) 47⟩] u2 := M
    refine pl_nil ?_
    refine au_then ?_
    refine wp_seq ?_
    refine rg_lit ?_
    refine pl_val (want_no rfl) (some 31) rfl (.string rem) (fun _ => by kernel_rfl) ?_
    refine pl_val (want_no rfl) (some 32) rfl (.int .i64 (q : Int)) (fun _ => by kernel_rfl) ?_
    refine pl_val (want_no rfl) (some 33) rfl (.string (s.extract (k + q) s.size)) (run_strl 9 Tryd.underlying9 _ _ rfl rem (by kernel_rfl) .i64 q (by kernel_rfl) (by omega) _ (by rw [hrem]; exact extract_extract s k q (by omega))) ?_
    refine pl_val (want_no rfl) (some 1) rfl (.string (s.extract (k + q) s.size)) (fun _ => by kernel_rfl) ?_
    refine pl_nil ?_
    refine au_then ?_
    refine wp_seq ?_
    refine rg_lit ?_
    refine pl_val (want_no rfl) (some 34) rfl (.int .i64 (p : Int)) (fun _ => by kernel_rfl) ?_
    refine pl_val (want_no rfl) (some 35) rfl (.int .i64 (q : Int)) (fun _ => by kernel_rfl) ?_
    refine pl_val (want_no rfl) (some 36) rfl (.int .i64 ((p + q : Nat) : Int)) (fun w => Eq.trans (b := .ok (.value (.int .i64 (IntKind.wrap .i64 ((p : Int) + (q : Int))))) w) (by kernel_rfl) (by rw [wrap64 (by omega) (by omega)]; congr 3)) ?_
    refine pl_val (want_no rfl) (some 37) rfl (.bool true) (fun w => Eq.trans (b := .ok (.value (.bool (decide (((p + q : Nat) : Int) = 128)))) w) (by kernel_rfl) (by rw [decide_eq_true (by omega)])) ?_
    refine pl_nil ?_
    refine au_then ?_
    refine wp_cond_true (by kernel_rfl) ?_
    refine rg_tail M 12 (by kernel_rfl) (by kernel_rfl) ?_
    simp only [List.take_succ_cons, List.take_zero]
    refine k_val (want_no rfl) (some 38) rfl (.pointer (some ⟨g, 0, none⟩)) (fun _ => by kernel_rfl) ?_
    refine k_val (want_no rfl) (some 39) rfl (.pointer (some ⟨g, 0, none⟩)) (fun _ => by kernel_rfl) ?_
    refine k_val (want_no rfl) (some 40) rfl (.pointer (some ⟨g, 0, none⟩)) (fun _ => by kernel_rfl) ?_
    refine k_val (want_no rfl) (some 41) rfl (.pointer (some ⟨g, 1, none⟩)) (fun _ => by kernel_rfl) ?_
    refine k_load M (want_no rfl) (some 42) rfl 28 _ rfl 0 g 1 (by kernel_rfl) 138 47 (hF true G.ws (cpy G.rs p q rem) (ua G.ct (cv .u64 (q : Int)))) rfl 8 (w64 G.ws) (hF_words true G.ws (cpy G.rs p q rem) (ua G.ct (cv .u64 (q : Int)))) (by decide) _ Tryd.underlying28 rfl inz28 ?_
    refine k_val (want_no rfl) (some 43) rfl (.pointer (some ⟨g, 0, none⟩)) (fun _ => by kernel_rfl) ?_
    refine k_val (want_no rfl) (some 44) rfl (.pointer (some ⟨g, 0, none⟩)) (fun _ => by kernel_rfl) ?_
    refine k_val (want_no rfl) (some 45) rfl (.pointer (some ⟨g, 9, none⟩)) (fun _ => by kernel_rfl) ?_
    refine k_load M (want_no rfl) (some 46) rfl 45 _ rfl 0 g 9 (by kernel_rfl) 138 47 (hF true G.ws (cpy G.rs p q rem) (ua G.ct (cv .u64 (q : Int)))) rfl 128 (w8 (cpy G.rs p q rem)) (hF_rest true G.ws (cpy G.rs p q rem) (ua G.ct (cv .u64 (q : Int)))) (by decide) _ Tryd.underlying45 rfl inz45 ?_
    refine k_call M (want_no rfl) (some 47) rfl 22 #[.agg (av 8 (w64 G.ws)), .agg (av 128 (w8 (cpy G.rs p q rem)))] (.agg (av 8 (w64 (mixV G.ws (cpy G.rs p q rem))))) (fun _ => by kernel_rfl) (fun w M => c_mixed _ _ w M.laid) ?_
    refine k_val (want_no rfl) (some 48) rfl (.pointer (some ⟨g, 0, none⟩)) (fun _ => by kernel_rfl) ?_
    refine k_val (want_no rfl) (some 49) rfl (.pointer (some ⟨g, 1, none⟩)) (fun _ => by kernel_rfl) ?_
    refine kl_nil ?_
    intro u3 M
    replace M : Mem ⟨w, some g⟩ [⟨g, .cells (av 138 (hF true G.ws (cpy G.rs p q rem) (ua G.ct (cv .u64 (q : Int))))) 47⟩] u3 := M
    refine pl_put M (want_no rfl) rfl 28 _ _ rfl 0 g 1 (by kernel_rfl) 138 47 (hF true G.ws (cpy G.rs p q rem) (ua G.ct (cv .u64 (q : Int)))) rfl 8 (w64 (mixV G.ws (cpy G.rs p q rem))) (hF true (mixV G.ws (cpy G.rs p q rem)) (cpy G.rs p q rem) (ua G.ct (cv .u64 (q : Int)))) (by kernel_rfl) inz28 (by decide) (fun _ _ => rfl) (hF_putw true G.ws (cpy G.rs p q rem) (ua G.ct (cv .u64 (q : Int))) (mixV G.ws (cpy G.rs p q rem))) ?_
    intro u4 M
    replace M : Mem ⟨w, some g⟩ [⟨g, .cells (av 138 (hF true (mixV G.ws (cpy G.rs p q rem)) (cpy G.rs p q rem) (ua G.ct (cv .u64 (q : Int))))) 47⟩] u4 := M
    refine pl_nil ?_
    refine au_block ?_
    refine au_then ?_
    have E : hF true (mixV G.ws (cpy G.rs p q rem)) (cpy G.rs p q rem) (ua G.ct (cv .u64 (q : Int))) = hF true (tk H s (k + q)).ws (tk H s (k + q)).rs (tk H s (k + q)).ct := by rw [e1, e3, if_pos ⟨by omega, hf⟩, hct]
    rw [E] at M
    exact ⟨n - q, by omega, fun k_ => ([.int .i64 (p : Int), .int .i64 (q : Int), .string rem, .int .i64 (rem.size : Int), .bool true, .pointer (some ⟨g, 0, none⟩), .pointer (some ⟨g, 0, none⟩), .pointer (some ⟨g, 137, none⟩), .int .u64 G.ct, .int .u64 (Int.tmod G.ct 128), .int .i64 (p : Int), .pointer (some ⟨g, 0, none⟩), .pointer (some ⟨g, 0, none⟩), .pointer (some ⟨g, 9, none⟩), .int .i64 (p : Int), .slice (some ⟨g, (9 + p), none⟩) (128 - p) (128 - p), .string rem, .int .i64 (q : Int), .pointer (some ⟨g, 0, none⟩), .pointer (some ⟨g, 0, none⟩), .pointer (some ⟨g, 137, none⟩), .int .u64 G.ct, .int .i64 (q : Int), .int .u64 (cv .u64 (q : Int)), .int .u64 (ua G.ct (cv .u64 (q : Int))), .pointer (some ⟨g, 0, none⟩), .pointer (some ⟨g, 137, none⟩), .string rem, .int .i64 (q : Int), .string (s.extract (k + q) s.size), .int .i64 (p : Int), .int .i64 (q : Int), .int .i64 ((p + q : Nat) : Int), .bool true, .pointer (some ⟨g, 0, none⟩), .pointer (some ⟨g, 0, none⟩), .pointer (some ⟨g, 0, none⟩), .pointer (some ⟨g, 1, none⟩), .agg (av 8 (w64 G.ws)), .pointer (some ⟨g, 0, none⟩), .pointer (some ⟨g, 0, none⟩), .pointer (some ⟨g, 9, none⟩), .agg (av 128 (w8 (cpy G.rs p q rem))), .agg (av 8 (w64 (mixV G.ws (cpy G.rs p q rem)))), .pointer (some ⟨g, 0, none⟩), .pointer (some ⟨g, 1, none⟩)] : List Value).getD (k_ - 4) undef, k + q, s.extract (k + q) s.size, by omega, rfl, by kernel_rfl, M⟩
  · skip
    refine wp_seq ?_
    refine wp_seq ?_
    refine rg_lit ?_
    refine pl_val (want_no rfl) (some 6) rfl (.string rem) (fun _ => by kernel_rfl) ?_
    refine pl_val (want_no rfl) (some 7) rfl (.int .i64 (rem.size : Int)) (fun _ => by kernel_rfl) ?_
    refine pl_val (want_no rfl) (some 8) rfl (.bool true) (fun w => Eq.trans (b := .ok (.value (.bool (decide ((0 : Int) < (rem.size : Int))))) w) (by kernel_rfl) (by rw [decide_eq_true (by omega)])) ?_
    refine pl_nil ?_
    refine au_then ?_
    refine wp_cond_true (by kernel_rfl) ?_
    refine wp_skip ?_
    refine au_then ?_
    refine wp_block ?_
    refine wp_seq ?_
    refine rg_lit ?_
    refine pl_val (want_no rfl) (some 9) rfl (.pointer (some ⟨g, 0, none⟩)) (fun _ => by kernel_rfl) ?_
    refine pl_val (want_no rfl) (some 10) rfl (.pointer (some ⟨g, 0, none⟩)) (fun _ => by kernel_rfl) ?_
    refine pl_val (want_no rfl) (some 11) rfl (.pointer (some ⟨g, 137, none⟩)) (fun _ => by kernel_rfl) ?_
    refine pl_cell M (want_no rfl) (some 12) rfl 25 _ rfl g 137 (by kernel_rfl) (.int .u64 G.ct) (fun _ => by kernel_rfl) (fun w M => M.cell 0 rfl (by decide) rfl) ?_
    refine pl_val (want_no rfl) (some 13) rfl (.int .u64 (Int.tmod G.ct 128)) (fun _ => by kernel_rfl) ?_
    refine pl_val (want_no rfl) (some 14) rfl (.int .i64 (p : Int)) (fun w => Eq.trans (b := .ok (.value (.int .i64 (IntKind.wrap .i64 (Int.tmod G.ct 128)))) w) (by kernel_rfl) (by rw [rem128 G.ct hok.1 p hp])) ?_
    refine pl_val (want_no rfl) (some 4) rfl (.int .i64 (p : Int)) (fun _ => by kernel_rfl) ?_
    refine pl_nil ?_
    refine au_then ?_
    refine wp_seq ?_
    refine rg_lit ?_
    refine pl_val (want_no rfl) (some 15) rfl (.pointer (some ⟨g, 0, none⟩)) (fun _ => by kernel_rfl) ?_
    refine pl_val (want_no rfl) (some 16) rfl (.pointer (some ⟨g, 0, none⟩)) (fun _ => by kernel_rfl) ?_
    refine pl_val (want_no rfl) (some 17) rfl (.pointer (some ⟨g, 9, none⟩)) (fun _ => by kernel_rfl) ?_
    refine pl_val (want_no rfl) (some 18) rfl (.int .i64 (p : Int)) (fun _ => by kernel_rfl) ?_
    refine pl_val (want_no rfl) (some 19) rfl (.slice (some ⟨g, (9 + p), none⟩) (128 - p) (128 - p)) (run_slA 45 128 5 Tryd.underlying45 inz5 _ _ rfl g 9 (by kernel_rfl) .i64 p (by kernel_rfl) hp1) ?_
    refine pl_val (want_no rfl) (some 20) rfl (.string rem) (fun _ => by kernel_rfl) ?_
    refine pl_copyS M (want_no rfl) (some 21) rfl 41 9 3 5 Tryd.underlying41 inz5 0 g 138 47 (hF true G.ws G.rs G.ct) rfl (9 + p) (128 - p) (128 - p) rem q hq (by omega) (hF true G.ws (cpy G.rs p q rem) G.ct) (hF_cpy true G.ws G.rs G.ct p q rem (by omega)) (fun _ => by kernel_rfl) ?_
    intro u5 M
    replace M : Mem ⟨w, some g⟩ [⟨g, .cells (av 138 (hF true G.ws (cpy G.rs p q rem) G.ct)) 47⟩] u5 := M
    refine pl_val (want_no rfl) (some 5) rfl (.int .i64 (q : Int)) (fun _ => by kernel_rfl) ?_
    refine pl_nil ?_
    refine au_then ?_
    refine wp_seq ?_
    refine rg_lit ?_
    refine pl_val (want_no rfl) (some 22) rfl (.pointer (some ⟨g, 0, none⟩)) (fun _ => by kernel_rfl) ?_
    refine pl_val (want_no rfl) (some 23) rfl (.pointer (some ⟨g, 0, none⟩)) (fun _ => by kernel_rfl) ?_
    refine pl_val (want_no rfl) (some 24) rfl (.pointer (some ⟨g, 137, none⟩)) (fun _ => by kernel_rfl) ?_
    refine pl_cell M (want_no rfl) (some 25) rfl 25 _ rfl g 137 (by kernel_rfl) (.int .u64 G.ct) (fun _ => by kernel_rfl) (fun w M => M.cell 0 rfl (by decide) rfl) ?_
    refine pl_val (want_no rfl) (some 26) rfl (.int .i64 (q : Int)) (fun _ => by kernel_rfl) ?_
    refine pl_val (want_no rfl) (some 27) rfl (.int .u64 (cv .u64 (q : Int))) (fun _ => by kernel_rfl) ?_
    refine pl_val (want_no rfl) (some 28) rfl (.int .u64 (ua G.ct (cv .u64 (q : Int)))) (fun _ => by kernel_rfl) ?_
    refine pl_val (want_no rfl) (some 29) rfl (.pointer (some ⟨g, 0, none⟩)) (fun _ => by kernel_rfl) ?_
    refine pl_val (want_no rfl) (some 30) rfl (.pointer (some ⟨g, 137, none⟩)) (fun _ => by kernel_rfl) ?_
    refine pl_put1 M (want_no rfl) rfl 25 _ _ rfl 0 g 137 (by kernel_rfl) 138 47 (hF true G.ws (cpy G.rs p q rem) G.ct) rfl (.int .u64 (ua G.ct (cv .u64 (q : Int)))) (hF true G.ws (cpy G.rs p q rem) (ua G.ct (cv .u64 (q : Int)))) (by kernel_rfl) inz25 (by decide) rfl rfl (hF_putc true G.ws (cpy G.rs p q rem) G.ct (ua G.ct (cv .u64 (q : Int)))) ?_
    intro u6 M
    replace M : Mem ⟨w, some g⟩ [⟨g, .cells (av 138 (hF true G.ws (cpy G.rs p q rem) (ua G.ct (cv .u64 (q : Int))))) 47⟩] u6 := M
    refine pl_nil ?_
    refine au_then ?_
    refine wp_seq ?_
    refine rg_lit ?_
    refine pl_val (want_no rfl) (some 31) rfl (.string rem) (fun _ => by kernel_rfl) ?_
    refine pl_val (want_no rfl) (some 32) rfl (.int .i64 (q : Int)) (fun _ => by kernel_rfl) ?_
    refine pl_val (want_no rfl) (some 33) rfl (.string (s.extract (k + q) s.size)) (run_strl 9 Tryd.underlying9 _ _ rfl rem (by kernel_rfl) .i64 q (by kernel_rfl) (by omega) _ (by rw [hrem]; exact extract_extract s k q (by omega))) ?_
    refine pl_val (want_no rfl) (some 1) rfl (.string (s.extract (k + q) s.size)) (fun _ => by kernel_rfl) ?_
    refine pl_nil ?_
    refine au_then ?_
    refine wp_seq ?_
    refine rg_lit ?_
    refine pl_val (want_no rfl) (some 34) rfl (.int .i64 (p : Int)) (fun _ => by kernel_rfl) ?_
    refine pl_val (want_no rfl) (some 35) rfl (.int .i64 (q : Int)) (fun _ => by kernel_rfl) ?_
    refine pl_val (want_no rfl) (some 36) rfl (.int .i64 ((p + q : Nat) : Int)) (fun w => Eq.trans (b := .ok (.value (.int .i64 (IntKind.wrap .i64 ((p : Int) + (q : Int))))) w) (by kernel_rfl) (by rw [wrap64 (by omega) (by omega)]; congr 3)) ?_
    refine pl_val (want_no rfl) (some 37) rfl (.bool false) (fun w => Eq.trans (b := .ok (.value (.bool (decide (((p + q : Nat) : Int) = 128)))) w) (by kernel_rfl) (by rw [decide_eq_false (by omega)])) ?_
    refine pl_nil ?_
    refine au_then ?_
    refine wp_cond_false (by kernel_rfl) ?_
    refine wp_skip ?_
    refine au_block ?_
    refine au_then ?_
    have E : hF true G.ws (cpy G.rs p q rem) (ua G.ct (cv .u64 (q : Int))) = hF true (tk H s (k + q)).ws (tk H s (k + q)).rs (tk H s (k + q)).ct := by rw [e1, e3, if_neg (fun h => hf h.2), hct]
    rw [E] at M
    exact ⟨n - q, by omega, fun k_ => ([.int .i64 (p : Int), .int .i64 (q : Int), .string rem, .int .i64 (rem.size : Int), .bool true, .pointer (some ⟨g, 0, none⟩), .pointer (some ⟨g, 0, none⟩), .pointer (some ⟨g, 137, none⟩), .int .u64 G.ct, .int .u64 (Int.tmod G.ct 128), .int .i64 (p : Int), .pointer (some ⟨g, 0, none⟩), .pointer (some ⟨g, 0, none⟩), .pointer (some ⟨g, 9, none⟩), .int .i64 (p : Int), .slice (some ⟨g, (9 + p), none⟩) (128 - p) (128 - p), .string rem, .int .i64 (q : Int), .pointer (some ⟨g, 0, none⟩), .pointer (some ⟨g, 0, none⟩), .pointer (some ⟨g, 137, none⟩), .int .u64 G.ct, .int .i64 (q : Int), .int .u64 (cv .u64 (q : Int)), .int .u64 (ua G.ct (cv .u64 (q : Int))), .pointer (some ⟨g, 0, none⟩), .pointer (some ⟨g, 137, none⟩), .string rem, .int .i64 (q : Int), .string (s.extract (k + q) s.size), .int .i64 (p : Int), .int .i64 (q : Int), .int .i64 ((p + q : Nat) : Int), .bool false, v 38, v 39, v 40, v 41, v 42, v 43, v 44, v 45, v 46, v 47, v 48, v 49] : List Value).getD (k_ - 4) undef, k + q, s.extract (k + q) s.size, by omega, rfl, by kernel_rfl, M⟩


end Go.Proofs.YtghobmgdadpplaaDoor
