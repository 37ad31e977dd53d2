/- Part 2 of the walks and facts. -/
import Derived.Test.YtmhfmhmpoobmlaaGreatDoorCbDef
import Derived.Test.YtmhfmhmpoobmlaaGreatDoorCb1
import Derived.BigQuiet
import Derived.Laws.Rows
import Derived.Shelf.Strings.Repeat
import Derived.StillTail
import Derived.Test.YtmhfmhmpoobmlaaGreatDoorProg
import Derived.WalkKit
import Derived.WalkLawsBesides
import Derived.WalkSpells
set_option maxHeartbeats 4000000
set_option maxRecDepth 100000
namespace Go.Proofs.YtmhfmhmpoobmlaaGreatDoor.Sha
open Go.RowKit
theorem rem128 (x : Int) (h0 : 0 ≤ x) (p : Nat) (hp : x % 128 = (p : Int)) : IntKind.wrap .i64 (Int.tmod x 128) = (p : Int) := by
 rw [Int.tmod_eq_emod_of_nonneg h0, hp, wrap64 (by omega) (by omega)]
theorem cv_u64 (n : Nat) (h : n < 18446744073709551616) : cv .u64 (n : Int) = (n : Int) := by
 unfold cv
 simp [IntKind.wrap, IntKind.signed, IntKind.bits]
 omega
theorem bt_extract (s : ByteArray) (k : Nat) (i : Nat) : bt (s.extract k s.size) i = bt s (k + i) := by
 unfold bt
 congr 2
 have e : (s.extract k s.size).data[i]? = s.data[k + i]? := by
  have hs : s.data.size = s.size := rfl
  rw [ByteArray.data_extract, Array.getElem?_extract]
  by_cases h : k + i < s.size
  ·rw [if_pos (by omega)]
  ·rw [if_neg (by omega), Array.getElem?_eq_none (by omega)]
 rw [e]
theorem size_extract (s : ByteArray) (k : Nat) : (s.extract k s.size).size = s.size - k := by simp [ByteArray.size_extract]
theorem extract_extract (s : ByteArray) (k q : Nat) (hk : k + q ≤ s.size) : (s.extract k s.size).extract q (s.extract k s.size).size = s.extract (k + q) s.size := by
 have hs : s.size = s.data.size := rfl
 apply ByteArray.ext
 rw [ByteArray.data_extract, ByteArray.data_extract, ByteArray.data_extract, size_extract]
 apply Array.ext_getElem?
 intro i
 rw [Array.getElem?_extract, Array.getElem?_extract, Array.getElem?_extract]
 by_cases h : k + q + i < s.size
 ·rw [if_pos (by simp; omega), if_pos (by omega), if_pos (by omega), Nat.add_assoc]
 ·rw [if_neg (by simp; omega), if_neg (by omega)]
theorem extract_all (s : ByteArray) : s.extract 0 s.size = s := by simp
theorem run_strl {P : Program} {a : Act} {o : Oper} (t : TypeId) (hu : P.underlying t = some .string) (x lo : Operand) (ho : o.op = .slice t x (some lo) none none) (s : ByteArray) (hx : a.eval x = .string s) (k : IntKind) (i : Nat) (hi : a.eval lo = .int k (i : Int)) (hle : i ≤ s.size) (v : ByteArray) (hv : s.extract i s.size = v) (w : World) :
  (execOp a.eval o).run P w = .ok (.value (.string v)) w := by
 subst hv
 unfold execOp
 simp [ho, hx, hi, run_sliceAt_string w t (.string s) (some (.int k i)) none none hu, run_slice_string_l w t s hu k i (by omega) (by omega)]
theorem c_take (H : HS) (hH : H.ok) (g : Nat) (s : ByteArray) (w : World) (hL : Laid w) (hg : w.heap[g]? = some (.cells (av 138 (hF true H.ws H.rs H.ct)) 125)) (h0 : g ≠ 0) :
  Calls Tryz.prog 96 #[.pointer (some ⟨g, 0, none⟩), .string s] w fun r w' => r = .returned (.tuple #[]) ∧ Grw w w' [g] ∧ w'.heap[g]? = some (.cells (av 138 (hF true (tk H s s.size).ws (tk H s s.size).rs (tk H s s.size).ct)) 125) := by
 go_enter Tryz.func96, Tryz.ntmps96
 have M := Mem.startp hL hg h0
 refine wp_block ?_
 refine wp_loop_ghost (fun n a w' => ∃ (v : Nat → Value) (k : Nat) (rem : ByteArray), k + n = s.size ∧ rem = s.extract k s.size ∧ a = ⟨#[.pointer (some ⟨g, 0, none⟩), .string rem, undef, undef, v 4, v 5, v 6, v 7, v 8, v 9, v 10, v 11, v 12, v 13, v 14, v 15, v 16, v 17, v 18, v 19, v 20, v 21, v 22, v 23, v 24, v 25, v 26, v 27, v 28, v 29, v 30, v 31, v 32, v 33, v 34, v 35, v 36, v 37, v 38, v 39, v 40, v 41, v 42, v 43, v 44, v 45, v 46, v 47, v 48, v 49], []⟩ ∧ Mem ⟨w, [g]⟩ [⟨g, .cells (av 138 (hF true (tk H s k).ws (tk H s k).rs (tk H s k).ct)) 125⟩] w') s.size ⟨fun _ => undef, 0, s, by omega, (extract_all s).symm, by kernel_rfl, M⟩ ?_
 intro n a u0 hI
 obtain ⟨v, k, rem, hk, hrem, rfl, M⟩ := hI
 have hsz : rem.size = n := by rw [hrem, size_extract]; omega
 obtain ⟨G, hG⟩ : ∃ G, G = tk H s k := ⟨_, rfl⟩
 have hok : G.ok := by rw [hG]; exact tk_ok hH s k
 rw [← hG] at M
 rcases Nat.eq_zero_or_pos n with hn | hn
 ·skip
  refine wp_seq ?_
  refine sR ?_
  refine pV 6 (.string rem) ?_
  refine pV 7 (.int .i64 (rem.size : Int)) ?_
  refine pH 8 (.bool false) (dF ((0 : Int) < (rem.size : Int)) (by omega)) ?_
  refine nT ?_
  refine wp_cond_false (by kernel_rfl) ?_
  refine wp_exit ?_
  refine au_then_exit ?_
  refine au_then_exit ?_
  refine au_block_exit ?_
  have ek : k = s.size := by omega
  rw [hG, ek] at M
  exact bodyPost_end (v := .tuple #[]) (results_none Tryz.results96 _ _) (by kernel_rfl) ⟨rfl, M.old, M.get 0 rfl⟩
 have hp : ∃ p : Nat, G.ct % 128 = (p : Int) ∧ p < 128 := ⟨(G.ct % 128).toNat, by unfold HS.ok at hok; omega, by omega⟩
 obtain ⟨p, hp, hp1⟩ := hp
 obtain ⟨q, hq⟩ : ∃ q, q = Nat.min rem.size (128 - p) := ⟨_, rfl⟩
 have hq1 : q ≤ n := by rw [hq, hsz]; exact Nat.min_le_left _ _
 have hq2 : q ≤ 128 - p := by rw [hq]; exact Nat.min_le_right _ _
 have hq3 : 0 < q := by rw [hq, hsz]; exact Nat.lt_min.2 ⟨hn, by omega⟩
 have hrun := tk_run H hH s k p rem (fun i => by rw [hrem, bt_extract]) (by rw [← hG]; exact hp) q (by omega)
 rw [← hG] at hrun
 obtain ⟨e1, e2, e3⟩ := hrun
 have hct : ua G.ct (cv .u64 (q : Int)) = (tk H s (k + q)).ct := by rw [e2, cv_u64 q (by omega)]
 by_cases hf : p + q = 128
 ·skip
  refine wp_seq ?_
  refine sR ?_
  refine pV 6 (.string rem) ?_
  refine pV 7 (.int .i64 (rem.size : Int)) ?_
  refine pH 8 (.bool true) (dT ((0 : Int) < (rem.size : Int)) (by omega)) ?_
  refine nT ?_
  refine wp_cond_true (by kernel_rfl) ?_
  refine wp_skip ?_
  refine au_then ?_
  refine wp_block ?_
  refine sR ?_
  refine pV 9 (.pointer (some ⟨g, 0, none⟩)) ?_
  refine pV 10 (.pointer (some ⟨g, 0, none⟩)) ?_
  refine pV 11 (.pointer (some ⟨g, 137, none⟩)) ?_
  refine pE M 12 g 137 (.int .u64 G.ct) (fun w M => M.cell 0 rfl (by decide) rfl) ?_
  refine pV 13 (.int .u64 (Int.tmod G.ct 128)) ?_
  refine pH 14 (.int .i64 (p : Int)) (fun w => Eq.trans (b := .ok (.value (.int .i64 (IntKind.wrap .i64 (Int.tmod G.ct 128)))) w) (by kernel_rfl) (by rw [rem128 G.ct hok.1 p hp])) ?_
  refine pV 4 (.int .i64 (p : Int)) ?_
  refine nT ?_
  refine sR ?_
  refine pV 15 (.pointer (some ⟨g, 0, none⟩)) ?_
  refine pV 16 (.pointer (some ⟨g, 0, none⟩)) ?_
  refine pV 17 (.pointer (some ⟨g, 9, none⟩)) ?_
  refine pV 18 (.int .i64 (p : Int)) ?_
  refine pH 19 (.slice (some ⟨g, (9 + p), none⟩) (128 - p) (128 - p)) (run_slA 123 128 5 Tryz.underlying123 inz5 _ _ rfl g 9 (by kernel_rfl) .i64 p (by kernel_rfl) hp1) ?_
  refine pV 20 (.string rem) ?_
  refine pl_copyS M (want_no rfl) (some 21) rfl 32 9 3 5 Tryz.underlying32 inz5 0 g 138 125 (hF true G.ws G.rs G.ct) rfl (9 + p) (128 - p) (128 - p) rem q hq (by omega) (hF true G.ws (cpy G.rs p q rem) G.ct) (hF_cpy true G.ws G.rs G.ct p q rem (by omega)) (fun _ => by kernel_rfl) fun u1 M => ?_
  refine pV 5 (.int .i64 (q : Int)) ?_
  refine nT ?_
  refine sR ?_
  refine pV 22 (.pointer (some ⟨g, 0, none⟩)) ?_
  refine pV 23 (.pointer (some ⟨g, 0, none⟩)) ?_
  refine pV 24 (.pointer (some ⟨g, 137, none⟩)) ?_
  refine pE M 25 g 137 (.int .u64 G.ct) (fun w M => M.cell 0 rfl (by decide) rfl) ?_
  refine pV 26 (.int .i64 (q : Int)) ?_
  refine pV 27 (.int .u64 (cv .u64 (q : Int))) ?_
  refine pV 28 (.int .u64 (ua G.ct (cv .u64 (q : Int)))) ?_
  refine pV 29 (.pointer (some ⟨g, 0, none⟩)) ?_
  refine pV 30 (.pointer (some ⟨g, 137, none⟩)) ?_
  refine pP M 0 rfl 137 (.int .u64 (ua G.ct (cv .u64 (q : Int)))) (hF true G.ws (cpy G.rs p q rem) (ua G.ct (cv .u64 (q : Int)))) (by decide) (hF_putc true G.ws (cpy G.rs p q rem) G.ct (ua G.ct (cv .u64 (q : Int)))) fun u2 M => ?_
  refine nT ?_
  refine sR ?_
  refine pV 31 (.string rem) ?_
  refine pV 32 (.int .i64 (q : Int)) ?_
  refine pH 33 (.string (s.extract (k + q) s.size)) (run_strl 9 Tryz.underlying9 _ _ rfl rem (by kernel_rfl) .i64 q (by kernel_rfl) (by omega) _ (by rw [hrem]; exact extract_extract s k q (by omega))) ?_
  refine pV 1 (.string (s.extract (k + q) s.size)) ?_
  refine nT ?_
  refine sR ?_
  refine pV 34 (.int .i64 (p : Int)) ?_
  refine pV 35 (.int .i64 (q : Int)) ?_
  refine pH 36 (.int .i64 ((p + q : Nat) : Int)) (iV ((p : Int) + (q : Int)) (by omega) (by omega) (by omega)) ?_
  refine pH 37 (.bool true) (dT (((p + q : Nat) : Int) = 128) (by omega)) ?_
  refine nT ?_
  refine wp_cond_true (by kernel_rfl) ?_
  refine rg_tail M 12 (by kernel_rfl) (by kernel_rfl) ?_
  simp only [List.take_succ_cons, List.take_zero]
  refine kV 38 (.pointer (some ⟨g, 0, none⟩)) ?_
  refine kV 39 (.pointer (some ⟨g, 0, none⟩)) ?_
  refine kV 40 (.pointer (some ⟨g, 0, none⟩)) ?_
  refine kV 41 (.pointer (some ⟨g, 1, none⟩)) ?_
  refine kL M 42 0 rfl 1 8 (w64 G.ws) (hF_words true G.ws (cpy G.rs p q rem) (ua G.ct (cv .u64 (q : Int)))) ?_
  refine kV 43 (.pointer (some ⟨g, 0, none⟩)) ?_
  refine kV 44 (.pointer (some ⟨g, 0, none⟩)) ?_
  refine kV 45 (.pointer (some ⟨g, 9, none⟩)) ?_
  refine kL M 46 0 rfl 9 128 (w8 (cpy G.rs p q rem)) (hF_rest true G.ws (cpy G.rs p q rem) (ua G.ct (cv .u64 (q : Int)))) ?_
  refine kC M 47 138 #[.agg (av 8 (w64 G.ws)), .agg (av 128 (w8 (cpy G.rs p q rem)))] (.agg (av 8 (w64 (mixV G.ws (cpy G.rs p q rem))))) (fun w M => c_mixed _ _ w M.laid) ?_
  refine kV 48 (.pointer (some ⟨g, 0, none⟩)) ?_
  refine kV 49 (.pointer (some ⟨g, 1, none⟩)) ?_
  refine kl_nil fun u3 M => ?_
  refine pl_put M (want_no rfl) rfl 95 _ _ rfl 0 g 1 (by kernel_rfl) 138 125 (hF true G.ws (cpy G.rs p q rem) (ua G.ct (cv .u64 (q : Int)))) rfl 8 (w64 (mixV G.ws (cpy G.rs p q rem))) (hF true (mixV G.ws (cpy G.rs p q rem)) (cpy G.rs p q rem) (ua G.ct (cv .u64 (q : Int)))) (by kernel_rfl) inz95 (by decide) (fun _ _ => rfl) (hF_putw true G.ws (cpy G.rs p q rem) (ua G.ct (cv .u64 (q : Int))) (mixV G.ws (cpy G.rs p q rem))) fun u4 M => ?_
  refine pl_nil ?_
  refine au_block ?_
  refine au_then ?_
  have E : hF true (mixV G.ws (cpy G.rs p q rem)) (cpy G.rs p q rem) (ua G.ct (cv .u64 (q : Int))) = hF true (tk H s (k + q)).ws (tk H s (k + q)).rs (tk H s (k + q)).ct := by rw [e1, e3, if_pos ⟨by omega, hf⟩, hct]
  rw [E] at M
  exact ⟨n - q, by omega, fun k_ => ([.int .i64 (p : Int), .int .i64 (q : Int), .string rem, .int .i64 (rem.size : Int), .bool true, .pointer (some ⟨g, 0, none⟩), .pointer (some ⟨g, 0, none⟩), .pointer (some ⟨g, 137, none⟩), .int .u64 G.ct, .int .u64 (Int.tmod G.ct 128), .int .i64 (p : Int), .pointer (some ⟨g, 0, none⟩), .pointer (some ⟨g, 0, none⟩), .pointer (some ⟨g, 9, none⟩), .int .i64 (p : Int), .slice (some ⟨g, (9 + p), none⟩) (128 - p) (128 - p), .string rem, .int .i64 (q : Int), .pointer (some ⟨g, 0, none⟩), .pointer (some ⟨g, 0, none⟩), .pointer (some ⟨g, 137, none⟩), .int .u64 G.ct, .int .i64 (q : Int), .int .u64 (cv .u64 (q : Int)), .int .u64 (ua G.ct (cv .u64 (q : Int))), .pointer (some ⟨g, 0, none⟩), .pointer (some ⟨g, 137, none⟩), .string rem, .int .i64 (q : Int), .string (s.extract (k + q) s.size), .int .i64 (p : Int), .int .i64 (q : Int), .int .i64 ((p + q : Nat) : Int), .bool true, .pointer (some ⟨g, 0, none⟩), .pointer (some ⟨g, 0, none⟩), .pointer (some ⟨g, 0, none⟩), .pointer (some ⟨g, 1, none⟩), .agg (av 8 (w64 G.ws)), .pointer (some ⟨g, 0, none⟩), .pointer (some ⟨g, 0, none⟩), .pointer (some ⟨g, 9, none⟩), .agg (av 128 (w8 (cpy G.rs p q rem))), .agg (av 8 (w64 (mixV G.ws (cpy G.rs p q rem)))), .pointer (some ⟨g, 0, none⟩), .pointer (some ⟨g, 1, none⟩)] : List Value).getD (k_ - 4) undef, k + q, s.extract (k + q) s.size, by omega, rfl, by kernel_rfl, M⟩
 ·skip
  refine wp_seq ?_
  refine sR ?_
  refine pV 6 (.string rem) ?_
  refine pV 7 (.int .i64 (rem.size : Int)) ?_
  refine pH 8 (.bool true) (dT ((0 : Int) < (rem.size : Int)) (by omega)) ?_
  refine nT ?_
  refine wp_cond_true (by kernel_rfl) ?_
  refine wp_skip ?_
  refine au_then ?_
  refine wp_block ?_
  refine sR ?_
  refine pV 9 (.pointer (some ⟨g, 0, none⟩)) ?_
  refine pV 10 (.pointer (some ⟨g, 0, none⟩)) ?_
  refine pV 11 (.pointer (some ⟨g, 137, none⟩)) ?_
  refine pE M 12 g 137 (.int .u64 G.ct) (fun w M => M.cell 0 rfl (by decide) rfl) ?_
  refine pV 13 (.int .u64 (Int.tmod G.ct 128)) ?_
  refine pH 14 (.int .i64 (p : Int)) (fun w => Eq.trans (b := .ok (.value (.int .i64 (IntKind.wrap .i64 (Int.tmod G.ct 128)))) w) (by kernel_rfl) (by rw [rem128 G.ct hok.1 p hp])) ?_
  refine pV 4 (.int .i64 (p : Int)) ?_
  refine nT ?_
  refine sR ?_
  refine pV 15 (.pointer (some ⟨g, 0, none⟩)) ?_
  refine pV 16 (.pointer (some ⟨g, 0, none⟩)) ?_
  refine pV 17 (.pointer (some ⟨g, 9, none⟩)) ?_
  refine pV 18 (.int .i64 (p : Int)) ?_
  refine pH 19 (.slice (some ⟨g, (9 + p), none⟩) (128 - p) (128 - p)) (run_slA 123 128 5 Tryz.underlying123 inz5 _ _ rfl g 9 (by kernel_rfl) .i64 p (by kernel_rfl) hp1) ?_
  refine pV 20 (.string rem) ?_
  refine pl_copyS M (want_no rfl) (some 21) rfl 32 9 3 5 Tryz.underlying32 inz5 0 g 138 125 (hF true G.ws G.rs G.ct) rfl (9 + p) (128 - p) (128 - p) rem q hq (by omega) (hF true G.ws (cpy G.rs p q rem) G.ct) (hF_cpy true G.ws G.rs G.ct p q rem (by omega)) (fun _ => by kernel_rfl) fun u5 M => ?_
  refine pV 5 (.int .i64 (q : Int)) ?_
  refine nT ?_
  refine sR ?_
  refine pV 22 (.pointer (some ⟨g, 0, none⟩)) ?_
  refine pV 23 (.pointer (some ⟨g, 0, none⟩)) ?_
  refine pV 24 (.pointer (some ⟨g, 137, none⟩)) ?_
  refine pE M 25 g 137 (.int .u64 G.ct) (fun w M => M.cell 0 rfl (by decide) rfl) ?_
  refine pV 26 (.int .i64 (q : Int)) ?_
  refine pV 27 (.int .u64 (cv .u64 (q : Int))) ?_
  refine pV 28 (.int .u64 (ua G.ct (cv .u64 (q : Int)))) ?_
  refine pV 29 (.pointer (some ⟨g, 0, none⟩)) ?_
  refine pV 30 (.pointer (some ⟨g, 137, none⟩)) ?_
  refine pP M 0 rfl 137 (.int .u64 (ua G.ct (cv .u64 (q : Int)))) (hF true G.ws (cpy G.rs p q rem) (ua G.ct (cv .u64 (q : Int)))) (by decide) (hF_putc true G.ws (cpy G.rs p q rem) G.ct (ua G.ct (cv .u64 (q : Int)))) fun u6 M => ?_
  refine nT ?_
  refine sR ?_
  refine pV 31 (.string rem) ?_
  refine pV 32 (.int .i64 (q : Int)) ?_
  refine pH 33 (.string (s.extract (k + q) s.size)) (run_strl 9 Tryz.underlying9 _ _ rfl rem (by kernel_rfl) .i64 q (by kernel_rfl) (by omega) _ (by rw [hrem]; exact extract_extract s k q (by omega))) ?_
  refine pV 1 (.string (s.extract (k + q) s.size)) ?_
  refine nT ?_
  refine sR ?_
  refine pV 34 (.int .i64 (p : Int)) ?_
  refine pV 35 (.int .i64 (q : Int)) ?_
  refine pH 36 (.int .i64 ((p + q : Nat) : Int)) (iV ((p : Int) + (q : Int)) (by omega) (by omega) (by omega)) ?_
  refine pH 37 (.bool false) (dF (((p + q : Nat) : Int) = 128) (by omega)) ?_
  refine nT ?_
  refine wp_cond_false (by kernel_rfl) ?_
  refine wp_skip ?_
  refine au_block ?_
  refine au_then ?_
  have E : hF true G.ws (cpy G.rs p q rem) (ua G.ct (cv .u64 (q : Int))) = hF true (tk H s (k + q)).ws (tk H s (k + q)).rs (tk H s (k + q)).ct := by rw [e1, e3, if_neg (fun h => hf h.2), hct]
  rw [E] at M
  exact ⟨n - q, by omega, fun k_ => ([.int .i64 (p : Int), .int .i64 (q : Int), .string rem, .int .i64 (rem.size : Int), .bool true, .pointer (some ⟨g, 0, none⟩), .pointer (some ⟨g, 0, none⟩), .pointer (some ⟨g, 137, none⟩), .int .u64 G.ct, .int .u64 (Int.tmod G.ct 128), .int .i64 (p : Int), .pointer (some ⟨g, 0, none⟩), .pointer (some ⟨g, 0, none⟩), .pointer (some ⟨g, 9, none⟩), .int .i64 (p : Int), .slice (some ⟨g, (9 + p), none⟩) (128 - p) (128 - p), .string rem, .int .i64 (q : Int), .pointer (some ⟨g, 0, none⟩), .pointer (some ⟨g, 0, none⟩), .pointer (some ⟨g, 137, none⟩), .int .u64 G.ct, .int .i64 (q : Int), .int .u64 (cv .u64 (q : Int)), .int .u64 (ua G.ct (cv .u64 (q : Int))), .pointer (some ⟨g, 0, none⟩), .pointer (some ⟨g, 137, none⟩), .string rem, .int .i64 (q : Int), .string (s.extract (k + q) s.size), .int .i64 (p : Int), .int .i64 (q : Int), .int .i64 ((p + q : Nat) : Int), .bool false, v 38, v 39, v 40, v 41, v 42, v 43, v 44, v 45, v 46, v 47, v 48, v 49] : List Value).getD (k_ - 4) undef, k + q, s.extract (k + q) s.size, by omega, rfl, by kernel_rfl, M⟩
def hV (f : Nat → Int) : Nat → List Value
 | 0 => []
 | j + 1 => hV f j ++ [.int .u8 (cv .u8 (sr (f j) 56))] ++ [.int .u8 (cv .u8 (sr (f j) 48))] ++ [.int .u8 (cv .u8 (sr (f j) 40))] ++ [.int .u8 (cv .u8 (sr (f j) 32))] ++ [.int .u8 (cv .u8 (sr (f j) 24))] ++ [.int .u8 (cv .u8 (sr (f j) 16))] ++ [.int .u8 (cv .u8 (sr (f j) 8))] ++ [.int .u8 (cv .u8 (sr (f j) 0))]
def hI (f : Nat → Int) : Nat → List Int
 | 0 => []
 | j + 1 => hI f j ++ [cv .u8 (sr (f j) 56), cv .u8 (sr (f j) 48), cv .u8 (sr (f j) 40), cv .u8 (sr (f j) 32), cv .u8 (sr (f j) 24), cv .u8 (sr (f j) 16), cv .u8 (sr (f j) 8), cv .u8 (sr (f j) 0)]
theorem hV_eq (f : Nat → Int) : ∀ j, hV f j = vs8 (hI f j)
 | 0 => rfl
 | j + 1 => by
  unfold hV hI
  rw [hV_eq f j]
  unfold vs8
  simp
theorem hI_length (f : Nat → Int) : ∀ j, (hI f j).length = 8 * j
 | 0 => rfl
 | j + 1 => by
  unfold hI
  rw [List.length_append, hI_length f j]
  simp
  omega
theorem hV_length (f : Nat → Int) (j : Nat) : (hV f j).length = 8 * j := by rw [hV_eq, vs8_length, hI_length]
theorem cv8_nn (x : Int) : 0 ≤ cv .u8 x ∧ cv .u8 x < 256 := by
 unfold cv
 simp [IntKind.wrap, IntKind.signed, IntKind.bits]
 omega
theorem hI_nn (f : Nat → Int) : ∀ j, ∀ x ∈ hI f j, 0 ≤ x ∧ x < 256
 | 0, x, h => by simp [hI] at h
 | j + 1, x, h => by
  unfold hI at h
  rcases List.mem_append.1 h with h | h
  ·exact hI_nn f j x h
  ·simp only [List.mem_cons, List.not_mem_nil, or_false] at h
   rcases h with rfl | rfl | rfl | rfl | rfl | rfl | rfl | rfl <;> exact cv8_nn _
theorem run_ixL {P : Program} {a : Act} {o : Oper} (t elem : TypeId) (hu : P.underlying t = some (.slice elem)) (hs : (P.info? elem).map (·.size) = some 1) (x ix : Operand) (ho : o.op = .indexAddr t x ix) (g off len cap : Nat) (hx : a.eval x = .slice (some ⟨g, off, none⟩) len cap) (k : IntKind) (i : Nat) (hi : a.eval ix = .int k (i : Int)) (hlt : i < len) (w : World) :
  (execOp a.eval o).run P w = .ok (.value (.pointer (some ⟨g, off + i, none⟩))) w := by
 cases hq : P.info? elem with
 | none => simp [hq] at hs
 | some u =>
  have hsz : u.size = 1 := by simpa [hq] using hs
  unfold execOp
  simp [ho, hx, hi, Instr.indexAt, asIntOf, run_underlying hu, sizeOf, typeInfo, hq, hsz, add_at, hlt]
theorem info5_ex : (Tryz.prog.info? 5).isSome = true := by kernel_rfl
noncomputable def info5 : TypeInfo := (Tryz.prog.info? 5).get info5_ex
theorem info5_eq : Tryz.prog.info? 5 = some info5 := (Option.some_get info5_ex).symm
theorem info5_z : info5.zero = some (.int .u8 0) := by kernel_rfl
theorem c_high (g off n cap : Nat) (f : Nat → Int) (hn : n ≤ 8) (w : World) (hL : Laid w) (hc : ∀ i, i < n → w.cell? ⟨g, off + i, none⟩ = some (.int .u64 (f i))) :
  Cs 102 #[.slice (some ⟨g, off, none⟩) n cap] w (.string (bs (hI f n))) := by
 go_enter Tryz.func102, Tryz.ntmps102
 have M := Mem.start hL
 refine sR ?_
 refine pV 2 (.string ⟨#[]⟩) ?_
 refine nT ?_
 refine sR ?_
 refine pV 7 (.slice (some ⟨g, off, none⟩) n cap) ?_
 refine pV 8 (.int .i64 (n : Int)) ?_
 refine pH 9 (.int .i64 ((8 * n : Nat) : Int)) (iV (8 * (n : Int)) (by omega) (by omega) (by omega)) ?_
 refine pl_make M (want_no rfl) (some 10) rfl 32 5 info5 (.int .u8 0) Tryz.underlying32 info5_eq info5_z (by kernel_rfl) (by decide +kernel) _ _ rfl .i64 .i64 (by kernel_rfl) (8 * n) (by kernel_rfl) (by omega) ?_
 intro g1 Zg1 u1 hZ M
 refine pV 3 (.slice (some ⟨g1, 0, none⟩) 0 (8 * n)) ?_
 refine nT ?_
 refine wp_seq ?_
 refine sR ?_
 refine pV 11 (.slice (some ⟨g, off, none⟩) n cap) ?_
 refine pV 12 (.int .i64 (n : Int)) ?_
 refine pV 13 (.int .i64 0) ?_
 refine nT ?_
 refine wp_block ?_
 refine au_loop (fun j a w' => ∃ (v : Nat → Value) (Z : Obj), a = ⟨#[.slice (some ⟨g, off, none⟩) n cap, undef, .string ⟨#[]⟩, .slice (some ⟨g1, 0, none⟩) (8 * j) (8 * n), undef, v 5, v 6, .slice (some ⟨g, off, none⟩) n cap, .int .i64 (n : Int), .int .i64 ((8 * n : Nat) : Int), .slice (some ⟨g1, 0, none⟩) 0 (8 * n), .slice (some ⟨g, off, none⟩) n cap, .int .i64 (n : Int), .int .i64 (j : Int), v 14, v 15, v 16, v 17, v 18, v 19, v 20, v 21, v 22, v 23, v 24, v 25, v 26, v 27, v 28, undef, undef], []⟩ ∧ SB Z (8 * n) (hV f j) ∧ Mem ⟨w, []⟩ [⟨g1, Z⟩] w') n ⟨fun _ => undef, Zg1, by kernel_rfl, hZ, M⟩ ?_ ?_
 ·intro j a u0 hj hI
  obtain ⟨v, Z, rfl, hZ, M⟩ := hI
  refine sR ?_
  refine pH 14 (.bool true) (dT ((j : Int) < (n : Int)) (by omega)) ?_
  refine nT ?_
  refine wp_seq ?_
  refine wp_cond_true (by kernel_rfl) ?_
  refine wp_skip ?_
  refine au_then ?_
  refine wp_seq ?_
  refine wp_block ?_
  refine sR ?_
  refine pH 15 (.pointer (some ⟨g, off + j, none⟩)) (run_ixL 127 34 Tryz.underlying127 inz34 _ _ rfl g off n cap (by kernel_rfl) .i64 j (by kernel_rfl) hj) ?_
  refine pE M 16 g (off + j) (.int .u64 (f j)) (fun w M => M.oldc (hc j hj) (by simp)) ?_
  refine pV 5 (.int .u64 (f j)) ?_
  refine nT ?_
  refine sR ?_
  refine pV 6 (.int .i64 56) ?_
  refine nT ?_
  refine wp_block ?_
  refine wp_loop_rounds 9 ?_
  refine rounds_go ?_
  refine wp_seq ?_
  refine sR ?_
  refine pV 17 (.int .i64 56) ?_
  refine pV 18 (.bool true) ?_
  refine nT ?_
  refine wp_cond_true (by kernel_rfl) ?_
  refine wp_skip ?_
  refine au_then ?_
  refine wp_seq ?_
  refine wp_block ?_
  refine rg_lit ?_
  refine pV 21 (.slice (some ⟨g1, 0, none⟩) (8 * j) (8 * n)) ?_
  refine pV 22 (.int .u64 (f j)) ?_
  refine pV 23 (.int .i64 56) ?_
  refine pV 24 (.int .u64 (sr (f j) 56)) ?_
  refine pV 25 (.int .u8 (cv .u8 (sr (f j) 56))) ?_
  refine pl_mk M (want_no rfl) (some 26) rfl (fun g2 => .slice (some ⟨g2, 0, none⟩) 1 1) (.cells (av 1 (fun _ => .int .u8 (cv .u8 (sr (f j) 56)))) 5) (fun _ => by kernel_rfl) fun g2 u2 M => ?_
  refine pl_appR M (want_no rfl) (some 27) rfl 32 41 5 Tryz.underlying32 inz5 0 g1 ((8 * j)) (8 * n) Z (hV f j) rfl hZ (by simp [hV_length]) (by omega) 1 g2 5 (.int .u8 (cv .u8 (sr (f j) 56))) rfl rfl (fun _ => by kernel_rfl) ?_
  intro Y1 u3 hY1 M
  refine pV 3 (.slice (some ⟨g1, 0, none⟩) ((8 * j) + 1) (8 * n)) ?_
  refine pl_nil ?_
  refine au_block ?_
  refine au_then ?_
  refine rg_lit ?_
  refine pV 19 (.int .i64 56) ?_
  refine pV 20 (.int .i64 48) ?_
  refine pV 6 (.int .i64 48) ?_
  refine nT ?_
  refine rounds_go ?_
  refine wp_seq ?_
  refine sR ?_
  refine pV 17 (.int .i64 48) ?_
  refine pV 18 (.bool true) ?_
  refine nT ?_
  refine wp_cond_true (by kernel_rfl) ?_
  refine wp_skip ?_
  refine au_then ?_
  refine wp_seq ?_
  refine wp_block ?_
  refine rg_lit ?_
  refine pV 21 (.slice (some ⟨g1, 0, none⟩) ((8 * j) + 1) (8 * n)) ?_
  refine pV 22 (.int .u64 (f j)) ?_
  refine pV 23 (.int .i64 48) ?_
  refine pV 24 (.int .u64 (sr (f j) 48)) ?_
  refine pV 25 (.int .u8 (cv .u8 (sr (f j) 48))) ?_
  refine pl_mk M (want_no rfl) (some 26) rfl (fun g3 => .slice (some ⟨g3, 0, none⟩) 1 1) (.cells (av 1 (fun _ => .int .u8 (cv .u8 (sr (f j) 48)))) 5) (fun _ => by kernel_rfl) fun g3 u4 M => ?_
  refine pl_appR M (want_no rfl) (some 27) rfl 32 41 5 Tryz.underlying32 inz5 0 g1 (((8 * j) + 1)) (8 * n) Y1 (hV f j ++ [.int .u8 (cv .u8 (sr (f j) 56))]) rfl hY1 (by simp [hV_length]) (by omega) 2 g3 5 (.int .u8 (cv .u8 (sr (f j) 48))) rfl rfl (fun _ => by kernel_rfl) ?_
  intro Y2 u5 hY2 M
  refine pV 3 (.slice (some ⟨g1, 0, none⟩) (((8 * j) + 1) + 1) (8 * n)) ?_
  refine pl_nil ?_
  refine au_block ?_
  refine au_then ?_
  refine rg_lit ?_
  refine pV 19 (.int .i64 48) ?_
  refine pV 20 (.int .i64 40) ?_
  refine pV 6 (.int .i64 40) ?_
  refine nT ?_
  refine rounds_go ?_
  refine wp_seq ?_
  refine sR ?_
  refine pV 17 (.int .i64 40) ?_
  refine pV 18 (.bool true) ?_
  refine nT ?_
  refine wp_cond_true (by kernel_rfl) ?_
  refine wp_skip ?_
  refine au_then ?_
  refine wp_seq ?_
  refine wp_block ?_
  refine rg_lit ?_
  refine pV 21 (.slice (some ⟨g1, 0, none⟩) (((8 * j) + 1) + 1) (8 * n)) ?_
  refine pV 22 (.int .u64 (f j)) ?_
  refine pV 23 (.int .i64 40) ?_
  refine pV 24 (.int .u64 (sr (f j) 40)) ?_
  refine pV 25 (.int .u8 (cv .u8 (sr (f j) 40))) ?_
  refine pl_mk M (want_no rfl) (some 26) rfl (fun g4 => .slice (some ⟨g4, 0, none⟩) 1 1) (.cells (av 1 (fun _ => .int .u8 (cv .u8 (sr (f j) 40)))) 5) (fun _ => by kernel_rfl) fun g4 u6 M => ?_
  refine pl_appR M (want_no rfl) (some 27) rfl 32 41 5 Tryz.underlying32 inz5 0 g1 ((((8 * j) + 1) + 1)) (8 * n) Y2 (hV f j ++ [.int .u8 (cv .u8 (sr (f j) 56))] ++ [.int .u8 (cv .u8 (sr (f j) 48))]) rfl hY2 (by simp [hV_length]) (by omega) 3 g4 5 (.int .u8 (cv .u8 (sr (f j) 40))) rfl rfl (fun _ => by kernel_rfl) ?_
  intro Y3 u7 hY3 M
  refine pV 3 (.slice (some ⟨g1, 0, none⟩) ((((8 * j) + 1) + 1) + 1) (8 * n)) ?_
  refine pl_nil ?_
  refine au_block ?_
  refine au_then ?_
  refine rg_lit ?_
  refine pV 19 (.int .i64 40) ?_
  refine pV 20 (.int .i64 32) ?_
  refine pV 6 (.int .i64 32) ?_
  refine nT ?_
  refine rounds_go ?_
  refine wp_seq ?_
  refine sR ?_
  refine pV 17 (.int .i64 32) ?_
  refine pV 18 (.bool true) ?_
  refine nT ?_
  refine wp_cond_true (by kernel_rfl) ?_
  refine wp_skip ?_
  refine au_then ?_
  refine wp_seq ?_
  refine wp_block ?_
  refine rg_lit ?_
  refine pV 21 (.slice (some ⟨g1, 0, none⟩) ((((8 * j) + 1) + 1) + 1) (8 * n)) ?_
  refine pV 22 (.int .u64 (f j)) ?_
  refine pV 23 (.int .i64 32) ?_
  refine pV 24 (.int .u64 (sr (f j) 32)) ?_
  refine pV 25 (.int .u8 (cv .u8 (sr (f j) 32))) ?_
  refine pl_mk M (want_no rfl) (some 26) rfl (fun g5 => .slice (some ⟨g5, 0, none⟩) 1 1) (.cells (av 1 (fun _ => .int .u8 (cv .u8 (sr (f j) 32)))) 5) (fun _ => by kernel_rfl) fun g5 u8 M => ?_
  refine pl_appR M (want_no rfl) (some 27) rfl 32 41 5 Tryz.underlying32 inz5 0 g1 (((((8 * j) + 1) + 1) + 1)) (8 * n) Y3 (hV f j ++ [.int .u8 (cv .u8 (sr (f j) 56))] ++ [.int .u8 (cv .u8 (sr (f j) 48))] ++ [.int .u8 (cv .u8 (sr (f j) 40))]) rfl hY3 (by simp [hV_length]) (by omega) 4 g5 5 (.int .u8 (cv .u8 (sr (f j) 32))) rfl rfl (fun _ => by kernel_rfl) ?_
  intro Y4 u9 hY4 M
  refine pV 3 (.slice (some ⟨g1, 0, none⟩) (((((8 * j) + 1) + 1) + 1) + 1) (8 * n)) ?_
  refine pl_nil ?_
  refine au_block ?_
  refine au_then ?_
  refine rg_lit ?_
  refine pV 19 (.int .i64 32) ?_
  refine pV 20 (.int .i64 24) ?_
  refine pV 6 (.int .i64 24) ?_
  refine nT ?_
  refine rounds_go ?_
  refine wp_seq ?_
  refine sR ?_
  refine pV 17 (.int .i64 24) ?_
  refine pV 18 (.bool true) ?_
  refine nT ?_
  refine wp_cond_true (by kernel_rfl) ?_
  refine wp_skip ?_
  refine au_then ?_
  refine wp_seq ?_
  refine wp_block ?_
  refine rg_lit ?_
  refine pV 21 (.slice (some ⟨g1, 0, none⟩) (((((8 * j) + 1) + 1) + 1) + 1) (8 * n)) ?_
  refine pV 22 (.int .u64 (f j)) ?_
  refine pV 23 (.int .i64 24) ?_
  refine pV 24 (.int .u64 (sr (f j) 24)) ?_
  refine pV 25 (.int .u8 (cv .u8 (sr (f j) 24))) ?_
  refine pl_mk M (want_no rfl) (some 26) rfl (fun g6 => .slice (some ⟨g6, 0, none⟩) 1 1) (.cells (av 1 (fun _ => .int .u8 (cv .u8 (sr (f j) 24)))) 5) (fun _ => by kernel_rfl) fun g6 u10 M => ?_
  refine pl_appR M (want_no rfl) (some 27) rfl 32 41 5 Tryz.underlying32 inz5 0 g1 ((((((8 * j) + 1) + 1) + 1) + 1)) (8 * n) Y4 (hV f j ++ [.int .u8 (cv .u8 (sr (f j) 56))] ++ [.int .u8 (cv .u8 (sr (f j) 48))] ++ [.int .u8 (cv .u8 (sr (f j) 40))] ++ [.int .u8 (cv .u8 (sr (f j) 32))]) rfl hY4 (by simp [hV_length]) (by omega) 5 g6 5 (.int .u8 (cv .u8 (sr (f j) 24))) rfl rfl (fun _ => by kernel_rfl) ?_
  intro Y5 u11 hY5 M
  refine pV 3 (.slice (some ⟨g1, 0, none⟩) ((((((8 * j) + 1) + 1) + 1) + 1) + 1) (8 * n)) ?_
  refine pl_nil ?_
  refine au_block ?_
  refine au_then ?_
  refine rg_lit ?_
  refine pV 19 (.int .i64 24) ?_
  refine pV 20 (.int .i64 16) ?_
  refine pV 6 (.int .i64 16) ?_
  refine nT ?_
  refine rounds_go ?_
  refine wp_seq ?_
  refine sR ?_
  refine pV 17 (.int .i64 16) ?_
  refine pV 18 (.bool true) ?_
  refine nT ?_
  refine wp_cond_true (by kernel_rfl) ?_
  refine wp_skip ?_
  refine au_then ?_
  refine wp_seq ?_
  refine wp_block ?_
  refine rg_lit ?_
  refine pV 21 (.slice (some ⟨g1, 0, none⟩) ((((((8 * j) + 1) + 1) + 1) + 1) + 1) (8 * n)) ?_
  refine pV 22 (.int .u64 (f j)) ?_
  refine pV 23 (.int .i64 16) ?_
  refine pV 24 (.int .u64 (sr (f j) 16)) ?_
  refine pV 25 (.int .u8 (cv .u8 (sr (f j) 16))) ?_
  refine pl_mk M (want_no rfl) (some 26) rfl (fun g7 => .slice (some ⟨g7, 0, none⟩) 1 1) (.cells (av 1 (fun _ => .int .u8 (cv .u8 (sr (f j) 16)))) 5) (fun _ => by kernel_rfl) fun g7 u12 M => ?_
  refine pl_appR M (want_no rfl) (some 27) rfl 32 41 5 Tryz.underlying32 inz5 0 g1 (((((((8 * j) + 1) + 1) + 1) + 1) + 1)) (8 * n) Y5 (hV f j ++ [.int .u8 (cv .u8 (sr (f j) 56))] ++ [.int .u8 (cv .u8 (sr (f j) 48))] ++ [.int .u8 (cv .u8 (sr (f j) 40))] ++ [.int .u8 (cv .u8 (sr (f j) 32))] ++ [.int .u8 (cv .u8 (sr (f j) 24))]) rfl hY5 (by simp [hV_length]) (by omega) 6 g7 5 (.int .u8 (cv .u8 (sr (f j) 16))) rfl rfl (fun _ => by kernel_rfl) ?_
  intro Y6 u13 hY6 M
  refine pV 3 (.slice (some ⟨g1, 0, none⟩) (((((((8 * j) + 1) + 1) + 1) + 1) + 1) + 1) (8 * n)) ?_
  refine pl_nil ?_
  refine au_block ?_
  refine au_then ?_
  refine rg_lit ?_
  refine pV 19 (.int .i64 16) ?_
  refine pV 20 (.int .i64 8) ?_
  refine pV 6 (.int .i64 8) ?_
  refine nT ?_
  refine rounds_go ?_
  refine wp_seq ?_
  refine sR ?_
  refine pV 17 (.int .i64 8) ?_
  refine pV 18 (.bool true) ?_
  refine nT ?_
  refine wp_cond_true (by kernel_rfl) ?_
  refine wp_skip ?_
  refine au_then ?_
  refine wp_seq ?_
  refine wp_block ?_
  refine rg_lit ?_
  refine pV 21 (.slice (some ⟨g1, 0, none⟩) (((((((8 * j) + 1) + 1) + 1) + 1) + 1) + 1) (8 * n)) ?_
  refine pV 22 (.int .u64 (f j)) ?_
  refine pV 23 (.int .i64 8) ?_
  refine pV 24 (.int .u64 (sr (f j) 8)) ?_
  refine pV 25 (.int .u8 (cv .u8 (sr (f j) 8))) ?_
  refine pl_mk M (want_no rfl) (some 26) rfl (fun g8 => .slice (some ⟨g8, 0, none⟩) 1 1) (.cells (av 1 (fun _ => .int .u8 (cv .u8 (sr (f j) 8)))) 5) (fun _ => by kernel_rfl) fun g8 u14 M => ?_
  refine pl_appR M (want_no rfl) (some 27) rfl 32 41 5 Tryz.underlying32 inz5 0 g1 ((((((((8 * j) + 1) + 1) + 1) + 1) + 1) + 1)) (8 * n) Y6 (hV f j ++ [.int .u8 (cv .u8 (sr (f j) 56))] ++ [.int .u8 (cv .u8 (sr (f j) 48))] ++ [.int .u8 (cv .u8 (sr (f j) 40))] ++ [.int .u8 (cv .u8 (sr (f j) 32))] ++ [.int .u8 (cv .u8 (sr (f j) 24))] ++ [.int .u8 (cv .u8 (sr (f j) 16))]) rfl hY6 (by simp [hV_length]) (by omega) 7 g8 5 (.int .u8 (cv .u8 (sr (f j) 8))) rfl rfl (fun _ => by kernel_rfl) ?_
  intro Y7 u15 hY7 M
  refine pV 3 (.slice (some ⟨g1, 0, none⟩) ((((((((8 * j) + 1) + 1) + 1) + 1) + 1) + 1) + 1) (8 * n)) ?_
  refine pl_nil ?_
  refine au_block ?_
  refine au_then ?_
  refine rg_lit ?_
  refine pV 19 (.int .i64 8) ?_
  refine pV 20 (.int .i64 0) ?_
  refine pV 6 (.int .i64 0) ?_
  refine nT ?_
  refine rounds_go ?_
  refine wp_seq ?_
  refine sR ?_
  refine pV 17 (.int .i64 0) ?_
  refine pV 18 (.bool true) ?_
  refine nT ?_
  refine wp_cond_true (by kernel_rfl) ?_
  refine wp_skip ?_
  refine au_then ?_
  refine wp_seq ?_
  refine wp_block ?_
  refine rg_lit ?_
  refine pV 21 (.slice (some ⟨g1, 0, none⟩) ((((((((8 * j) + 1) + 1) + 1) + 1) + 1) + 1) + 1) (8 * n)) ?_
  refine pV 22 (.int .u64 (f j)) ?_
  refine pV 23 (.int .i64 0) ?_
  refine pV 24 (.int .u64 (sr (f j) 0)) ?_
  refine pV 25 (.int .u8 (cv .u8 (sr (f j) 0))) ?_
  refine pl_mk M (want_no rfl) (some 26) rfl (fun g9 => .slice (some ⟨g9, 0, none⟩) 1 1) (.cells (av 1 (fun _ => .int .u8 (cv .u8 (sr (f j) 0)))) 5) (fun _ => by kernel_rfl) fun g9 u16 M => ?_
  refine pl_appR M (want_no rfl) (some 27) rfl 32 41 5 Tryz.underlying32 inz5 0 g1 (((((((((8 * j) + 1) + 1) + 1) + 1) + 1) + 1) + 1)) (8 * n) Y7 (hV f j ++ [.int .u8 (cv .u8 (sr (f j) 56))] ++ [.int .u8 (cv .u8 (sr (f j) 48))] ++ [.int .u8 (cv .u8 (sr (f j) 40))] ++ [.int .u8 (cv .u8 (sr (f j) 32))] ++ [.int .u8 (cv .u8 (sr (f j) 24))] ++ [.int .u8 (cv .u8 (sr (f j) 16))] ++ [.int .u8 (cv .u8 (sr (f j) 8))]) rfl hY7 (by simp [hV_length]) (by omega) 8 g9 5 (.int .u8 (cv .u8 (sr (f j) 0))) rfl rfl (fun _ => by kernel_rfl) ?_
  intro Y8 u17 hY8 M
  refine pV 3 (.slice (some ⟨g1, 0, none⟩) (((((((((8 * j) + 1) + 1) + 1) + 1) + 1) + 1) + 1) + 1) (8 * n)) ?_
  refine pl_nil ?_
  refine au_block ?_
  refine au_then ?_
  refine rg_lit ?_
  refine pV 19 (.int .i64 0) ?_
  refine pV 20 (.int .i64 (-8)) ?_
  refine pV 6 (.int .i64 (-8)) ?_
  refine nT ?_
  refine rounds_go ?_
  refine wp_seq ?_
  refine sR ?_
  refine pV 17 (.int .i64 (-8)) ?_
  refine pV 18 (.bool false) ?_
  refine nT ?_
  refine wp_cond_false (by kernel_rfl) ?_
  refine wp_exit ?_
  refine au_then_exit ?_
  refine au_then_exit ?_
  refine au_block_exit ?_
  refine au_block ?_
  refine au_then ?_
  refine rg_lit ?_
  refine pH 28 (.int .i64 ((j + 1 : Nat) : Int)) (iV ((j : Int) + 1) (by omega) (by omega) (by omega)) ?_
  refine pV 13 (.int .i64 ((j + 1 : Nat) : Int)) ?_
  refine nT ?_
  exact ⟨fun k_ => ([.int .u64 (f j), .int .i64 (-8), undef, undef, undef, undef, undef, undef, undef, .bool true, .pointer (some ⟨g, off + j, none⟩), .int .u64 (f j), .int .i64 (-8), .bool false, .int .i64 0, .int .i64 (-8), .slice (some ⟨g1, 0, none⟩) ((((((((8 * j) + 1) + 1) + 1) + 1) + 1) + 1) + 1) (8 * n), .int .u64 (f j), .int .i64 0, .int .u64 (sr (f j) 0), .int .u8 (cv .u8 (sr (f j) 0)), .slice (some ⟨g9, 0, none⟩) 1 1, .slice (some ⟨g1, 0, none⟩) (((((((((8 * j) + 1) + 1) + 1) + 1) + 1) + 1) + 1) + 1) (8 * n), .int .i64 ((j + 1 : Nat) : Int)] : List Value).getD (k_ - 5) undef, Y8, by kernel_rfl, hY8, M.drop (.cons_cons _ (.cons _ (.cons _ (.cons _ (.cons _ (.cons _ (.cons _ (.cons _ (.cons _ (.slnil))))))))))⟩
 ·intro a u0 hI
  obtain ⟨v, Z, rfl, hZ, M⟩ := hI
  refine sR ?_
  refine pH 14 (.bool false) (dF ((n : Int) < (n : Int)) (by omega)) ?_
  refine nT ?_
  refine wp_seq ?_
  refine wp_cond_false (by kernel_rfl) ?_
  refine wp_exit ?_
  refine au_then_exit ?_
  refine au_then_exit ?_
  refine au_block_exit ?_
  refine au_then ?_
  refine sR ?_
  refine pV 29 (.slice (some ⟨g1, 0, none⟩) (8 * n) (8 * n)) ?_
  rw [hV_eq] at hZ
  refine pl_back M (want_no rfl) (some 30) rfl _ rfl 0 g1 ((8 * n)) (8 * n) (by kernel_rfl) Z rfl (hI f n) (8 * n) hZ (hI_length f n) (hI_nn f n) ?_
  refine pV 2 (.string (bs (hI f n))) ?_
  refine nT ?_
  refine wp_ret ?_
  exact bodyPost_ret (v := .string (bs (hI f n))) (results_tmp1 Tryz.results102 _ _ _ (by kernel_rfl)) (by kernel_rfl) ⟨rfl, below_grown M.old⟩
end Go.Proofs.YtmhfmhmpoobmlaaGreatDoor.Sha

namespace Go.Proofs.YtmhfmhmpoobmlaaGreatDoor.Sha
open Go.Shelf Go.RowKit
def repRen : Go.Shelf.Ren := ⟨fun | 105 => 57 | 212 => 103 | 99 => 104 | 165 => 105 | 166 => 106 | 170 => 107 | 169 => 108 | 263 => 139 | 264 => 140 | 206 => 141 | 240 => 142 | 241 => 143 | 276 => 147 | 277 => 148 | n => n, fun | 9 => 9 | 3 => 3 | 4 => 4 | 20 => 20 | 0 => 0 | 46 => 39 | 109 => 128 | 5 => 5 | 72 => 132 | 76 => 136 | 51 => 113 | 146 => 162 | 53 => 34 | 148 => 150 | 70 => 130 | 37 => 32 | 75 => 135 | 127 => 165 | 164 => 168 | 80 => 40 | n => n, fun | n => n⟩
theorem repLays : Go.Proofs.Lays.n105 Tryz.prog repRen := {
 mixed := by kernel_rfl
 f99 := Tryz.func104.trans (congrArg some (by kernel_rfl))
 f105 := Tryz.func57.trans (congrArg some (by kernel_rfl))
 f165 := Tryz.func105.trans (congrArg some (by kernel_rfl))
 f166 := Tryz.func106.trans (congrArg some (by kernel_rfl))
 f169 := Tryz.func108.trans (congrArg some (by kernel_rfl))
 f170 := Tryz.func107.trans (congrArg some (by kernel_rfl))
 f206 := Tryz.func141.trans (congrArg some (by kernel_rfl))
 f212 := Tryz.func103.trans (congrArg some (by kernel_rfl))
 f240 := Tryz.func142.trans (congrArg some (by kernel_rfl))
 f241 := Tryz.func143.trans (congrArg some (by kernel_rfl))
 f263 := Tryz.func139.trans (congrArg some (by kernel_rfl))
 f264 := Tryz.func140.trans (congrArg some (by kernel_rfl))
 f276 := Tryz.func147.trans (congrArg some (by kernel_rfl))
 f277 := Tryz.func148.trans (congrArg some (by kernel_rfl))
 t0 := Tryz.underlying0
 a0 := Tryz.isAgg0
 z0 := Tryz.sizeOf0
 v0 := Tryz.zeroValue0
 t3 := Tryz.underlying3
 a3 := Tryz.isAgg3
 z3 := Tryz.sizeOf3
 v3 := Tryz.zeroValue3
 t4 := Tryz.underlying4
 a4 := Tryz.isAgg4
 z4 := Tryz.sizeOf4
 v4 := Tryz.zeroValue4
 t5 := Tryz.underlying5
 a5 := Tryz.isAgg5
 z5 := Tryz.sizeOf5
 v5 := Tryz.zeroValue5
 t9 := Tryz.underlying9
 a9 := Tryz.isAgg9
 z9 := Tryz.sizeOf9
 v9 := Tryz.zeroValue9
 t20 := Tryz.underlying20
 a20 := Tryz.isAgg20
 z20 := Tryz.sizeOf20
 v20 := Tryz.zeroValue20
 t37 := Tryz.underlying32
 a37 := Tryz.isAgg32
 z37 := Tryz.sizeOf32
 v37 := Tryz.zeroValue32
 t46 := Tryz.underlying39
 a46 := Tryz.isAgg39
 z46 := Tryz.sizeOf39
 v46 := Tryz.zeroValue39
 t51 := Tryz.underlying113
 a51 := Tryz.isAgg113
 z51 := Tryz.sizeOf113
 v51 := Tryz.zeroValue113
 t53 := Tryz.underlying34
 a53 := Tryz.isAgg34
 z53 := Tryz.sizeOf34
 v53 := Tryz.zeroValue34
 t70 := Tryz.underlying130
 a70 := Tryz.isAgg130
 z70 := Tryz.sizeOf130
 v70 := Tryz.zeroValue130
 t72 := Tryz.underlying132
 a72 := Tryz.isAgg132
 z72 := Tryz.sizeOf132
 v72 := Tryz.zeroValue132
 t75 := Tryz.underlying135
 a75 := Tryz.isAgg135
 z75 := Tryz.sizeOf135
 v75 := Tryz.zeroValue135
 t76 := Tryz.underlying136
 a76 := Tryz.isAgg136
 z76 := Tryz.sizeOf136
 v76 := Tryz.zeroValue136
 t109 := Tryz.underlying128
 a109 := Tryz.isAgg128
 z109 := Tryz.sizeOf128
 v109 := Tryz.zeroValue128
 t127 := Tryz.underlying165
 a127 := Tryz.isAgg165
 z127 := Tryz.sizeOf165
 v127 := Tryz.zeroValue165
 t146 := Tryz.underlying162
 a146 := Tryz.isAgg162
 z146 := Tryz.sizeOf162
 v146 := Tryz.zeroValue162
 t148 := Tryz.underlying150
 a148 := Tryz.isAgg150
 z148 := Tryz.sizeOf150
 v148 := Tryz.zeroValue150
 t164 := Tryz.underlying168
 a164 := Tryz.isAgg168
 z164 := Tryz.sizeOf168
 v164 := Tryz.zeroValue168 }
theorem repExtra : Builder.Extra Tryz.prog repRen := {
 sizeBuilder := by kernel_rfl
 liesBuilder := by kernel_rfl
 t5 := Tryz.underlying5
 a5 := Tryz.isAgg5
 z5 := Tryz.sizeOf5
 v5 := Tryz.zeroValue5
 infoByte := by kernel_rfl
 cellsByte := by kernel_rfl
 sizeByte := by kernel_rfl
 neB5 := by decide }
def zs (c : Nat) : ByteArray := ⟨(List.replicate c (0 : UInt8)).toArray⟩
theorem repeatL_one (c : Nat) : Lib.repeatL [0] c = List.replicate c 0 := by
 induction c with
 | zero => rfl
 | succ c ih => rw [Lib.repeatL, ih]; rfl
theorem c_rep (c : Nat) (w : World) (hc : c < 1000) : Cs 57 #[.string ⟨#[0]⟩, .int .i64 (c : Int)] w (.string (zs c)) := by
 have h := Any.strings_Repeat repLays repExtra ⟨#[0]⟩ c w (by omega) (by show 1 * c ≤ _; omega)
 have e : (⟨(Lib.repeatL (⟨#[0]⟩ : ByteArray).data.toList c).toArray⟩ : ByteArray) = zs c := by
  unfold zs
  rw [show (⟨#[0]⟩ : ByteArray).data.toList = [0] from rfl, repeatL_one]
 rw [e] at h
 exact h
def r2 (a b : Int) : Nat → Int
 | 0 => a
 | _ => b
def padS (ct : Int) : ByteArray := (⟨#[128]⟩ ++ zs ((239 - (ct % 128).toNat) % 128)) ++ bs (hI (r2 (sr ct 61) (sl ct 3)) 2)
def sumV (H : HS) : ByteArray := bs (hI (tk H (padS H.ct) (padS H.ct).size).ws 8)
def ofV (s : ByteArray) : ByteArray := sumV (tk hs0 s s.size)
theorem run_cat {P : Program} {a : Act} {o : Oper} (t rt : TypeId) (x y : Operand) (ho : o.op = .binOp .add t x y rt) (s u : ByteArray) (hx : a.eval x = .string s) (hy : a.eval y = .string u) (hb : s.size + u.size ≤ 9223372036854775807) (w : World) :
  (execOp a.eval o).run P w = .ok (.value (.string (s ++ u))) w := by
 have h := run_string_add_sum (P := P) (w := w) s u hb
 unfold execOp
 simp [ho, hx, hy, eqGuard, binOp, h]
theorem zs_size (c : Nat) : (zs c).size = c := by simp [zs, ByteArray.size]
theorem below_same {w w' : World} {g : Nat} {Z : Obj} (h : Grw w w' [g]) (h1 : w.heap[g]? = some Z) (h2 : w'.heap[g]? = some Z) : Below w.heap.size w w' := ⟨h.os, h.tape, h.output, h.size, fun k hk => by
 by_cases e : k = g
 ·subst e
  rw [h1, h2]
 ·exact h.block k hk (fun e2 => e (List.mem_singleton.1 e2))⟩
theorem rem64 (n : Nat) : Int.tmod (n : Int) 128 = ((n % 128 : Nat) : Int) := by
 rw [Int.tmod_eq_emod_of_nonneg (by omega)]
 omega
theorem c_endA (H : HS) (hH : H.ok) (g : Nat) (A : ByteArray) (hA : padS H.ct = A) (w : World) (hL : Laid w) (hg : w.heap[g]? = some (.cells (av 138 (hF true H.ws H.rs H.ct)) 125)) (h0 : g ≠ 0) :
  Calls Tryz.prog 101 #[.pointer (some ⟨g, 0, none⟩)] w fun r w' => r = .returned (.tuple #[]) ∧ Grw w w' [g] ∧ w'.heap[g]? = some (.cells (av 138 (hF true (tk H A A.size).ws (tk H A A.size).rs (tk H A A.size).ct)) 125) := by
 go_enter Tryz.func101, Tryz.ntmps101
 have M := Mem.startp hL hg h0
 obtain ⟨p, hp⟩ : ∃ p, p = (H.ct % 128).toNat := ⟨_, rfl⟩
 have hp2 : H.ct % 128 = (p : Int) := by unfold HS.ok at hH; omega
 have hp1 : p < 128 := by omega
 refine wp_seq ?_
 refine rg_tail M 11 (by kernel_rfl) (by kernel_rfl) ?_
 simp only [List.take_succ_cons, List.take_zero]
 refine kV 5 (.pointer (some ⟨g, 0, none⟩)) ?_
 refine kV 6 (.pointer (some ⟨g, 0, none⟩)) ?_
 refine kV 7 (.pointer (some ⟨g, 137, none⟩)) ?_
 refine kE M 8 g 137 (.int .u64 H.ct) (fun w M => M.cell 0 rfl (by decide) rfl) ?_
 refine kV 9 (.int .u64 (sr H.ct 61)) ?_
 refine kV 10 (.pointer (some ⟨g, 0, none⟩)) ?_
 refine kV 11 (.pointer (some ⟨g, 0, none⟩)) ?_
 refine kV 12 (.pointer (some ⟨g, 137, none⟩)) ?_
 refine kE M 13 g 137 (.int .u64 H.ct) (fun w M => M.cell 0 rfl (by decide) rfl) ?_
 refine kV 14 (.int .u64 (sl H.ct 3)) ?_
 refine kV 2 (.int .u64 (sr H.ct 61)) ?_
 refine kl_nil fun u1 M => ?_
 refine pV 3 (.int .u64 (sl H.ct 3)) ?_
 refine nT ?_
 refine sR ?_
 refine pV 15 (.pointer (some ⟨g, 0, none⟩)) ?_
 refine pV 16 (.pointer (some ⟨g, 0, none⟩)) ?_
 refine pV 17 (.pointer (some ⟨g, 137, none⟩)) ?_
 refine pE M 18 g 137 (.int .u64 H.ct) (fun w M => M.cell 0 rfl (by decide) rfl) ?_
 refine pV 19 (.int .u64 (Int.tmod H.ct 128)) ?_
 refine pH 20 (.int .i64 (p : Int)) (fun w => Eq.trans (b := .ok (.value (.int .i64 (IntKind.wrap .i64 (Int.tmod H.ct 128)))) w) (by kernel_rfl) (by rw [rem128 H.ct hH.1 p hp2])) ?_
 refine pH 21 (.int .i64 ((239 - p : Nat) : Int)) (iV (239 - (p : Int)) (by omega) (by omega) (by omega)) ?_
 refine pH 22 (.int .i64 (((239 - p) % 128 : Nat) : Int)) (fun w => Eq.trans (b := .ok (.value (.int .i64 (Int.tmod ((239 - p : Nat) : Int) 128))) w) (by kernel_rfl) (by rw [rem64])) ?_
 refine pV 4 (.int .i64 (((239 - p) % 128 : Nat) : Int)) ?_
 refine nT ?_
 refine rg_lit ?_
 refine pV 23 (.pointer (some ⟨g, 0, none⟩)) ?_
 refine pV 24 (.int .i64 (((239 - p) % 128 : Nat) : Int)) ?_
 refine pC M 25 57 #[.string ⟨#[0]⟩, .int .i64 (((239 - p) % 128 : Nat) : Int)] (.string (zs ((239 - p) % 128))) (fun w M => c_rep ((239 - p) % 128) w (by omega)) fun u2 M => ?_
 refine pH 26 (.string (⟨#[128]⟩ ++ (zs ((239 - p) % 128)))) (run_cat 9 9 _ _ rfl ⟨#[128]⟩ ((zs ((239 - p) % 128))) (by kernel_rfl) (by kernel_rfl) (by rw [zs_size]; show 1 + _ ≤ _; omega)) ?_
 refine pV 27 (.int .u64 (sr H.ct 61)) ?_
 refine pV 28 (.int .u64 (sl H.ct 3)) ?_
 refine pl_mk M (want_no rfl) (some 29) rfl (fun g1 => .slice (some ⟨g1, 0, none⟩) 2 2) (.cells (av 2 (w64 (r2 (sr H.ct 61) (sl H.ct 3)))) 34) (fun _ => by kernel_rfl) fun g1 u3 M => ?_
 refine pC M 30 102 #[.slice (some ⟨g1, 0, none⟩) 2 2] (.string (bs (hI (r2 (sr H.ct 61) (sl H.ct 3)) 2))) (fun w M => c_high g1 0 2 2 (r2 (sr H.ct 61) (sl H.ct 3)) (by decide) w M.laid (fun i hi => by rw [Nat.zero_add]; exact M.cell 1 rfl hi rfl)) fun u4 M => ?_
 refine pH 31 (.string A) (fun w => Eq.trans (run_cat 9 9 _ _ rfl (⟨#[128]⟩ ++ zs ((239 - p) % 128)) (bs (hI (r2 (sr H.ct 61) (sl H.ct 3)) 2)) (by kernel_rfl) (by kernel_rfl) (by rw [ByteArray.size_append, zs_size, bs_size, hI_length]; show 1 + _ + _ ≤ _; omega) w) (by rw [← hA]; unfold padS; rw [← hp])) ?_
 refine pl_callp M (want_no rfl) (some 32) rfl 96 #[.pointer (some ⟨g, 0, none⟩), .string A] (.tuple #[]) 0 g (.cells (av 138 (hF true H.ws H.rs H.ct)) 125) (.cells (av 138 (hF true (tk H A A.size).ws (tk H A A.size).rs (tk H A A.size).ct)) 125) rfl (fun _ => by kernel_rfl) (fun w M => c_take H hH g A w M.laid (M.get 0 rfl) (M.ne0 0 rfl)) fun u5 M => ?_
 refine pl_nil ?_
 exact bodyPost_end (v := .tuple #[]) (results_none Tryz.results101 _ _) (by kernel_rfl) ⟨rfl, M.old, M.get 0 rfl⟩
theorem c_end (H : HS) (hH : H.ok) (g : Nat) (w : World) (hL : Laid w) (hg : w.heap[g]? = some (.cells (av 138 (hF true H.ws H.rs H.ct)) 125)) (h0 : g ≠ 0) : Calls Tryz.prog 101 #[.pointer (some ⟨g, 0, none⟩)] w fun r w' => r = .returned (.tuple #[]) ∧ Grw w w' [g] ∧ w'.heap[g]? = some (.cells (av 138 (hF true (tk H (padS H.ct) (padS H.ct).size).ws (tk H (padS H.ct) (padS H.ct).size).rs (tk H (padS H.ct) (padS H.ct).size).ct)) 125) := c_endA H hH g (padS H.ct) rfl w hL hg h0
theorem c_add (H : HS) (hH : H.ok) (g : Nat) (s : ByteArray) (w : World) (hL : Laid w) (hg : w.heap[g]? = some (.cells (av 138 (hF true H.ws H.rs H.ct)) 125)) (h0 : g ≠ 0) :
  Calls Tryz.prog 55 #[.pointer (some ⟨g, 0, none⟩), .string s] w fun r w' => r = .returned (.int .i64 0) ∧ Grw w w' [g] ∧ w'.heap[g]? = some (.cells (av 138 (hF true (tk H s s.size).ws (tk H s s.size).rs (tk H s s.size).ct)) 125) := by
 go_enter Tryz.func55, Tryz.ntmps55
 have M := Mem.startp hL hg h0
 refine sR ?_
 refine pV 4 (.int .i64 0) ?_
 refine nT ?_
 refine wp_seq ?_
 refine sR ?_
 refine pV 5 (.pointer (some ⟨g, 0, none⟩)) ?_
 refine pV 6 (.bool false) ?_
 refine pV 7 (.bool false) ?_
 refine pl_val (want_on 2 false rfl 7 rfl (by kernel_rfl)) (some 8) rfl (.pointer (some ⟨g, 0, none⟩)) (fun _ => by kernel_rfl) ?_
 refine pl_val (want_on 2 false rfl 7 rfl (by kernel_rfl)) (some 9) rfl (.pointer (some ⟨g, 0, none⟩)) (fun _ => by kernel_rfl) ?_
 refine pl_val (want_on 2 false rfl 7 rfl (by kernel_rfl)) (some 10) rfl (.pointer (some ⟨g, 0, none⟩)) (fun _ => by kernel_rfl) ?_
 refine pl_cell M (want_on 2 false rfl 7 rfl (by kernel_rfl)) (some 11) rfl 4 _ rfl g 0 (by kernel_rfl) (.bool true) (fun _ => by kernel_rfl) (fun w M => M.cell 0 rfl (by decide) rfl) ?_
 refine pl_val (want_on 2 false rfl 7 rfl (by kernel_rfl)) (some 12) rfl (.bool false) (fun _ => by kernel_rfl) ?_
 refine pV 13 (.bool false) ?_
 refine nT ?_
 refine wp_cond_false (by kernel_rfl) ?_
 refine wp_skip ?_
 refine au_then ?_
 refine sR ?_
 refine pV 14 (.pointer (some ⟨g, 0, none⟩)) ?_
 refine pV 15 (.string s) ?_
 refine pl_callp M (want_no rfl) (some 16) rfl 96 #[.pointer (some ⟨g, 0, none⟩), .string s] (.tuple #[]) 0 g (.cells (av 138 (hF true H.ws H.rs H.ct)) 125) (.cells (av 138 (hF true (tk H s s.size).ws (tk H s s.size).rs (tk H s s.size).ct)) 125) rfl (fun _ => by kernel_rfl) (fun w M => c_take H hH g s w M.laid (M.get 0 rfl) (M.ne0 0 rfl)) fun u1 M => ?_
 refine nT ?_
 refine sR ?_
 refine pV 4 (.int .i64 0) ?_
 refine nT ?_
 refine wp_ret ?_
 exact bodyPost_ret (v := .int .i64 0) (results_tmp1 Tryz.results55 _ _ _ (by kernel_rfl)) (by kernel_rfl) ⟨rfl, M.old, M.get 0 rfl⟩
theorem c_sum (H : HS) (hH : H.ok) (g : Nat) (w : World) (hL : Laid w) (hg : w.heap[g]? = some (.cells (av 138 (hF true H.ws H.rs H.ct)) 125)) (h0 : g ≠ 0) :
  Cs 56 #[.pointer (some ⟨g, 0, none⟩)] w (.string (sumV H)) := by
 go_enter Tryz.func56, Tryz.ntmps56
 have M := Mem.startp hL hg h0
 refine sR ?_
 refine pV 2 (.string ⟨#[]⟩) ?_
 refine nT ?_
 refine wp_seq ?_
 refine sR ?_
 refine pV 4 (.pointer (some ⟨g, 0, none⟩)) ?_
 refine pV 5 (.bool false) ?_
 refine pV 6 (.bool false) ?_
 refine pl_val (want_on 2 false rfl 6 rfl (by kernel_rfl)) (some 7) rfl (.pointer (some ⟨g, 0, none⟩)) (fun _ => by kernel_rfl) ?_
 refine pl_val (want_on 2 false rfl 6 rfl (by kernel_rfl)) (some 8) rfl (.pointer (some ⟨g, 0, none⟩)) (fun _ => by kernel_rfl) ?_
 refine pl_val (want_on 2 false rfl 6 rfl (by kernel_rfl)) (some 9) rfl (.pointer (some ⟨g, 0, none⟩)) (fun _ => by kernel_rfl) ?_
 refine pl_cell M (want_on 2 false rfl 6 rfl (by kernel_rfl)) (some 10) rfl 4 _ rfl g 0 (by kernel_rfl) (.bool true) (fun _ => by kernel_rfl) (fun w M => M.cell 0 rfl (by decide) rfl) ?_
 refine pl_val (want_on 2 false rfl 6 rfl (by kernel_rfl)) (some 11) rfl (.bool false) (fun _ => by kernel_rfl) ?_
 refine pV 12 (.bool false) ?_
 refine nT ?_
 refine wp_cond_false (by kernel_rfl) ?_
 refine wp_skip ?_
 refine au_then ?_
 refine sR ?_
 refine pV 13 (.pointer (some ⟨g, 0, none⟩)) ?_
 refine pV 14 (.pointer (some ⟨g, 0, none⟩)) ?_
 refine pA M 15 0 138 (hF true H.ws H.rs H.ct) ?_
 refine pN M 3 (.cells (av 138 (hF false (fun _ => 0) (fun _ => 0) 0)) 125) fun g1 u1 M => ?_
 refine pl_put M (want_no rfl) rfl 125 _ _ rfl 1 g1 0 (by kernel_rfl) 138 125 (hF false (fun _ => 0) (fun _ => 0) 0) rfl 138 (hF true H.ws H.rs H.ct) (hF true H.ws H.rs H.ct) (by kernel_rfl) inz125 (by decide) (hF_one true H.ws H.rs H.ct) (fun j hj => by rw [if_pos (by omega), Nat.sub_zero]) fun u2 M => ?_
 refine nT ?_
 refine sR ?_
 refine pl_callp M (want_no rfl) (some 16) rfl 101 #[.pointer (some ⟨g1, 0, none⟩)] (.tuple #[]) 1 g1 (.cells (av 138 (hF true H.ws H.rs H.ct)) 125) (.cells (av 138 (hF true (tk H (padS H.ct) (padS H.ct).size).ws (tk H (padS H.ct) (padS H.ct).size).rs (tk H (padS H.ct) (padS H.ct).size).ct)) 125) rfl (fun _ => by kernel_rfl) (fun w M => c_end H hH g1 w M.laid (M.get 1 rfl) (M.ne0 1 rfl)) fun u3 M => ?_
 refine nT ?_
 refine sR ?_
 refine pV 17 (.pointer (some ⟨g1, 1, none⟩)) ?_
 refine pV 18 (.slice (some ⟨g1, 1, none⟩) 8 8) ?_
 refine pC M 19 102 #[.slice (some ⟨g1, 1, none⟩) 8 8] (.string (sumV H)) (fun w M => c_high g1 1 8 8 (tk H (padS H.ct) (padS H.ct).size).ws (by decide) w M.laid (fun i hi => M.cell 1 rfl (by omega) (hF_words _ _ _ _ i hi))) fun u4 M => ?_
 refine pV 2 (.string (sumV H)) ?_
 refine nT ?_
 refine wp_ret ?_
 exact bodyPost_ret (v := .string (sumV H)) (results_tmp1 Tryz.results56 _ _ _ (by kernel_rfl)) (by kernel_rfl) ⟨rfl, below_same M.old hg (M.get 0 rfl)⟩
theorem hs0_ok : hs0.ok := ⟨by decide, by decide⟩
theorem c_of (s : ByteArray) (w : World) (hL : Laid w)  :
  Cs 45 #[.string s] w (.string (ofV s)) := by
 go_enter Tryz.func45, Tryz.ntmps45
 have M := Mem.start hL
 refine sR ?_
 refine pV 2 (.string ⟨#[]⟩) ?_
 refine nT ?_
 refine sR ?_
 refine pl_calln M (want_no rfl) (some 4) rfl 54 #[] (fun g1 => .pointer (some ⟨g1, 0, none⟩)) (.cells (av 138 (hF true hs0.ws hs0.rs hs0.ct)) 125) (fun _ => by kernel_rfl) (fun w M => c_new w M.laid) fun g1 u1 M => ?_
 refine pV 3 (.pointer (some ⟨g1, 0, none⟩)) ?_
 refine nT ?_
 refine sR ?_
 refine pV 5 (.pointer (some ⟨g1, 0, none⟩)) ?_
 refine pV 6 (.string s) ?_
 refine pl_callp M (want_no rfl) (some 7) rfl 96 #[.pointer (some ⟨g1, 0, none⟩), .string s] (.tuple #[]) 0 g1 (.cells (av 138 (hF true hs0.ws hs0.rs hs0.ct)) 125) (.cells (av 138 (hF true (tk hs0 s s.size).ws (tk hs0 s s.size).rs (tk hs0 s s.size).ct)) 125) rfl (fun _ => by kernel_rfl) (fun w M => c_take hs0 hs0_ok g1 s w M.laid (M.get 0 rfl) (M.ne0 0 rfl)) fun u2 M => ?_
 refine nT ?_
 refine sR ?_
 refine pV 8 (.pointer (some ⟨g1, 0, none⟩)) ?_
 refine pC M 9 56 #[.pointer (some ⟨g1, 0, none⟩)] (.string (ofV s)) (fun w M => c_sum (tk hs0 s s.size) (tk_ok hs0_ok s _) g1 w M.laid (M.get 0 rfl) (M.ne0 0 rfl)) fun u3 M => ?_
 refine pV 2 (.string (ofV s)) ?_
 refine nT ?_
 refine wp_ret ?_
 exact bodyPost_ret (v := .string (ofV s)) (results_tmp1 Tryz.results45 _ _ _ (by kernel_rfl)) (by kernel_rfl) ⟨rfl, below_grown M.old⟩
theorem sp1_congr {rs rs' : Nat → Int} : ∀ n, (∀ i, i < n → rs i = rs' i) → sp1 rs n = sp1 rs' n
 | 0, _ => rfl
 | n + 1, h => by
  unfold sp1
  rw [sp1_congr n fun i hi => h i (by omega), h n (by omega)]
theorem sp2_congr {rs rs' : Nat → Int} (h : ∀ i, i < 128 → rs i = rs' i) : ∀ n, sp2 rs n = sp2 rs' n
 | 0 => sp1_congr 128 h
 | n + 1 => by
  unfold sp2
  rw [sp2_congr h n]
theorem rd_congr {x rs rs' : Nat → Int} (h : ∀ i, i < 128 → rs i = rs' i) : ∀ n, rd x rs n = rd x rs' n
 | 0 => rfl
 | n + 1 => by
  unfold rd
  rw [rd_congr h n, sp2_congr h 64]
theorem mixV_congr {x rs rs' : Nat → Int} (h : ∀ i, i < 128 → rs i = rs' i) : mixV x rs = mixV x rs' := by
 unfold mixV
 rw [rd_congr h 80]
theorem st8_congr {x y : Nat → Int} (h : ∀ i, i < 8 → x i = y i) (c : Int) : st8 x c = st8 y c := by
 have h0 := h 0 (by decide)
 have h1 := h 1 (by decide)
 have h2 := h 2 (by decide)
 have h3 := h 3 (by decide)
 have h4 := h 4 (by decide)
 have h5 := h 5 (by decide)
 have h6 := h 6 (by decide)
 have h7 := h 7 (by decide)
 unfold st8 uF vF
 rw [h0, h1, h2, h3, h4, h5, h6, h7]
def lf (l : List Int) : Nat → Int := fun i => l.getD i 0
theorem sp2_cert (rs : Nat → Int) (W : List Int) (h1 : ∀ i, i < 16 → sp1 rs 128 i = lf W i) (h2 : ∀ j, j < 64 → lf W (16 + j) = ua (ua (ua (lf W j) (lS0 (lf W (j + 1)))) (lf W (j + 9))) (lS1 (lf W (j + 14)))) : ∀ n, n ≤ 64 → ∀ i, i < 16 + n → sp2 rs n i = lf W i
 | 0, _, i, hi => h1 i hi
 | n + 1, hn, i, hi => by
  unfold sp2 upd
  have ih := sp2_cert rs W h1 h2 n (by omega)
  by_cases e : i = 16 + n
  ·rw [if_pos e, e, ih n (by omega), ih (n + 1) (by omega), ih (n + 9) (by omega), ih (n + 14) (by omega), h2 n (by omega)]
  ·rw [if_neg e]
   exact ih i (by omega)
theorem rd_cert (x rs : Nat → Int) (W : List Int) (S : List (List Int)) (h0 : ∀ i, i < 8 → x i = lf (S.getD 0 []) i) (hW : ∀ i, i < 80 → sp2 rs 64 i = lf W i) (hS : ∀ j, j < 80 → ∀ i, i < 8 → st8 (lf (S.getD j [])) (ua (KF j) (lf W j)) i = lf (S.getD (j + 1) []) i) : ∀ j, j ≤ 80 → ∀ i, i < 8 → rd x rs j i = lf (S.getD j []) i
 | 0, _, i, hi => h0 i hi
 | j + 1, hj, i, hi => by
  unfold rd
  rw [st8_congr (rd_cert x rs W S h0 hW hS j (by omega)), hW j (by omega), hS j (by omega) i hi]
def chkW (W : List Int) : Bool := (List.range 64).all fun j => lf W (16 + j) == ua (ua (ua (lf W j) (lS0 (lf W (j + 1)))) (lf W (j + 9))) (lS1 (lf W (j + 14)))
def chkS (W : List Int) (S : List (List Int)) : Bool := (List.range 80).all fun j => (List.range 8).all fun i => st8 (lf (S.getD j [])) (ua (KF j) (lf W j)) i == lf (S.getD (j + 1) []) i
def chk1 (B W : List Int) : Bool := (List.range 16).all fun i => sp1 (lf B) 128 i == lf W i
theorem mix_cert (rs : Nat → Int) (B W : List Int) (S : List (List Int)) (hB : ∀ i, i < 128 → rs i = lf B i) (h1 : chk1 B W = true) (h2 : chkW W = true) (h3 : chkS W S = true) (h0 : ∀ i, i < 8 → HB i = lf (S.getD 0 []) i) : ∀ i, i < 8 → mixV HB rs i = ua (HB i) (lf (S.getD 80 []) i) := by
 intro i hi
 rw [mixV_congr hB]
 unfold chk1 at h1
 unfold chkW at h2
 unfold chkS at h3
 simp only [List.all_eq_true, List.mem_range, beq_iff_eq] at h1 h2 h3
 unfold mixV
 rw [rd_cert HB (lf B) W S h0 (sp2_cert (lf B) W h1 h2 64 (by omega)) h3 80 (by omega) i hi]
theorem zs_sb (c : Nat) : sb (zs c) = List.replicate c 0 := by
 unfold sb zs
 simp
theorem pad_sb (ct : Int) : sb (padS ct) = [128] ++ List.replicate ((239 - (ct % 128).toNat) % 128) 0 ++ hI (r2 (sr ct 61) (sl ct 3)) 2 := by
 unfold padS
 rw [sb_append, sb_append, zs_sb, sb_bs _ (hI_nn _ 2)]
 rfl
theorem pad_size (ct : Int) : (padS ct).size = 1 + (239 - (ct % 128).toNat) % 128 + 16 := by
 rw [← sb_length, pad_sb]
 simp [hI_length]
 omega
theorem sum_one (s : ByteArray) (n : Nat) (hn : s.size = n) (h : n < 112) (B : List Int) (hB : sb s ++ sb (padS n) = B) : (tk (tk hs0 s s.size) (padS (tk hs0 s s.size).ct) (padS (tk hs0 s s.size).ct).size).ws = mixV HB (lf B) := by
 have r1 := tk_run hs0 hs0_ok s 0 0 s (fun i => by rw [Nat.zero_add]) rfl n (by omega)
 rw [Nat.zero_add] at r1
 obtain ⟨a1, a2, a3⟩ := r1
 rw [if_neg (by omega)] at a3
 rw [hn]
 have hct : (tk hs0 s n).ct = (n : Int) := by
  rw [a2, ua_eq]
  show (0 + (n : Int)) % _ = _
  omega
 rw [hct]
 have hps : (padS (n : Int)).size = 128 - n := by
  rw [pad_size]
  omega
 have r2 := tk_run (tk hs0 s n) (tk_ok hs0_ok s n) (padS n) 0 n (padS n) (fun i => by rw [Nat.zero_add]) (by show (tk hs0 s n).ct % 128 = _; rw [hct]; omega) (128 - n) (by omega)
 rw [Nat.zero_add] at r2
 obtain ⟨b1, b2, b3⟩ := r2
 rw [if_pos (by omega)] at b3
 rw [hps, b3]
 show mixV (tk hs0 s n).ws (cpy (tk hs0 s n).rs n (128 - n) (padS n)) = _
 rw [a3, a1]
 refine mixV_congr fun i hi => ?_
 unfold cpy lf
 rw [← hB]
 have hl : (sb s).length = n := by rw [sb_length, hn]
 by_cases hi2 : i < n
 ·rw [if_neg (by omega), if_pos (by omega), Nat.sub_zero, bt_of_sb, List.getD_eq_getElem?_getD, List.getD_eq_getElem?_getD, List.getElem?_append_left (by omega)]
 ·rw [if_pos (by omega), bt_of_sb, List.getD_eq_getElem?_getD, List.getD_eq_getElem?_getD, List.getElem?_append_right (by omega), hl]
theorem hI_congr {f g : Nat → Int} : ∀ n, (∀ i, i < n → f i = g i) → hI f n = hI g n
 | 0, _ => rfl
 | n + 1, h => by
  unfold hI
  rw [hI_congr n fun i hi => h i (by omega), h n (by omega)]
theorem ofV_size (s : ByteArray) : (ofV s).size = 64 := by
 unfold ofV sumV
 rw [bs_size, hI_length]
theorem run_strh {P : Program} {a : Act} {o : Oper} (t : TypeId) (hu : P.underlying t = some .string) (x hi : Operand) (ho : o.op = .slice t x none (some hi) none) (s : ByteArray) (hx : a.eval x = .string s) (k : IntKind) (i : Nat) (hh : a.eval hi = .int k (i : Int)) (hle : i ≤ s.size) (v : ByteArray) (hv : s.extract 0 i = v) (w : World) :
  (execOp a.eval o).run P w = .ok (.value (.string v)) w := by
 subst hv
 unfold execOp
 simp [ho, hx, hh, run_sliceAt_string w t (.string s) none (some (.int k i)) none hu, run_slice_string_h w t s hu k i (by omega) (by omega)]
theorem uo_comm (x y : Int) : uo x y = uo y x := by
 unfold uo
 rw [BitVec.or_comm]
theorem ua_assoc (x y z : Int) : ua (ua x y) z = ua x (ua y z) := by
 rw [ua_eq, ua_eq, ua_eq, ua_eq]
 omega
theorem c_turn1 (x : Int) (w : World) (hL : Laid w)  :
  Cs 128 #[.int .u64 x, .int .u64 1] w (.int .u64 (rot x 1)) := by
 go_enter Tryz.func128, Tryz.ntmps128
 have M := Mem.start hL
 refine sR ?_
 refine pV 4 (.int .u64 0) ?_
 refine nT ?_
 refine sR ?_
 refine pV 5 (.int .u64 x) ?_
 refine pV 6 (.int .u64 1) ?_
 refine pV 7 (.int .u64 (sr x 1)) ?_
 refine pV 8 (.int .u64 x) ?_
 refine pV 9 (.int .u64 1) ?_
 refine pV 10 (.int .u64 63) ?_
 refine pV 11 (.int .u64 (sl x 63)) ?_
 refine pV 12 (.int .u64 (uo (sr x 1) (sl x 63))) ?_
 refine pV 4 (.int .u64 (uo (sr x 1) (sl x 63))) ?_
 refine nT ?_
 refine wp_ret ?_
 refine bodyPost_ret (v := .int .u64 (rot x 1)) (Eq.trans (b := .ok (.int .u64 (uo (sr x 1) (sl x 63))) _) (results_tmp1 Tryz.results128 _ _ _ (by kernel_rfl)) (by unfold rot; rw [uo_comm])) (by kernel_rfl) ⟨rfl, below_grown M.old⟩
theorem c_turn8 (x : Int) (w : World) (hL : Laid w)  :
  Cs 128 #[.int .u64 x, .int .u64 8] w (.int .u64 (rot x 8)) := by
 go_enter Tryz.func128, Tryz.ntmps128
 have M := Mem.start hL
 refine sR ?_
 refine pV 4 (.int .u64 0) ?_
 refine nT ?_
 refine sR ?_
 refine pV 5 (.int .u64 x) ?_
 refine pV 6 (.int .u64 8) ?_
 refine pV 7 (.int .u64 (sr x 8)) ?_
 refine pV 8 (.int .u64 x) ?_
 refine pV 9 (.int .u64 8) ?_
 refine pV 10 (.int .u64 56) ?_
 refine pV 11 (.int .u64 (sl x 56)) ?_
 refine pV 12 (.int .u64 (uo (sr x 8) (sl x 56))) ?_
 refine pV 4 (.int .u64 (uo (sr x 8) (sl x 56))) ?_
 refine nT ?_
 refine wp_ret ?_
 refine bodyPost_ret (v := .int .u64 (rot x 8)) (Eq.trans (b := .ok (.int .u64 (uo (sr x 8) (sl x 56))) _) (results_tmp1 Tryz.results128 _ _ _ (by kernel_rfl)) (by unfold rot; rw [uo_comm])) (by kernel_rfl) ⟨rfl, below_grown M.old⟩
theorem c_turn19 (x : Int) (w : World) (hL : Laid w)  :
  Cs 128 #[.int .u64 x, .int .u64 19] w (.int .u64 (rot x 19)) := by
 go_enter Tryz.func128, Tryz.ntmps128
 have M := Mem.start hL
 refine sR ?_
 refine pV 4 (.int .u64 0) ?_
 refine nT ?_
 refine sR ?_
 refine pV 5 (.int .u64 x) ?_
 refine pV 6 (.int .u64 19) ?_
 refine pV 7 (.int .u64 (sr x 19)) ?_
 refine pV 8 (.int .u64 x) ?_
 refine pV 9 (.int .u64 19) ?_
 refine pV 10 (.int .u64 45) ?_
 refine pV 11 (.int .u64 (sl x 45)) ?_
 refine pV 12 (.int .u64 (uo (sr x 19) (sl x 45))) ?_
 refine pV 4 (.int .u64 (uo (sr x 19) (sl x 45))) ?_
 refine nT ?_
 refine wp_ret ?_
 refine bodyPost_ret (v := .int .u64 (rot x 19)) (Eq.trans (b := .ok (.int .u64 (uo (sr x 19) (sl x 45))) _) (results_tmp1 Tryz.results128 _ _ _ (by kernel_rfl)) (by unfold rot; rw [uo_comm])) (by kernel_rfl) ⟨rfl, below_grown M.old⟩
theorem c_turn61 (x : Int) (w : World) (hL : Laid w)  :
  Cs 128 #[.int .u64 x, .int .u64 61] w (.int .u64 (rot x 61)) := by
 go_enter Tryz.func128, Tryz.ntmps128
 have M := Mem.start hL
 refine sR ?_
 refine pV 4 (.int .u64 0) ?_
 refine nT ?_
 refine sR ?_
 refine pV 5 (.int .u64 x) ?_
 refine pV 6 (.int .u64 61) ?_
 refine pV 7 (.int .u64 (sr x 61)) ?_
 refine pV 8 (.int .u64 x) ?_
 refine pV 9 (.int .u64 61) ?_
 refine pV 10 (.int .u64 3) ?_
 refine pV 11 (.int .u64 (sl x 3)) ?_
 refine pV 12 (.int .u64 (uo (sr x 61) (sl x 3))) ?_
 refine pV 4 (.int .u64 (uo (sr x 61) (sl x 3))) ?_
 refine nT ?_
 refine wp_ret ?_
 refine bodyPost_ret (v := .int .u64 (rot x 61)) (Eq.trans (b := .ok (.int .u64 (uo (sr x 61) (sl x 3))) _) (results_tmp1 Tryz.results128 _ _ _ (by kernel_rfl)) (by unfold rot; rw [uo_comm])) (by kernel_rfl) ⟨rfl, below_grown M.old⟩
theorem c_turn14 (x : Int) (w : World) (hL : Laid w)  :
  Cs 128 #[.int .u64 x, .int .u64 14] w (.int .u64 (rot x 14)) := by
 go_enter Tryz.func128, Tryz.ntmps128
 have M := Mem.start hL
 refine sR ?_
 refine pV 4 (.int .u64 0) ?_
 refine nT ?_
 refine sR ?_
 refine pV 5 (.int .u64 x) ?_
 refine pV 6 (.int .u64 14) ?_
 refine pV 7 (.int .u64 (sr x 14)) ?_
 refine pV 8 (.int .u64 x) ?_
 refine pV 9 (.int .u64 14) ?_
 refine pV 10 (.int .u64 50) ?_
 refine pV 11 (.int .u64 (sl x 50)) ?_
 refine pV 12 (.int .u64 (uo (sr x 14) (sl x 50))) ?_
 refine pV 4 (.int .u64 (uo (sr x 14) (sl x 50))) ?_
 refine nT ?_
 refine wp_ret ?_
 refine bodyPost_ret (v := .int .u64 (rot x 14)) (Eq.trans (b := .ok (.int .u64 (uo (sr x 14) (sl x 50))) _) (results_tmp1 Tryz.results128 _ _ _ (by kernel_rfl)) (by unfold rot; rw [uo_comm])) (by kernel_rfl) ⟨rfl, below_grown M.old⟩
theorem c_turn18 (x : Int) (w : World) (hL : Laid w)  :
  Cs 128 #[.int .u64 x, .int .u64 18] w (.int .u64 (rot x 18)) := by
 go_enter Tryz.func128, Tryz.ntmps128
 have M := Mem.start hL
 refine sR ?_
 refine pV 4 (.int .u64 0) ?_
 refine nT ?_
 refine sR ?_
 refine pV 5 (.int .u64 x) ?_
 refine pV 6 (.int .u64 18) ?_
 refine pV 7 (.int .u64 (sr x 18)) ?_
 refine pV 8 (.int .u64 x) ?_
 refine pV 9 (.int .u64 18) ?_
 refine pV 10 (.int .u64 46) ?_
 refine pV 11 (.int .u64 (sl x 46)) ?_
 refine pV 12 (.int .u64 (uo (sr x 18) (sl x 46))) ?_
 refine pV 4 (.int .u64 (uo (sr x 18) (sl x 46))) ?_
 refine nT ?_
 refine wp_ret ?_
 refine bodyPost_ret (v := .int .u64 (rot x 18)) (Eq.trans (b := .ok (.int .u64 (uo (sr x 18) (sl x 46))) _) (results_tmp1 Tryz.results128 _ _ _ (by kernel_rfl)) (by unfold rot; rw [uo_comm])) (by kernel_rfl) ⟨rfl, below_grown M.old⟩
theorem c_turn41 (x : Int) (w : World) (hL : Laid w)  :
  Cs 128 #[.int .u64 x, .int .u64 41] w (.int .u64 (rot x 41)) := by
 go_enter Tryz.func128, Tryz.ntmps128
 have M := Mem.start hL
 refine sR ?_
 refine pV 4 (.int .u64 0) ?_
 refine nT ?_
 refine sR ?_
 refine pV 5 (.int .u64 x) ?_
 refine pV 6 (.int .u64 41) ?_
 refine pV 7 (.int .u64 (sr x 41)) ?_
 refine pV 8 (.int .u64 x) ?_
 refine pV 9 (.int .u64 41) ?_
 refine pV 10 (.int .u64 23) ?_
 refine pV 11 (.int .u64 (sl x 23)) ?_
 refine pV 12 (.int .u64 (uo (sr x 41) (sl x 23))) ?_
 refine pV 4 (.int .u64 (uo (sr x 41) (sl x 23))) ?_
 refine nT ?_
 refine wp_ret ?_
 refine bodyPost_ret (v := .int .u64 (rot x 41)) (Eq.trans (b := .ok (.int .u64 (uo (sr x 41) (sl x 23))) _) (results_tmp1 Tryz.results128 _ _ _ (by kernel_rfl)) (by unfold rot; rw [uo_comm])) (by kernel_rfl) ⟨rfl, below_grown M.old⟩
theorem c_turn28 (x : Int) (w : World) (hL : Laid w)  :
  Cs 128 #[.int .u64 x, .int .u64 28] w (.int .u64 (rot x 28)) := by
 go_enter Tryz.func128, Tryz.ntmps128
 have M := Mem.start hL
 refine sR ?_
 refine pV 4 (.int .u64 0) ?_
 refine nT ?_
 refine sR ?_
 refine pV 5 (.int .u64 x) ?_
 refine pV 6 (.int .u64 28) ?_
 refine pV 7 (.int .u64 (sr x 28)) ?_
 refine pV 8 (.int .u64 x) ?_
 refine pV 9 (.int .u64 28) ?_
 refine pV 10 (.int .u64 36) ?_
 refine pV 11 (.int .u64 (sl x 36)) ?_
 refine pV 12 (.int .u64 (uo (sr x 28) (sl x 36))) ?_
 refine pV 4 (.int .u64 (uo (sr x 28) (sl x 36))) ?_
 refine nT ?_
 refine wp_ret ?_
 refine bodyPost_ret (v := .int .u64 (rot x 28)) (Eq.trans (b := .ok (.int .u64 (uo (sr x 28) (sl x 36))) _) (results_tmp1 Tryz.results128 _ _ _ (by kernel_rfl)) (by unfold rot; rw [uo_comm])) (by kernel_rfl) ⟨rfl, below_grown M.old⟩
theorem c_turn34 (x : Int) (w : World) (hL : Laid w)  :
  Cs 128 #[.int .u64 x, .int .u64 34] w (.int .u64 (rot x 34)) := by
 go_enter Tryz.func128, Tryz.ntmps128
 have M := Mem.start hL
 refine sR ?_
 refine pV 4 (.int .u64 0) ?_
 refine nT ?_
 refine sR ?_
 refine pV 5 (.int .u64 x) ?_
 refine pV 6 (.int .u64 34) ?_
 refine pV 7 (.int .u64 (sr x 34)) ?_
 refine pV 8 (.int .u64 x) ?_
 refine pV 9 (.int .u64 34) ?_
 refine pV 10 (.int .u64 30) ?_
 refine pV 11 (.int .u64 (sl x 30)) ?_
 refine pV 12 (.int .u64 (uo (sr x 34) (sl x 30))) ?_
 refine pV 4 (.int .u64 (uo (sr x 34) (sl x 30))) ?_
 refine nT ?_
 refine wp_ret ?_
 refine bodyPost_ret (v := .int .u64 (rot x 34)) (Eq.trans (b := .ok (.int .u64 (uo (sr x 34) (sl x 30))) _) (results_tmp1 Tryz.results128 _ _ _ (by kernel_rfl)) (by unfold rot; rw [uo_comm])) (by kernel_rfl) ⟨rfl, below_grown M.old⟩
theorem c_turn39 (x : Int) (w : World) (hL : Laid w)  :
  Cs 128 #[.int .u64 x, .int .u64 39] w (.int .u64 (rot x 39)) := by
 go_enter Tryz.func128, Tryz.ntmps128
 have M := Mem.start hL
 refine sR ?_
 refine pV 4 (.int .u64 0) ?_
 refine nT ?_
 refine sR ?_
 refine pV 5 (.int .u64 x) ?_
 refine pV 6 (.int .u64 39) ?_
 refine pV 7 (.int .u64 (sr x 39)) ?_
 refine pV 8 (.int .u64 x) ?_
 refine pV 9 (.int .u64 39) ?_
 refine pV 10 (.int .u64 25) ?_
 refine pV 11 (.int .u64 (sl x 25)) ?_
 refine pV 12 (.int .u64 (uo (sr x 39) (sl x 25))) ?_
 refine pV 4 (.int .u64 (uo (sr x 39) (sl x 25))) ?_
 refine nT ?_
 refine wp_ret ?_
 refine bodyPost_ret (v := .int .u64 (rot x 39)) (Eq.trans (b := .ok (.int .u64 (uo (sr x 39) (sl x 25))) _) (results_tmp1 Tryz.results128 _ _ _ (by kernel_rfl)) (by unfold rot; rw [uo_comm])) (by kernel_rfl) ⟨rfl, below_grown M.old⟩
theorem c_K  (w : World) (hL : Laid w)  :
  Cs 129 #[] w (.agg (av 80 (w64 KF))) := by
 go_enter Tryz.func129, Tryz.ntmps129
 have M := Mem.start hL
 refine sR ?_
 refine pN M 0 (.cells (av 80 (w64 fun _ => 0)) 155) fun g1 u1 M => ?_
 refine nT ?_
 refine sR ?_
 refine pV 1 (.agg (av 80 (w64 KF))) ?_
 refine pl_put M (want_no rfl) rfl 155 _ _ rfl 0 g1 0 (by kernel_rfl) 80 155 (w64 fun _ => 0) rfl 80 (w64 KF) (w64 KF) (by kernel_rfl) inz155 (by decide) (fun _ _ => rfl) (fun j hj => by rw [if_pos (by omega), Nat.sub_zero]) fun u2 M => ?_
 refine nT ?_
 refine wp_ret ?_
 exact bodyPost_ret (v := .agg (av 80 (w64 KF))) (results_cell_row Tryz.results129 _ _ g1 155 (av 80 (w64 KF)) (0, 0) _ (by kernel_rfl) (M.get 0 rfl) Tryz.underlying155 rfl (by rw [av_size]; exact inz155)) (by kernel_rfl) ⟨rfl, below_grown M.old⟩
theorem c_begin  (w : World) (hL : Laid w)  :
  Cs 73 #[] w (.agg (av 8 (w64 HB))) := by
 go_enter Tryz.func73, Tryz.ntmps73
 have M := Mem.start hL
 refine sR ?_
 refine pN M 0 (.cells (av 8 (w64 fun _ => 0)) 95) fun g1 u1 M => ?_
 refine nT ?_
 refine sR ?_
 refine pV 1 (.agg (av 8 (w64 HB))) ?_
 refine pl_put M (want_no rfl) rfl 95 _ _ rfl 0 g1 0 (by kernel_rfl) 8 95 (w64 fun _ => 0) rfl 8 (w64 HB) (w64 HB) (by kernel_rfl) inz95 (by decide) (fun _ _ => rfl) (fun j hj => by rw [if_pos (by omega), Nat.sub_zero]) fun u2 M => ?_
 refine nT ?_
 refine wp_ret ?_
 exact bodyPost_ret (v := .agg (av 8 (w64 HB))) (results_cell_row Tryz.results73 _ _ g1 95 (av 8 (w64 HB)) (0, 0) _ (by kernel_rfl) (M.get 0 rfl) Tryz.underlying95 rfl (by rw [av_size]; exact inz95)) (by kernel_rfl) ⟨rfl, below_grown M.old⟩
theorem c_piece (h rs : Nat → Int) (g off cap : Nat) (w : World) (hL : Laid w) (hc : ∀ i, i < 128 → w.cell? ⟨g, off + i, none⟩ = some (.int .u8 (rs i))) :
  Cs 74 #[.agg (av 8 (w64 h)), .slice (some ⟨g, off, none⟩) 128 cap] w (.agg (av 8 (w64 (mixV h rs)))) := by
 go_enter Tryz.func74, Tryz.ntmps74
 have M := Mem.start hL
 refine sR ?_
 refine pN M 2 (.cells (av 8 (w64 h)) 95) fun g1 u1 M => ?_
 refine pN M 4 (.cells (av 8 (w64 fun _ => 0)) 95) fun g2 u2 M => ?_
 refine nT ?_
 refine sR ?_
 refine pN M 5 (.cells (av 80 (w64 fun _ => 0)) 155) fun g3 u3 M => ?_
 refine nT ?_
 refine wp_seq ?_
 refine sR ?_
 refine pV 6 (.int .i64 0) ?_
 refine nT ?_
 refine wp_block ?_
 refine au_loop (fun j a w' => ∃ v1 : Nat → Value, a = ⟨#[.agg (av 8 (w64 h)), .slice (some ⟨g, off, none⟩) 128 cap, .pointer (some ⟨g1, 0, none⟩), undef, .pointer (some ⟨g2, 0, none⟩), .pointer (some ⟨g3, 0, none⟩), .int .i64 (j : Int), undef, undef, undef, undef, undef, undef, undef, undef, undef, undef, undef, v1 18, v1 19, v1 20, v1 21, v1 22, v1 23, v1 24, v1 25, v1 26, v1 27, v1 28, v1 29, v1 30, v1 31, v1 32, v1 33, v1 34, v1 35, undef, undef, undef, undef, undef, undef, undef, undef, undef, undef, undef, undef, undef, undef, undef, undef, undef, undef, undef, undef, undef, undef, undef, undef, undef, undef, undef, undef, undef, undef, undef, undef, undef, undef, undef, undef, undef, undef, undef, undef, undef, undef, undef, undef, undef, undef, undef, undef, undef, undef, undef, undef, undef, undef, undef, undef, undef, undef, undef, undef, undef, undef, undef, undef, undef, undef, undef, undef, undef, undef, undef, undef, undef, undef, undef, undef, undef, undef, undef, undef, undef, undef, undef, undef, undef, undef, undef, undef, undef, undef, undef, undef, undef, undef, undef, undef, undef, undef, undef, undef, undef, undef, undef, undef, undef, undef, undef, undef, undef, undef, undef, undef, undef, undef, undef, undef, undef, undef, undef, undef, undef, undef, undef, undef, undef, undef, undef, undef, undef, undef, undef, undef, undef, undef, undef, undef, undef, undef, undef], []⟩ ∧ Mem ⟨w, []⟩ [⟨g1, .cells (av 8 (w64 h)) 95⟩, ⟨g2, .cells (av 8 (w64 fun _ => 0)) 95⟩, ⟨g3, .cells (av 80 (w64 (sp1 rs j))) 155⟩] w') 128 ⟨fun k_ => ([undef, undef, undef, undef, undef, undef, undef, undef, undef, undef, undef, undef, undef, undef, undef, undef, undef, undef] : List Value).getD (k_ - 18) undef, by kernel_rfl, M⟩ ?_ ?_
 ·intro j a u0 hj hI
  obtain ⟨v1, rfl, M⟩ := hI
  refine wp_seq ?_
  refine sR ?_
  refine pV 18 (.int .i64 (j : Int)) ?_
  refine pH 19 (.bool true) (dT ((j : Int) < 128) (by omega)) ?_
  refine nT ?_
  refine wp_cond_true (by kernel_rfl) ?_
  refine wp_skip ?_
  refine au_then ?_
  refine wp_seq ?_
  refine wp_block ?_
  refine rg_tail M 14 (by kernel_rfl) (by kernel_rfl) ?_
  simp only [List.take_succ_cons, List.take_zero]
  refine kV 22 (.int .i64 (j : Int)) ?_
  refine kH 23 (.int .i64 ((j / 8 : Nat) : Int)) (fun w => Eq.trans (b := .ok (.value (.int .i64 (IntKind.wrap .i64 ((j : Int).tdiv 8)))) w) (by kernel_rfl) (by rw [quo8 j (by omega)])) ?_
  refine kV 24 (.int .i64 (j : Int)) ?_
  refine kH 25 (.int .i64 ((j / 8 : Nat) : Int)) (fun w => Eq.trans (b := .ok (.value (.int .i64 (IntKind.wrap .i64 ((j : Int).tdiv 8)))) w) (by kernel_rfl) (by rw [quo8 j (by omega)])) ?_
  refine kH 26 (.pointer (some ⟨g3, ((j / 8 : Nat)), none⟩)) (run_ix1 155 80 34 Tryz.underlying155 inz34 _ _ rfl g3 (by kernel_rfl) .i64 ((j / 8 : Nat)) (by kernel_rfl) (by omega)) ?_
  refine kE M 27 g3 ((j / 8 : Nat)) (.int .u64 ((sp1 rs j) ((j / 8 : Nat)))) (fun w M => M.cell 2 rfl (by omega) rfl) ?_
  refine kV 28 (.int .u64 (sl ((sp1 rs j) ((j / 8 : Nat))) 8)) ?_
  refine kV 29 (.slice (some ⟨g, off, none⟩) 128 cap) ?_
  refine kV 30 (.int .i64 (j : Int)) ?_
  refine kH 31 (.pointer (some ⟨g, off + j, none⟩)) (run_ixL 32 5 Tryz.underlying32 inz5 _ _ rfl g off 128 cap (by kernel_rfl) .i64 j (by kernel_rfl) hj) ?_
  refine kE M 32 g (off + j) (.int .u8 (rs j)) (fun w M => M.oldc (hc j hj) (by simp)) ?_
  refine kV 33 (.int .u64 (cv .u64 (rs j))) ?_
  refine kV 34 (.int .u64 (uo (sl ((sp1 rs j) ((j / 8 : Nat))) 8) (cv .u64 (rs j)))) ?_
  refine kH 35 (.pointer (some ⟨g3, ((j / 8 : Nat)), none⟩)) (run_ix1 155 80 34 Tryz.underlying155 inz34 _ _ rfl g3 (by kernel_rfl) .i64 ((j / 8 : Nat)) (by kernel_rfl) (by omega)) ?_
  refine kl_nil fun u4 M => ?_
  refine pP M 2 rfl ((j / 8 : Nat)) (.int .u64 (uo (sl ((sp1 rs j) ((j / 8 : Nat))) 8) (cv .u64 (rs j)))) (w64 (upd (sp1 rs j) ((j / 8 : Nat)) (uo (sl ((sp1 rs j) ((j / 8 : Nat))) 8) (cv .u64 (rs j))))) (by omega) (fun j _ => put_w64 _ _ _ j) fun u5 M => ?_
  refine pl_nil ?_
  refine au_block ?_
  refine au_then ?_
  refine rg_lit ?_
  refine pV 20 (.int .i64 (j : Int)) ?_
  refine pH 21 (.int .i64 ((j + 1 : Nat) : Int)) (iV ((j : Int) + 1) (by omega) (by omega) (by omega)) ?_
  refine pV 6 (.int .i64 ((j + 1 : Nat) : Int)) ?_
  refine nT ?_
  exact ⟨fun k_ => ([.int .i64 (j : Int), .bool true, .int .i64 (j : Int), .int .i64 ((j + 1 : Nat) : Int), .int .i64 (j : Int), .int .i64 ((j / 8 : Nat) : Int), .int .i64 (j : Int), .int .i64 ((j / 8 : Nat) : Int), .pointer (some ⟨g3, ((j / 8 : Nat)), none⟩), .int .u64 ((sp1 rs j) ((j / 8 : Nat))), .int .u64 (sl ((sp1 rs j) ((j / 8 : Nat))) 8), .slice (some ⟨g, off, none⟩) 128 cap, .int .i64 (j : Int), .pointer (some ⟨g, off + j, none⟩), .int .u8 (rs j), .int .u64 (cv .u64 (rs j)), .int .u64 (uo (sl ((sp1 rs j) ((j / 8 : Nat))) 8) (cv .u64 (rs j))), .pointer (some ⟨g3, ((j / 8 : Nat)), none⟩)] : List Value).getD (k_ - 18) undef, by kernel_rfl, M⟩
 ·intro a u0 hI
  obtain ⟨v1, rfl, M⟩ := hI
  refine wp_seq ?_
  refine sR ?_
  refine pV 18 (.int .i64 (128 : Int)) ?_
  refine pH 19 (.bool false) (dF (128 < 128) (by omega)) ?_
  refine nT ?_
  refine wp_cond_false (by kernel_rfl) ?_
  refine wp_exit ?_
  refine au_then_exit ?_
  refine au_then_exit ?_
  refine au_block_exit ?_
  refine au_then ?_
  refine wp_seq ?_
  refine sR ?_
  refine pV 7 (.int .i64 16) ?_
  refine nT ?_
  refine wp_block ?_
  refine au_loop (fun j a w' => ∃ v2 : Nat → Value, a = ⟨#[.agg (av 8 (w64 h)), .slice (some ⟨g, off, none⟩) 128 cap, .pointer (some ⟨g1, 0, none⟩), undef, .pointer (some ⟨g2, 0, none⟩), .pointer (some ⟨g3, 0, none⟩), .int .i64 (128 : Int), .int .i64 ((16 + j : Nat) : Int), v2 8, v2 9, undef, undef, undef, undef, undef, undef, undef, undef, .int .i64 (128 : Int), .bool false, v1 20, v1 21, v1 22, v1 23, v1 24, v1 25, v1 26, v1 27, v1 28, v1 29, v1 30, v1 31, v1 32, v1 33, v1 34, v1 35, v2 36, v2 37, v2 38, v2 39, v2 40, v2 41, v2 42, v2 43, v2 44, v2 45, v2 46, v2 47, v2 48, v2 49, v2 50, v2 51, v2 52, v2 53, v2 54, v2 55, v2 56, v2 57, v2 58, v2 59, v2 60, v2 61, v2 62, v2 63, v2 64, v2 65, v2 66, v2 67, v2 68, v2 69, v2 70, v2 71, v2 72, v2 73, v2 74, v2 75, v2 76, undef, undef, undef, undef, undef, undef, undef, undef, undef, undef, undef, undef, undef, undef, undef, undef, undef, undef, undef, undef, undef, undef, undef, undef, undef, undef, undef, undef, undef, undef, undef, undef, undef, undef, undef, undef, undef, undef, undef, undef, undef, undef, undef, undef, undef, undef, undef, undef, undef, undef, undef, undef, undef, undef, undef, undef, undef, undef, undef, undef, undef, undef, undef, undef, undef, undef, undef, undef, undef, undef, undef, undef, undef, undef, undef, undef, undef, undef, undef, undef, undef, undef, undef, undef, undef, undef, undef, undef, undef, undef, undef, undef, undef, undef, undef, undef, undef, undef], []⟩ ∧ Mem ⟨w, []⟩ [⟨g1, .cells (av 8 (w64 h)) 95⟩, ⟨g2, .cells (av 8 (w64 fun _ => 0)) 95⟩, ⟨g3, .cells (av 80 (w64 (sp2 rs j))) 155⟩] w') 64 ⟨fun k_ => ([undef, undef, undef, undef, undef, undef, undef, undef, undef, undef, undef, undef, undef, undef, undef, undef, undef, undef, undef, undef, undef, undef, undef, undef, undef, undef, undef, undef, undef, undef, undef, undef, undef, undef, undef, undef, undef, undef, undef, undef, undef, undef, undef, undef, undef, undef, undef, undef, undef, undef, undef, undef, undef, undef, undef, undef, undef, undef, undef, undef, undef, undef, undef, undef, undef, undef, undef, undef, undef] : List Value).getD (k_ - 8) undef, by kernel_rfl, M⟩ ?_ ?_
  ·intro j a u0 hj hI
   obtain ⟨v2, rfl, M⟩ := hI
   refine wp_seq ?_
   refine sR ?_
   refine pV 36 (.int .i64 ((16 + j : Nat) : Int)) ?_
   refine pH 37 (.bool true) (dT (((16 + j : Nat) : Int) < 80) (by omega)) ?_
   refine nT ?_
   refine wp_cond_true (by kernel_rfl) ?_
   refine wp_skip ?_
   refine au_then ?_
   refine wp_seq ?_
   refine wp_block ?_
   refine sR ?_
   refine pV 40 (.int .i64 ((16 + j : Nat) : Int)) ?_
   refine pH 41 (.int .i64 ((j + 1 : Nat) : Int)) (iV (((16 + j : Nat) : Int) - 15) (by omega) (by omega) (by omega)) ?_
   refine pH 42 (.pointer (some ⟨g3, ((j + 1 : Nat)), none⟩)) (run_ix1 155 80 34 Tryz.underlying155 inz34 _ _ rfl g3 (by kernel_rfl) .i64 ((j + 1 : Nat)) (by kernel_rfl) (by omega)) ?_
   refine pE M 43 g3 ((j + 1 : Nat)) (.int .u64 ((sp2 rs j) ((j + 1 : Nat)))) (fun w M => M.cell 2 rfl (by omega) rfl) ?_
   refine pV 8 (.int .u64 ((sp2 rs j) ((j + 1 : Nat)))) ?_
   refine nT ?_
   refine sR ?_
   refine pV 44 (.int .i64 ((16 + j : Nat) : Int)) ?_
   refine pH 45 (.int .i64 ((j + 14 : Nat) : Int)) (iV (((16 + j : Nat) : Int) - 2) (by omega) (by omega) (by omega)) ?_
   refine pH 46 (.pointer (some ⟨g3, ((j + 14 : Nat)), none⟩)) (run_ix1 155 80 34 Tryz.underlying155 inz34 _ _ rfl g3 (by kernel_rfl) .i64 ((j + 14 : Nat)) (by kernel_rfl) (by omega)) ?_
   refine pE M 47 g3 ((j + 14 : Nat)) (.int .u64 ((sp2 rs j) ((j + 14 : Nat)))) (fun w M => M.cell 2 rfl (by omega) rfl) ?_
   refine pV 9 (.int .u64 ((sp2 rs j) ((j + 14 : Nat)))) ?_
   refine nT ?_
   refine rg_tail M 29 (by kernel_rfl) (by kernel_rfl) ?_
   simp only [List.take_succ_cons, List.take_zero]
   refine kV 48 (.int .i64 ((16 + j : Nat) : Int)) ?_
   refine kV 49 (.int .i64 ((16 + j : Nat) : Int)) ?_
   refine kH 50 (.int .i64 (j : Int)) (iV (((16 + j : Nat) : Int) - 16) (by omega) (by omega) (by omega)) ?_
   refine kH 51 (.pointer (some ⟨g3, j, none⟩)) (run_ix1 155 80 34 Tryz.underlying155 inz34 _ _ rfl g3 (by kernel_rfl) .i64 (j) (by kernel_rfl) (by omega)) ?_
   refine kE M 52 g3 j (.int .u64 ((sp2 rs j) j)) (fun w M => M.cell 2 rfl (by omega) rfl) ?_
   refine kV 53 (.int .u64 ((sp2 rs j) ((j + 1 : Nat)))) ?_
   refine kC M 54 128 #[.int .u64 ((sp2 rs j) ((j + 1 : Nat))), .int .u64 1] (.int .u64 (rot ((sp2 rs j) ((j + 1 : Nat))) 1)) (fun w M => c_turn1 ((sp2 rs j) ((j + 1 : Nat))) w M.laid) ?_
   refine kV 55 (.int .u64 ((sp2 rs j) ((j + 1 : Nat)))) ?_
   refine kC M 56 128 #[.int .u64 ((sp2 rs j) ((j + 1 : Nat))), .int .u64 8] (.int .u64 (rot ((sp2 rs j) ((j + 1 : Nat))) 8)) (fun w M => c_turn8 ((sp2 rs j) ((j + 1 : Nat))) w M.laid) ?_
   refine kV 57 (.int .u64 (ux (rot ((sp2 rs j) ((j + 1 : Nat))) 1) (rot ((sp2 rs j) ((j + 1 : Nat))) 8))) ?_
   refine kV 58 (.int .u64 ((sp2 rs j) ((j + 1 : Nat)))) ?_
   refine kV 59 (.int .u64 (sr ((sp2 rs j) ((j + 1 : Nat))) 7)) ?_
   refine kV 60 (.int .u64 (ux (ux (rot ((sp2 rs j) ((j + 1 : Nat))) 1) (rot ((sp2 rs j) ((j + 1 : Nat))) 8)) (sr ((sp2 rs j) ((j + 1 : Nat))) 7))) ?_
   refine kV 61 (.int .u64 (ua ((sp2 rs j) j) (ux (ux (rot ((sp2 rs j) ((j + 1 : Nat))) 1) (rot ((sp2 rs j) ((j + 1 : Nat))) 8)) (sr ((sp2 rs j) ((j + 1 : Nat))) 7)))) ?_
   refine kV 62 (.int .i64 ((16 + j : Nat) : Int)) ?_
   refine kH 63 (.int .i64 ((j + 9 : Nat) : Int)) (iV (((16 + j : Nat) : Int) - 7) (by omega) (by omega) (by omega)) ?_
   refine kH 64 (.pointer (some ⟨g3, ((j + 9 : Nat)), none⟩)) (run_ix1 155 80 34 Tryz.underlying155 inz34 _ _ rfl g3 (by kernel_rfl) .i64 ((j + 9 : Nat)) (by kernel_rfl) (by omega)) ?_
   refine kE M 65 g3 ((j + 9 : Nat)) (.int .u64 ((sp2 rs j) ((j + 9 : Nat)))) (fun w M => M.cell 2 rfl (by omega) rfl) ?_
   refine kV 66 (.int .u64 (ua (ua ((sp2 rs j) j) (ux (ux (rot ((sp2 rs j) ((j + 1 : Nat))) 1) (rot ((sp2 rs j) ((j + 1 : Nat))) 8)) (sr ((sp2 rs j) ((j + 1 : Nat))) 7))) ((sp2 rs j) ((j + 9 : Nat))))) ?_
   refine kV 67 (.int .u64 ((sp2 rs j) ((j + 14 : Nat)))) ?_
   refine kC M 68 128 #[.int .u64 ((sp2 rs j) ((j + 14 : Nat))), .int .u64 19] (.int .u64 (rot ((sp2 rs j) ((j + 14 : Nat))) 19)) (fun w M => c_turn19 ((sp2 rs j) ((j + 14 : Nat))) w M.laid) ?_
   refine kV 69 (.int .u64 ((sp2 rs j) ((j + 14 : Nat)))) ?_
   refine kC M 70 128 #[.int .u64 ((sp2 rs j) ((j + 14 : Nat))), .int .u64 61] (.int .u64 (rot ((sp2 rs j) ((j + 14 : Nat))) 61)) (fun w M => c_turn61 ((sp2 rs j) ((j + 14 : Nat))) w M.laid) ?_
   refine kV 71 (.int .u64 (ux (rot ((sp2 rs j) ((j + 14 : Nat))) 19) (rot ((sp2 rs j) ((j + 14 : Nat))) 61))) ?_
   refine kV 72 (.int .u64 ((sp2 rs j) ((j + 14 : Nat)))) ?_
   refine kV 73 (.int .u64 (sr ((sp2 rs j) ((j + 14 : Nat))) 6)) ?_
   refine kV 74 (.int .u64 (ux (ux (rot ((sp2 rs j) ((j + 14 : Nat))) 19) (rot ((sp2 rs j) ((j + 14 : Nat))) 61)) (sr ((sp2 rs j) ((j + 14 : Nat))) 6))) ?_
   refine kV 75 (.int .u64 (ua (ua (ua ((sp2 rs j) j) (ux (ux (rot ((sp2 rs j) ((j + 1 : Nat))) 1) (rot ((sp2 rs j) ((j + 1 : Nat))) 8)) (sr ((sp2 rs j) ((j + 1 : Nat))) 7))) ((sp2 rs j) ((j + 9 : Nat)))) (ux (ux (rot ((sp2 rs j) ((j + 14 : Nat))) 19) (rot ((sp2 rs j) ((j + 14 : Nat))) 61)) (sr ((sp2 rs j) ((j + 14 : Nat))) 6)))) ?_
   refine kH 76 (.pointer (some ⟨g3, ((16 + j : Nat)), none⟩)) (run_ix1 155 80 34 Tryz.underlying155 inz34 _ _ rfl g3 (by kernel_rfl) .i64 ((16 + j : Nat)) (by kernel_rfl) (by omega)) ?_
   refine kl_nil fun u6 M => ?_
   refine pP M 2 rfl ((16 + j : Nat)) (.int .u64 (ua (ua (ua ((sp2 rs j) j) (ux (ux (rot ((sp2 rs j) ((j + 1 : Nat))) 1) (rot ((sp2 rs j) ((j + 1 : Nat))) 8)) (sr ((sp2 rs j) ((j + 1 : Nat))) 7))) ((sp2 rs j) ((j + 9 : Nat)))) (ux (ux (rot ((sp2 rs j) ((j + 14 : Nat))) 19) (rot ((sp2 rs j) ((j + 14 : Nat))) 61)) (sr ((sp2 rs j) ((j + 14 : Nat))) 6)))) (w64 (upd (sp2 rs j) ((16 + j : Nat)) (ua (ua (ua ((sp2 rs j) j) (ux (ux (rot ((sp2 rs j) ((j + 1 : Nat))) 1) (rot ((sp2 rs j) ((j + 1 : Nat))) 8)) (sr ((sp2 rs j) ((j + 1 : Nat))) 7))) ((sp2 rs j) ((j + 9 : Nat)))) (ux (ux (rot ((sp2 rs j) ((j + 14 : Nat))) 19) (rot ((sp2 rs j) ((j + 14 : Nat))) 61)) (sr ((sp2 rs j) ((j + 14 : Nat))) 6))))) (by omega) (fun j _ => put_w64 _ _ _ j) fun u7 M => ?_
   refine pl_nil ?_
   refine au_block ?_
   refine au_then ?_
   refine rg_lit ?_
   refine pV 38 (.int .i64 ((16 + j : Nat) : Int)) ?_
   refine pH 39 (.int .i64 ((16 + (j + 1) : Nat) : Int)) (iV (((16 + j : Nat) : Int) + 1) (by omega) (by omega) (by omega)) ?_
   refine pV 7 (.int .i64 ((16 + (j + 1) : Nat) : Int)) ?_
   refine nT ?_
   exact ⟨fun k_ => ([.int .u64 ((sp2 rs j) ((j + 1 : Nat))), .int .u64 ((sp2 rs j) ((j + 14 : Nat))), undef, undef, undef, undef, undef, undef, undef, undef, undef, undef, undef, undef, undef, undef, undef, undef, undef, undef, undef, undef, undef, undef, undef, undef, undef, undef, .int .i64 ((16 + j : Nat) : Int), .bool true, .int .i64 ((16 + j : Nat) : Int), .int .i64 ((16 + (j + 1) : Nat) : Int), .int .i64 ((16 + j : Nat) : Int), .int .i64 ((j + 1 : Nat) : Int), .pointer (some ⟨g3, ((j + 1 : Nat)), none⟩), .int .u64 ((sp2 rs j) ((j + 1 : Nat))), .int .i64 ((16 + j : Nat) : Int), .int .i64 ((j + 14 : Nat) : Int), .pointer (some ⟨g3, ((j + 14 : Nat)), none⟩), .int .u64 ((sp2 rs j) ((j + 14 : Nat))), .int .i64 ((16 + j : Nat) : Int), .int .i64 ((16 + j : Nat) : Int), .int .i64 (j : Int), .pointer (some ⟨g3, j, none⟩), .int .u64 ((sp2 rs j) j), .int .u64 ((sp2 rs j) ((j + 1 : Nat))), .int .u64 (rot ((sp2 rs j) ((j + 1 : Nat))) 1), .int .u64 ((sp2 rs j) ((j + 1 : Nat))), .int .u64 (rot ((sp2 rs j) ((j + 1 : Nat))) 8), .int .u64 (ux (rot ((sp2 rs j) ((j + 1 : Nat))) 1) (rot ((sp2 rs j) ((j + 1 : Nat))) 8)), .int .u64 ((sp2 rs j) ((j + 1 : Nat))), .int .u64 (sr ((sp2 rs j) ((j + 1 : Nat))) 7), .int .u64 (ux (ux (rot ((sp2 rs j) ((j + 1 : Nat))) 1) (rot ((sp2 rs j) ((j + 1 : Nat))) 8)) (sr ((sp2 rs j) ((j + 1 : Nat))) 7)), .int .u64 (ua ((sp2 rs j) j) (ux (ux (rot ((sp2 rs j) ((j + 1 : Nat))) 1) (rot ((sp2 rs j) ((j + 1 : Nat))) 8)) (sr ((sp2 rs j) ((j + 1 : Nat))) 7))), .int .i64 ((16 + j : Nat) : Int), .int .i64 ((j + 9 : Nat) : Int), .pointer (some ⟨g3, ((j + 9 : Nat)), none⟩), .int .u64 ((sp2 rs j) ((j + 9 : Nat))), .int .u64 (ua (ua ((sp2 rs j) j) (ux (ux (rot ((sp2 rs j) ((j + 1 : Nat))) 1) (rot ((sp2 rs j) ((j + 1 : Nat))) 8)) (sr ((sp2 rs j) ((j + 1 : Nat))) 7))) ((sp2 rs j) ((j + 9 : Nat)))), .int .u64 ((sp2 rs j) ((j + 14 : Nat))), .int .u64 (rot ((sp2 rs j) ((j + 14 : Nat))) 19), .int .u64 ((sp2 rs j) ((j + 14 : Nat))), .int .u64 (rot ((sp2 rs j) ((j + 14 : Nat))) 61), .int .u64 (ux (rot ((sp2 rs j) ((j + 14 : Nat))) 19) (rot ((sp2 rs j) ((j + 14 : Nat))) 61)), .int .u64 ((sp2 rs j) ((j + 14 : Nat))), .int .u64 (sr ((sp2 rs j) ((j + 14 : Nat))) 6), .int .u64 (ux (ux (rot ((sp2 rs j) ((j + 14 : Nat))) 19) (rot ((sp2 rs j) ((j + 14 : Nat))) 61)) (sr ((sp2 rs j) ((j + 14 : Nat))) 6)), .int .u64 (ua (ua (ua ((sp2 rs j) j) (ux (ux (rot ((sp2 rs j) ((j + 1 : Nat))) 1) (rot ((sp2 rs j) ((j + 1 : Nat))) 8)) (sr ((sp2 rs j) ((j + 1 : Nat))) 7))) ((sp2 rs j) ((j + 9 : Nat)))) (ux (ux (rot ((sp2 rs j) ((j + 14 : Nat))) 19) (rot ((sp2 rs j) ((j + 14 : Nat))) 61)) (sr ((sp2 rs j) ((j + 14 : Nat))) 6))), .pointer (some ⟨g3, ((16 + j : Nat)), none⟩)] : List Value).getD (k_ - 8) undef, by kernel_rfl, M⟩
  ·intro a u0 hI
   obtain ⟨v2, rfl, M⟩ := hI
   refine wp_seq ?_
   refine sR ?_
   refine pV 36 (.int .i64 ((16 + 64 : Nat) : Int)) ?_
   refine pH 37 (.bool false) (dF (((16 + 64 : Nat) : Int) < 80) (by omega)) ?_
   refine nT ?_
   refine wp_cond_false (by kernel_rfl) ?_
   refine wp_exit ?_
   refine au_then_exit ?_
   refine au_then_exit ?_
   refine au_block_exit ?_
   refine au_then ?_
   refine sR ?_
   refine pC M 77 129 #[] (.agg (av 80 (w64 KF))) (fun w M => c_K w M.laid) fun u8 M => ?_
   refine pN M 10 (.cells (av 80 (w64 fun _ => 0)) 155) fun g4 u9 M => ?_
   refine pl_put M (want_no rfl) rfl 155 _ _ rfl 3 g4 0 (by kernel_rfl) 80 155 (w64 fun _ => 0) rfl 80 (w64 KF) (w64 KF) (by kernel_rfl) inz155 (by decide) (fun _ _ => rfl) (fun j hj => by rw [if_pos (by omega), Nat.sub_zero]) fun u10 M => ?_
   refine nT ?_
   refine sR ?_
   refine pA M 78 0 8 (w64 h) ?_
   refine pN M 11 (.cells (av 8 (w64 fun _ => 0)) 95) fun g5 u11 M => ?_
   refine pl_put M (want_no rfl) rfl 95 _ _ rfl 4 g5 0 (by kernel_rfl) 8 95 (w64 fun _ => 0) rfl 8 (w64 h) (w64 h) (by kernel_rfl) inz95 (by decide) (fun _ _ => rfl) (fun j hj => by rw [if_pos (by omega), Nat.sub_zero]) fun u12 M => ?_
   refine nT ?_
   refine wp_seq ?_
   refine sR ?_
   refine pV 12 (.int .i64 0) ?_
   refine nT ?_
   refine wp_block ?_
   refine au_loop (fun j a w' => ∃ v3 : Nat → Value, a = ⟨#[.agg (av 8 (w64 h)), .slice (some ⟨g, off, none⟩) 128 cap, .pointer (some ⟨g1, 0, none⟩), undef, .pointer (some ⟨g2, 0, none⟩), .pointer (some ⟨g3, 0, none⟩), .int .i64 (128 : Int), .int .i64 ((16 + 64 : Nat) : Int), v2 8, v2 9, .pointer (some ⟨g4, 0, none⟩), .pointer (some ⟨g5, 0, none⟩), .int .i64 (j : Int), v3 13, v3 14, v3 15, v3 16, undef, .int .i64 (128 : Int), .bool false, v1 20, v1 21, v1 22, v1 23, v1 24, v1 25, v1 26, v1 27, v1 28, v1 29, v1 30, v1 31, v1 32, v1 33, v1 34, v1 35, .int .i64 ((16 + 64 : Nat) : Int), .bool false, v2 38, v2 39, v2 40, v2 41, v2 42, v2 43, v2 44, v2 45, v2 46, v2 47, v2 48, v2 49, v2 50, v2 51, v2 52, v2 53, v2 54, v2 55, v2 56, v2 57, v2 58, v2 59, v2 60, v2 61, v2 62, v2 63, v2 64, v2 65, v2 66, v2 67, v2 68, v2 69, v2 70, v2 71, v2 72, v2 73, v2 74, v2 75, v2 76, .agg (av 80 (w64 KF)), .agg (av 8 (w64 h)), v3 79, v3 80, v3 81, v3 82, v3 83, v3 84, v3 85, v3 86, v3 87, v3 88, v3 89, v3 90, v3 91, v3 92, v3 93, v3 94, v3 95, v3 96, v3 97, v3 98, v3 99, v3 100, v3 101, v3 102, v3 103, v3 104, v3 105, v3 106, v3 107, v3 108, v3 109, v3 110, v3 111, v3 112, v3 113, v3 114, v3 115, v3 116, v3 117, v3 118, v3 119, v3 120, v3 121, v3 122, v3 123, v3 124, v3 125, v3 126, v3 127, v3 128, v3 129, v3 130, v3 131, v3 132, v3 133, v3 134, v3 135, v3 136, v3 137, v3 138, v3 139, v3 140, v3 141, v3 142, v3 143, v3 144, v3 145, v3 146, v3 147, v3 148, v3 149, v3 150, v3 151, v3 152, v3 153, v3 154, v3 155, v3 156, v3 157, v3 158, v3 159, v3 160, undef, undef, undef, undef, undef, undef, undef, undef, undef, undef, undef, undef, undef, undef], []⟩ ∧ Mem ⟨w, []⟩ [⟨g1, .cells (av 8 (w64 h)) 95⟩, ⟨g2, .cells (av 8 (w64 fun _ => 0)) 95⟩, ⟨g3, .cells (av 80 (w64 (sp2 rs 64))) 155⟩, ⟨g4, .cells (av 80 (w64 KF)) 155⟩, ⟨g5, .cells (av 8 (w64 (rd h rs j))) 95⟩] w') 80 ⟨fun k_ => ([undef, undef, undef, undef, undef, undef, undef, undef, undef, undef, undef, undef, undef, undef, undef, undef, undef, undef, undef, undef, undef, undef, undef, undef, undef, undef, undef, undef, undef, undef, undef, undef, undef, undef, undef, undef, undef, undef, undef, undef, undef, undef, undef, undef, undef, undef, undef, undef, undef, undef, undef, undef, undef, undef, undef, undef, undef, undef, undef, undef, undef, undef, undef, undef, undef, undef, undef, undef, undef, undef, undef, undef, undef, undef, undef, undef, undef, undef, undef, undef, undef, undef, undef, undef, undef, undef, undef, undef, undef, undef, undef, undef, undef, undef, undef, undef, undef, undef, undef, undef, undef, undef, undef, undef, undef, undef, undef, undef, undef, undef, undef, undef, undef, undef, undef, undef, undef, undef, undef, undef, undef, undef, undef, undef, undef, undef, undef, undef, undef, undef, undef, undef, undef, undef, undef, undef, undef, undef, undef, undef, undef, undef, undef, undef, undef, undef, undef, undef] : List Value).getD (k_ - 13) undef, by kernel_rfl, M⟩ ?_ ?_
   ·intro j a u0 hj hI
    obtain ⟨v3, rfl, M⟩ := hI
    refine wp_seq ?_
    refine sR ?_
    refine pV 79 (.int .i64 (j : Int)) ?_
    refine pH 80 (.bool true) (dT ((j : Int) < 80) (by omega)) ?_
    refine nT ?_
    refine wp_cond_true (by kernel_rfl) ?_
    refine wp_skip ?_
    refine au_then ?_
    refine wp_seq ?_
    refine wp_block ?_
    refine sR ?_
    refine pV 83 (.pointer (some ⟨g5, 4, none⟩)) ?_
    refine pE M 84 g5 4 (.int .u64 ((rd h rs j) 4)) (fun w M => M.cell 4 rfl (by decide) rfl) ?_
    refine pV 13 (.int .u64 ((rd h rs j) 4)) ?_
    refine nT ?_
    refine wp_seq ?_
    refine rg_tail M 30 (by kernel_rfl) (by kernel_rfl) ?_
    simp only [List.take_succ_cons, List.take_zero]
    refine kV 85 (.pointer (some ⟨g5, 7, none⟩)) ?_
    refine kE M 86 g5 7 (.int .u64 ((rd h rs j) 7)) (fun w M => M.cell 4 rfl (by decide) rfl) ?_
    refine kV 87 (.int .u64 ((rd h rs j) 4)) ?_
    refine kC M 88 128 #[.int .u64 ((rd h rs j) 4), .int .u64 14] (.int .u64 (rot ((rd h rs j) 4) 14)) (fun w M => c_turn14 ((rd h rs j) 4) w M.laid) ?_
    refine kV 89 (.int .u64 ((rd h rs j) 4)) ?_
    refine kC M 90 128 #[.int .u64 ((rd h rs j) 4), .int .u64 18] (.int .u64 (rot ((rd h rs j) 4) 18)) (fun w M => c_turn18 ((rd h rs j) 4) w M.laid) ?_
    refine kV 91 (.int .u64 (ux (rot ((rd h rs j) 4) 14) (rot ((rd h rs j) 4) 18))) ?_
    refine kV 92 (.int .u64 ((rd h rs j) 4)) ?_
    refine kC M 93 128 #[.int .u64 ((rd h rs j) 4), .int .u64 41] (.int .u64 (rot ((rd h rs j) 4) 41)) (fun w M => c_turn41 ((rd h rs j) 4) w M.laid) ?_
    refine kV 94 (.int .u64 (ux (ux (rot ((rd h rs j) 4) 14) (rot ((rd h rs j) 4) 18)) (rot ((rd h rs j) 4) 41))) ?_
    refine kV 95 (.int .u64 (ua ((rd h rs j) 7) (ux (ux (rot ((rd h rs j) 4) 14) (rot ((rd h rs j) 4) 18)) (rot ((rd h rs j) 4) 41)))) ?_
    refine kV 96 (.int .u64 ((rd h rs j) 4)) ?_
    refine kV 97 (.pointer (some ⟨g5, 5, none⟩)) ?_
    refine kE M 98 g5 5 (.int .u64 ((rd h rs j) 5)) (fun w M => M.cell 4 rfl (by decide) rfl) ?_
    refine kV 99 (.int .u64 (un ((rd h rs j) 4) ((rd h rs j) 5))) ?_
    refine kV 100 (.int .u64 ((rd h rs j) 4)) ?_
    refine kV 101 (.int .u64 (ut ((rd h rs j) 4))) ?_
    refine kV 102 (.pointer (some ⟨g5, 6, none⟩)) ?_
    refine kE M 103 g5 6 (.int .u64 ((rd h rs j) 6)) (fun w M => M.cell 4 rfl (by decide) rfl) ?_
    refine kV 104 (.int .u64 (un (ut ((rd h rs j) 4)) ((rd h rs j) 6))) ?_
    refine kV 105 (.int .u64 (ux (un ((rd h rs j) 4) ((rd h rs j) 5)) (un (ut ((rd h rs j) 4)) ((rd h rs j) 6)))) ?_
    refine kV 106 (.int .u64 (ua (ua ((rd h rs j) 7) (ux (ux (rot ((rd h rs j) 4) 14) (rot ((rd h rs j) 4) 18)) (rot ((rd h rs j) 4) 41))) (ux (un ((rd h rs j) 4) ((rd h rs j) 5)) (un (ut ((rd h rs j) 4)) ((rd h rs j) 6))))) ?_
    refine kV 107 (.int .i64 (j : Int)) ?_
    refine kH 108 (.pointer (some ⟨g4, j, none⟩)) (run_ix1 155 80 34 Tryz.underlying155 inz34 _ _ rfl g4 (by kernel_rfl) .i64 (j) (by kernel_rfl) (by omega)) ?_
    refine kE M 109 g4 j (.int .u64 (KF j)) (fun w M => M.cell 3 rfl (by omega) rfl) ?_
    refine kV 110 (.int .u64 (ua (ua (ua ((rd h rs j) 7) (ux (ux (rot ((rd h rs j) 4) 14) (rot ((rd h rs j) 4) 18)) (rot ((rd h rs j) 4) 41))) (ux (un ((rd h rs j) 4) ((rd h rs j) 5)) (un (ut ((rd h rs j) 4)) ((rd h rs j) 6)))) (KF j))) ?_
    refine kV 111 (.int .i64 (j : Int)) ?_
    refine kH 112 (.pointer (some ⟨g3, j, none⟩)) (run_ix1 155 80 34 Tryz.underlying155 inz34 _ _ rfl g3 (by kernel_rfl) .i64 (j) (by kernel_rfl) (by omega)) ?_
    refine kE M 113 g3 j (.int .u64 ((sp2 rs 64) j)) (fun w M => M.cell 2 rfl (by omega) rfl) ?_
    refine kV 114 (.int .u64 (ua (ua (ua (ua ((rd h rs j) 7) (ux (ux (rot ((rd h rs j) 4) 14) (rot ((rd h rs j) 4) 18)) (rot ((rd h rs j) 4) 41))) (ux (un ((rd h rs j) 4) ((rd h rs j) 5)) (un (ut ((rd h rs j) 4)) ((rd h rs j) 6)))) (KF j)) ((sp2 rs 64) j))) ?_
    refine kl_nil fun u13 M => ?_
    refine pH 14 (.int .u64 (uF (rd h rs j) (ua (KF j) (sp2 rs 64 j)))) (fun w => Eq.trans (b := .ok (.value (.int .u64 (ua (ua (ua (ua ((rd h rs j) 7) (bS1 ((rd h rs j) 4))) (chF ((rd h rs j) 4) ((rd h rs j) 5) ((rd h rs j) 6))) (KF j)) (sp2 rs 64 j)))) w) (by kernel_rfl) (by rw [ua_assoc]; rfl)) ?_
    refine nT ?_
    refine sR ?_
    refine pV 115 (.pointer (some ⟨g5, 0, none⟩)) ?_
    refine pE M 116 g5 0 (.int .u64 ((rd h rs j) 0)) (fun w M => M.cell 4 rfl (by decide) rfl) ?_
    refine pV 15 (.int .u64 ((rd h rs j) 0)) ?_
    refine nT ?_
    refine wp_seq ?_
    refine rg_tail M 24 (by kernel_rfl) (by kernel_rfl) ?_
    simp only [List.take_succ_cons, List.take_zero]
    refine kV 117 (.int .u64 ((rd h rs j) 0)) ?_
    refine kC M 118 128 #[.int .u64 ((rd h rs j) 0), .int .u64 28] (.int .u64 (rot ((rd h rs j) 0) 28)) (fun w M => c_turn28 ((rd h rs j) 0) w M.laid) ?_
    refine kV 119 (.int .u64 ((rd h rs j) 0)) ?_
    refine kC M 120 128 #[.int .u64 ((rd h rs j) 0), .int .u64 34] (.int .u64 (rot ((rd h rs j) 0) 34)) (fun w M => c_turn34 ((rd h rs j) 0) w M.laid) ?_
    refine kV 121 (.int .u64 (ux (rot ((rd h rs j) 0) 28) (rot ((rd h rs j) 0) 34))) ?_
    refine kV 122 (.int .u64 ((rd h rs j) 0)) ?_
    refine kC M 123 128 #[.int .u64 ((rd h rs j) 0), .int .u64 39] (.int .u64 (rot ((rd h rs j) 0) 39)) (fun w M => c_turn39 ((rd h rs j) 0) w M.laid) ?_
    refine kV 124 (.int .u64 (ux (ux (rot ((rd h rs j) 0) 28) (rot ((rd h rs j) 0) 34)) (rot ((rd h rs j) 0) 39))) ?_
    refine kV 125 (.int .u64 ((rd h rs j) 0)) ?_
    refine kV 126 (.pointer (some ⟨g5, 1, none⟩)) ?_
    refine kE M 127 g5 1 (.int .u64 ((rd h rs j) 1)) (fun w M => M.cell 4 rfl (by decide) rfl) ?_
    refine kV 128 (.int .u64 (un ((rd h rs j) 0) ((rd h rs j) 1))) ?_
    refine kV 129 (.int .u64 ((rd h rs j) 0)) ?_
    refine kV 130 (.pointer (some ⟨g5, 2, none⟩)) ?_
    refine kE M 131 g5 2 (.int .u64 ((rd h rs j) 2)) (fun w M => M.cell 4 rfl (by decide) rfl) ?_
    refine kV 132 (.int .u64 (un ((rd h rs j) 0) ((rd h rs j) 2))) ?_
    refine kV 133 (.int .u64 (ux (un ((rd h rs j) 0) ((rd h rs j) 1)) (un ((rd h rs j) 0) ((rd h rs j) 2)))) ?_
    refine kV 134 (.pointer (some ⟨g5, 1, none⟩)) ?_
    refine kE M 135 g5 1 (.int .u64 ((rd h rs j) 1)) (fun w M => M.cell 4 rfl (by decide) rfl) ?_
    refine kV 136 (.pointer (some ⟨g5, 2, none⟩)) ?_
    refine kE M 137 g5 2 (.int .u64 ((rd h rs j) 2)) (fun w M => M.cell 4 rfl (by decide) rfl) ?_
    refine kV 138 (.int .u64 (un ((rd h rs j) 1) ((rd h rs j) 2))) ?_
    refine kV 139 (.int .u64 (ux (ux (un ((rd h rs j) 0) ((rd h rs j) 1)) (un ((rd h rs j) 0) ((rd h rs j) 2))) (un ((rd h rs j) 1) ((rd h rs j) 2)))) ?_
    refine kV 140 (.int .u64 (ua (ux (ux (rot ((rd h rs j) 0) 28) (rot ((rd h rs j) 0) 34)) (rot ((rd h rs j) 0) 39)) (ux (ux (un ((rd h rs j) 0) ((rd h rs j) 1)) (un ((rd h rs j) 0) ((rd h rs j) 2))) (un ((rd h rs j) 1) ((rd h rs j) 2))))) ?_
    refine kl_nil fun u14 M => ?_
    refine pV 16 (.int .u64 (vF (rd h rs j))) ?_
    refine nT ?_
    refine rg_lit ?_
    refine pV 141 (.int .u64 (uF (rd h rs j) (ua (KF j) (sp2 rs 64 j)))) ?_
    refine pV 142 (.int .u64 (vF (rd h rs j))) ?_
    refine pV 143 (.int .u64 (ua (uF (rd h rs j) (ua (KF j) (sp2 rs 64 j))) (vF (rd h rs j)))) ?_
    refine pV 144 (.pointer (some ⟨g5, 0, none⟩)) ?_
    refine pE M 145 g5 0 (.int .u64 ((rd h rs j) 0)) (fun w M => M.cell 4 rfl (by decide) rfl) ?_
    refine pV 146 (.pointer (some ⟨g5, 1, none⟩)) ?_
    refine pE M 147 g5 1 (.int .u64 ((rd h rs j) 1)) (fun w M => M.cell 4 rfl (by decide) rfl) ?_
    refine pV 148 (.pointer (some ⟨g5, 2, none⟩)) ?_
    refine pE M 149 g5 2 (.int .u64 ((rd h rs j) 2)) (fun w M => M.cell 4 rfl (by decide) rfl) ?_
    refine pV 150 (.pointer (some ⟨g5, 3, none⟩)) ?_
    refine pE M 151 g5 3 (.int .u64 ((rd h rs j) 3)) (fun w M => M.cell 4 rfl (by decide) rfl) ?_
    refine pV 152 (.int .u64 (uF (rd h rs j) (ua (KF j) (sp2 rs 64 j)))) ?_
    refine pV 153 (.int .u64 (ua ((rd h rs j) 3) (uF (rd h rs j) (ua (KF j) (sp2 rs 64 j))))) ?_
    refine pV 154 (.pointer (some ⟨g5, 4, none⟩)) ?_
    refine pE M 155 g5 4 (.int .u64 ((rd h rs j) 4)) (fun w M => M.cell 4 rfl (by decide) rfl) ?_
    refine pV 156 (.pointer (some ⟨g5, 5, none⟩)) ?_
    refine pE M 157 g5 5 (.int .u64 ((rd h rs j) 5)) (fun w M => M.cell 4 rfl (by decide) rfl) ?_
    refine pV 158 (.pointer (some ⟨g5, 6, none⟩)) ?_
    refine pE M 159 g5 6 (.int .u64 ((rd h rs j) 6)) (fun w M => M.cell 4 rfl (by decide) rfl) ?_
    refine pV 160 (.agg (av 8 (w64 (r8 (ua (uF (rd h rs j) (ua (KF j) (sp2 rs 64 j))) (vF (rd h rs j))) ((rd h rs j) 0) ((rd h rs j) 1) ((rd h rs j) 2) (ua ((rd h rs j) 3) (uF (rd h rs j) (ua (KF j) (sp2 rs 64 j)))) ((rd h rs j) 4) ((rd h rs j) 5) ((rd h rs j) 6))))) ?_
    refine pl_put M (want_no rfl) rfl 95 _ _ rfl 4 g5 0 (by kernel_rfl) 8 95 (w64 (rd h rs j)) rfl 8 (w64 (r8 (ua (uF (rd h rs j) (ua (KF j) (sp2 rs 64 j))) (vF (rd h rs j))) ((rd h rs j) 0) ((rd h rs j) 1) ((rd h rs j) 2) (ua ((rd h rs j) 3) (uF (rd h rs j) (ua (KF j) (sp2 rs 64 j)))) ((rd h rs j) 4) ((rd h rs j) 5) ((rd h rs j) 6))) (w64 (r8 (ua (uF (rd h rs j) (ua (KF j) (sp2 rs 64 j))) (vF (rd h rs j))) ((rd h rs j) 0) ((rd h rs j) 1) ((rd h rs j) 2) (ua ((rd h rs j) 3) (uF (rd h rs j) (ua (KF j) (sp2 rs 64 j)))) ((rd h rs j) 4) ((rd h rs j) 5) ((rd h rs j) 6))) (by kernel_rfl) inz95 (by decide) (fun _ _ => rfl) (fun j hj => by rw [if_pos (by omega), Nat.sub_zero]) fun u15 M => ?_
    refine pl_nil ?_
    refine au_block ?_
    refine au_then ?_
    refine rg_lit ?_
    refine pV 81 (.int .i64 (j : Int)) ?_
    refine pH 82 (.int .i64 ((j + 1 : Nat) : Int)) (iV ((j : Int) + 1) (by omega) (by omega) (by omega)) ?_
    refine pV 12 (.int .i64 ((j + 1 : Nat) : Int)) ?_
    refine nT ?_
    exact ⟨fun k_ => ([.int .u64 ((rd h rs j) 4), .int .u64 (uF (rd h rs j) (ua (KF j) (sp2 rs 64 j))), .int .u64 ((rd h rs j) 0), .int .u64 (vF (rd h rs j)), undef, undef, undef, undef, undef, undef, undef, undef, undef, undef, undef, undef, undef, undef, undef, undef, undef, undef, undef, undef, undef, undef, undef, undef, undef, undef, undef, undef, undef, undef, undef, undef, undef, undef, undef, undef, undef, undef, undef, undef, undef, undef, undef, undef, undef, undef, undef, undef, undef, undef, undef, undef, undef, undef, undef, undef, undef, undef, undef, undef, undef, undef, .int .i64 (j : Int), .bool true, .int .i64 (j : Int), .int .i64 ((j + 1 : Nat) : Int), .pointer (some ⟨g5, 4, none⟩), .int .u64 ((rd h rs j) 4), .pointer (some ⟨g5, 7, none⟩), .int .u64 ((rd h rs j) 7), .int .u64 ((rd h rs j) 4), .int .u64 (rot ((rd h rs j) 4) 14), .int .u64 ((rd h rs j) 4), .int .u64 (rot ((rd h rs j) 4) 18), .int .u64 (ux (rot ((rd h rs j) 4) 14) (rot ((rd h rs j) 4) 18)), .int .u64 ((rd h rs j) 4), .int .u64 (rot ((rd h rs j) 4) 41), .int .u64 (ux (ux (rot ((rd h rs j) 4) 14) (rot ((rd h rs j) 4) 18)) (rot ((rd h rs j) 4) 41)), .int .u64 (ua ((rd h rs j) 7) (ux (ux (rot ((rd h rs j) 4) 14) (rot ((rd h rs j) 4) 18)) (rot ((rd h rs j) 4) 41))), .int .u64 ((rd h rs j) 4), .pointer (some ⟨g5, 5, none⟩), .int .u64 ((rd h rs j) 5), .int .u64 (un ((rd h rs j) 4) ((rd h rs j) 5)), .int .u64 ((rd h rs j) 4), .int .u64 (ut ((rd h rs j) 4)), .pointer (some ⟨g5, 6, none⟩), .int .u64 ((rd h rs j) 6), .int .u64 (un (ut ((rd h rs j) 4)) ((rd h rs j) 6)), .int .u64 (ux (un ((rd h rs j) 4) ((rd h rs j) 5)) (un (ut ((rd h rs j) 4)) ((rd h rs j) 6))), .int .u64 (ua (ua ((rd h rs j) 7) (ux (ux (rot ((rd h rs j) 4) 14) (rot ((rd h rs j) 4) 18)) (rot ((rd h rs j) 4) 41))) (ux (un ((rd h rs j) 4) ((rd h rs j) 5)) (un (ut ((rd h rs j) 4)) ((rd h rs j) 6)))), .int .i64 (j : Int), .pointer (some ⟨g4, j, none⟩), .int .u64 (KF j), .int .u64 (ua (ua (ua ((rd h rs j) 7) (ux (ux (rot ((rd h rs j) 4) 14) (rot ((rd h rs j) 4) 18)) (rot ((rd h rs j) 4) 41))) (ux (un ((rd h rs j) 4) ((rd h rs j) 5)) (un (ut ((rd h rs j) 4)) ((rd h rs j) 6)))) (KF j)), .int .i64 (j : Int), .pointer (some ⟨g3, j, none⟩), .int .u64 ((sp2 rs 64) j), .int .u64 (ua (ua (ua (ua ((rd h rs j) 7) (ux (ux (rot ((rd h rs j) 4) 14) (rot ((rd h rs j) 4) 18)) (rot ((rd h rs j) 4) 41))) (ux (un ((rd h rs j) 4) ((rd h rs j) 5)) (un (ut ((rd h rs j) 4)) ((rd h rs j) 6)))) (KF j)) ((sp2 rs 64) j)), .pointer (some ⟨g5, 0, none⟩), .int .u64 ((rd h rs j) 0), .int .u64 ((rd h rs j) 0), .int .u64 (rot ((rd h rs j) 0) 28), .int .u64 ((rd h rs j) 0), .int .u64 (rot ((rd h rs j) 0) 34), .int .u64 (ux (rot ((rd h rs j) 0) 28) (rot ((rd h rs j) 0) 34)), .int .u64 ((rd h rs j) 0), .int .u64 (rot ((rd h rs j) 0) 39), .int .u64 (ux (ux (rot ((rd h rs j) 0) 28) (rot ((rd h rs j) 0) 34)) (rot ((rd h rs j) 0) 39)), .int .u64 ((rd h rs j) 0), .pointer (some ⟨g5, 1, none⟩), .int .u64 ((rd h rs j) 1), .int .u64 (un ((rd h rs j) 0) ((rd h rs j) 1)), .int .u64 ((rd h rs j) 0), .pointer (some ⟨g5, 2, none⟩), .int .u64 ((rd h rs j) 2), .int .u64 (un ((rd h rs j) 0) ((rd h rs j) 2)), .int .u64 (ux (un ((rd h rs j) 0) ((rd h rs j) 1)) (un ((rd h rs j) 0) ((rd h rs j) 2))), .pointer (some ⟨g5, 1, none⟩), .int .u64 ((rd h rs j) 1), .pointer (some ⟨g5, 2, none⟩), .int .u64 ((rd h rs j) 2), .int .u64 (un ((rd h rs j) 1) ((rd h rs j) 2)), .int .u64 (ux (ux (un ((rd h rs j) 0) ((rd h rs j) 1)) (un ((rd h rs j) 0) ((rd h rs j) 2))) (un ((rd h rs j) 1) ((rd h rs j) 2))), .int .u64 (ua (ux (ux (rot ((rd h rs j) 0) 28) (rot ((rd h rs j) 0) 34)) (rot ((rd h rs j) 0) 39)) (ux (ux (un ((rd h rs j) 0) ((rd h rs j) 1)) (un ((rd h rs j) 0) ((rd h rs j) 2))) (un ((rd h rs j) 1) ((rd h rs j) 2)))), .int .u64 (uF (rd h rs j) (ua (KF j) (sp2 rs 64 j))), .int .u64 (vF (rd h rs j)), .int .u64 (ua (uF (rd h rs j) (ua (KF j) (sp2 rs 64 j))) (vF (rd h rs j))), .pointer (some ⟨g5, 0, none⟩), .int .u64 ((rd h rs j) 0), .pointer (some ⟨g5, 1, none⟩), .int .u64 ((rd h rs j) 1), .pointer (some ⟨g5, 2, none⟩), .int .u64 ((rd h rs j) 2), .pointer (some ⟨g5, 3, none⟩), .int .u64 ((rd h rs j) 3), .int .u64 (uF (rd h rs j) (ua (KF j) (sp2 rs 64 j))), .int .u64 (ua ((rd h rs j) 3) (uF (rd h rs j) (ua (KF j) (sp2 rs 64 j)))), .pointer (some ⟨g5, 4, none⟩), .int .u64 ((rd h rs j) 4), .pointer (some ⟨g5, 5, none⟩), .int .u64 ((rd h rs j) 5), .pointer (some ⟨g5, 6, none⟩), .int .u64 ((rd h rs j) 6), .agg (av 8 (w64 (r8 (ua (uF (rd h rs j) (ua (KF j) (sp2 rs 64 j))) (vF (rd h rs j))) ((rd h rs j) 0) ((rd h rs j) 1) ((rd h rs j) 2) (ua ((rd h rs j) 3) (uF (rd h rs j) (ua (KF j) (sp2 rs 64 j)))) ((rd h rs j) 4) ((rd h rs j) 5) ((rd h rs j) 6))))] : List Value).getD (k_ - 13) undef, by kernel_rfl, M⟩
   ·intro a u0 hI
    obtain ⟨v3, rfl, M⟩ := hI
    refine wp_seq ?_
    refine sR ?_
    refine pV 79 (.int .i64 (80 : Int)) ?_
    refine pH 80 (.bool false) (dF (80 < 80) (by omega)) ?_
    refine nT ?_
    refine wp_cond_false (by kernel_rfl) ?_
    refine wp_exit ?_
    refine au_then_exit ?_
    refine au_then_exit ?_
    refine au_block_exit ?_
    refine au_then ?_
    refine wp_seq ?_
    refine sR ?_
    refine pV 17 (.int .i64 0) ?_
    refine nT ?_
    refine wp_block ?_
    refine au_loop (fun j a w' => ∃ v4 : Nat → Value, a = ⟨#[.agg (av 8 (w64 h)), .slice (some ⟨g, off, none⟩) 128 cap, .pointer (some ⟨g1, 0, none⟩), undef, .pointer (some ⟨g2, 0, none⟩), .pointer (some ⟨g3, 0, none⟩), .int .i64 (128 : Int), .int .i64 ((16 + 64 : Nat) : Int), v2 8, v2 9, .pointer (some ⟨g4, 0, none⟩), .pointer (some ⟨g5, 0, none⟩), .int .i64 (80 : Int), v3 13, v3 14, v3 15, v3 16, .int .i64 (j : Int), .int .i64 (128 : Int), .bool false, v1 20, v1 21, v1 22, v1 23, v1 24, v1 25, v1 26, v1 27, v1 28, v1 29, v1 30, v1 31, v1 32, v1 33, v1 34, v1 35, .int .i64 ((16 + 64 : Nat) : Int), .bool false, v2 38, v2 39, v2 40, v2 41, v2 42, v2 43, v2 44, v2 45, v2 46, v2 47, v2 48, v2 49, v2 50, v2 51, v2 52, v2 53, v2 54, v2 55, v2 56, v2 57, v2 58, v2 59, v2 60, v2 61, v2 62, v2 63, v2 64, v2 65, v2 66, v2 67, v2 68, v2 69, v2 70, v2 71, v2 72, v2 73, v2 74, v2 75, v2 76, .agg (av 80 (w64 KF)), .agg (av 8 (w64 h)), .int .i64 (80 : Int), .bool false, v3 81, v3 82, v3 83, v3 84, v3 85, v3 86, v3 87, v3 88, v3 89, v3 90, v3 91, v3 92, v3 93, v3 94, v3 95, v3 96, v3 97, v3 98, v3 99, v3 100, v3 101, v3 102, v3 103, v3 104, v3 105, v3 106, v3 107, v3 108, v3 109, v3 110, v3 111, v3 112, v3 113, v3 114, v3 115, v3 116, v3 117, v3 118, v3 119, v3 120, v3 121, v3 122, v3 123, v3 124, v3 125, v3 126, v3 127, v3 128, v3 129, v3 130, v3 131, v3 132, v3 133, v3 134, v3 135, v3 136, v3 137, v3 138, v3 139, v3 140, v3 141, v3 142, v3 143, v3 144, v3 145, v3 146, v3 147, v3 148, v3 149, v3 150, v3 151, v3 152, v3 153, v3 154, v3 155, v3 156, v3 157, v3 158, v3 159, v3 160, v4 161, v4 162, v4 163, v4 164, v4 165, v4 166, v4 167, v4 168, v4 169, v4 170, v4 171, v4 172, v4 173, undef], []⟩ ∧ Mem ⟨w, []⟩ [⟨g1, .cells (av 8 (w64 (ad h (rd h rs 80) j))) 95⟩, ⟨g2, .cells (av 8 (w64 fun _ => 0)) 95⟩, ⟨g3, .cells (av 80 (w64 (sp2 rs 64))) 155⟩, ⟨g4, .cells (av 80 (w64 KF)) 155⟩, ⟨g5, .cells (av 8 (w64 (rd h rs 80))) 95⟩] w') 8 ⟨fun k_ => ([undef, undef, undef, undef, undef, undef, undef, undef, undef, undef, undef, undef, undef] : List Value).getD (k_ - 161) undef, by kernel_rfl, M⟩ ?_ ?_
    ·intro j a u0 hj hI
     obtain ⟨v4, rfl, M⟩ := hI
     refine wp_seq ?_
     refine sR ?_
     refine pV 161 (.int .i64 (j : Int)) ?_
     refine pH 162 (.bool true) (dT ((j : Int) < 8) (by omega)) ?_
     refine nT ?_
     refine wp_cond_true (by kernel_rfl) ?_
     refine wp_skip ?_
     refine au_then ?_
     refine wp_seq ?_
     refine wp_block ?_
     refine rg_tail M 9 (by kernel_rfl) (by kernel_rfl) ?_
     simp only [List.take_succ_cons, List.take_zero]
     refine kV 165 (.int .i64 (j : Int)) ?_
     refine kV 166 (.int .i64 (j : Int)) ?_
     refine kH 167 (.pointer (some ⟨g1, j, none⟩)) (run_ix1 95 8 34 Tryz.underlying95 inz34 _ _ rfl g1 (by kernel_rfl) .i64 (j) (by kernel_rfl) (by omega)) ?_
     refine kE M 168 g1 j (.int .u64 ((ad h (rd h rs 80) j) j)) (fun w M => M.cell 0 rfl (by omega) rfl) ?_
     refine kV 169 (.int .i64 (j : Int)) ?_
     refine kH 170 (.pointer (some ⟨g5, j, none⟩)) (run_ix1 95 8 34 Tryz.underlying95 inz34 _ _ rfl g5 (by kernel_rfl) .i64 (j) (by kernel_rfl) (by omega)) ?_
     refine kE M 171 g5 j (.int .u64 ((rd h rs 80) j)) (fun w M => M.cell 4 rfl (by omega) rfl) ?_
     refine kV 172 (.int .u64 (ua ((ad h (rd h rs 80) j) j) ((rd h rs 80) j))) ?_
     refine kH 173 (.pointer (some ⟨g1, j, none⟩)) (run_ix1 95 8 34 Tryz.underlying95 inz34 _ _ rfl g1 (by kernel_rfl) .i64 (j) (by kernel_rfl) (by omega)) ?_
     refine kl_nil fun u16 M => ?_
     refine pP M 0 rfl j (.int .u64 (ua ((ad h (rd h rs 80) j) j) ((rd h rs 80) j))) (w64 (upd (ad h (rd h rs 80) j) j (ua ((ad h (rd h rs 80) j) j) ((rd h rs 80) j)))) (by omega) (fun j _ => put_w64 _ _ _ j) fun u17 M => ?_
     refine pl_nil ?_
     refine au_block ?_
     refine au_then ?_
     refine rg_lit ?_
     refine pV 163 (.int .i64 (j : Int)) ?_
     refine pH 164 (.int .i64 ((j + 1 : Nat) : Int)) (iV ((j : Int) + 1) (by omega) (by omega) (by omega)) ?_
     refine pV 17 (.int .i64 ((j + 1 : Nat) : Int)) ?_
     refine nT ?_
     exact ⟨fun k_ => ([.int .i64 (j : Int), .bool true, .int .i64 (j : Int), .int .i64 ((j + 1 : Nat) : Int), .int .i64 (j : Int), .int .i64 (j : Int), .pointer (some ⟨g1, j, none⟩), .int .u64 ((ad h (rd h rs 80) j) j), .int .i64 (j : Int), .pointer (some ⟨g5, j, none⟩), .int .u64 ((rd h rs 80) j), .int .u64 (ua ((ad h (rd h rs 80) j) j) ((rd h rs 80) j)), .pointer (some ⟨g1, j, none⟩)] : List Value).getD (k_ - 161) undef, by kernel_rfl, M⟩
    ·intro a u0 hI
     obtain ⟨v4, rfl, M⟩ := hI
     refine wp_seq ?_
     refine sR ?_
     refine pV 161 (.int .i64 (8 : Int)) ?_
     refine pH 162 (.bool false) (dF (8 < 8) (by omega)) ?_
     refine nT ?_
     refine wp_cond_false (by kernel_rfl) ?_
     refine wp_exit ?_
     refine au_then_exit ?_
     refine au_then_exit ?_
     refine au_block_exit ?_
     refine au_then ?_
     refine sR ?_
     refine pA M 174 0 8 (w64 (ad h (rd h rs 80) 8)) ?_
     refine pl_put M (want_no rfl) rfl 95 _ _ rfl 1 g2 0 (by kernel_rfl) 8 95 (w64 fun _ => 0) rfl 8 (w64 (ad h (rd h rs 80) 8)) (w64 (ad h (rd h rs 80) 8)) (by kernel_rfl) inz95 (by decide) (fun _ _ => rfl) (fun j hj => by rw [if_pos (by omega), Nat.sub_zero]) fun u18 M => ?_
     refine nT ?_
     refine wp_ret ?_
     refine bodyPost_ret (v := .agg (av 8 (w64 (mixV h rs)))) (Eq.trans (b := .ok (.agg (av 8 (w64 (ad h (rd h rs 80) 8)))) _) (results_cell_row Tryz.results74 _ _ g2 95 (av 8 (w64 (ad h (rd h rs 80) 8))) (0, 0) _ (by kernel_rfl) (M.get 1 rfl) Tryz.underlying95 rfl (by rw [av_size]; exact inz95)) (by rw [ad_av]; rfl)) (by kernel_rfl) ⟨rfl, below_grown M.old⟩
def LenB (n : Nat) : List Int := [0, 0, 0, 0, 0, 0, 0, 0, cv .u8 (sr (um 8 (cv .u64 (n : Int))) 56), cv .u8 (sr (um 8 (cv .u64 (n : Int))) 48), cv .u8 (sr (um 8 (cv .u64 (n : Int))) 40), cv .u8 (sr (um 8 (cv .u64 (n : Int))) 32), cv .u8 (sr (um 8 (cv .u64 (n : Int))) 24), cv .u8 (sr (um 8 (cv .u64 (n : Int))) 16), cv .u8 (sr (um 8 (cv .u64 (n : Int))) 8), cv .u8 (sr (um 8 (cv .u64 (n : Int))) 0)]
def dl (s : ByteArray) : List Int := sb s ++ [128] ++ List.replicate ((239 - s.size % 128) % 128) 0 ++ LenB s.size
def pcs (l : List Int) : Nat → (Nat → Int)
 | 0 => HB
 | j + 1 => mixV (pcs l j) (fun i => l.getD (128 * j + i) 0)
def outL (h : Nat → Int) : Nat → List Int
 | 0 => []
 | j + 1 => outL h j ++ [cv .u8 (sr (h (j / 8)) (56 - 8 * (j % 8)))]
theorem outL_length (h : Nat → Int) : ∀ j, (outL h j).length = j
 | 0 => rfl
 | j + 1 => by
  unfold outL
  rw [List.length_append, outL_length h j]
  rfl
theorem outL_nn (h : Nat → Int) : ∀ j, ∀ x ∈ outL h j, 0 ≤ x ∧ x < 256
 | 0, x, hx => by simp [outL] at hx
 | j + 1, x, hx => by
  unfold outL at hx
  rcases List.mem_append.1 hx with hx | hx
  ·exact outL_nn h j x hx
  ·rw [List.mem_singleton.1 hx]
   exact cv8_nn _
theorem outL_step (h : Nat → Int) (j k : Nat) (hk : k < 8) : outL h (8 * j + k + 1) = outL h (8 * j + k) ++ [cv .u8 (sr (h j) (56 - 8 * k))] := by
 show outL h (8 * j + k) ++ _ = _
 rw [show (8 * j + k) / 8 = j by omega, show (8 * j + k) % 8 = k by omega]
theorem outL_hI (h : Nat → Int) : ∀ j, outL h (8 * j) = hI h j
 | 0 => rfl
 | j + 1 => by
  show outL h (8 * j + 7 + 1) = _
  rw [outL_step h j 7 (by omega), show 8 * j + 7 = 8 * j + 6 + 1 by rfl, outL_step h j 6 (by omega), show 8 * j + 6 = 8 * j + 5 + 1 by rfl, outL_step h j 5 (by omega), show 8 * j + 5 = 8 * j + 4 + 1 by rfl, outL_step h j 4 (by omega), show 8 * j + 4 = 8 * j + 3 + 1 by rfl, outL_step h j 3 (by omega), show 8 * j + 3 = 8 * j + 2 + 1 by rfl, outL_step h j 2 (by omega), show 8 * j + 2 = 8 * j + 1 + 1 by rfl, outL_step h j 1 (by omega), show 8 * j + 1 = 8 * j + 0 + 1 by rfl, outL_step h j 0 (by omega), Nat.add_zero, outL_hI h j]
  simp [hI]
def docV (s : ByteArray) : ByteArray := bs (outL (pcs (dl s) ((dl s).length / 128)) 64)
theorem vs8_app (l : List Int) (x : Int) : vs8 l ++ [.int .u8 x] = vs8 (l ++ [x]) := by simp [vs8]
theorem run_shrV {P : Program} {a : Act} {o : Oper} (t rt : TypeId) (x y : Operand) (ho : o.op = .binOp .shr t x y rt) (k : Int) (ky : IntKind) (m : Nat) (hx : a.eval x = .int .u64 k) (hy : a.eval y = .int ky (m : Int)) (_hm : m ≤ 64) (w : World) :
  (execOp a.eval o).run P w = .ok (.value (.int .u64 (sr k m))) w := by
 have hp : (0 : Int) ≤ 2 ^ m := Int.le_of_lt (Int.pow_pos (by decide))
 unfold execOp sr
 rw [Int.fdiv_eq_ediv_of_nonneg k hp]
 simp [ho, hx, hy, eqGuard, binOp]
theorem run_slS {P : Program} {a : Act} {o : Oper} (t elem : TypeId) (hu : P.underlying t = some (.slice elem)) (hs : (P.info? elem).map (·.size) = some 1) (x lo hi : Operand) (ho : o.op = .slice t x (some lo) (some hi) none) (g n cap : Nat) (hx : a.eval x = .slice (some ⟨g, 0, none⟩) n cap) (k k' : IntKind) (i j : Nat) (hl : a.eval lo = .int k (i : Int)) (hh : a.eval hi = .int k' (j : Int)) (hij : i < j) (hjc : j ≤ cap) (w : World) :
  (execOp a.eval o).run P w = .ok (.value (.slice (some ⟨g, i, none⟩) (j - i) (cap - i))) w := by
 cases hq : P.info? elem with
 | none => simp [hq] at hs
 | some u =>
  have hsz : u.size = 1 := by simpa [hq] using hs
  have hne : ¬ cap = i := by omega
  have h2 : (i : Int) ≤ (j : Int) := by omega
  have h3 : (j : Int) ≤ (cap : Int) := by omega
  unfold execOp
  simp [ho, hx, hl, hh, Instr.sliceAt, Instr.slice, run_underlying hu, Instr.sliceBounds, run_sliceBound, sizeOf, typeInfo, hq, hsz, add_at, hne, h2, h3]
def lb (n : Nat) : Nat → List Int
 | 0 => []
 | j + 1 => lb n j ++ [if j < 8 then 0 else cv .u8 (sr (um 8 (cv .u64 (n : Int))) (8 * (15 - j)))]
theorem lb_length (n : Nat) : ∀ j, (lb n j).length = j
 | 0 => rfl
 | j + 1 => by
  unfold lb
  rw [List.length_append, lb_length n j]
  rfl
theorem lb_16 (n : Nat) : lb n 16 = LenB n := rfl
theorem lb_lo {n j : Nat} (h : j < 8) : lb n j ++ [0] = lb n (j + 1) := by
 show _ = lb n j ++ [if j < 8 then 0 else _]
 rw [if_pos h]
theorem lb_hi {n j : Nat} (h : ¬ j < 8) : lb n j ++ [cv .u8 (sr (um 8 (cv .u64 (n : Int))) (8 * (15 - j)))] = lb n (j + 1) := by
 show _ = lb n j ++ [if j < 8 then 0 else _]
 rw [if_neg h]
theorem dl_length (s : ByteArray) : (dl s).length = s.size + 1 + (239 - s.size % 128) % 128 + 16 := by
 unfold dl LenB
 simp [sb_length]
 omega
theorem dl_len (s : ByteArray) : (dl s).length % 128 = 0 := by
 rw [dl_length]
 omega
theorem rem8 (n : Nat) : Int.tmod (n : Int) 8 = ((n % 8 : Nat) : Int) := by
 rw [Int.tmod_eq_emod_of_nonneg (by omega)]
 omega
theorem c_doc (s : ByteArray) (hs : s.size < 100000) (w : World) (hL : Laid w)  :
  Cs 31 #[.string s] w (.string (docV s)) := by
 go_enter Tryz.func31, Tryz.ntmps31
 have M := Mem.start hL
 refine sR ?_
 refine pV 2 (.string ⟨#[]⟩) ?_
 refine nT ?_
 refine sR ?_
 refine pV 10 (.string s) ?_
 refine pl_conv M (want_no rfl) (some 11) rfl _ rfl s (by kernel_rfl) ?_
 intro e0 c0 Y0 u1 hY0 M
 refine pl_mk M (want_no rfl) (some 12) rfl (fun g1 => .slice (some ⟨g1, 0, none⟩) 1 1) (.cells (av 1 (fun _ => .int .u8 128)) 5) (fun _ => by kernel_rfl) fun g1 u2 M => ?_
 refine pl_app M (want_no rfl) (some 13) rfl 32 32 5 info5 (.int .u8 0) Tryz.underlying32 info5_eq info5_z (by kernel_rfl) (by decide +kernel) rfl 0 e0 (s.size) c0 Y0 (vs8 (sb s)) rfl hY0 (by rw [vs8_length, sb_length]) (by omega) 1 g1 5 (.int .u8 128) rfl rfl (fun _ => by kernel_rfl) ?_
 intro e1 c1 Y1 u3 hY1 M
 rw [vs8_app] at hY1
 refine pV 3 (.slice (some ⟨e1, 0, none⟩) (s.size + 1) c1) ?_
 refine nT ?_
 refine wp_seq ?_
 refine wp_block ?_
 replace M := M.drop (L' := [⟨e1, Y1⟩]) (.cons _ (.cons_cons _ (.slnil)))
 refine au_loop (fun j a w' => ∃ (v1 : Nat → Value) (g cap : Nat) (Z : Obj), a = ⟨#[.string s, undef, .string ⟨#[]⟩, .slice (some ⟨g, 0, none⟩) (s.size + 1 + j) cap, undef, undef, undef, undef, undef, undef, .string s, .slice (some ⟨e0, 0, none⟩) s.size c0, .slice (some ⟨g1, 0, none⟩) 1 1, .slice (some ⟨e1, 0, none⟩) (s.size + 1) c1, v1 14, v1 15, v1 16, v1 17, v1 18, v1 19, v1 20, undef, undef, undef, undef, undef, undef, undef, undef, undef, undef, undef, undef, undef, undef, undef, undef, undef, undef, undef, undef, undef, undef, undef, undef, undef, undef, undef, undef, undef, undef, undef, undef, undef, undef, undef, undef, undef, undef, undef, undef, undef, undef, undef, undef, undef, undef, undef, undef, undef, undef, undef, undef, undef], []⟩ ∧ SB Z cap (vs8 (sb s ++ [128] ++ List.replicate j 0)) ∧ Mem ⟨w, []⟩ [⟨g, Z⟩] w') ((239 - s.size % 128) % 128) ⟨fun k_ => ([undef, undef, undef, undef, undef, undef, undef] : List Value).getD (k_ - 14) undef, e1, c1, Y1, by kernel_rfl, by rw [List.replicate_zero, List.append_nil]; exact hY1, M⟩ ?_ ?_
 ·intro j a u0 hj hI
  obtain ⟨v1, g, cap, Z, rfl, hZ, M⟩ := hI
  refine wp_seq ?_
  refine sR ?_
  refine pV 14 (.slice (some ⟨g, 0, none⟩) (s.size + 1 + j) cap) ?_
  refine pV 15 (.int .i64 (((s.size + 1 + j) : Nat) : Int)) ?_
  refine pH 16 (.int .i64 (((s.size + 1 + j) % 128 : Nat) : Int)) (fun w => Eq.trans (b := .ok (.value (.int .i64 (Int.tmod ((s.size + 1 + j : Nat) : Int) 128))) w) (by kernel_rfl) (by rw [rem64])) ?_
  refine pH 17 (.bool true) (nU ((((s.size + 1 + j) % 128 : Nat) : Int) = 112) (by omega)) ?_
  refine nT ?_
  refine wp_cond_true (by kernel_rfl) ?_
  refine wp_skip ?_
  refine au_then ?_
  refine wp_block ?_
  refine rg_lit ?_
  refine pV 18 (.slice (some ⟨g, 0, none⟩) (s.size + 1 + j) cap) ?_
  refine pl_mk M (want_no rfl) (some 19) rfl (fun g2 => .slice (some ⟨g2, 0, none⟩) 1 1) (.cells (av 1 (fun _ => .int .u8 0)) 5) (fun _ => by kernel_rfl) fun g2 u4 M => ?_
  refine pl_app M (want_no rfl) (some 20) rfl 32 32 5 info5 (.int .u8 0) Tryz.underlying32 info5_eq info5_z (by kernel_rfl) (by decide +kernel) rfl 0 g ((s.size + 1 + j)) cap Z (vs8 (sb s ++ [128] ++ List.replicate j 0)) rfl hZ (by rw [vs8_length]; simp [sb_length]; omega) (by omega) 1 g2 5 (.int .u8 0) rfl rfl (fun _ => by kernel_rfl) ?_
  intro e2 c2 Y2 u5 hY2 M
  rw [vs8_app] at hY2
  refine pV 3 (.slice (some ⟨e2, 0, none⟩) ((s.size + 1 + j) + 1) c2) ?_
  refine pl_nil ?_
  refine au_block ?_
  refine au_then ?_
  replace hY2 : SB Y2 c2 (vs8 (sb s ++ [128] ++ List.replicate (j + 1) 0)) := by rw [List.replicate_succ', ← List.append_assoc]; exact hY2
  exact ⟨fun k_ => ([.slice (some ⟨g, 0, none⟩) (s.size + 1 + j) cap, .int .i64 (((s.size + 1 + j) : Nat) : Int), .int .i64 (((s.size + 1 + j) % 128 : Nat) : Int), .bool true, .slice (some ⟨g, 0, none⟩) (s.size + 1 + j) cap, .slice (some ⟨g2, 0, none⟩) 1 1, .slice (some ⟨e2, 0, none⟩) ((s.size + 1 + j) + 1) c2] : List Value).getD (k_ - 14) undef, e2, c2, Y2, by kernel_rfl, hY2, M.drop (.cons _ (.cons_cons _ .slnil))⟩
 ·intro a u0 hI
  obtain ⟨v1, g, cap, Z, rfl, hZ, M⟩ := hI
  refine wp_seq ?_
  refine sR ?_
  refine pV 14 (.slice (some ⟨g, 0, none⟩) (s.size + 1 + ((239 - s.size % 128) % 128)) cap) ?_
  refine pV 15 (.int .i64 (((s.size + 1 + ((239 - s.size % 128) % 128)) : Nat) : Int)) ?_
  refine pH 16 (.int .i64 (((s.size + 1 + ((239 - s.size % 128) % 128)) % 128 : Nat) : Int)) (fun w => Eq.trans (b := .ok (.value (.int .i64 (Int.tmod ((s.size + 1 + ((239 - s.size % 128) % 128) : Nat) : Int) 128))) w) (by kernel_rfl) (by rw [rem64])) ?_
  refine pH 17 (.bool false) (nF ((((s.size + 1 + ((239 - s.size % 128) % 128)) % 128 : Nat) : Int) = 112) (by omega)) ?_
  refine nT ?_
  refine wp_cond_false (by kernel_rfl) ?_
  refine wp_exit ?_
  refine au_then_exit ?_
  refine au_then_exit ?_
  refine au_block_exit ?_
  refine au_then ?_
  refine wp_seq ?_
  refine sR ?_
  refine pV 4 (.int .i64 15) ?_
  refine nT ?_
  refine wp_block ?_
  replace M := M.drop (L' := [⟨g, Z⟩]) (.cons_cons _ (.slnil))
  refine au_loop (fun j a w' => ∃ (v2 : Nat → Value) (gx capx : Nat) (Zx : Obj), a = ⟨#[.string s, undef, .string ⟨#[]⟩, .slice (some ⟨gx, 0, none⟩) (s.size + 1 + ((239 - s.size % 128) % 128) + j) capx, .int .i64 ((15 : Int) - (j : Int)), v2 5, undef, undef, undef, undef, .string s, .slice (some ⟨e0, 0, none⟩) s.size c0, .slice (some ⟨g1, 0, none⟩) 1 1, .slice (some ⟨e1, 0, none⟩) (s.size + 1) c1, .slice (some ⟨g, 0, none⟩) (s.size + 1 + ((239 - s.size % 128) % 128)) cap, .int .i64 (((s.size + 1 + ((239 - s.size % 128) % 128)) : Nat) : Int), .int .i64 (((s.size + 1 + ((239 - s.size % 128) % 128)) % 128 : Nat) : Int), .bool false, v1 18, v1 19, v1 20, v2 21, v2 22, v2 23, v2 24, v2 25, v2 26, v2 27, v2 28, v2 29, v2 30, v2 31, v2 32, v2 33, v2 34, v2 35, v2 36, v2 37, v2 38, v2 39, undef, undef, undef, undef, undef, undef, undef, undef, undef, undef, undef, undef, undef, undef, undef, undef, undef, undef, undef, undef, undef, undef, undef, undef, undef, undef, undef, undef, undef, undef, undef, undef, undef, undef], []⟩ ∧ SB Zx capx (vs8 (sb s ++ [128] ++ List.replicate ((239 - s.size % 128) % 128) 0 ++ lb s.size j)) ∧ Mem ⟨w, []⟩ [⟨gx, Zx⟩] w') 16 ⟨fun k_ => ([undef, undef, undef, undef, undef, undef, undef, undef, undef, undef, undef, undef, undef, undef, undef, undef, undef, undef, undef, undef, undef, undef, undef, undef, undef, undef, undef, undef, undef, undef, undef, undef, undef, undef, undef] : List Value).getD (k_ - 5) undef, g, cap, Z, by kernel_rfl, by rw [show lb s.size 0 = [] from rfl, List.append_nil]; exact hZ, M⟩ ?_ ?_
  ·intro j a u0 hj hI
   obtain ⟨v2, gx, capx, Zx, rfl, hZx, M⟩ := hI
   by_cases h8 : j < 8
   ·skip
    refine wp_seq ?_
    refine sR ?_
    refine pV 21 (.int .i64 ((15 : Int) - (j : Int))) ?_
    refine pH 22 (.bool true) (dT ((0 : Int) ≤ (15 : Int) - (j : Int)) (by omega)) ?_
    refine nT ?_
    refine wp_cond_true (by kernel_rfl) ?_
    refine wp_skip ?_
    refine au_then ?_
    refine wp_seq ?_
    refine wp_block ?_
    refine sR ?_
    refine pV 5 (.int .u64 0) ?_
    refine nT ?_
    refine wp_seq ?_
    refine sR ?_
    refine pV 25 (.int .i64 ((15 : Int) - (j : Int))) ?_
    refine pH 26 (.bool false) (dF ((15 : Int) - (j : Int) < 8) (by omega)) ?_
    refine nT ?_
    refine wp_cond_false (by kernel_rfl) ?_
    refine wp_skip ?_
    refine au_then ?_
    refine rg_lit ?_
    refine pV 35 (.slice (some ⟨gx, 0, none⟩) (s.size + 1 + ((239 - s.size % 128) % 128) + j) capx) ?_
    refine pV 36 (.int .u64 0) ?_
    refine pV 37 (.int .u8 0) ?_
    refine pl_mk M (want_no rfl) (some 38) rfl (fun g3 => .slice (some ⟨g3, 0, none⟩) 1 1) (.cells (av 1 (fun _ => .int .u8 0)) 5) (fun _ => by kernel_rfl) fun g3 u6 M => ?_
    refine pl_app M (want_no rfl) (some 39) rfl 32 32 5 info5 (.int .u8 0) Tryz.underlying32 info5_eq info5_z (by kernel_rfl) (by decide +kernel) rfl 0 gx ((s.size + 1 + ((239 - s.size % 128) % 128) + j)) capx Zx (vs8 (sb s ++ [128] ++ List.replicate ((239 - s.size % 128) % 128) 0 ++ lb s.size j)) rfl hZx (by rw [vs8_length]; simp [sb_length, lb_length]; omega) (by omega) 1 g3 5 (.int .u8 0) rfl rfl (fun _ => by kernel_rfl) ?_
    intro e3 c3 Y3 u7 hY3 M
    rw [vs8_app] at hY3
    refine pV 3 (.slice (some ⟨e3, 0, none⟩) ((s.size + 1 + ((239 - s.size % 128) % 128) + j) + 1) c3) ?_
    refine pl_nil ?_
    refine au_block ?_
    refine au_then ?_
    refine rg_lit ?_
    refine pV 23 (.int .i64 ((15 : Int) - (j : Int))) ?_
    refine pH 24 (.int .i64 ((15 : Int) - ((j + 1 : Nat) : Int))) (iV (((15 : Int) - (j : Int)) - 1) (by omega) (by omega) (by omega)) ?_
    refine pV 4 (.int .i64 ((15 : Int) - ((j + 1 : Nat) : Int))) ?_
    refine nT ?_
    rw [List.append_assoc _ (lb s.size j), lb_lo h8] at hY3
    exact ⟨fun k_ => ([.int .u64 0, undef, undef, undef, undef, undef, undef, undef, undef, undef, undef, undef, undef, undef, undef, undef, .int .i64 ((15 : Int) - (j : Int)), .bool true, .int .i64 ((15 : Int) - (j : Int)), .int .i64 ((15 : Int) - ((j + 1 : Nat) : Int)), .int .i64 ((15 : Int) - (j : Int)), .bool false, v2 27, v2 28, v2 29, v2 30, v2 31, v2 32, v2 33, v2 34, .slice (some ⟨gx, 0, none⟩) (s.size + 1 + ((239 - s.size % 128) % 128) + j) capx, .int .u64 0, .int .u8 0, .slice (some ⟨g3, 0, none⟩) 1 1, .slice (some ⟨e3, 0, none⟩) ((s.size + 1 + ((239 - s.size % 128) % 128) + j) + 1) c3] : List Value).getD (k_ - 5) undef, e3, c3, Y3, by kernel_rfl, hY3, M.drop (.cons _ (.cons_cons _ .slnil))⟩
   ·skip
    refine wp_seq ?_
    refine sR ?_
    refine pV 21 (.int .i64 ((15 : Int) - (j : Int))) ?_
    refine pH 22 (.bool true) (dT ((0 : Int) ≤ (15 : Int) - (j : Int)) (by omega)) ?_
    refine nT ?_
    refine wp_cond_true (by kernel_rfl) ?_
    refine wp_skip ?_
    refine au_then ?_
    refine wp_seq ?_
    refine wp_block ?_
    refine sR ?_
    refine pV 5 (.int .u64 0) ?_
    refine nT ?_
    refine wp_seq ?_
    refine sR ?_
    refine pV 25 (.int .i64 ((15 : Int) - (j : Int))) ?_
    refine pH 26 (.bool true) (dT ((15 : Int) - (j : Int) < 8) (by omega)) ?_
    refine nT ?_
    refine wp_cond_true (by kernel_rfl) ?_
    refine rg_lit ?_
    refine pV 27 (.string s) ?_
    refine pV 28 (.int .i64 (s.size : Int)) ?_
    refine pV 29 (.int .u64 (cv .u64 (s.size : Int))) ?_
    refine pV 30 (.int .u64 (um 8 (cv .u64 (s.size : Int)))) ?_
    refine pV 31 (.int .i64 ((15 : Int) - (j : Int))) ?_
    refine pH 32 (.int .i64 ((8 * (15 - j) : Nat) : Int)) (iV (8 * ((15 : Int) - (j : Int))) (by omega) (by omega) (by omega)) ?_
    refine pH 33 (.int .u64 ((8 * (15 - j) : Nat) : Int)) (fun w => Eq.trans (b := .ok (.value (.int .u64 (cv .u64 ((8 * (15 - j) : Nat) : Int)))) w) (by kernel_rfl) (by rw [cv_u64 _ (by omega)])) ?_
    refine pH 34 (.int .u64 (sr (um 8 (cv .u64 (s.size : Int))) (8 * (15 - j)))) (run_shrV 34 39 _ _ rfl _ .u64 (8 * (15 - j)) (by kernel_rfl) (by kernel_rfl) (by omega)) ?_
    refine pV 5 (.int .u64 (sr (um 8 (cv .u64 (s.size : Int))) (8 * (15 - j)))) ?_
    refine nT ?_
    refine rg_lit ?_
    refine pV 35 (.slice (some ⟨gx, 0, none⟩) (s.size + 1 + ((239 - s.size % 128) % 128) + j) capx) ?_
    refine pV 36 (.int .u64 (sr (um 8 (cv .u64 (s.size : Int))) (8 * (15 - j)))) ?_
    refine pV 37 (.int .u8 (cv .u8 (sr (um 8 (cv .u64 (s.size : Int))) (8 * (15 - j))))) ?_
    refine pl_mk M (want_no rfl) (some 38) rfl (fun g4 => .slice (some ⟨g4, 0, none⟩) 1 1) (.cells (av 1 (fun _ => .int .u8 (cv .u8 (sr (um 8 (cv .u64 (s.size : Int))) (8 * (15 - j)))))) 5) (fun _ => by kernel_rfl) fun g4 u8 M => ?_
    refine pl_app M (want_no rfl) (some 39) rfl 32 32 5 info5 (.int .u8 0) Tryz.underlying32 info5_eq info5_z (by kernel_rfl) (by decide +kernel) rfl 0 gx ((s.size + 1 + ((239 - s.size % 128) % 128) + j)) capx Zx (vs8 (sb s ++ [128] ++ List.replicate ((239 - s.size % 128) % 128) 0 ++ lb s.size j)) rfl hZx (by rw [vs8_length]; simp [sb_length, lb_length]; omega) (by omega) 1 g4 5 (.int .u8 (cv .u8 (sr (um 8 (cv .u64 (s.size : Int))) (8 * (15 - j))))) rfl rfl (fun _ => by kernel_rfl) ?_
    intro e4 c4 Y4 u9 hY4 M
    rw [vs8_app] at hY4
    refine pV 3 (.slice (some ⟨e4, 0, none⟩) ((s.size + 1 + ((239 - s.size % 128) % 128) + j) + 1) c4) ?_
    refine pl_nil ?_
    refine au_block ?_
    refine au_then ?_
    refine rg_lit ?_
    refine pV 23 (.int .i64 ((15 : Int) - (j : Int))) ?_
    refine pH 24 (.int .i64 ((15 : Int) - ((j + 1 : Nat) : Int))) (iV (((15 : Int) - (j : Int)) - 1) (by omega) (by omega) (by omega)) ?_
    refine pV 4 (.int .i64 ((15 : Int) - ((j + 1 : Nat) : Int))) ?_
    refine nT ?_
    rw [List.append_assoc _ (lb s.size j), lb_hi h8] at hY4
    exact ⟨fun k_ => ([.int .u64 (sr (um 8 (cv .u64 (s.size : Int))) (8 * (15 - j))), undef, undef, undef, undef, undef, undef, undef, undef, undef, undef, undef, undef, undef, undef, undef, .int .i64 ((15 : Int) - (j : Int)), .bool true, .int .i64 ((15 : Int) - (j : Int)), .int .i64 ((15 : Int) - ((j + 1 : Nat) : Int)), .int .i64 ((15 : Int) - (j : Int)), .bool true, .string s, .int .i64 (s.size : Int), .int .u64 (cv .u64 (s.size : Int)), .int .u64 (um 8 (cv .u64 (s.size : Int))), .int .i64 ((15 : Int) - (j : Int)), .int .i64 ((8 * (15 - j) : Nat) : Int), .int .u64 ((8 * (15 - j) : Nat) : Int), .int .u64 (sr (um 8 (cv .u64 (s.size : Int))) (8 * (15 - j))), .slice (some ⟨gx, 0, none⟩) (s.size + 1 + ((239 - s.size % 128) % 128) + j) capx, .int .u64 (sr (um 8 (cv .u64 (s.size : Int))) (8 * (15 - j))), .int .u8 (cv .u8 (sr (um 8 (cv .u64 (s.size : Int))) (8 * (15 - j)))), .slice (some ⟨g4, 0, none⟩) 1 1, .slice (some ⟨e4, 0, none⟩) ((s.size + 1 + ((239 - s.size % 128) % 128) + j) + 1) c4] : List Value).getD (k_ - 5) undef, e4, c4, Y4, by kernel_rfl, hY4, M.drop (.cons _ (.cons_cons _ .slnil))⟩
  ·intro a u0 hI
   obtain ⟨v2, gx, capx, Zx, rfl, hZx, M⟩ := hI
   rw [lb_16] at hZx
   refine wp_seq ?_
   refine sR ?_
   refine pV 21 (.int .i64 ((15 : Int) - ((16 : Nat) : Int))) ?_
   refine pH 22 (.bool false) (dF ((0 : Int) ≤ (15 : Int) - ((16 : Nat) : Int)) (by decide)) ?_
   refine nT ?_
   refine wp_cond_false (by kernel_rfl) ?_
   refine wp_exit ?_
   refine au_then_exit ?_
   refine au_then_exit ?_
   refine au_block_exit ?_
   refine au_then ?_
   refine sR ?_
   refine pC M 40 73 #[] (.agg (av 8 (w64 HB))) (fun w M => c_begin w M.laid) fun u10 M => ?_
   refine pN M 6 (.cells (av 8 (w64 (fun _ => 0))) 95) fun g5 u11 M => ?_
   refine pl_put M (want_no rfl) rfl 95 _ _ rfl 1 g5 0 (by kernel_rfl) 8 95 (w64 (fun _ => 0)) rfl 8 (w64 HB) (w64 HB) (by kernel_rfl) inz95 (by decide) (fun _ _ => rfl) (fun j hj => by rw [if_pos (by omega), Nat.sub_zero]) fun u12 M => ?_
   refine nT ?_
   refine wp_seq ?_
   refine sR ?_
   refine pV 7 (.int .i64 0) ?_
   refine nT ?_
   refine wp_block ?_
   replace M := M.drop (L' := [⟨gx, Zx⟩, ⟨g5, .cells (av 8 (w64 HB)) 95⟩]) (.cons_cons _ (.cons_cons _ (.slnil)))
   rw [show sb s ++ [128] ++ List.replicate ((239 - s.size % 128) % 128) 0 ++ LenB s.size = dl s from rfl] at hZx
   obtain ⟨NB, hNB⟩ : ∃ NB, NB = (dl s).length / 128 := ⟨_, rfl⟩
   have hlen : (dl s).length = 128 * NB := by have := dl_len s; omega
   have hlen2 : (s.size + 1 + ((239 - s.size % 128) % 128) + 16) = 128 * NB := by have h := dl_length s; omega
   have hcap := hZx.le
   rw [vs8_length, hlen] at hcap
   have hsz : 128 * NB < 1000000 := by rw [← hlen, dl_length]; omega
   refine au_loop (fun j a w' => ∃ (v3 : Nat → Value), a = ⟨#[.string s, undef, .string ⟨#[]⟩, .slice (some ⟨gx, 0, none⟩) (s.size + 1 + ((239 - s.size % 128) % 128) + 16) capx, .int .i64 ((15 : Int) - ((16 : Nat) : Int)), v2 5, .pointer (some ⟨g5, 0, none⟩), .int .i64 ((128 * j : Nat) : Int), undef, undef, .string s, .slice (some ⟨e0, 0, none⟩) s.size c0, .slice (some ⟨g1, 0, none⟩) 1 1, .slice (some ⟨e1, 0, none⟩) (s.size + 1) c1, .slice (some ⟨g, 0, none⟩) (s.size + 1 + ((239 - s.size % 128) % 128)) cap, .int .i64 (((s.size + 1 + ((239 - s.size % 128) % 128)) : Nat) : Int), .int .i64 (((s.size + 1 + ((239 - s.size % 128) % 128)) % 128 : Nat) : Int), .bool false, v1 18, v1 19, v1 20, .int .i64 ((15 : Int) - ((16 : Nat) : Int)), .bool false, v2 23, v2 24, v2 25, v2 26, v2 27, v2 28, v2 29, v2 30, v2 31, v2 32, v2 33, v2 34, v2 35, v2 36, v2 37, v2 38, v2 39, .agg (av 8 (w64 HB)), v3 41, v3 42, v3 43, v3 44, v3 45, v3 46, v3 47, v3 48, v3 49, v3 50, v3 51, v3 52, v3 53, undef, undef, undef, undef, undef, undef, undef, undef, undef, undef, undef, undef, undef, undef, undef, undef, undef, undef, undef, undef], []⟩ ∧ Mem ⟨w, []⟩ [⟨gx, Zx⟩, ⟨g5, .cells (av 8 (w64 (pcs (dl s) j))) 95⟩] w') NB ⟨fun k_ => ([undef, undef, undef, undef, undef, undef, undef, undef, undef, undef, undef, undef, undef] : List Value).getD (k_ - 41) undef, by kernel_rfl, M⟩ ?_ ?_
   ·intro j a u0 hj hI
    obtain ⟨v3, rfl, M⟩ := hI
    refine wp_seq ?_
    refine sR ?_
    refine pV 41 (.int .i64 ((128 * j : Nat) : Int)) ?_
    refine pV 42 (.slice (some ⟨gx, 0, none⟩) (s.size + 1 + ((239 - s.size % 128) % 128) + 16) capx) ?_
    refine pV 43 (.int .i64 (((s.size + 1 + ((239 - s.size % 128) % 128) + 16) : Nat) : Int)) ?_
    refine pH 44 (.bool true) (dT (((128 * j : Nat) : Int) < (((s.size + 1 + ((239 - s.size % 128) % 128) + 16) : Nat) : Int)) (by omega)) ?_
    refine nT ?_
    refine wp_cond_true (by kernel_rfl) ?_
    refine wp_skip ?_
    refine au_then ?_
    refine wp_seq ?_
    refine wp_block ?_
    refine rg_tail M 7 (by kernel_rfl) (by kernel_rfl) ?_
    simp only [List.take_succ_cons, List.take_zero]
    refine kA M 47 1 8 (w64 (pcs (dl s) j)) ?_
    refine kV 48 (.slice (some ⟨gx, 0, none⟩) (s.size + 1 + ((239 - s.size % 128) % 128) + 16) capx) ?_
    refine kV 49 (.int .i64 ((128 * j : Nat) : Int)) ?_
    refine kV 50 (.int .i64 ((128 * j : Nat) : Int)) ?_
    refine kH 51 (.int .i64 ((128 * j + 128 : Nat) : Int)) (iV (((128 * j : Nat) : Int) + 128) (by omega) (by omega) (by omega)) ?_
    refine kH 52 (.slice (some ⟨gx, (128 * j), none⟩) 128 (capx - 128 * j)) (fun w => Eq.trans (run_slS 32 5 Tryz.underlying32 inz5 _ _ _ rfl gx ((s.size + 1 + ((239 - s.size % 128) % 128) + 16)) capx (by kernel_rfl) .i64 .i64 (128 * j) (128 * j + 128) (by kernel_rfl) (by kernel_rfl) (by omega) (by omega) w) (by rw [show 128 * j + 128 - 128 * j = 128 by omega])) ?_
    refine kC M 53 74 #[.agg (av 8 (w64 (pcs (dl s) j))), .slice (some ⟨gx, (128 * j), none⟩) 128 (capx - 128 * j)] (.agg (av 8 (w64 (pcs (dl s) (j + 1))))) (fun w M => c_piece (pcs (dl s) j) (fun i => (dl s).getD (128 * j + i) 0) gx (128 * j) _ w M.laid (fun i hi => hZx.cell (M.get 0 rfl) (by unfold vs8; rw [List.getElem?_map, List.getD_eq_getElem?_getD, List.getElem?_eq_getElem (by omega)]; rfl))) ?_
    refine kl_nil fun u13 M => ?_
    refine pl_put M (want_no rfl) rfl 95 _ _ rfl 1 g5 0 (by kernel_rfl) 8 95 (w64 (pcs (dl s) j)) rfl 8 (w64 (pcs (dl s) (j + 1))) (w64 (pcs (dl s) (j + 1))) (by kernel_rfl) inz95 (by decide) (fun _ _ => rfl) (fun j hj => by rw [if_pos (by omega), Nat.sub_zero]) fun u14 M => ?_
    refine pl_nil ?_
    refine au_block ?_
    refine au_then ?_
    refine rg_lit ?_
    refine pV 45 (.int .i64 ((128 * j : Nat) : Int)) ?_
    refine pH 46 (.int .i64 ((128 * (j + 1) : Nat) : Int)) (iV (((128 * j : Nat) : Int) + 128) (by omega) (by omega) (by omega)) ?_
    refine pV 7 (.int .i64 ((128 * (j + 1) : Nat) : Int)) ?_
    refine nT ?_
    exact ⟨fun k_ => ([.int .i64 ((128 * j : Nat) : Int), .slice (some ⟨gx, 0, none⟩) (s.size + 1 + ((239 - s.size % 128) % 128) + 16) capx, .int .i64 (((s.size + 1 + ((239 - s.size % 128) % 128) + 16) : Nat) : Int), .bool true, .int .i64 ((128 * j : Nat) : Int), .int .i64 ((128 * (j + 1) : Nat) : Int), .agg (av 8 (w64 (pcs (dl s) j))), .slice (some ⟨gx, 0, none⟩) (s.size + 1 + ((239 - s.size % 128) % 128) + 16) capx, .int .i64 ((128 * j : Nat) : Int), .int .i64 ((128 * j : Nat) : Int), .int .i64 ((128 * j + 128 : Nat) : Int), .slice (some ⟨gx, (128 * j), none⟩) 128 (capx - 128 * j), .agg (av 8 (w64 (pcs (dl s) (j + 1))))] : List Value).getD (k_ - 41) undef, by kernel_rfl, M⟩
   ·intro a u0 hI
    obtain ⟨v3, rfl, M⟩ := hI
    refine wp_seq ?_
    refine sR ?_
    refine pV 41 (.int .i64 ((128 * NB : Nat) : Int)) ?_
    refine pV 42 (.slice (some ⟨gx, 0, none⟩) (s.size + 1 + ((239 - s.size % 128) % 128) + 16) capx) ?_
    refine pV 43 (.int .i64 (((s.size + 1 + ((239 - s.size % 128) % 128) + 16) : Nat) : Int)) ?_
    refine pH 44 (.bool false) (dF (((128 * NB : Nat) : Int) < (((s.size + 1 + ((239 - s.size % 128) % 128) + 16) : Nat) : Int)) (by omega)) ?_
    refine nT ?_
    refine wp_cond_false (by kernel_rfl) ?_
    refine wp_exit ?_
    refine au_then_exit ?_
    refine au_then_exit ?_
    refine au_block_exit ?_
    refine au_then ?_
    refine sR ?_
    refine pV 8 (.slice none 0 0) ?_
    refine nT ?_
    refine wp_seq ?_
    refine sR ?_
    refine pV 9 (.int .i64 0) ?_
    refine nT ?_
    refine wp_block ?_
    replace M := M.drop (L' := [⟨g5, .cells (av 8 (w64 (pcs (dl s) NB))) 95⟩]) (.cons _ (.cons_cons _ (.slnil)))
    refine au_loop (fun j a w' => ∃ (v4 : Nat → Value) (sl : Value), a = ⟨#[.string s, undef, .string ⟨#[]⟩, .slice (some ⟨gx, 0, none⟩) (s.size + 1 + ((239 - s.size % 128) % 128) + 16) capx, .int .i64 ((15 : Int) - ((16 : Nat) : Int)), v2 5, .pointer (some ⟨g5, 0, none⟩), .int .i64 ((128 * NB : Nat) : Int), sl, .int .i64 (j : Int), .string s, .slice (some ⟨e0, 0, none⟩) s.size c0, .slice (some ⟨g1, 0, none⟩) 1 1, .slice (some ⟨e1, 0, none⟩) (s.size + 1) c1, .slice (some ⟨g, 0, none⟩) (s.size + 1 + ((239 - s.size % 128) % 128)) cap, .int .i64 (((s.size + 1 + ((239 - s.size % 128) % 128)) : Nat) : Int), .int .i64 (((s.size + 1 + ((239 - s.size % 128) % 128)) % 128 : Nat) : Int), .bool false, v1 18, v1 19, v1 20, .int .i64 ((15 : Int) - ((16 : Nat) : Int)), .bool false, v2 23, v2 24, v2 25, v2 26, v2 27, v2 28, v2 29, v2 30, v2 31, v2 32, v2 33, v2 34, v2 35, v2 36, v2 37, v2 38, v2 39, .agg (av 8 (w64 HB)), .int .i64 ((128 * NB : Nat) : Int), .slice (some ⟨gx, 0, none⟩) (s.size + 1 + ((239 - s.size % 128) % 128) + 16) capx, .int .i64 (((s.size + 1 + ((239 - s.size % 128) % 128) + 16) : Nat) : Int), .bool false, v3 45, v3 46, v3 47, v3 48, v3 49, v3 50, v3 51, v3 52, v3 53, v4 54, v4 55, v4 56, v4 57, v4 58, v4 59, v4 60, v4 61, v4 62, v4 63, v4 64, v4 65, v4 66, v4 67, v4 68, v4 69, v4 70, v4 71, undef, undef], []⟩ ∧ ((j = 0 ∧ sl = .slice none 0 0 ∧ Mem ⟨w, []⟩ [⟨g5, .cells (av 8 (w64 (pcs (dl s) NB))) 95⟩] w') ∨ (∃ (g cap : Nat) (Z : Obj), sl = .slice (some ⟨g, 0, none⟩) j cap ∧ SB Z cap (vs8 (outL (pcs (dl s) NB) j)) ∧ Mem ⟨w, []⟩ [⟨g5, .cells (av 8 (w64 (pcs (dl s) NB))) 95⟩, ⟨g, Z⟩] w'))) 64 ⟨fun k_ => ([undef, undef, undef, undef, undef, undef, undef, undef, undef, undef, undef, undef, undef, undef, undef, undef, undef, undef] : List Value).getD (k_ - 54) undef, .slice none 0 0, by kernel_rfl, .inl ⟨rfl, rfl, M⟩⟩ ?_ ?_
    ·intro j a u0 hj hI
     obtain ⟨v4, sl, rfl, hI⟩ := hI
     rcases hI with ⟨rfl, rfl, M⟩ | ⟨g, cap, Z, rfl, hZ, M⟩
     ·skip
      refine wp_seq ?_
      refine sR ?_
      refine pV 54 (.int .i64 0) ?_
      refine pV 55 (.bool true) ?_
      refine nT ?_
      refine wp_cond_true (by kernel_rfl) ?_
      refine wp_skip ?_
      refine au_then ?_
      refine wp_seq ?_
      refine wp_block ?_
      refine rg_lit ?_
      refine pV 58 (.slice none 0 0) ?_
      refine pV 59 (.int .i64 0) ?_
      refine pV 60 (.int .i64 0) ?_
      refine pV 61 (.pointer (some ⟨g5, 0, none⟩)) ?_
      refine pE M 62 g5 0 (.int .u64 ((pcs (dl s) NB) 0)) (fun w M => M.cell 0 rfl (by decide) rfl) ?_
      refine pV 63 (.int .i64 0) ?_
      refine pV 64 (.int .i64 0) ?_
      refine pV 65 (.int .i64 0) ?_
      refine pV 66 (.int .i64 56) ?_
      refine pV 67 (.int .u64 56) ?_
      refine pV 68 (.int .u64 (sr ((pcs (dl s) NB) 0) 56)) ?_
      refine pV 69 (.int .u8 (cv .u8 (sr ((pcs (dl s) NB) 0) 56))) ?_
      refine pl_mk M (want_no rfl) (some 70) rfl (fun g6 => .slice (some ⟨g6, 0, none⟩) 1 1) (.cells (av 1 (fun _ => .int .u8 (cv .u8 (sr ((pcs (dl s) NB) 0) 56)))) 5) (fun _ => by kernel_rfl) fun g6 u15 M => ?_
      refine pl_app0 M (want_no rfl) (some 71) rfl 32 32 5 info5 (.int .u8 0) Tryz.underlying32 info5_eq info5_z (by kernel_rfl) (by decide +kernel) rfl 1 g6 5 (.int .u8 (cv .u8 (sr ((pcs (dl s) NB) 0) 56))) rfl (fun _ => by kernel_rfl) ?_
      intro e5 c5 Y5 u16 hY5 M
      refine pV 8 (.slice (some ⟨e5, 0, none⟩) 1 c5) ?_
      refine pl_nil ?_
      refine au_block ?_
      refine au_then ?_
      refine rg_lit ?_
      refine pV 56 (.int .i64 0) ?_
      refine pV 57 (.int .i64 1) ?_
      refine pV 9 (.int .i64 1) ?_
      refine nT ?_
      exact ⟨fun k_ => ([.int .i64 0, .bool true, .int .i64 0, .int .i64 1, .slice none 0 0, .int .i64 0, .int .i64 0, .pointer (some ⟨g5, 0, none⟩), .int .u64 ((pcs (dl s) NB) 0), .int .i64 0, .int .i64 0, .int .i64 0, .int .i64 56, .int .u64 56, .int .u64 (sr ((pcs (dl s) NB) 0) 56), .int .u8 (cv .u8 (sr ((pcs (dl s) NB) 0) 56)), .slice (some ⟨g6, 0, none⟩) 1 1, .slice (some ⟨e5, 0, none⟩) 1 c5] : List Value).getD (k_ - 54) undef, _, by kernel_rfl, .inr ⟨e5, c5, Y5, rfl, hY5, M.drop (.cons_cons _ (.cons _ (.cons_cons _ (.slnil))))⟩⟩
     ·skip
      refine wp_seq ?_
      refine sR ?_
      refine pV 54 (.int .i64 (j : Int)) ?_
      refine pH 55 (.bool true) (dT ((j : Int) < 64) (by omega)) ?_
      refine nT ?_
      refine wp_cond_true (by kernel_rfl) ?_
      refine wp_skip ?_
      refine au_then ?_
      refine wp_seq ?_
      refine wp_block ?_
      refine rg_lit ?_
      refine pV 58 (.slice (some ⟨g, 0, none⟩) j cap) ?_
      refine pV 59 (.int .i64 (j : Int)) ?_
      refine pH 60 (.int .i64 ((j / 8 : Nat) : Int)) (fun w => Eq.trans (b := .ok (.value (.int .i64 (IntKind.wrap .i64 ((j : Int).tdiv 8)))) w) (by kernel_rfl) (by rw [quo8 j (by omega)])) ?_
      refine pH 61 (.pointer (some ⟨g5, ((j / 8 : Nat)), none⟩)) (run_ix1 95 8 34 Tryz.underlying95 inz34 _ _ rfl g5 (by kernel_rfl) .i64 ((j / 8 : Nat)) (by kernel_rfl) (by omega)) ?_
      refine pE M 62 g5 ((j / 8 : Nat)) (.int .u64 ((pcs (dl s) NB) ((j / 8 : Nat)))) (fun w M => M.cell 0 rfl (by omega) rfl) ?_
      refine pV 63 (.int .i64 (j : Int)) ?_
      refine pH 64 (.int .i64 ((j % 8 : Nat) : Int)) (fun w => Eq.trans (b := .ok (.value (.int .i64 (Int.tmod (j : Int) 8))) w) (by kernel_rfl) (by rw [rem8])) ?_
      refine pH 65 (.int .i64 ((8 * (j % 8) : Nat) : Int)) (iV (8 * ((j % 8 : Nat) : Int)) (by omega) (by omega) (by omega)) ?_
      refine pH 66 (.int .i64 ((56 - 8 * (j % 8) : Nat) : Int)) (iV (56 - ((8 * (j % 8) : Nat) : Int)) (by omega) (by omega) (by omega)) ?_
      refine pH 67 (.int .u64 ((56 - 8 * (j % 8) : Nat) : Int)) (fun w => Eq.trans (b := .ok (.value (.int .u64 (cv .u64 ((56 - 8 * (j % 8) : Nat) : Int)))) w) (by kernel_rfl) (by rw [cv_u64 _ (by omega)])) ?_
      refine pH 68 (.int .u64 (sr ((pcs (dl s) NB) (j / 8)) (56 - 8 * (j % 8)))) (run_shrV 34 39 _ _ rfl _ .u64 (56 - 8 * (j % 8)) (by kernel_rfl) (by kernel_rfl) (by omega)) ?_
      refine pV 69 (.int .u8 (cv .u8 (sr ((pcs (dl s) NB) (j / 8)) (56 - 8 * (j % 8))))) ?_
      refine pl_mk M (want_no rfl) (some 70) rfl (fun g7 => .slice (some ⟨g7, 0, none⟩) 1 1) (.cells (av 1 (fun _ => .int .u8 (cv .u8 (sr ((pcs (dl s) NB) (j / 8)) (56 - 8 * (j % 8)))))) 5) (fun _ => by kernel_rfl) fun g7 u17 M => ?_
      refine pl_app M (want_no rfl) (some 71) rfl 32 32 5 info5 (.int .u8 0) Tryz.underlying32 info5_eq info5_z (by kernel_rfl) (by decide +kernel) rfl 1 g (j) cap Z (vs8 (outL (pcs (dl s) NB) j)) rfl hZ (by rw [vs8_length, outL_length]) (by omega) 2 g7 5 (.int .u8 (cv .u8 (sr ((pcs (dl s) NB) (j / 8)) (56 - 8 * (j % 8))))) rfl rfl (fun _ => by kernel_rfl) ?_
      intro e6 c6 Y6 u18 hY6 M
      rw [vs8_app] at hY6
      refine pV 8 (.slice (some ⟨e6, 0, none⟩) (j + 1) c6) ?_
      refine pl_nil ?_
      refine au_block ?_
      refine au_then ?_
      refine rg_lit ?_
      refine pV 56 (.int .i64 (j : Int)) ?_
      refine pH 57 (.int .i64 ((j + 1 : Nat) : Int)) (iV ((j : Int) + 1) (by omega) (by omega) (by omega)) ?_
      refine pV 9 (.int .i64 ((j + 1 : Nat) : Int)) ?_
      refine nT ?_
      exact ⟨fun k_ => ([.int .i64 (j : Int), .bool true, .int .i64 (j : Int), .int .i64 ((j + 1 : Nat) : Int), .slice (some ⟨g, 0, none⟩) j cap, .int .i64 (j : Int), .int .i64 ((j / 8 : Nat) : Int), .pointer (some ⟨g5, ((j / 8 : Nat)), none⟩), .int .u64 ((pcs (dl s) NB) ((j / 8 : Nat))), .int .i64 (j : Int), .int .i64 ((j % 8 : Nat) : Int), .int .i64 ((8 * (j % 8) : Nat) : Int), .int .i64 ((56 - 8 * (j % 8) : Nat) : Int), .int .u64 ((56 - 8 * (j % 8) : Nat) : Int), .int .u64 (sr ((pcs (dl s) NB) (j / 8)) (56 - 8 * (j % 8))), .int .u8 (cv .u8 (sr ((pcs (dl s) NB) (j / 8)) (56 - 8 * (j % 8)))), .slice (some ⟨g7, 0, none⟩) 1 1, .slice (some ⟨e6, 0, none⟩) (j + 1) c6] : List Value).getD (k_ - 54) undef, _, by kernel_rfl, .inr ⟨e6, c6, Y6, rfl, hY6, M.drop (.cons_cons _ (.cons _ (.cons_cons _ (.slnil))))⟩⟩
    ·intro a u0 hI
     obtain ⟨v4, sl, rfl, hI⟩ := hI
     rcases hI with ⟨h, _⟩ | ⟨g, cap, Z, rfl, hZ, M⟩
     ·cases h
     ·skip
      refine wp_seq ?_
      refine sR ?_
      refine pV 54 (.int .i64 64) ?_
      refine pV 55 (.bool false) ?_
      refine nT ?_
      refine wp_cond_false (by kernel_rfl) ?_
      refine wp_exit ?_
      refine au_then_exit ?_
      refine au_then_exit ?_
      refine au_block_exit ?_
      refine au_then ?_
      refine sR ?_
      refine pV 72 (.slice (some ⟨g, 0, none⟩) 64 cap) ?_
      refine pl_back M (want_no rfl) (some 73) rfl _ rfl 1 g 64 cap (by kernel_rfl) Z rfl (outL (pcs (dl s) NB) 64) cap hZ (outL_length _ _) (outL_nn _ _) ?_
      rw [hNB]
      refine pV 2 (.string (docV s)) ?_
      refine nT ?_
      refine wp_ret ?_
      exact bodyPost_ret (v := .string (docV s)) (results_tmp1 Tryz.results31 _ _ _ (by kernel_rfl)) (by kernel_rfl) ⟨rfl, below_grown M.old⟩
theorem bt_app_l (s p : ByteArray) (i : Nat) (h : i < s.size) : bt (s ++ p) i = bt s i := by
 rw [bt_of_sb, bt_of_sb, sb_append, List.getD_eq_getElem?_getD, List.getD_eq_getElem?_getD, List.getElem?_append_left (by rw [sb_length]; exact h)]
theorem bt_app_r (s p : ByteArray) (i : Nat) : bt (s ++ p) (s.size + i) = bt p i := by
 rw [bt_of_sb, bt_of_sb, sb_append, List.getD_eq_getElem?_getD, List.getD_eq_getElem?_getD, List.getElem?_append_right (by rw [sb_length]; omega), sb_length, Nat.add_sub_cancel_left]
theorem tk_app_l (H : HS) (s p : ByteArray) : ∀ k, k ≤ s.size → tk H (s ++ p) k = tk H s k
 | 0, _ => rfl
 | k + 1, h => by
  unfold tk
  rw [tk_app_l H s p k (by omega), bt_app_l s p k (by omega)]
theorem tk_app (H : HS) (s p : ByteArray) : ∀ k, tk H (s ++ p) (s.size + k) = tk (tk H s s.size) p k
 | 0 => tk_app_l H s p s.size (Nat.le_refl _)
 | k + 1 => by
  show ab (tk H (s ++ p) (s.size + k)) (bt (s ++ p) (s.size + k)) = ab (tk (tk H s s.size) p k) (bt p k)
  rw [tk_app H s p k, bt_app_r]
theorem tk_all (H : HS) (s p : ByteArray) : tk H (s ++ p) (s ++ p).size = tk (tk H s s.size) p p.size := by
 rw [ByteArray.size_append]
 exact tk_app H s p p.size
theorem tk_ct (s : ByteArray) : ∀ k, k < 1000000 → (tk hs0 s k).ct = (k : Int)
 | 0, _ => rfl
 | k + 1, h => by
  show ua (tk hs0 s k).ct 1 = _
  rw [tk_ct s k (by omega), ua_eq]
  omega
theorem blocks (D : ByteArray) : ∀ j, 128 * j < 1000000 → (tk hs0 D (128 * j)).ws = pcs (sb D) j
 | 0, _ => rfl
 | j + 1, h => by
  have hct : (tk hs0 D (128 * j)).ct % 128 = ((0 : Nat) : Int) := by
   rw [tk_ct D _ (by omega)]
   omega
  obtain ⟨_, _, h3⟩ := tk_run hs0 hs0_ok D (128 * j) 0 (D.extract (128 * j) D.size) (fun i => bt_extract D (128 * j) i) hct 128 (by omega)
  rw [if_pos (by omega)] at h3
  show (tk hs0 D (128 * j + 128)).ws = _
  rw [h3, blocks D j (by omega)]
  show _ = mixV (pcs (sb D) j) (fun i => (sb D).getD (128 * j + i) 0)
  refine mixV_congr fun i hi => ?_
  unfold cpy
  rw [if_pos (by omega), Nat.sub_zero, bt_extract, bt_of_sb]
theorem sr61 (n : Nat) (h : n < 1000000) : sr (n : Int) 61 = 0 := by
 unfold sr
 rw [Int.fdiv_eq_ediv_of_nonneg _ (by decide)]
 show (n : Int) / 2305843009213693952 = 0
 omega
theorem sl3 (n : Nat) (h : n < 1000000) : sl (n : Int) 3 = um 8 (cv .u64 (n : Int)) := by
 rw [cv_u64 n (by omega)]
 unfold sl um
 rw [Int.mul_comm]
 rfl
theorem hI_two (y : Int) : hI (r2 0 y) 2 = [0, 0, 0, 0, 0, 0, 0, 0, cv .u8 (sr y 56), cv .u8 (sr y 48), cv .u8 (sr y 40), cv .u8 (sr y 32), cv .u8 (sr y 24), cv .u8 (sr y 16), cv .u8 (sr y 8), cv .u8 (sr y 0)] := rfl
theorem lenB_eq (n : Nat) (h : n < 1000000) : hI (r2 (sr (n : Int) 61) (sl (n : Int) 3)) 2 = LenB n := by
 rw [sr61 n h, sl3 n h, hI_two]
 rfl
theorem dl_sb (s : ByteArray) (hs : s.size < 1000000) : sb (s ++ padS (s.size : Int)) = dl s := by
 rw [sb_append, pad_sb, lenB_eq _ hs]
 unfold dl
 rw [show (((s.size : Int) % 128).toNat) = s.size % 128 by omega]
 simp
theorem doc_eq (s : ByteArray) (hs : s.size < 100000) : docV s = ofV s := by
 have hD := dl_sb s (by omega)
 have hct := tk_ct s s.size (by omega)
 have hl := dl_length s
 have hm := dl_len s
 unfold docV ofV sumV
 rw [hct, ← tk_all, show (64 : Nat) = 8 * 8 from rfl, outL_hI, ← hD]
 have hsz : (s ++ padS (s.size : Int)).size = 128 * ((dl s).length / 128) := by
  rw [← sb_length, hD]
  omega
 rw [hsz, blocks _ _ (by omega), hD]
end Go.Proofs.YtmhfmhmpoobmlaaGreatDoor.Sha

namespace Go.Proofs.YtmhfmhmpoobmlaaGreatDoor
open Go.RowKit
section
variable {P : Program} {ops : Array Oper} {md : Region.Mode} {C : World → Prop}
def HeadQ (P : Program) (md : Region.Mode) (ops : Array Oper) (C : World → Prop) (n : Nat) (L : Array Bool → Act → Prop) : Nat → Array Bool → Act → Prop
 | 0, done, a => L done a
 | f + 1, done, a => Region.ready md ops done ≠ [] ∧ ∀ i ∈ Region.ready md ops done, i < n ∧ qOp P ops C i (HeadQ P md ops C n L f (done.setIfInBounds i true)) a
theorem HeadQ.any {n g : Nat} {L : Array Bool → Act → Prop} {Q : Exit → Act → World → Prop} (hL : ∀ done a w, C w → L done a → wpAny P md ops Q g done a w) :
  ∀ (f : Nat) (done : Array Bool) (a : Act) (w : World), C w → HeadQ P md ops C n L f done a → wpAny P md ops Q (f + g) done a w := by
 intro f
 induction f with
 | zero =>
  intro done a w hw h
  rw [Nat.zero_add]
  exact hL done a w hw h
 | succ f ih =>
  intro done a w hw h
  have e : f + 1 + g = (f + g) + 1 := by omega
  rw [e]
  exact ⟨fun h0 => absurd h0 h.1, fun i hi => wpOp_of_qOp hw (fun a' w' hw' h' => ih _ a' w' hw' h') (h.2 i hi).2⟩
theorem HeadQ.first {n i : Nat} {oi : Oper} {v : Value} {L : Array Bool → Act → Prop} (hi : ops[i]? = some oi) (hsel : ∀ (j : Nat) (o : Oper) cs b, ops[j]? = some o → o.op ≠ .select cs b)
  (hs : Region.sinkB md ops n = true) (hc : Region.chainB md ops n = true) (hn : n < ops.size) (hin : i < n) (hend : ∀ done a, L done a → ∀ j ∈ Region.ready md ops done, n ≤ j) :
  ∀ (f : Nat) (done : Array Bool) (a : Act), HeadInv md ops n done →
   (∀ j oj, ops[j]? = some oj → j ≠ i → done.getD j true = false → (∀ e ∈ oj.after, Region.binds md e = true → e.on ≠ i) → oi.apart ops oj = true) →
   i ∈ Region.ready md ops done → YieldsIn P ops C oi v a → HeadQ P md ops C n L f (done.setIfInBounds i true) (a.put oi.dst v) → HeadQ P md ops C n L (f + 1) done a := by
 intro f
 induction f with
 | zero =>
  intro done a inv _ hr hy H
  refine ⟨fun h => (by rw [h] at hr; cases hr), fun j hj => ?_⟩
  have hjn : j < n := Nat.lt_of_not_le fun h => tail_waits hs hc hn inv _ i rfl hin (mem_ready.1 hr).1 j h hj
  refine ⟨hjn, ?_⟩
  by_cases hji : j = i
  ·subst hji
   exact hy.qOp hi H
  ·have := hend _ _ H j (ready_mono hj hji)
   omega
 | succ f ih =>
  intro done a inv hfree hr hy H
  have hun := (mem_ready.1 hr).1
  refine ⟨fun h => (by rw [h] at hr; cases hr), fun j hj => ?_⟩
  have hjn : j < n := Nat.lt_of_not_le fun h => tail_waits hs hc hn inv _ i rfl hin hun j h hj
  refine ⟨hjn, ?_⟩
  by_cases hji : j = i
  ·subst hji
   exact hy.qOp hi H
  ·obtain ⟨hjun, oj, hoj, hall⟩ := mem_ready.1 hj
   have hno : ∀ e ∈ oj.after, Region.binds md e = true → e.on ≠ i := by
    intro e he hb heq
    have h1 := hall e he hb
    rw [heq, getD_both hun] at h1
    cases h1
   have h2 := qOp_put hoj (hfree j oj hoj hji hjun hno) (fun cs b => hsel i oi cs b hi) (fun cs b => hsel j oj cs b hoj) hy (H.2 j (ready_mono hj hji)).2
   refine qOp_mono (fun a' h3 => ih (done.setIfInBounds j true) a' (inv.set hj hjn) ?_ (ready_mono hr (Ne.symm hji)) h3.1 ?_) h2
   ·intro k ok hk hki hku hkn
    refine hfree k ok hk hki ?_ hkn
    by_cases hjk : j = k
    ·subst hjk
     exact hjun
    ·rw [getD_set_ne true hjk] at hku
     exact hku
   ·rw [Array.setIfInBounds_comm _ _ hji]
    exact h3.2
theorem HeadQ.lex {n g : Nat} {K : Act → Prop} (hsel : Region.noSelect ops = true) (hs : Region.sinkB md ops n = true) (hc : Region.chainB md ops n = true) (hn : n < ops.size) (l : List Oper) :
  ∀ (k : Nat) (done : Array Bool) (a : Act), (∀ j, j < l.length → l[j]? = ops[k + j]?) → k + l.length = n → HeadInv md ops n done →
  Region.lexHead md ops g l.length k done = true → wpQuiet P ops C K l a → HeadQ P md ops C n (fun d a' => Region.seqB md ops g n d = true ∧ K a') l.length done a := by
 induction l with
 | nil =>
  intro k done a _ hk _ hB h
  have e : k = n := by simpa using hk
  subst e
  exact ⟨by simpa [Region.lexHead] using hB, h⟩
 | cons o l ih =>
  intro k done a hl hk inv hB h
  have h0 : ops[k]? = some o := by simpa using (hl 0 (by simp)).symm
  simp only [List.length_cons, Region.lexHead, Bool.and_eq_true] at hB
  simp only [List.length_cons] at hk
  have hr : k ∈ Region.ready md ops done := by simpa using hB.1.1
  have hq : qOp P ops C k (wpQuiet P ops C K l) a := by
   unfold qOp
   simp only [h0]
   exact h
  obtain ⟨v, hy, hK⟩ := yieldsIn_of_qOp h0 hq
  refine HeadQ.first h0 (Region.noSelect_spec hsel) hs hc hn (by omega) (fun d a' hL => seqB_ready hL.1) l.length done a inv (Region.free_spec h0 hB.1.2) hr hy ?_
  refine ih (k + 1) _ _ (fun j hj => ?_) (by omega) (inv.set hr (by omega)) hB.2 hK
  have := hl (j + 1) (by simp; omega)
  simpa [Nat.add_assoc, Nat.add_comm 1 j] using this
theorem wp_region_quiet_tail {id : Nat} {Q : Exit → Act → World → Prop} {a : Act} {w : World} {l : List Oper} (n : Nat) (hm : P.follows .mixedOrders = true) (hB : Region.lexTailB .any l.toArray n = true) (hC : C { w with drawn := w.drawn + 1 })
  (h : wpQuiet P l.toArray C (fun a' => ∀ w', C w' → wpList P l.toArray Q (l.drop n) a' w') (l.take n) a) : (Code.region id l.toArray true).wp P Q a w := by
 simp only [Region.lexTailB, Bool.and_eq_true, decide_eq_true_eq] at hB
 obtain ⟨⟨⟨⟨hsel, hn⟩, hs⟩, hc⟩, hlex⟩ := hB
 have hn' : n < l.length := by simpa using hn
 have htl : (l.take n).length = n := by simp; omega
 have hdl : (l.drop n).length = l.toArray.size - n := by simp
 have inv : HeadInv .any l.toArray n (Array.replicate l.toArray.size false) :=
  ⟨by simp, fun j oj _ hl => (by rw [getD_replicate_false] at hl; cases hl), fun t _ ht => getD_in (by simpa using ht) (getD_replicate_false _ _)⟩
 have H := HeadQ.lex (md := .any) (g := l.toArray.size - n) hsel hs hc hn (l.take n) 0 _ a (fun j hj => by rw [htl] at hj; simp [hj]) (by simpa using htl) inv (by rw [htl]; exact hlex) h
 refine wp_region_any hm ?_
 have H2 := HeadQ.any (Q := Q) (g := l.toArray.size - n) (fun done a' w' hw' hL => by
  have := wpAny_of_seq (md := .any) (Q' := Q) (l.drop n) n done a' w' (fun j => by simp [List.getElem?_drop]) (by rw [hdl]; exact hL.1) (hL.2 w' hw')
  rwa [hdl] at this) _ _ _ _ hC H
 rw [htl, show n + (l.toArray.size - n) = l.toArray.size by omega] at H2
 exact H2
structure KW (W : World) where
 w : World
 keep : Below W.heap.size W w
def KW.next {W : World} (s : KW W) (w' : World) (h : Below s.w.heap.size s.w w') : KW W := ⟨w', s.keep.trans (h.mono s.keep.size)⟩
theorem KW.drew (W : World) : ∃ s : KW W, ({ W with drawn := W.drawn + 1 } : World) = s.w := ⟨⟨W.drew, (Below.refl _ _).drew⟩, rfl⟩
theorem keep_of {W : World} {s : KW W} {f : FuncId} {args : Array Value} {v : Value}
  (h : Calls P f args s.w fun e w' => e = .returned v ∧ Below s.w.heap.size s.w w') : Calls P f args s.w fun e w'' => e = .returned v ∧ ∃ t : KW W, w'' = t.w :=
 h.mono fun _ w' ⟨he, hb⟩ => ⟨he, s.next w' hb, rfl⟩
theorem wp_region_keep {id : Nat} {Q : Exit → Act → World → Prop} {a : Act} {w : World} {l : List Oper} (hm : P.follows .mixedOrders = true) (hB : Region.lexB .any l.toArray = true)
  (h : wpQuiet P l.toArray (fun w' => ∃ s : KW w, w' = s.w) (fun a' => ∀ s : KW w, Q .normal a' s.w) l a) : (Code.region id l.toArray true).wp P Q a w := by
 refine wp_region_quiet (C := fun w' => ∃ s : KW w, w' = s.w) hm hB (KW.drew w) ?_
 have e : (fun a' => ∀ w', (∃ s : KW w, w' = s.w) → Q .normal a' w') = fun a' => ∀ s : KW w, Q .normal a' s.w := by
  funext a'
  exact propext ⟨fun h s => h _ ⟨s, rfl⟩, fun h w' ⟨s, hs⟩ => hs ▸ h s⟩
 rw [e]
 exact h
theorem wp_region_keep_tail {id : Nat} {Q : Exit → Act → World → Prop} {a : Act} {w : World} {l : List Oper} (n : Nat) (hm : P.follows .mixedOrders = true) (hB : Region.lexTailB .any l.toArray n = true)
  (h : wpQuiet P l.toArray (fun w' => ∃ s : KW w, w' = s.w) (fun a' => ∀ s : KW w, wpList P l.toArray Q (l.drop n) a' s.w) (l.take n) a) : (Code.region id l.toArray true).wp P Q a w := by
 refine wp_region_quiet_tail (C := fun w' => ∃ s : KW w, w' = s.w) n hm hB (KW.drew w) ?_
 have e : (fun a' => ∀ w', (∃ s : KW w, w' = s.w) → wpList P l.toArray Q (l.drop n) a' w') = fun a' => ∀ s : KW w, wpList P l.toArray Q (l.drop n) a' s.w := by
  funext a'
  exact propext ⟨fun h s => h _ ⟨s, rfl⟩, fun h w' ⟨s, hs⟩ => hs ▸ h s⟩
 rw [e]
 exact h
theorem quiet_load_row {o : Oper} {a : Act} {K : Act → Prop} (ty : TypeId) (x : Operand) (ho : o.op = .load ty x) (g : Nat) (hx : a.eval x = .pointer (some ⟨g, 0, none⟩)) (t : TypeId) (cs : Array Value) (fr : Nat × Nat) (d : TypeDesc)
  (hg : ∀ w, C w → w.heap[g]? = some (.cells cs t fr)) (hu : P.underlying ty = some d) (hd : (match d with | .struct _ | .array _ _ => true | _ => false) = true) (hi : (P.info? ty).map (·.size) = some cs.size)
  (hk : K (a.put o.dst (.agg cs))) : o.quiet P a C K := by
 refine ⟨.agg cs, fun w hw => ?_, hk⟩
 unfold Oper.quietAt execOp
 simp only [ho, hx, Instr.loadAt, Instr.sureAddr, Sem.run_bind, Sem.run_pure, Result.andThen_ok, run_loadVar_row w g t ty cs fr d (hg w hw) hu hd hi]
 exact ⟨rfl, rfl⟩
end
section
variable {P : Program} {ops : Array Oper} {md : Region.Mode} {W : World} {n : Nat}
def keepUpon (P : Program) (w : World) (v : Value) : Result Next → Prop
 | .ok (.value u) w' => w' = w ∧ u = v
 | .ok .skip w' => w' = w ∧ v = undef
 | .ok (.enter f args) w' => w' = w ∧ Calls P f args w (fun e w'' => e = .returned v ∧ Below w.heap.size w w'')
 | _ => False
def keepAt (P : Program) (o : Oper) (a : Act) (w : World) (v : Value) : Prop := keepUpon P w v ((execOp a.eval o).run P w)
def keepOp (P : Program) (o : Oper) (a : Act) (W : World) (K : Act → Prop) : Prop := ∃ v, (∀ s : KW W, keepAt P o a s.w v) ∧ K (a.put o.dst v)
def wpK (P : Program) (ops : Array Oper) (W : World) (Q : Act → Prop) : List Oper → Act → Prop
 | [], a => Q a
 | o :: rest, a => if Region.wanted o (yielded ops a.tmps) then keepOp P o a W (wpK P ops W Q rest) else wpK P ops W Q rest (a.put o.dst undef)
theorem wpK_nil {Q : Act → Prop} {a : Act} (h : Q a) : wpK P ops W Q [] a := h
theorem wpK_step {Q : Act → Prop} {a : Act} {o : Oper} {rest : List Oper}
  (h : ∀ K : Act → Prop, (∀ a, wpK P ops W Q rest a → K a) → if Region.wanted o (yielded ops a.tmps) then keepOp P o a W K else K (a.put o.dst undef)) : wpK P ops W Q (o :: rest) a :=
 h _ (fun _ h => h)
def YK (P : Program) (ops : Array Oper) (W : World) (o : Oper) (v : Value) (a : Act) : Prop :=
 (Region.wanted o (yielded ops a.tmps) = true ∧ ∀ s : KW W, keepAt P o a s.w v) ∨ (Region.wanted o (yielded ops a.tmps) = false ∧ v = undef)
def kOp (P : Program) (ops : Array Oper) (W : World) (i : Nat) (K : Act → Prop) (a : Act) : Prop := ∃ o v, ops[i]? = some o ∧ YK P ops W o v a ∧ K (a.put o.dst v)
theorem YK.same {o : Oper} {v : Value} {a a' : Act} (hy : YK P ops W o v a) (he : execOp a'.eval o = execOp a.eval o) (hw : Region.wanted o (yielded ops a'.tmps) = Region.wanted o (yielded ops a.tmps)) : YK P ops W o v a' := by
 unfold YK keepAt at *
 rw [he, hw]
 exact hy
theorem wpK_yields {Q : Act → Prop} {a : Act} {o : Oper} {rest : List Oper} (h : wpK P ops W Q (o :: rest) a) : ∃ v, YK P ops W o v a ∧ wpK P ops W Q rest (a.put o.dst v) := by
 unfold wpK at h
 by_cases hw : Region.wanted o (yielded ops a.tmps) = true
 ·rw [if_pos hw] at h
  obtain ⟨v, h1, h2⟩ := h
  exact ⟨v, .inl ⟨hw, h1⟩, h2⟩
 ·rw [if_neg hw] at h
  exact ⟨undef, .inr ⟨by simpa using hw, rfl⟩, h⟩
theorem YK.wpOp {W1 : World} (hW : Below W.heap.size W W1) {i : Nat} {o : Oper} {v : Value} {a : Act} (hi : ops[i]? = some o) (hy : YK P ops W o v a) {K : Act → World → Prop} {Q : Exit → Act → World → Prop} (s : KW W1)
  (h : ∀ t : KW W1, K (a.put o.dst v) t.w) : wpOp P ops Q i K a s.w := by
 unfold Go.wpOp
 simp only [hi]
 rcases hy with ⟨hw, hv⟩ | ⟨hw, rfl⟩
 ·rw [if_pos hw]
  refine .inl ?_
  have hk := hv ⟨s.w, hW.trans (s.keep.mono hW.size)⟩
  unfold keepAt at hk
  unfold Oper.wp
  generalize (execOp a.eval o).run P s.w = r at *
  cases r with
  | ok x w' =>
   cases x <;> simp only [keepUpon] at hk <;> simp only [Oper.upon]
   case value u =>
    obtain ⟨e1, e2⟩ := hk
    rw [e1, e2]
    exact h s
   case skip =>
    obtain ⟨e1, e2⟩ := hk
    rw [e1, ← e2]
    exact h s
   case enter f args =>
    obtain ⟨e1, hc⟩ := hk
    rw [e1]
    exact hc.mono fun e w'' ⟨he, hb⟩ => by subst he; exact h (s.next w'' hb)
  | halt x w' => simp only [keepUpon] at hk
 ·rw [if_neg (by rw [hw]; exact Bool.false_ne_true)]
  exact h s
def HeadK (P : Program) (md : Region.Mode) (ops : Array Oper) (W : World) (n : Nat) (L : Array Bool → Act → Prop) : Nat → Array Bool → Act → Prop
 | 0, done, a => L done a
 | f + 1, done, a => (∃ i, i < n ∧ i ∈ Region.ready md ops done) ∧ ∀ i ∈ Region.ready md ops done, i = n ∨ (i < n ∧ kOp P ops W i (HeadK P md ops W n L f (done.setIfInBounds i true)) a)
theorem HeadK.first {i : Nat} {oi : Oper} {v : Value} {L : Array Bool → Act → Prop} (hi : ops[i]? = some oi) (hsel : ∀ (j : Nat) (o : Oper) cs b, ops[j]? = some o → o.op ≠ .select cs b)
  (hs : Region.sinkB md ops (n + 1) = true) (hc : Region.chainB md ops (n + 1) = true) (hn : n + 1 < ops.size) (hin : i < n) (hend : ∀ done a, L done a → Region.ready md ops done = [n]) :
  ∀ (f : Nat) (done : Array Bool) (a : Act), HeadInv md ops (n + 1) done →
   (∀ j oj, ops[j]? = some oj → j ≠ i → done.getD j true = false → (∀ e ∈ oj.after, Region.binds md e = true → e.on ≠ i) → oi.apart ops oj = true) →
   i ∈ Region.ready md ops done → YK P ops W oi v a → HeadK P md ops W n L f (done.setIfInBounds i true) (a.put oi.dst v) → HeadK P md ops W n L (f + 1) done a := by
 intro f
 induction f with
 | zero =>
  intro done a inv _ hr hy H
  refine ⟨⟨i, hin, hr⟩, fun j hj => ?_⟩
  by_cases hji : j = i
  ·subst hji
   exact .inr ⟨hin, oi, v, hi, hy, H⟩
  ·have h1 := ready_mono hj hji
   rw [hend _ _ H] at h1
   exact .inl (by simpa using h1)
 | succ f ih =>
  intro done a inv hfree hr hy H
  have hun := (mem_ready.1 hr).1
  refine ⟨⟨i, hin, hr⟩, fun j hj => ?_⟩
  have hjn : j < n + 1 := Nat.lt_of_not_le fun h => tail_waits hs hc hn inv _ i rfl (by omega) hun j h hj
  by_cases hji : j = i
  ·subst hji
   exact .inr ⟨hin, oi, v, hi, hy, H⟩
  ·rcases H.2 j (ready_mono hj hji) with h0 | ⟨hjlt, oj, u, hoj, hyj, hK⟩
   ·exact .inl h0
   ·obtain ⟨hjun, oj', hoj', hall⟩ := mem_ready.1 hj
    have e : oj' = oj := Option.some.inj (hoj'.symm.trans hoj)
    subst e
    have hno : ∀ e ∈ oj'.after, Region.binds md e = true → e.on ≠ i := by
     intro e he hb heq
     have h1 := hall e he hb
     rw [heq, getD_both hun] at h1
     cases h1
    obtain ⟨h1, h2, h3⟩ := Oper.apart_spec (hfree j oj' hoj hji hjun hno)
    have hyj' : YK P ops W oj' u a := hyj.same (execOp_put oj' (fun cs b => hsel j oj' cs b hoj) a oi.dst v h1).symm (wanted_put oj' a oi.dst v h1).symm
    have hyi' : YK P ops W oi v (a.put oj'.dst u) := hy.same (execOp_put oi (fun cs b => hsel i oi cs b hi) a oj'.dst u h3) (wanted_put oi a oj'.dst u h3)
    refine .inr ⟨hjlt, oj', u, hoj, hyj', ih (done.setIfInBounds j true) _ (inv.set hj hjn) ?_ (ready_mono hr (Ne.symm hji)) hyi' ?_⟩
    ·intro k ok hk hki hku hkn
     refine hfree k ok hk hki ?_ hkn
     by_cases hjk : j = k
     ·subst hjk
      exact hjun
     ·rw [getD_set_ne true hjk] at hku
      exact hku
    ·rw [Array.setIfInBounds_comm _ _ hji, ← Act.put_comm a v u h2]
     exact hK
def lexA (md : Region.Mode) (ops : Array Oper) (g n : Nat) : Nat → Nat → Array Bool → Bool
 | 0, _, done => decide (Region.ready md ops done = [n]) && Region.seqB md ops g (n + 1) (done.setIfInBounds n true)
 | f + 1, k, done => (Region.ready md ops done).contains k && Region.free md ops done k && lexA md ops g n f (k + 1) (done.setIfInBounds k true)
def freeN (md : Region.Mode) (ops : Array Oper) (n : Nat) : Bool :=
 (List.range n).all fun i => !Region.waitsFor md ops i n && (match ops[i]?, ops[n]? with | some o, some m => o.apart ops m | _, _ => false)
def lexAllocB (md : Region.Mode) (ops : Array Oper) (n : Nat) : Bool :=
 Region.noSelect ops && decide (n + 1 < ops.size) && Region.sinkB md ops (n + 1) && Region.chainB md ops (n + 1) && freeN md ops n && lexA md ops (ops.size - (n + 1)) n n 0 (Array.replicate ops.size false)
theorem HeadK.lex {g : Nat} {K : Act → Prop} (hsel : Region.noSelect ops = true) (hs : Region.sinkB md ops (n + 1) = true) (hc : Region.chainB md ops (n + 1) = true) (hn : n + 1 < ops.size) (l : List Oper) :
  ∀ (k : Nat) (done : Array Bool) (a : Act), (∀ j, j < l.length → l[j]? = ops[k + j]?) → k + l.length = n → HeadInv md ops (n + 1) done →
  lexA md ops g n l.length k done = true → wpK P ops W K l a → HeadK P md ops W n (fun d a' => (Region.ready md ops d = [n] ∧ Region.seqB md ops g (n + 1) (d.setIfInBounds n true) = true) ∧ K a') l.length done a := by
 induction l with
 | nil =>
  intro k done a _ hk _ hB h
  simp only [List.length_nil, lexA, Bool.and_eq_true, decide_eq_true_eq] at hB
  exact ⟨hB, h⟩
 | cons o l ih =>
  intro k done a hl hk inv hB h
  have h0 : ops[k]? = some o := by simpa using (hl 0 (by simp)).symm
  simp only [List.length_cons, lexA, Bool.and_eq_true] at hB
  simp only [List.length_cons] at hk
  have hr : k ∈ Region.ready md ops done := by simpa using hB.1.1
  obtain ⟨v, hy, hK⟩ := wpK_yields h
  refine HeadK.first h0 (Region.noSelect_spec hsel) hs hc hn (by omega) (fun d a' hL => hL.1.1) l.length done a inv (Region.free_spec h0 hB.1.2) hr hy ?_
  refine ih (k + 1) _ _ (fun j hj => ?_) (by omega) (inv.set hr (by omega)) hB.2 hK
  have := hl (j + 1) (by simp; omega)
  simpa [Nat.add_assoc, Nat.add_comm 1 j] using this
theorem waits_of {i j : Nat} {o : Oper} (ho : ops[i]? = some o) (h : Region.waitsFor md ops i j = false) : ∀ e ∈ o.after, Region.binds md e = true → e.on ≠ j := by
 intro e he hb heq
 unfold Region.waitsFor at h
 simp only [ho] at h
 have : (o.after.any fun e => Region.binds md e && e.on == j) = true := Array.any_eq_true'.2 ⟨e, he, by simp [hb, heq]⟩
 rw [this] at h
 cases h
theorem HeadK.anyT {g : Nat} {L : Array Bool → Act → Prop} {Q : Exit → Act → World → Prop} {om : Oper} (hom : ops[n]? = some om) (hsel : Region.noSelect ops = true) (hs : Region.sinkB md ops (n + 1) = true) (hc : Region.chainB md ops (n + 1) = true) (hn : n + 1 < ops.size) (hfr : freeN md ops n = true)
  {W1 : World} (hW : Below W.heap.size W W1) (p : Value) (hL : ∀ done a, L done a → ∀ s : KW W1, wpAny P md ops Q g (done.setIfInBounds n true) (a.put om.dst p) s.w) :
  ∀ (f : Nat) (done : Array Bool) (a : Act), HeadInv md ops (n + 1) (done.setIfInBounds n true) → HeadK P md ops W n L f done a → ∀ s : KW W1, wpAny P md ops Q (f + g) (done.setIfInBounds n true) (a.put om.dst p) s.w := by
 intro f
 induction f with
 | zero =>
  intro done a _ h s
  rw [Nat.zero_add]
  exact hL done a h s
 | succ f ih =>
  intro done a inv h s
  have e : f + 1 + g = (f + g) + 1 := by omega
  rw [e]
  obtain ⟨⟨i0, hi0, hr0⟩, hall⟩ := h
  have hr0' : i0 ∈ Region.ready md ops (done.setIfInBounds n true) := ready_mono hr0 (by omega)
  refine ⟨fun h0 => (by rw [h0] at hr0'; cases hr0'), fun i hi => ?_⟩
  have hin : i < n + 1 := Nat.lt_of_not_le fun h => tail_waits hs hc hn inv _ i0 rfl (by omega) (mem_ready.1 hr0').1 i h hi
  obtain ⟨hiun, oi, hoi, hie⟩ := mem_ready.1 hi
  have hne : i ≠ n := by
   intro he
   subst he
   by_cases hlt : i < done.size
   ·simp [hlt] at hiun
   ·rw [Array.getD_eq_getD_getElem?, Array.getElem?_eq_none (by simpa using hlt)] at hiun
    cases hiun
  have hF := List.all_eq_true.1 hfr i (List.mem_range.2 (by omega))
  simp only [hoi, hom, Bool.and_eq_true, Bool.not_eq_true'] at hF
  have hwait := waits_of hoi hF.1
  have hrd : i ∈ Region.ready md ops done := by
   rw [mem_ready]
   rw [getD_set_ne true (Ne.symm hne)] at hiun
   refine ⟨hiun, oi, hoi, fun e he hb => ?_⟩
   have := hie e he hb
   rwa [getD_set_ne false (Ne.symm (hwait e he hb))] at this
  rcases hall i hrd with h0 | ⟨hlt, o, v, ho, hy, hK⟩
  ·exact absurd h0 hne
  ·have eo : o = oi := Option.some.inj (ho.symm.trans hoi)
   subst eo
   obtain ⟨h1, h2, h3⟩ := Oper.apart_spec hF.2
   have hso : ∀ cs b, o.op ≠ .select cs b := fun cs b => Region.noSelect_spec hsel i o cs b ho
   have hy' : YK P ops W o v (a.put om.dst p) := hy.same (execOp_put o hso a om.dst p h3) (wanted_put o a om.dst p h3)
   refine hy'.wpOp hW ho s fun t => ?_
   rw [← Act.put_comm a v p h2, Array.setIfInBounds_comm _ _ (Ne.symm hne)]
   refine ih (done.setIfInBounds i true) _ ?_ hK t
   rw [Array.setIfInBounds_comm _ _ hne]
   exact inv.set hi hin
theorem HeadK.anyS {g : Nat} {L : Array Bool → Act → Prop} {Q : Exit → Act → World → Prop} {om : Oper} {Z : Obj} (hom : ops[n]? = some om) (hsel : Region.noSelect ops = true) (hs : Region.sinkB md ops (n + 1) = true) (hc : Region.chainB md ops (n + 1) = true) (hn : n + 1 < ops.size) (hfr : freeN md ops n = true)
  (hg : om.guard = none) (hrun : ∀ a w, (execOp (Act.eval a) om).run P w = .ok (.value (.pointer (some ⟨w.heap.size, 0, none⟩))) (w.alloc Z)) (hend : ∀ done a, L done a → Region.ready md ops done = [n])
  (hL : ∀ done a, L done a → ∀ (w1 : World) (b : Nat), Below W.heap.size W w1 → W.heap.size ≤ b → w1.heap[b]? = some Z → wpAny P md ops Q g (done.setIfInBounds n true) (a.put om.dst (.pointer (some ⟨b, 0, none⟩))) w1) :
  ∀ (f : Nat) (done : Array Bool) (a : Act), HeadInv md ops (n + 1) done → HeadK P md ops W n L f done a → ∀ s : KW W, wpAny P md ops Q (f + 1 + g) done a s.w := by
 have hnow : ∀ (f : Nat) (done : Array Bool) (a : Act) (s : KW W), HeadInv md ops (n + 1) done → n ∈ Region.ready md ops done → HeadK P md ops W n L f done a → wpOp P ops Q n (wpAny P md ops Q (f + g) (done.setIfInBounds n true)) a s.w := by
  intro f done a s inv hr h
  unfold wpOp
  have hw : Region.wanted om (yielded ops a.tmps) = true := by simp [Region.wanted, hg]
  simp only [hom, hw, if_true]
  refine .inl ?_
  unfold Oper.wp
  rw [hrun]
  simp only [Oper.upon]
  have hW1 : Below W.heap.size W (s.w.alloc Z) := s.keep.alloc s.keep.size Z
  refine HeadK.anyT hom hsel hs hc hn hfr hW1 _ ?_ f done a (inv.set hr (by omega)) h ⟨_, Below.refl _ _⟩
  intro d a' hd t
  refine hL d a' hd t.w _ (hW1.trans (t.keep.mono hW1.size)) s.keep.size ?_
  rw [t.keep.block _ (by simp)]
  exact heap_alloc_new s.w Z
 intro f
 induction f with
 | zero =>
  intro done a inv h s
  have e : 0 + 1 + g = (0 + g) + 1 := by omega
  rw [e]
  have hr := hend done a h
  refine ⟨fun h0 => (by rw [hr] at h0; cases h0), fun i hi => ?_⟩
  have hi' : i = n := by rw [hr] at hi; simpa using hi
  rw [hi'] at hi ⊢
  exact hnow 0 done a s inv hi h
 | succ f ih =>
  intro done a inv h s
  have e : f + 1 + 1 + g = (f + 1 + g) + 1 := by omega
  rw [e]
  have h' := h
  obtain ⟨⟨i0, hi0, hr0⟩, hall⟩ := h
  refine ⟨fun h0 => (by rw [h0] at hr0; cases hr0), fun i hi => ?_⟩
  rcases hall i hi with h0 | ⟨hlt, o, v, ho, hy, hK⟩
  ·rw [h0] at hi ⊢
   exact hnow (f + 1) done a s inv hi h'
  ·refine hy.wpOp (Below.refl _ _) ho s fun t => ?_
   exact ih (done.setIfInBounds i true) _ (inv.set hi (by omega)) hK t
theorem wp_region_keep_alloc {id : Nat} {Q : Exit → Act → World → Prop} {a : Act} {l : List Oper} {om : Oper} {Z : Obj} (n : Nat) (hm : P.follows .mixedOrders = true) (hB : lexAllocB .any l.toArray n = true)
  (hom : l.toArray[n]? = some om) (hg : om.guard = none) (hrun : ∀ a w, (execOp (Act.eval a) om).run P w = .ok (.value (.pointer (some ⟨w.heap.size, 0, none⟩))) (w.alloc Z))
  (h : wpK P l.toArray W (fun a' => ∀ (w1 : World) (b : Nat), Below W.heap.size W w1 → W.heap.size ≤ b → w1.heap[b]? = some Z → ∀ a2, a2 = a'.put om.dst (.pointer (some ⟨b, 0, none⟩)) → wpList P l.toArray Q (l.drop (n + 1)) a2 w1) (l.take n) a) :
  (Code.region id l.toArray true).wp P Q a W := by
 simp only [lexAllocB, Bool.and_eq_true, decide_eq_true_eq] at hB
 obtain ⟨⟨⟨⟨⟨hsel, hn⟩, hs⟩, hc⟩, hfr⟩, hlex⟩ := hB
 have hn' : n + 1 < l.length := by simpa using hn
 have htl : (l.take n).length = n := by simp; omega
 have hdl : (l.drop (n + 1)).length = l.toArray.size - (n + 1) := by simp
 have inv : HeadInv .any l.toArray (n + 1) (Array.replicate l.toArray.size false) :=
  ⟨by simp, fun j oj _ hl => (by rw [getD_replicate_false] at hl; cases hl), fun t _ ht => getD_in (by simpa using ht) (getD_replicate_false _ _)⟩
 have H := HeadK.lex (md := .any) (g := l.toArray.size - (n + 1)) hsel hs hc hn (l.take n) 0 _ a (fun j hj => by rw [htl] at hj; simp [hj]) (by simpa using htl) inv (by rw [htl]; exact hlex) h
 refine wp_region_any hm ?_
 have H2 := HeadK.anyS (Q := Q) (g := l.toArray.size - (n + 1)) hom hsel hs hc hn hfr hg hrun (fun d a' hL => hL.1.1) (fun d a' hL w1 b h1 h2 h3 => by
  have := wpAny_of_seq (md := .any) (Q' := Q) (l.drop (n + 1)) (n + 1) (d.setIfInBounds n true) (a'.put om.dst (.pointer (some ⟨b, 0, none⟩))) w1 (fun j => by simp [List.getElem?_drop]) (by rw [hdl]; exact hL.1.2) (hL.2 w1 b h1 h2 h3 _ rfl)
  rwa [hdl] at this) _ _ _ inv H ⟨W.drew, (Below.refl _ _).drew⟩
 rw [htl, show n + 1 + (l.toArray.size - (n + 1)) = l.toArray.size by omega] at H2
 exact H2
end
section
variable {P : Program} {ops : Array Oper} {md : Region.Mode} {W : World} {n m : Nat}
def HeadM (P : Program) (md : Region.Mode) (ops : Array Oper) (W : World) (n m : Nat) (L : Array Bool → Act → Prop) : Nat → Array Bool → Act → Prop
 | 0, done, a => L done a
 | f + 1, done, a => (∃ i, i < n ∧ i ∈ Region.ready md ops done) ∧ ∀ i ∈ Region.ready md ops done, (n ≤ i ∧ i < m) ∨ (i < n ∧ kOp P ops W i (HeadM P md ops W n m L f (done.setIfInBounds i true)) a)
theorem HeadM.first {i : Nat} {oi : Oper} {v : Value} {L : Array Bool → Act → Prop} (hi : ops[i]? = some oi) (hsel : ∀ (j : Nat) (o : Oper) cs b, ops[j]? = some o → o.op ≠ .select cs b)
  (hs : Region.sinkB md ops m = true) (hc : Region.chainB md ops m = true) (hn : m < ops.size) (hnm : n ≤ m) (hin : i < n) (hend : ∀ done a, L done a → ∀ j ∈ Region.ready md ops done, n ≤ j ∧ j < m) :
  ∀ (f : Nat) (done : Array Bool) (a : Act), HeadInv md ops m done →
   (∀ j oj, ops[j]? = some oj → j ≠ i → done.getD j true = false → (∀ e ∈ oj.after, Region.binds md e = true → e.on ≠ i) → oi.apart ops oj = true) →
   i ∈ Region.ready md ops done → YK P ops W oi v a → HeadM P md ops W n m L f (done.setIfInBounds i true) (a.put oi.dst v) → HeadM P md ops W n m L (f + 1) done a := by
 intro f
 induction f with
 | zero =>
  intro done a inv _ hr hy H
  refine ⟨⟨i, hin, hr⟩, fun j hj => ?_⟩
  by_cases hji : j = i
  ·subst hji
   exact .inr ⟨hin, oi, v, hi, hy, H⟩
  ·exact .inl (hend _ _ H j (ready_mono hj hji))
 | succ f ih =>
  intro done a inv hfree hr hy H
  have hun := (mem_ready.1 hr).1
  refine ⟨⟨i, hin, hr⟩, fun j hj => ?_⟩
  have hjn : j < m := Nat.lt_of_not_le fun h => tail_waits hs hc hn inv _ i rfl (by omega) hun j h hj
  by_cases hji : j = i
  ·subst hji
   exact .inr ⟨hin, oi, v, hi, hy, H⟩
  ·rcases H.2 j (ready_mono hj hji) with h0 | ⟨hjlt, oj, u, hoj, hyj, hK⟩
   ·exact .inl h0
   ·obtain ⟨hjun, oj', hoj', hall⟩ := mem_ready.1 hj
    have e : oj' = oj := Option.some.inj (hoj'.symm.trans hoj)
    subst e
    have hno : ∀ e ∈ oj'.after, Region.binds md e = true → e.on ≠ i := by
     intro e he hb heq
     have h1 := hall e he hb
     rw [heq, getD_both hun] at h1
     cases h1
    obtain ⟨h1, h2, h3⟩ := Oper.apart_spec (hfree j oj' hoj hji hjun hno)
    have hyj' : YK P ops W oj' u a := hyj.same (execOp_put oj' (fun cs b => hsel j oj' cs b hoj) a oi.dst v h1).symm (wanted_put oj' a oi.dst v h1).symm
    have hyi' : YK P ops W oi v (a.put oj'.dst u) := hy.same (execOp_put oi (fun cs b => hsel i oi cs b hi) a oj'.dst u h3) (wanted_put oi a oj'.dst u h3)
    refine .inr ⟨hjlt, oj', u, hoj, hyj', ih (done.setIfInBounds j true) _ (inv.set hj hjn) ?_ (ready_mono hr (Ne.symm hji)) hyi' ?_⟩
    ·intro k ok hk hki hku hkn
     refine hfree k ok hk hki ?_ hkn
     by_cases hjk : j = k
     ·subst hjk
      exact hjun
     ·rw [getD_set_ne true hjk] at hku
      exact hku
    ·rw [Array.setIfInBounds_comm _ _ hji, ← Act.put_comm a v u h2]
     exact hK
def setR (n m : Nat) (done : Array Bool) : Array Bool := (List.range' n (m - n)).foldl (fun d i => d.setIfInBounds i true) done
def lexM (md : Region.Mode) (ops : Array Oper) (g n m : Nat) : Nat → Nat → Array Bool → Bool
 | 0, _, done => decide (Region.ready md ops done = List.range' n (m - n)) && Region.seqB md ops g m (setR n m done)
 | f + 1, k, done => (Region.ready md ops done).contains k && Region.free md ops done k && lexM md ops g n m f (k + 1) (done.setIfInBounds k true)
def freeM (md : Region.Mode) (ops : Array Oper) (n m : Nat) : Bool :=
 (List.range m).all fun i => (List.range' n (m - n)).all fun j => decide (i = j) || (!Region.waitsFor md ops i j && (match ops[i]?, ops[j]? with | some o, some p => o.apart ops p | _, _ => false))
def lexAllocsB (md : Region.Mode) (ops : Array Oper) (n m : Nat) : Bool :=
 Region.noSelect ops && decide (m < ops.size) && decide (n ≤ m) && Region.sinkB md ops m && Region.chainB md ops m && freeM md ops n m && lexM md ops (ops.size - m) n m n 0 (Array.replicate ops.size false)
theorem HeadM.lex {g : Nat} {K : Act → Prop} (hsel : Region.noSelect ops = true) (hs : Region.sinkB md ops m = true) (hc : Region.chainB md ops m = true) (hn : m < ops.size) (hnm : n ≤ m) (l : List Oper) :
  ∀ (k : Nat) (done : Array Bool) (a : Act), (∀ j, j < l.length → l[j]? = ops[k + j]?) → k + l.length = n → HeadInv md ops m done →
  lexM md ops g n m l.length k done = true → wpK P ops W K l a → HeadM P md ops W n m (fun d a' => (Region.ready md ops d = List.range' n (m - n) ∧ Region.seqB md ops g m (setR n m d) = true) ∧ K a') l.length done a := by
 induction l with
 | nil =>
  intro k done a _ hk _ hB h
  simp only [List.length_nil, lexM, Bool.and_eq_true, decide_eq_true_eq] at hB
  exact ⟨hB, h⟩
 | cons o l ih =>
  intro k done a hl hk inv hB h
  have h0 : ops[k]? = some o := by simpa using (hl 0 (by simp)).symm
  simp only [List.length_cons, lexM, Bool.and_eq_true] at hB
  simp only [List.length_cons] at hk
  have hr : k ∈ Region.ready md ops done := by simpa using hB.1.1
  obtain ⟨v, hy, hK⟩ := wpK_yields h
  refine HeadM.first h0 (Region.noSelect_spec hsel) hs hc hn hnm (by omega) (fun d a' hL j hj => ?_) l.length done a inv (Region.free_spec h0 hB.1.2) hr hy ?_
  ·rw [hL.1.1, List.mem_range'_1] at hj
   omega
  ·refine ih (k + 1) _ _ (fun j hj => ?_) (by omega) (inv.set hr (by omega)) hB.2 hK
   have := hl (j + 1) (by simp; omega)
   simpa [Nat.add_assoc, Nat.add_comm 1 j] using this
def doneE (E : List (Nat × Nat)) (done : Array Bool) : Array Bool := E.foldl (fun d p => d.setIfInBounds p.1 true) done
def putE (ds : Nat → Option Tmp) (E : List (Nat × Nat)) (a : Act) : Act := E.foldl (fun a p => a.put (ds p.1) (.pointer (some ⟨p.2, 0, none⟩))) a
theorem doneE_snoc (E : List (Nat × Nat)) (i g : Nat) (done : Array Bool) : doneE (E ++ [(i, g)]) done = (doneE E done).setIfInBounds i true := by
 simp [doneE, List.foldl_append]
theorem putE_snoc (ds : Nat → Option Tmp) (E : List (Nat × Nat)) (i g : Nat) (a : Act) : putE ds (E ++ [(i, g)]) a = (putE ds E a).put (ds i) (.pointer (some ⟨g, 0, none⟩)) := by
 simp [putE, List.foldl_append]
theorem doneE_getD (E : List (Nat × Nat)) (k : Nat) (b : Bool) (h : ∀ p ∈ E, p.1 ≠ k) : ∀ done, (doneE E done).getD k b = done.getD k b := by
 induction E with
 | nil => intro done; rfl
 | cons p E ih =>
  intro done
  show (doneE E (done.setIfInBounds p.1 true)).getD k b = _
  rw [ih (fun q hq => h q (List.mem_cons_of_mem _ hq)), getD_set_ne b (h p List.mem_cons_self)]
theorem doneE_set (E : List (Nat × Nat)) (i : Nat) (h : ∀ p ∈ E, p.1 ≠ i) : ∀ done, (doneE E done).setIfInBounds i true = doneE E (done.setIfInBounds i true) := by
 induction E with
 | nil => intro done; rfl
 | cons p E ih =>
  intro done
  show (doneE E (done.setIfInBounds p.1 true)).setIfInBounds i true = doneE E ((done.setIfInBounds i true).setIfInBounds p.1 true)
  rw [ih (fun q hq => h q (List.mem_cons_of_mem _ hq)), Array.setIfInBounds_comm _ _ (h p List.mem_cons_self)]
theorem putE_put (ds : Nat → Option Tmp) (E : List (Nat × Nat)) (d : Option Tmp) (v : Value) (h : ∀ p ∈ E, ∀ t, d = some t → ds p.1 ≠ some t) : ∀ a, (putE ds E a).put d v = putE ds E (a.put d v) := by
 induction E with
 | nil => intro a; rfl
 | cons p E ih =>
  intro a
  show (putE ds E (a.put (ds p.1) (.pointer (some ⟨p.2, 0, none⟩)))).put d v = putE ds E ((a.put d v).put (ds p.1) (.pointer (some ⟨p.2, 0, none⟩)))
  rw [ih (fun q hq => h q (List.mem_cons_of_mem _ hq)), Act.put_comm a v (.pointer (some ⟨p.2, 0, none⟩)) (h p List.mem_cons_self)]
theorem ready_doneE (E : List (Nat × Nat)) (j : Nat) (h : ∀ p ∈ E, p.1 ≠ j) : ∀ done, j ∈ Region.ready md ops done → j ∈ Region.ready md ops (doneE E done) := by
 induction E with
 | nil => intro done hj; exact hj
 | cons p E ih =>
  intro done hj
  exact ih (fun q hq => h q (List.mem_cons_of_mem _ hq)) _ (ready_mono hj (Ne.symm (h p List.mem_cons_self)))
theorem doneE_true (E : List (Nat × Nat)) : ∀ (done : Array Bool), (∀ p ∈ E, p.1 < done.size) → ∀ p ∈ E, (doneE E done).getD p.1 true = true := by
 induction E with
 | nil => intro done _ p hp; cases hp
 | cons q E ih =>
  intro done hsz p hp
  show (doneE E (done.setIfInBounds q.1 true)).getD p.1 true = true
  by_cases hin : p ∈ E
  ·exact ih _ (fun r hr => by simpa using hsz r (List.mem_cons_of_mem _ hr)) p hin
  ·have hpq : p = q := by
    rcases List.mem_cons.1 hp with h | h
    ·exact h
    ·exact absurd h hin
   subst hpq
   by_cases hex : ∃ r ∈ E, r.1 = p.1
   ·obtain ⟨r, hr, he⟩ := hex
    have := ih (done.setIfInBounds p.1 true) (fun r hr => by simpa using hsz r (List.mem_cons_of_mem _ hr)) r hr
    rwa [he] at this
   ·rw [doneE_getD E p.1 true (fun r hr he => hex ⟨r, hr, he⟩)]
    have := hsz p List.mem_cons_self
    simp [this]
structure KE (W : World) (Zs : Nat → Obj) (E : List (Nat × Nat)) (w : World) : Prop where
 keep : Below W.heap.size W w
 lt : ∀ p ∈ E, p.2 < w.heap.size
 at_ : ∀ p ∈ E, w.heap[p.2]? = some (Zs p.1)
 ge : ∀ p ∈ E, W.heap.size ≤ p.2
 nodup : (E.map Prod.snd).Nodup
theorem KE.next {Zs : Nat → Obj} {E : List (Nat × Nat)} {w w' : World} (h : KE W Zs E w) (hb : Below w.heap.size w w') : KE W Zs E w' where
 keep := h.keep.trans (hb.mono h.keep.size)
 lt := fun p hp => Nat.lt_of_lt_of_le (h.lt p hp) hb.size
 at_ := fun p hp => by rw [hb.block _ (h.lt p hp)]; exact h.at_ p hp
 ge := h.ge
 nodup := h.nodup
theorem KE.more {Zs : Nat → Obj} {E : List (Nat × Nat)} {w : World} (h : KE W Zs E w) (i : Nat) : KE W Zs (E ++ [(i, w.heap.size)]) (w.alloc (Zs i)) := by
 have hb : Below w.heap.size w (w.alloc (Zs i)) := (Below.refl _ _).alloc (Nat.le_refl _) _
 have h' := h.next hb
 refine ⟨h'.keep, fun p hp => ?_, fun p hp => ?_, fun p hp => ?_, ?_⟩
 ·rcases List.mem_append.1 hp with hp | hp
  ·exact h'.lt p hp
  ·rw [List.mem_singleton.1 hp]
   simp
 ·rcases List.mem_append.1 hp with hp | hp
  ·exact h'.at_ p hp
  ·rw [List.mem_singleton.1 hp]
   exact heap_alloc_new w _
 ·rcases List.mem_append.1 hp with hp | hp
  ·exact h.ge p hp
  ·rw [List.mem_singleton.1 hp]
   exact h.keep.size
 ·rw [List.map_append, List.nodup_append]
  refine ⟨h.nodup, by simp, fun a ha b hb e => ?_⟩
  simp only [List.map_cons, List.map_nil, List.mem_singleton] at hb
  obtain ⟨p, hp, hpe⟩ := List.mem_map.1 ha
  have := h.lt p hp
  omega
theorem HeadM.any {g : Nat} {L : Array Bool → Act → Prop} {Q : Exit → Act → World → Prop} {ds : Nat → Option Tmp} {Zs : Nat → Obj}
  (hsel : Region.noSelect ops = true) (hs : Region.sinkB md ops m = true) (hc : Region.chainB md ops m = true) (hn : m < ops.size) (hnm : n ≤ m) (hfr : freeM md ops n m = true)
  (hA : ∀ j, n ≤ j → j < m → ∃ o, ops[j]? = some o ∧ o.dst = ds j ∧ o.guard = none ∧ ∀ a w, (execOp (Act.eval a) o).run P w = .ok (.value (.pointer (some ⟨w.heap.size, 0, none⟩))) (w.alloc (Zs j)))
  (hend : ∀ done a, L done a → Region.ready md ops done = List.range' n (m - n))
  (hL : ∀ done a, L done a → ∀ E w, (E.map Prod.fst).Nodup → (∀ p ∈ E, n ≤ p.1 ∧ p.1 < m) → E.length = m - n → KE W Zs E w → wpAny P md ops Q g (doneE E done) (putE ds E a) w) :
  ∀ (N f : Nat) (E : List (Nat × Nat)) (done : Array Bool) (a : Act) (w : World), N + E.length = f + (m - n) → (E.map Prod.fst).Nodup → (∀ p ∈ E, n ≤ p.1 ∧ p.1 < m) → E.length ≤ m - n → done.size = ops.size → HeadInv md ops m (doneE E done) →
   HeadM P md ops W n m L f done a → KE W Zs E w → wpAny P md ops Q (N + g) (doneE E done) (putE ds E a) w := by
 have hap : ∀ (i j : Nat), i < m → n ≤ j → j < m → i ≠ j → Region.waitsFor md ops i j = false ∧ ∀ o p, ops[i]? = some o → ops[j]? = some p → o.apart ops p = true := by
  intro i j hi hj1 hj2 hij
  have h1 := List.all_eq_true.1 hfr i (List.mem_range.2 hi)
  have h2 := List.all_eq_true.1 h1 j (List.mem_range'_1.2 ⟨hj1, by omega⟩)
  simp only [Bool.or_eq_true, decide_eq_true_eq, Bool.and_eq_true, Bool.not_eq_true'] at h2
  rcases h2 with h2 | h2
  ·exact absurd h2 hij
  ·refine ⟨h2.1, fun o p ho hp => ?_⟩
   have h3 := h2.2
   rw [ho, hp] at h3
   exact h3
 intro N
 induction N with
 | zero =>
  intro f E done a w hN hnd hin hlen hsz inv hH hK
  have hf : f = 0 := by omega
  subst hf
  rw [Nat.zero_add]
  exact hL done a hH E w hnd hin (by omega) hK
 | succ N ih =>
  intro f E done a w hN hnd hin hlen hsz inv hH hK
  rw [show N + 1 + g = (N + g) + 1 by omega]
  -- something below m comes up
  have hsome : ∃ i, i < m ∧ i ∈ Region.ready md ops (doneE E done) := by
   cases f with
   | succ f =>
    obtain ⟨⟨i, hi, hr⟩, _⟩ := hH
    exact ⟨i, by omega, ready_doneE E i (fun p hp he => by have := (hin p hp).1; omega) done hr⟩
   | zero =>
    have hr := hend done a hH
    have hex : ∃ j, n ≤ j ∧ j < m ∧ ∀ p ∈ E, p.1 ≠ j := by
     refine Classical.byContradiction fun hno => ?_
     have hall : ∀ j, n ≤ j → j < m → j ∈ E.map Prod.fst := by
      intro j h1 h2
      refine Classical.byContradiction fun hj => hno ⟨j, h1, h2, fun p hp he => hj (List.mem_map.2 ⟨p, hp, he⟩)⟩
     have hsub : List.range' n (m - n) ⊆ E.map Prod.fst := fun j hj => by
      rw [List.mem_range'_1] at hj
      exact hall j hj.1 (by omega)
     have hle := (List.nodup_range' (s := n) (n := m - n)).length_le_of_subset hsub
     simp at hle
     omega
    obtain ⟨j, h1, h2, h3⟩ := hex
    refine ⟨j, h2, ready_doneE E j h3 done ?_⟩
    rw [hr, List.mem_range'_1]
    omega
  obtain ⟨i0, hi0, hr0⟩ := hsome
  refine ⟨fun h0 => (by rw [h0] at hr0; cases hr0), fun i hi => ?_⟩
  have him : i < m := Nat.lt_of_not_le fun h => tail_waits hs hc hn inv _ i0 rfl hi0 (mem_ready.1 hr0).1 i h hi
  have hiE : ∀ p ∈ E, p.1 ≠ i := by
   intro p hp he
   have h1 := doneE_true E done (fun q hq => by have := (hin q hq).2; omega) p hp
   rw [he, (mem_ready.1 hi).1] at h1
   cases h1
  by_cases hni : n ≤ i
  ·-- a variable is made
   obtain ⟨o, ho, hd, hg, hrun⟩ := hA i hni him
   unfold wpOp
   have hw : Region.wanted o (yielded ops (putE ds E a).tmps) = true := by simp [Region.wanted, hg]
   simp only [ho, hw, if_true]
   refine .inl ?_
   unfold Oper.wp
   rw [hrun]
   simp only [Oper.upon]
   rw [hd, ← putE_snoc, ← doneE_snoc]
   refine ih f (E ++ [(i, w.heap.size)]) done a _ (by simp; omega) ?_ ?_ ?_ hsz ?_ hH (hK.more i)
   ·rw [List.map_append, List.nodup_append]
    refine ⟨hnd, by simp, fun x hx y hy e => ?_⟩
    simp only [List.map_cons, List.map_nil, List.mem_singleton] at hy
    obtain ⟨p, hp, hpe⟩ := List.mem_map.1 hx
    exact hiE p hp (by omega)
   ·intro p hp
    rcases List.mem_append.1 hp with hp | hp
    ·exact hin p hp
    ·rw [List.mem_singleton.1 hp]
     exact ⟨hni, him⟩
   ·cases f with
    | zero => simp; omega
    | succ f =>
     simp only [List.length_append, List.length_cons, List.length_nil]
     refine Nat.lt_of_not_le fun hle => ?_
     have hlen2 : E.length = m - n := by omega
     have hsub : E.map Prod.fst ⊆ List.range' n (m - n) := fun x hx => by
      obtain ⟨p, hp, hpe⟩ := List.mem_map.1 hx
      have := hin p hp
      rw [List.mem_range'_1]
      omega
     have hmem : i ∈ E.map Prod.fst := by
      refine Classical.byContradiction fun hni2 => ?_
      have hnd2 : (i :: E.map Prod.fst).Nodup := List.nodup_cons.2 ⟨hni2, hnd⟩
      have hsub2 : (i :: E.map Prod.fst) ⊆ List.range' n (m - n) := fun x hx => by
       rcases List.mem_cons.1 hx with rfl | hx
       ·rw [List.mem_range'_1]
        omega
       ·exact hsub hx
      have := hnd2.length_le_of_subset hsub2
      simp at this
      omega
     obtain ⟨p, hp, hpe⟩ := List.mem_map.1 hmem
     exact hiE p hp hpe
   ·rw [doneE_snoc]
    exact inv.set hi him
  ·-- an operation of the head
   obtain ⟨hiun, oi, hoi, hie⟩ := mem_ready.1 hi
   have hrd : i ∈ Region.ready md ops done := by
    rw [mem_ready]
    rw [doneE_getD E i true hiE] at hiun
    refine ⟨hiun, oi, hoi, fun e he hb => ?_⟩
    have h1 := hie e he hb
    rwa [doneE_getD E e.on false (fun p hp heq => waits_of hoi (hap i p.1 him (hin p hp).1 (hin p hp).2 (by have := (hin p hp).1; omega)).1 e he hb heq.symm)] at h1
   cases f with
   | zero =>
    rw [hend done a hH, List.mem_range'_1] at hrd
    omega
   | succ f =>
    rcases hH.2 i hrd with h0 | ⟨hlt, o, v, ho, hy, hKK⟩
    ·omega
    ·have eo : o = oi := Option.some.inj (ho.symm.trans hoi)
     subst eo
     have hso : ∀ cs b, o.op ≠ .select cs b := fun cs b => Region.noSelect_spec hsel i o cs b ho
     have hapE : ∀ p ∈ E, (∀ d, ds p.1 = some d → d ∉ o.looksAt ops) ∧ (∀ t, o.dst = some t → ds p.1 ≠ some t) := by
      intro p hp
      obtain ⟨q, hq, hqd, _⟩ := hA p.1 (hin p hp).1 (hin p hp).2
      have h4 := Oper.apart_spec ((hap i p.1 him (hin p hp).1 (hin p hp).2 (by have := (hin p hp).1; omega)).2 o q ho hq)
      rw [hqd] at h4
      exact ⟨h4.2.2, h4.2.1⟩
     have hyE : ∀ (E' : List (Nat × Nat)) (b : Act), (∀ p ∈ E', ∀ d, ds p.1 = some d → d ∉ o.looksAt ops) → YK P ops W o v b → YK P ops W o v (putE ds E' b) := by
      intro E'
      induction E' with
      | nil => intro b _ h; exact h
      | cons p E' ih2 =>
       intro b hb h
       exact ih2 _ (fun q hq => hb q (List.mem_cons_of_mem _ hq)) (h.same (execOp_put o hso b _ _ (hb p List.mem_cons_self)) (wanted_put o b _ _ (hb p List.mem_cons_self)))
     have hy' := hyE E a (fun p hp => (hapE p hp).1) hy
     -- the step itself
     have hstep : wpOp P ops Q i (wpAny P md ops Q (N + g) ((doneE E done).setIfInBounds i true)) (putE ds E a) w := by
      unfold Go.wpOp
      simp only [ho]
      have hnext : ∀ w', Below w.heap.size w w' → wpAny P md ops Q (N + g) ((doneE E done).setIfInBounds i true) ((putE ds E a).put o.dst v) w' := by
       intro w' hb
       rw [doneE_set E i hiE, putE_put ds E o.dst v (fun p hp => (hapE p hp).2)]
       refine ih f E (done.setIfInBounds i true) (a.put o.dst v) w' (by omega) hnd hin hlen (by simpa using hsz) ?_ hKK (hK.next hb)
       rw [← doneE_set E i hiE]
       exact inv.set hi him
      rcases hy' with ⟨hw, hv⟩ | ⟨hw, rfl⟩
      ·rw [if_pos hw]
       refine .inl ?_
       have hk := hv ⟨w, hK.keep⟩
       unfold keepAt at hk
       unfold Oper.wp
       simp only at hk
       generalize (execOp (putE ds E a).eval o).run P w = r at *
       cases r with
       | ok x w' =>
        cases x <;> simp only [keepUpon] at hk <;> simp only [Oper.upon]
        case value u =>
         obtain ⟨e1, e2⟩ := hk
         rw [e1, e2]
         exact hnext w (Below.refl _ _)
        case skip =>
         obtain ⟨e1, e2⟩ := hk
         rw [e1, ← e2]
         exact hnext w (Below.refl _ _)
        case enter f args =>
         obtain ⟨e1, hcl⟩ := hk
         rw [e1]
         exact hcl.mono fun e w'' ⟨he, hb⟩ => by subst he; exact hnext w'' hb
       | halt x w' => simp only [keepUpon] at hk
      ·rw [if_neg (by rw [hw]; exact Bool.false_ne_true)]
       exact hnext w (Below.refl _ _)
     exact hstep
end
end Go.Proofs.YtmhfmhmpoobmlaaGreatDoor
