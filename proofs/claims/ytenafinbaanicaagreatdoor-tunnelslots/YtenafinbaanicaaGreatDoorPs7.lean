/- Part 7 of the walks and facts. -/
import Derived.Test.YtenafinbaanicaaGreatDoorPs6
import Derived.Carry
import Derived.Deep.SlicePairs
import Derived.Lay
import Derived.OpenShut
import Derived.ProofKit
import Derived.ShutString
import Derived.SizedLaws
import Derived.Test.YtenafinbaanicaaGreatDoorTie
set_option maxHeartbeats 16000000
set_option maxRecDepth 100000
set_option linter.unusedSimpArgs false
set_option linter.unusedVariables false
namespace Go.Proofs.YtenafinbaanicaaGreatDoor
open Go.RowKit
theorem c_NewSlots  (w : World) (hL : Laid w) : Calls Tryz.prog 16 #[] w fun r w' => ∃ g, r = .returned (.pointer (some ⟨g, 0, none⟩)) ∧ w.heap.size ≤ g ∧ w'.heap[g]? = some (.cells (av 2 (ls [.bool true, .slice none 0 0])) 102) ∧ Below w.heap.size w w' := by
 go_enter Tryz.func16, Tryz.ntmps16
 have M := Mem.start hL
 refine sq <| sR <| rV 1 ?_
 refine pN M 2 (.cells (av 2 (ls [.bool true, .slice none 0 0])) 102) fun g1 u1 M => ?_
 replace M : Mem ⟨w, []⟩ [⟨g1, .cells (av 2 (ls [.bool true, .slice none 0 0])) 102⟩] u1 := M
 refine rV 1 <| nT <| wp_ret ?_
 exact bodyPost_ret (v := .pointer (some ⟨g1, 0, none⟩)) (results_tmp1 Tryz.results16 _ _ _ (by kernel_rfl)) (by kernel_rfl) ⟨_, rfl, ((M.ge _ (List.mem_singleton.2 rfl)).resolve_right (by simp)), M.get 0 rfl, below_grown M.old⟩
theorem isJ_start (z gs gr : Nat) : IsJ z 0 [⟨z, .cells (av 4 (ls [.pointer (some ⟨gs, 0, none⟩), .pointer (some ⟨gr, 0, none⟩), .slice none 0 0, .slice none 0 0])) 65⟩, ⟨gs, .cells (av 2 (ls [.bool true, .slice none 0 0])) 102⟩, ⟨gr, .cells (av 1 (ls [.slice none 0 0])) 61⟩] :=
 ⟨gs, gr, [], [], 0, fun _ => 0, fun _ => 0, fun _ => 0, fun _ => ⟨0, 0, 0, 0, 0, 0, 0, ⟨#[]⟩, ⟨#[]⟩, false, false, []⟩, fun _ => false, [_], [_], .slice none 0 0, [], .slice none 0 0, [], rfl, ⟨_, [], [], rfl, slw_nil 2, row_nil _⟩, ⟨_, [], [], rfl, slw_nil 2, row_nil _⟩, slw_nil 1, slw_nil 1, ⟨rfl, Nat.zero_le _, fun j h => absurd h (Nat.not_lt_zero j), fun j h => absurd h (Nat.not_lt_zero j), fun j h => absurd h (Nat.not_lt_zero j), fun i _ h => absurd h (Nat.not_lt_zero i), fun j h => absurd h (Nat.not_lt_zero j), Nat.le_refl _⟩⟩
theorem c_slots {rc ct rk lf : Nat} {zz : Int} (l4 : Option Addr) (b4 o4 n4 k4 : Nat) (Dd : NI) (Id Nw : Nat → Nat) (Fi : Nat → Bool) (hl4 : 0 < n4 → l4 = some ⟨b4, o4, none⟩) (hm4 : n4 ≤ 9223372036854775807) (hN : ∀ j, j < n4 → Nw j < 18446744073709551616) (w : World) (hL : Laid w) (h0 : ∀ j, j < n4 → w.cell? ⟨b4, o4 + j * 4 + 0, none⟩ = some (.int .i64 (Dd j))) (h1 : ∀ j, j < n4 → w.cell? ⟨b4, o4 + j * 4 + 1, none⟩ = some (.int .u32 ((Id j : Nat) : Int))) (h2 : ∀ j, j < n4 → w.cell? ⟨b4, o4 + j * 4 + 2, none⟩ = some (.bool (Fi j))) (h3 : ∀ j, j < n4 → w.cell? ⟨b4, o4 + j * 4 + 3, none⟩ = some (.int .u64 ((Nw j : Nat) : Int))) : Cs 4 #[.agg (av 5 (ls [.int .u64 (rc : Int), .int .u64 (ct : Int), .int .u64 (rk : Int), .int .u64 (lf : Int), .int .i64 zz])), .slice l4 n4 k4] w (.bool true) := by
 go_enter Tryz.func4, Tryz.ntmps4
 have M := Mem.start hL
 refine sR ?_
 refine pN M 2 (.cells (av 5 (ls [.int .u64 (rc : Int), .int .u64 (ct : Int), .int .u64 (rk : Int), .int .u64 (lf : Int), .int .i64 zz])) 26) fun g1 u1 M => ?_
 replace M : Mem ⟨w, []⟩ [⟨g1, .cells (av 5 (ls [.int .u64 (rc : Int), .int .u64 (ct : Int), .int .u64 (rk : Int), .int .u64 (lf : Int), .int .i64 zz])) 26⟩] u1 := M
 refine rV 1 <| nT <| wp_seq <| sR <| rV 2 ?_
 by_cases c0 : 100 < (n4 : Int)
 ·refine pH 12 (.bool true) (jT (100 < (n4 : Int)) (c0)) ?_
  refine nT <| cT <| sR ?_
  refine ZC M 13 (fun w M => c_alive w M.laid) fun u2 M => ?_
  refine rV 1 <| nT <| wp_ret <| au_then_ret ?_
  exact b1 M
 ·refine pH 12 (.bool false) (jF (100 < (n4 : Int)) (c0)) ?_
  refine nT <| cF <| wp_skip <| au_then <| sR ?_
  refine pl_calln M (want_no rfl) (some 14) rfl 16 #[] (fun g2 => .pointer (some ⟨g2, 0, none⟩)) (.cells (av 2 (ls [.bool true, .slice none 0 0])) 102) (fun _ => by kernel_rfl) (fun w M => c_NewSlots w M.laid) fun g2 u2 M => ?_
  replace M : Mem ⟨w, []⟩ [⟨g1, .cells (av 5 (ls [.int .u64 (rc : Int), .int .u64 (ct : Int), .int .u64 (rk : Int), .int .u64 (lf : Int), .int .i64 zz])) 26⟩, ⟨g2, .cells (av 2 (ls [.bool true, .slice none 0 0])) 102⟩] u2 := M
  refine rV 1 ?_
  refine pN M 16 (.cells (av 1 (ls [.slice none 0 0])) 61) fun g3 u3 M => ?_
  replace M : Mem ⟨w, []⟩ [⟨g1, .cells (av 5 (ls [.int .u64 (rc : Int), .int .u64 (ct : Int), .int .u64 (rk : Int), .int .u64 (lf : Int), .int .i64 zz])) 26⟩, ⟨g2, .cells (av 2 (ls [.bool true, .slice none 0 0])) 102⟩, ⟨g3, .cells (av 1 (ls [.slice none 0 0])) 61⟩] u3 := M
  refine rV 1 ?_
  refine pN M 18 (.cells (av 4 (ls [.pointer (some ⟨g2, 0, none⟩), .pointer (some ⟨g3, 0, none⟩), .slice none 0 0, .slice none 0 0])) 65) fun g4 u4 M => ?_
  replace M : Mem ⟨w, []⟩ [⟨g1, .cells (av 5 (ls [.int .u64 (rc : Int), .int .u64 (ct : Int), .int .u64 (rk : Int), .int .u64 (lf : Int), .int .i64 zz])) 26⟩, ⟨g2, .cells (av 2 (ls [.bool true, .slice none 0 0])) 102⟩, ⟨g3, .cells (av 1 (ls [.slice none 0 0])) 61⟩, ⟨g4, .cells (av 4 (ls [.pointer (some ⟨g2, 0, none⟩), .pointer (some ⟨g3, 0, none⟩), .slice none 0 0, .slice none 0 0])) 65⟩] u4 := M
  refine rV 1 <| nT <| wp_seq <| sq ?_
  refine wp_block ?_
  have M0 : Mem ⟨w, []⟩ [⟨g1, .cells (av 5 (ls [.int .u64 (rc : Int), .int .u64 (ct : Int), .int .u64 (rk : Int), .int .u64 (lf : Int), .int .i64 zz])) 26⟩, ⟨g4, .cells (av 4 (ls [.pointer (some ⟨g2, 0, none⟩), .pointer (some ⟨g3, 0, none⟩), .slice none 0 0, .slice none 0 0])) 65⟩, ⟨g2, .cells (av 2 (ls [.bool true, .slice none 0 0])) 102⟩, ⟨g3, .cells (av 1 (ls [.slice none 0 0])) 61⟩] u4 := M.perm (((List.Perm.cons _ (List.Perm.cons _ (List.Perm.swap _ _ _)))).trans (List.Perm.cons _ (List.Perm.swap _ _ _)))
  refine au_loop (fun j a w' => ∃ (v1 : NV) (Z : List Blk), a = (fm ([.agg (av 5 (ls [.int .u64 (rc : Int), .int .u64 (ct : Int), .int .u64 (rk : Int), .int .u64 (lf : Int), .int .i64 zz])), .slice l4 n4 k4, .pointer (some ⟨g1, 0, none⟩), undef, v1 4, .pointer (some ⟨g4, 0, none⟩), .int .i64 (j : Int)] ++ vr v1 7 3 ++ [.slice l4 n4 k4, .int .i64 (n4 : Int), .bool false, undef, .pointer (some ⟨g2, 0, none⟩), .agg (av 1 (ls [.slice none 0 0])), .pointer (some ⟨g3, 0, none⟩), .agg (av 4 (ls [.pointer (some ⟨g2, 0, none⟩), .pointer (some ⟨g3, 0, none⟩), .slice none 0 0, .slice none 0 0])), .pointer (some ⟨g4, 0, none⟩)] ++ vr v1 19 84 ++ [undef])) ∧ Mem ⟨w, []⟩ (⟨g1, .cells (av 5 (ls [.int .u64 (rc : Int), .int .u64 (ct : Int), .int .u64 (rk : Int), .int .u64 (lf : Int), .int .i64 zz])) 26⟩ :: Z) w' ∧ (IsJ g4 j Z)) n4 ⟨fun k_ => ([.bool false, undef, undef, undef, undef, undef, undef, undef, undef, undef, undef, undef, undef, undef, undef, undef, undef, undef, undef, undef, undef, undef, undef, undef, undef, undef, undef, undef, undef, undef, undef, undef, undef, undef, undef, undef, undef, undef, undef, undef, undef, undef, undef, undef, undef, undef, undef, undef, undef, undef, undef, undef, undef, undef, undef, undef, undef, undef, undef, undef, undef, undef, undef, undef, undef, undef, undef, undef, undef, undef, undef, undef, undef, undef, undef, undef, undef, undef, undef, undef, undef, undef, undef, undef, undef, undef, undef, undef, undef, undef, undef, undef, undef, undef, undef, undef, undef, undef, undef] : List Value).getD (k_ - 4) undef, [⟨g4, .cells (av 4 (ls [.pointer (some ⟨g2, 0, none⟩), .pointer (some ⟨g3, 0, none⟩), .slice none 0 0, .slice none 0 0])) 65⟩, ⟨g2, .cells (av 2 (ls [.bool true, .slice none 0 0])) 102⟩, ⟨g3, .cells (av 1 (ls [.slice none 0 0])) 61⟩], by kernel_rfl, M0, isJ_start _ _ _⟩ ?_ ?_
  ·intro j a u0 hj hI
   obtain ⟨v1, Z, rfl, M, hZ⟩ := hI
   have hNj := hN j hj
   refine wp_seq <| sR <| rV 3 ?_
   refine ZT 22 ((j : Int) < (n4 : Int)) ?_
   refine nT <| cT <| wp_skip <| au_then <| wp_seq ?_
   refine wp_block ?_
   refine wp_seq <| wp_seq ?_
   refine rg_held M [⟨g1, .cells (av 5 (ls [.int .u64 (rc : Int), .int .u64 (ct : Int), .int .u64 (rk : Int), .int .u64 (lf : Int), .int .i64 zz])) 26⟩] 7 rfl (by kernel_rfl) (by kernel_rfl) (fun _ _ d _ _ h => by cases d <;> exact h) fun u5 M => ?_
   replace M : Mem ⟨w, []⟩ (⟨g1, .cells (av 5 (ls [.int .u64 (rc : Int), .int .u64 (ct : Int), .int .u64 (rk : Int), .int .u64 (lf : Int), .int .i64 zz])) 26⟩ :: Z) u5 := M
   refine qV (M.drop (.cons_cons _ (List.nil_sublist _))) 0 25 (.pointer (some ⟨g4, 0, none⟩)) ?_
   refine hl_load (M.drop (.cons_cons _ (List.nil_sublist _))) 1 rfl (by decide) (by kernel_rfl) (by kernel_rfl) (want_no rfl) (some 26) rfl 26 _ rfl 0 g1 0 (by kernel_rfl) 5 26 (ls [.int .u64 (rc : Int), .int .u64 (ct : Int), .int .u64 (rk : Int), .int .u64 (lf : Int), .int .i64 zz]) rfl 5 (ls [.int .u64 (rc : Int), .int .u64 (ct : Int), .int .u64 (rk : Int), .int .u64 (lf : Int), .int .i64 zz]) (fun j _ => by rw [Nat.zero_add]) (by decide) _ Tryz.underlying26 rfl inz26 ?_
   refine qV (M.drop (.cons_cons _ (List.nil_sublist _))) 2 27 (.slice l4 n4 k4) ?_
   refine qV (M.drop (.cons_cons _ (List.nil_sublist _))) 3 28 (.int .i64 (j : Int)) ?_
   refine hl_val (M.drop (.cons_cons _ (List.nil_sublist _))) 4 rfl (by decide) (by kernel_rfl) (by kernel_rfl) (want_no rfl) (some 29) rfl (.pointer (some ⟨b4, (o4 + j * 4), none⟩)) (fun w _ => (run_ixK 54 69 4 Tryz.underlying54 inz69 _ _ rfl l4 b4 o4 n4 k4 (by kernel_rfl) (hl4 (by omega)) .i64 j (by kernel_rfl) (by omega)) w) ?_
   refine hl_one 5 (by decide) (by kernel_rfl) rfl ?_
   refine pl_loadO M (want_no rfl) (some 30) rfl 69 _ rfl b4 (o4 + j * 4) (by kernel_rfl) 4 (ls [.int .i64 (Dd j), .int .u32 ((Id j : Nat) : Int), .bool (Fi j), .int .u64 ((Nw j : Nat) : Int)]) (fun w M k hk => ?_) _ Tryz.underlying69 rfl inz69 ?_
   ·match k, hk with
    | 0, _ => exact M.oldc (h0 j (by omega)) (by simp)
    | 1, _ => exact M.oldc (h1 j (by omega)) (by simp)
    | 2, _ => exact M.oldc (h2 j (by omega)) (by simp)
    | 3, _ => exact M.oldc (h3 j (by omega)) (by simp)
   refine nT ?_
   refine ⟨(M.drop (.cons_cons _ (List.nil_sublist _))), ?_⟩
   refine hl_one 6 (by decide) (by kernel_rfl) rfl ?_
   refine pl_callM M (want_no rfl) (some 31) rfl 17 #[.pointer (some ⟨g4, 0, none⟩), .agg (av 5 (ls [.int .u64 (rc : Int), .int .u64 (ct : Int), .int .u64 (rk : Int), .int .u64 (lf : Int), .int .i64 zz])), .agg (av 4 (ls [.int .i64 (Dd j), .int .u32 ((Id j : Nat) : Int), .bool (Fi j), .int .u64 ((Nw j : Nat) : Int)]))] [⟨g1, .cells (av 5 (ls [.int .u64 (rc : Int), .int .u64 (ct : Int), .int .u64 (rk : Int), .int .u64 (lf : Int), .int .i64 zz])) 26⟩] (Z) [] (by simp only [List.append_assoc, List.cons_append, List.nil_append, List.append_nil]) (fun Z0 => .bool true) (fun Z0 => Z0) (fun Z0 => IsJ g4 (j + 1) Z0) (fun _ => by kernel_rfl) (fun w hL hT => a_does hZ (by omega) hNj w hL hT) ?_
   rintro Z2 u6 hZ2 M
   replace M : Mem ⟨w, []⟩ (⟨g1, .cells (av 5 (ls [.int .u64 (rc : Int), .int .u64 (ct : Int), .int .u64 (rk : Int), .int .u64 (lf : Int), .int .i64 zz])) 26⟩ :: Z2) u6 := by simpa only [List.append_assoc, List.cons_append, List.nil_append, List.append_nil] using M
   refine nT ?_
   refine ⟨(M.drop (.cons_cons _ (List.nil_sublist _))), ?_⟩
   refine hl_end (by kernel_rfl) (by kernel_rfl) rfl ?_
   refine rV 1 <| nT ?_
   have hZ3 := hZ2
   obtain ⟨gs, gr, SP, SQ, N, K, tp, dp, Y, gn, G, H, tv, Tt, xv, Tx, rfl, hG, hH, htv, hxv, hj⟩ := hZ2.out
   obtain ⟨lQ, bQ, kQ, hlQ, hcQ⟩ := h_look hH
   have hl3 := hj.l3
   have hlen := hj.len
   have hnN := hj.nN
   obtain ⟨lt, bt_, kt, rfl, hlt, hct⟩ := slw1_at htv
   obtain ⟨lx_, bx_, kx, rfl, hlx, hcx⟩ := slw1_at hxv
   replace M : Mem ⟨w, []⟩ (⟨g1, .cells (av 5 (ls [.int .u64 (rc : Int), .int .u64 (ct : Int), .int .u64 (rk : Int), .int .u64 (lf : Int), .int .i64 zz])) 26⟩ :: ⟨g4, .cells (av 4 (ls [.pointer (some ⟨gs, 0, none⟩), .pointer (some ⟨gr, 0, none⟩), .slice lt N kt, .slice lx_ N kx])) 65⟩ :: (G ++ (H ++ (Tt ++ Tx)))) u6 := by simpa only [List.append_assoc, List.cons_append, List.nil_append, List.append_nil] using M
   refine au_then <| cF <| wp_skip <| au_then <| sq ?_
   refine wp_seq <| sq ?_
   refine wp_block ?_
   refine au_loop (fun k a w' => ∃ (v2 : NV) (sa : Value) (Ta : List Blk), a = (fm ([.agg (av 5 (ls [.int .u64 (rc : Int), .int .u64 (ct : Int), .int .u64 (rk : Int), .int .u64 (lf : Int), .int .i64 zz])), .slice l4 n4 k4, .pointer (some ⟨g1, 0, none⟩), undef, v1 4, .pointer (some ⟨g4, 0, none⟩), .int .i64 (j : Int), sa, .int .i64 (k : Int), v1 9, .slice l4 n4 k4, .int .i64 (n4 : Int), .bool false, undef, .pointer (some ⟨g2, 0, none⟩), .agg (av 1 (ls [.slice none 0 0])), .pointer (some ⟨g3, 0, none⟩), .agg (av 4 (ls [.pointer (some ⟨g2, 0, none⟩), .pointer (some ⟨g3, 0, none⟩), .slice none 0 0, .slice none 0 0])), .pointer (some ⟨g4, 0, none⟩), .int .i64 (j : Int), .slice l4 n4 k4, .int .i64 (n4 : Int), .bool true, v1 23, v1 24, .pointer (some ⟨g4, 0, none⟩), .agg (av 5 (ls [.int .u64 (rc : Int), .int .u64 (ct : Int), .int .u64 (rk : Int), .int .u64 (lf : Int), .int .i64 zz])), .slice l4 n4 k4, .int .i64 (j : Int), .pointer (some ⟨b4, (o4 + j * 4), none⟩), .agg (av 4 (ls [.int .i64 (Dd j), .int .u32 ((Id j : Nat) : Int), .bool (Fi j), .int .u64 ((Nw j : Nat) : Int)])), .bool true, .bool false] ++ vr v2 33 26 ++ vr v1 59 44 ++ [undef])) ∧ Mem ⟨w, []⟩ (⟨g1, .cells (av 5 (ls [.int .u64 (rc : Int), .int .u64 (ct : Int), .int .u64 (rk : Int), .int .u64 (lf : Int), .int .i64 zz])) 26⟩ :: ⟨g4, .cells (av 4 (ls [.pointer (some ⟨gs, 0, none⟩), .pointer (some ⟨gr, 0, none⟩), .slice lt N kt, .slice lx_ N kx])) 65⟩ :: (G ++ (H ++ (Tt ++ (Tx ++ Ta))))) w' ∧ (SlW 1 (vI (sI SQ) k) k sa Ta)) SQ.length ⟨fun k_ => ([v1 33, v1 34, v1 35, v1 36, v1 37, v1 38, v1 39, v1 40, v1 41, v1 42, v1 43, v1 44, v1 45, v1 46, v1 47, v1 48, v1 49, v1 50, v1 51, v1 52, v1 53, v1 54, v1 55, v1 56, v1 57, v1 58] : List Value).getD (k_ - 33) undef, .slice none 0 0, [], by kernel_rfl, by simpa only [List.append_assoc, List.cons_append, List.nil_append, List.append_nil] using M, slw_nil 1⟩ ?_ ?_
   ·intro k a u0 hk hI
    obtain ⟨v2, sa, Ta, rfl, M, hA⟩ := hI
    refine wp_seq <| sR <| rV 4 <| ZE M 37 1 1 <| rV 2 ?_
    refine pE M 40 gr 0 (.slice lQ SQ.length kQ) (fun w M => (hcQ _ (M.thereM (pre := (⟨g1, .cells (av 5 (ls [.int .u64 (rc : Int), .int .u64 (ct : Int), .int .u64 (rk : Int), .int .u64 (lf : Int), .int .i64 zz])) 26⟩ :: ⟨g4, .cells (av 4 (ls [.pointer (some ⟨gs, 0, none⟩), .pointer (some ⟨gr, 0, none⟩), .slice lt N kt, .slice lx_ N kx])) 65⟩ :: G)) (T := H) (suf := (Tt ++ (Tx ++ Ta))) (by simp only [List.append_assoc, List.cons_append, List.nil_append, List.append_nil]))).1) ?_
    refine rV 1 ?_
    refine ZT 42 ((k : Int) < ((SQ.length : Nat) : Int)) ?_
    refine nT <| cT <| wp_skip <| au_then <| wp_seq ?_
    refine wp_block ?_
    refine rg_lit ?_
    refine rV 4 <| ZE M 49 1 1 <| rV 2 ?_
    refine pE M 52 gr 0 (.slice lQ SQ.length kQ) (fun w M => (hcQ _ (M.thereM (pre := (⟨g1, .cells (av 5 (ls [.int .u64 (rc : Int), .int .u64 (ct : Int), .int .u64 (rk : Int), .int .u64 (lf : Int), .int .i64 zz])) 26⟩ :: ⟨g4, .cells (av 4 (ls [.pointer (some ⟨gs, 0, none⟩), .pointer (some ⟨gr, 0, none⟩), .slice lt N kt, .slice lx_ N kx])) 65⟩ :: G)) (T := H) (suf := (Tt ++ (Tx ++ Ta))) (by simp only [List.append_assoc, List.cons_append, List.nil_append, List.append_nil]))).1) ?_
    refine rV 1 ?_
    refine pH 54 (.pointer (some ⟨bQ, (0 + k * 2), none⟩)) (run_ixK 59 72 2 Tryz.underlying59 inz72 _ _ rfl lQ bQ 0 SQ.length kQ (by kernel_rfl) (hlQ (by omega)) .i64 k (by kernel_rfl) (by omega)) ?_
    refine rV 1 ?_
    refine pE M 56 bQ ((0 + k * 2) + 0) (.int .u32 ((sI SQ k : Nat) : Int)) (fun w M => ((hcQ _ (M.thereM (pre := (⟨g1, .cells (av 5 (ls [.int .u64 (rc : Int), .int .u64 (ct : Int), .int .u64 (rk : Int), .int .u64 (lf : Int), .int .i64 zz])) 26⟩ :: ⟨g4, .cells (av 4 (ls [.pointer (some ⟨gs, 0, none⟩), .pointer (some ⟨gr, 0, none⟩), .slice lt N kt, .slice lx_ N kx])) 65⟩ :: G)) (T := H) (suf := (Tt ++ (Tx ++ Ta))) (by simp only [List.append_assoc, List.cons_append, List.nil_append, List.append_nil]))).2.1 k (by omega))) ?_
    refine ZM M 57 (fun g5 => .slice (some ⟨g5, 0, none⟩) 1 1) (.cells (av 1 (ls [.int .u32 ((sI SQ k : Nat) : Int)])) 67) fun g5 u7 M => ?_
    replace M := M.front
    replace M : Mem ⟨w, []⟩ (⟨g5, .cells (av 1 (ls [.int .u32 ((sI SQ k : Nat) : Int)])) 67⟩ :: ⟨g1, .cells (av 5 (ls [.int .u64 (rc : Int), .int .u64 (ct : Int), .int .u64 (rk : Int), .int .u64 (lf : Int), .int .i64 zz])) 26⟩ :: ⟨g4, .cells (av 4 (ls [.pointer (some ⟨gs, 0, none⟩), .pointer (some ⟨gr, 0, none⟩), .slice lt N kt, .slice lx_ N kx])) 65⟩ :: (G ++ (H ++ (Tt ++ (Tx ++ Ta))))) u7 := M
    refine pl_appW M (want_no rfl) (some 58) rfl 70 70 67 1 (.int .u32 0) Tryz.underlying70 info32 rfl (⟨g5, .cells (av 1 (ls [.int .u32 ((sI SQ k : Nat) : Int)])) 67⟩ :: ⟨g1, .cells (av 5 (ls [.int .u64 (rc : Int), .int .u64 (ct : Int), .int .u64 (rk : Int), .int .u64 (lf : Int), .int .i64 zz])) 26⟩ :: ⟨g4, .cells (av 4 (ls [.pointer (some ⟨gs, 0, none⟩), .pointer (some ⟨gr, 0, none⟩), .slice lt N kt, .slice lx_ N kx])) 65⟩ :: (G ++ (H ++ (Tt ++ Tx)))) Ta [] (by simp only [List.append_assoc, List.cons_append, List.nil_append, List.append_nil]) sa k (vI (sI SQ) k) hA (by omega) 0 g5 67 (ls [.int .u32 ((sI SQ k : Nat) : Int)]) rfl (one_ls _ rfl) (fun _ => by kernel_rfl) ?_
    intro sa2 Ta2 u8 hA2 M
    replace M : Mem ⟨w, []⟩ (⟨g5, .cells (av 1 (ls [.int .u32 ((sI SQ k : Nat) : Int)])) 67⟩ :: ⟨g1, .cells (av 5 (ls [.int .u64 (rc : Int), .int .u64 (ct : Int), .int .u64 (rk : Int), .int .u64 (lf : Int), .int .i64 zz])) 26⟩ :: ⟨g4, .cells (av 4 (ls [.pointer (some ⟨gs, 0, none⟩), .pointer (some ⟨gr, 0, none⟩), .slice lt N kt, .slice lx_ N kx])) 65⟩ :: (G ++ (H ++ (Tt ++ (Tx ++ Ta2))))) u8 := by simpa only [List.append_assoc, List.cons_append, List.nil_append, List.append_nil] using M
    refine rV 1 ?_
    refine pl_nil ?_
    refine au_block ?_
    refine au_then ?_
    refine rg_lit ?_
    refine rV 1 ?_
    refine pH 44 (.int .i64 ((k + 1 : Nat) : Int)) (fun w => Eq.trans (b := .ok (.value (.int .i64 (IntKind.wrap .i64 ((k : Int) + 1)))) w) (by kernel_rfl) (by rw [wrap64 (by omega) (by omega)]; rfl)) ?_
    refine rV 1 <| nT ?_
    exact ⟨fun k_ => ([.int .i64 (k : Int), .pointer (some ⟨g4, 0, none⟩), .pointer (some ⟨g4, 0, none⟩), .pointer (some ⟨g4, 1, none⟩), .pointer (some ⟨gr, 0, none⟩), .pointer (some ⟨gr, 0, none⟩), .pointer (some ⟨gr, 0, none⟩), .slice lQ SQ.length kQ, .int .i64 ((SQ.length : Nat) : Int), .bool true, .int .i64 (k : Int), .int .i64 ((k + 1 : Nat) : Int), sa, .pointer (some ⟨g4, 0, none⟩), .pointer (some ⟨g4, 0, none⟩), .pointer (some ⟨g4, 1, none⟩), .pointer (some ⟨gr, 0, none⟩), .pointer (some ⟨gr, 0, none⟩), .pointer (some ⟨gr, 0, none⟩), .slice lQ SQ.length kQ, .int .i64 (k : Int), .pointer (some ⟨bQ, (0 + k * 2), none⟩), .pointer (some ⟨bQ, ((0 + k * 2) + 0), none⟩), .int .u32 ((sI SQ k : Nat) : Int), .slice (some ⟨g5, 0, none⟩) 1 1, sa2] : List Value).getD (k_ - 33) undef, sa2, Ta2, by kernel_rfl, (M.drop (.cons _ (.cons_cons _ (.cons_cons _ (List.Sublist.refl _))))), hA2⟩
   ·intro a u0 hI
    obtain ⟨v2, sa, Ta, rfl, M, hA⟩ := hI
    refine wp_seq <| sR <| rV 4 <| ZE M 37 1 1 <| rV 2 ?_
    refine pE M 40 gr 0 (.slice lQ SQ.length kQ) (fun w M => (hcQ _ (M.thereM (pre := (⟨g1, .cells (av 5 (ls [.int .u64 (rc : Int), .int .u64 (ct : Int), .int .u64 (rk : Int), .int .u64 (lf : Int), .int .i64 zz])) 26⟩ :: ⟨g4, .cells (av 4 (ls [.pointer (some ⟨gs, 0, none⟩), .pointer (some ⟨gr, 0, none⟩), .slice lt N kt, .slice lx_ N kx])) 65⟩ :: G)) (T := H) (suf := (Tt ++ (Tx ++ Ta))) (by simp only [List.append_assoc, List.cons_append, List.nil_append, List.append_nil]))).1) ?_
    refine rV 1 ?_
    refine ZF 42 (((SQ.length : Nat) : Int) < ((SQ.length : Nat) : Int)) ?_
    refine nT <| cF ?_
    refine wp_exit ?_
    refine au_then_exit ?_
    refine au_then_exit ?_
    refine au_block_exit ?_
    refine au_then <| wp_seq <| sR <| rV 3 <| ZE M 62 1 0 ?_
    refine pl_callM M (want_no rfl) (some 63) rfl 19 #[.pointer (some ⟨gs, 0, none⟩)] [⟨g1, .cells (av 5 (ls [.int .u64 (rc : Int), .int .u64 (ct : Int), .int .u64 (rk : Int), .int .u64 (lf : Int), .int .i64 zz])) 26⟩, ⟨g4, .cells (av 4 (ls [.pointer (some ⟨gs, 0, none⟩), .pointer (some ⟨gr, 0, none⟩), .slice lt N kt, .slice lx_ N kx])) 65⟩] (G) ((H ++ (Tt ++ (Tx ++ Ta)))) (by simp only [List.append_assoc, List.cons_append, List.nil_append, List.append_nil]) (fun x : Value × List Blk => x.1) (fun x : Value × List Blk => (G ++ x.2)) (fun x : Value × List Blk => SlW 1 (vI (sI SP) SP.length) SP.length x.1 x.2) (fun _ => by kernel_rfl) (fun w hL hT => g_IDs hG (by omega) w hL hT) ?_
    rintro ⟨so, To⟩ u7 hO M
    replace M : Mem ⟨w, []⟩ (⟨g1, .cells (av 5 (ls [.int .u64 (rc : Int), .int .u64 (ct : Int), .int .u64 (rk : Int), .int .u64 (lf : Int), .int .i64 zz])) 26⟩ :: ⟨g4, .cells (av 4 (ls [.pointer (some ⟨gs, 0, none⟩), .pointer (some ⟨gr, 0, none⟩), .slice lt N kt, .slice lx_ N kx])) 65⟩ :: (G ++ (To ++ (H ++ (Tt ++ (Tx ++ Ta)))))) u7 := by simpa only [List.append_assoc, List.cons_append, List.nil_append, List.append_nil] using M
    have hA3 : SlW 1 (vI (sI SP) SP.length) SP.length sa Ta := by rw [← vI_ext hj.ids, ← hj.len]; exact hA
    refine rV 1 ?_
    refine pC M 65 18 #[so, sa] (.bool true) (fun w M => a_ids hO hA3 (vI_u _) (by omega) w M.laid (M.thereM (pre := (⟨g1, .cells (av 5 (ls [.int .u64 (rc : Int), .int .u64 (ct : Int), .int .u64 (rk : Int), .int .u64 (lf : Int), .int .i64 zz])) 26⟩ :: ⟨g4, .cells (av 4 (ls [.pointer (some ⟨gs, 0, none⟩), .pointer (some ⟨gr, 0, none⟩), .slice lt N kt, .slice lx_ N kx])) 65⟩ :: G)) (T := To) (suf := (H ++ (Tt ++ (Tx ++ Ta)))) (by simp only [List.append_assoc, List.cons_append, List.nil_append, List.append_nil])) (M.thereM (pre := (⟨g1, .cells (av 5 (ls [.int .u64 (rc : Int), .int .u64 (ct : Int), .int .u64 (rk : Int), .int .u64 (lf : Int), .int .i64 zz])) 26⟩ :: ⟨g4, .cells (av 4 (ls [.pointer (some ⟨gs, 0, none⟩), .pointer (some ⟨gr, 0, none⟩), .slice lt N kt, .slice lx_ N kx])) 65⟩ :: (G ++ (To ++ (H ++ (Tt ++ Tx)))))) (T := Ta) (suf := []) (by simp only [List.append_assoc, List.cons_append, List.nil_append, List.append_nil]))) fun u8 M => ?_
    refine rV 1 <| nT <| cF <| wp_skip <| au_then ?_
    refine sq ?_
    refine wp_block ?_
    refine au_loop (fun k a w' => ∃ (v3 : NV) , a = (fm ([.agg (av 5 (ls [.int .u64 (rc : Int), .int .u64 (ct : Int), .int .u64 (rk : Int), .int .u64 (lf : Int), .int .i64 zz])), .slice l4 n4 k4, .pointer (some ⟨g1, 0, none⟩), undef, v3 4, .pointer (some ⟨g4, 0, none⟩), .int .i64 (j : Int), sa, .int .i64 ((SQ.length : Nat) : Int), .int .i64 (k : Int), .slice l4 n4 k4, .int .i64 (n4 : Int), .bool false, undef, .pointer (some ⟨g2, 0, none⟩), .agg (av 1 (ls [.slice none 0 0])), .pointer (some ⟨g3, 0, none⟩), .agg (av 4 (ls [.pointer (some ⟨g2, 0, none⟩), .pointer (some ⟨g3, 0, none⟩), .slice none 0 0, .slice none 0 0])), .pointer (some ⟨g4, 0, none⟩), .int .i64 (j : Int), .slice l4 n4 k4, .int .i64 (n4 : Int), .bool true, v1 23, v1 24, .pointer (some ⟨g4, 0, none⟩), .agg (av 5 (ls [.int .u64 (rc : Int), .int .u64 (ct : Int), .int .u64 (rk : Int), .int .u64 (lf : Int), .int .i64 zz])), .slice l4 n4 k4, .int .i64 (j : Int), .pointer (some ⟨b4, (o4 + j * 4), none⟩), .agg (av 4 (ls [.int .i64 (Dd j), .int .u32 ((Id j : Nat) : Int), .bool (Fi j), .int .u64 ((Nw j : Nat) : Int)])), .bool true, .bool false, .int .i64 ((SQ.length : Nat) : Int), .pointer (some ⟨g4, 0, none⟩), .pointer (some ⟨g4, 0, none⟩), .pointer (some ⟨g4, 1, none⟩), .pointer (some ⟨gr, 0, none⟩), .pointer (some ⟨gr, 0, none⟩), .pointer (some ⟨gr, 0, none⟩), .slice lQ SQ.length kQ, .int .i64 ((SQ.length : Nat) : Int), .bool false] ++ vr v2 43 16 ++ [.pointer (some ⟨g4, 0, none⟩), .pointer (some ⟨g4, 0, none⟩), .pointer (some ⟨g4, 0, none⟩), .pointer (some ⟨gs, 0, none⟩), so, sa, .bool true, .bool false] ++ vr v3 67 36 ++ [undef])) ∧ Mem ⟨w, []⟩ (⟨g1, .cells (av 5 (ls [.int .u64 (rc : Int), .int .u64 (ct : Int), .int .u64 (rk : Int), .int .u64 (lf : Int), .int .i64 zz])) 26⟩ :: ⟨g4, .cells (av 4 (ls [.pointer (some ⟨gs, 0, none⟩), .pointer (some ⟨gr, 0, none⟩), .slice lt N kt, .slice lx_ N kx])) 65⟩ :: (G ++ (To ++ (H ++ (Tt ++ (Tx ++ Ta)))))) w') N ⟨fun k_ => ([v1 4, undef, undef, undef, undef, undef, undef, undef, undef, undef, undef, undef, undef, undef, undef, undef, undef, undef, undef, undef, undef, undef, undef, undef, undef, undef, undef, undef, undef, undef, undef, undef, undef, undef, undef, undef, undef, undef, undef, undef, undef, undef, undef, undef, undef, undef, undef, undef, undef, undef, undef, undef, undef, undef, undef, undef, undef, undef, undef, undef, undef, undef, undef, v1 67, v1 68, v1 69, v1 70, v1 71, v1 72, v1 73, v1 74, v1 75, v1 76, v1 77, v1 78, v1 79, v1 80, v1 81, v1 82, v1 83, v1 84, v1 85, v1 86, v1 87, v1 88, v1 89, v1 90, v1 91, v1 92, v1 93, v1 94, v1 95, v1 96, v1 97, v1 98, v1 99, v1 100, v1 101, v1 102] : List Value).getD (k_ - 4) undef, by kernel_rfl, by simpa only [List.append_assoc, List.cons_append, List.nil_append, List.append_nil] using M⟩ ?_ ?_
    ·intro k a u0 hk hI
     obtain ⟨v3, rfl, M⟩ := hI
     refine wp_seq <| sR <| rV 4 <| ZE M 71 1 2 <| rV 1 ?_
     refine ZT 73 ((k : Int) < (N : Int)) ?_
     refine nT <| cT <| wp_skip <| au_then <| wp_seq ?_
     refine wp_block ?_
     refine wp_seq ?_
     refine rg_held M (⟨g1, .cells (av 5 (ls [.int .u64 (rc : Int), .int .u64 (ct : Int), .int .u64 (rk : Int), .int .u64 (lf : Int), .int .i64 zz])) 26⟩ :: ⟨g4, .cells (av 4 (ls [.pointer (some ⟨gs, 0, none⟩), .pointer (some ⟨gr, 0, none⟩), .slice lt N kt, .slice lx_ N kx])) 65⟩ :: (G ++ (To ++ (H ++ (Tt ++ (Tx ++ Ta)))))) 26 rfl (by kernel_rfl) (by kernel_rfl) (fun _ _ d _ _ h => by cases d <;> exact h) fun u9 M => ?_
     replace M : Mem ⟨w, []⟩ (⟨g1, .cells (av 5 (ls [.int .u64 (rc : Int), .int .u64 (ct : Int), .int .u64 (rk : Int), .int .u64 (lf : Int), .int .i64 zz])) 26⟩ :: ⟨g4, .cells (av 4 (ls [.pointer (some ⟨gs, 0, none⟩), .pointer (some ⟨gr, 0, none⟩), .slice lt N kt, .slice lx_ N kx])) 65⟩ :: (G ++ (To ++ (H ++ (Tt ++ (Tx ++ Ta)))))) u9 := M
     refine qV M 0 76 (.pointer (some ⟨g4, 0, none⟩)) ?_
     refine qV M 1 77 (.pointer (some ⟨g4, 0, none⟩)) ?_
     refine qV M 2 78 (.pointer (some ⟨g4, 2, none⟩)) ?_
     refine hl_cell M 3 rfl (by decide) (by kernel_rfl) (by kernel_rfl) (want_no rfl) (some 79) rfl 62 _ rfl g4 2 (by kernel_rfl) (.slice lt N kt) (fun _ => by kernel_rfl) (fun w M => M.cell 1 rfl (by decide) rfl) ?_
     refine qV M 4 80 (.int .i64 (k : Int)) ?_
     refine hl_val M 5 rfl (by decide) (by kernel_rfl) (by kernel_rfl) (want_no rfl) (some 81) rfl (.pointer (some ⟨bt_, (0 + k * 1), none⟩)) (fun w _ => (run_ixK 62 30 1 Tryz.underlying62 inz30 _ _ rfl lt bt_ 0 N kt (by kernel_rfl) (hlt (by omega)) .i64 k (by kernel_rfl) (by omega)) w) ?_
     refine hl_cell M 6 rfl (by decide) (by kernel_rfl) (by kernel_rfl) (want_no rfl) (some 82) rfl 30 _ rfl bt_ (0 + k * 1) (by kernel_rfl) (.pointer (some ⟨(tp k), 0, none⟩)) (fun _ => by kernel_rfl) (fun w M => (hct _ (M.thereM (pre := (⟨g1, .cells (av 5 (ls [.int .u64 (rc : Int), .int .u64 (ct : Int), .int .u64 (rk : Int), .int .u64 (lf : Int), .int .i64 zz])) 26⟩ :: ⟨g4, .cells (av 4 (ls [.pointer (some ⟨gs, 0, none⟩), .pointer (some ⟨gr, 0, none⟩), .slice lt N kt, .slice lx_ N kx])) 65⟩ :: (G ++ (To ++ H)))) (T := Tt) (suf := (Tx ++ Ta)) (by simp only [List.append_assoc, List.cons_append, List.nil_append, List.append_nil])) k hk)) ?_
     refine qV M 7 83 (.slice l4 n4 k4) ?_
     refine qV M 8 84 (.int .i64 (j : Int)) ?_
     refine hl_val M 9 rfl (by decide) (by kernel_rfl) (by kernel_rfl) (want_no rfl) (some 85) rfl (.pointer (some ⟨b4, (o4 + j * 4), none⟩)) (fun w _ => (run_ixK 54 69 4 Tryz.underlying54 inz69 _ _ rfl l4 b4 o4 n4 k4 (by kernel_rfl) (hl4 (by omega)) .i64 j (by kernel_rfl) (by omega)) w) ?_
     refine qV M 10 86 (.pointer (some ⟨b4, ((o4 + j * 4) + 3), none⟩)) ?_
     refine hl_cell M 11 rfl (by decide) (by kernel_rfl) (by kernel_rfl) (want_no rfl) (some 87) rfl 24 _ rfl b4 ((o4 + j * 4) + 3) (by kernel_rfl) (.int .u64 ((Nw j : Nat) : Int)) (fun _ => by kernel_rfl) (fun w M => M.oldc (h3 j (by omega)) (by simp)) ?_
     refine qV M 13 89 (.pointer (some ⟨g4, 0, none⟩)) ?_
     refine qV M 14 90 (.pointer (some ⟨g4, 0, none⟩)) ?_
     refine qV M 15 91 (.pointer (some ⟨g4, 3, none⟩)) ?_
     refine hl_cell M 16 rfl (by decide) (by kernel_rfl) (by kernel_rfl) (want_no rfl) (some 92) rfl 63 _ rfl g4 3 (by kernel_rfl) (.slice lx_ N kx) (fun _ => by kernel_rfl) (fun w M => M.cell 1 rfl (by decide) rfl) ?_
     refine qV M 17 93 (.int .i64 (k : Int)) ?_
     refine hl_val M 18 rfl (by decide) (by kernel_rfl) (by kernel_rfl) (want_no rfl) (some 94) rfl (.pointer (some ⟨bx_, (0 + k * 1), none⟩)) (fun w _ => (run_ixK 63 32 1 Tryz.underlying63 inz32 _ _ rfl lx_ bx_ 0 N kx (by kernel_rfl) (hlx (by omega)) .i64 k (by kernel_rfl) (by omega)) w) ?_
     refine hl_cell M 19 rfl (by decide) (by kernel_rfl) (by kernel_rfl) (want_no rfl) (some 95) rfl 32 _ rfl bx_ (0 + k * 1) (by kernel_rfl) (.pointer (some ⟨(dp k), 0, none⟩)) (fun _ => by kernel_rfl) (fun w M => (hcx _ (M.thereM (pre := (⟨g1, .cells (av 5 (ls [.int .u64 (rc : Int), .int .u64 (ct : Int), .int .u64 (rk : Int), .int .u64 (lf : Int), .int .i64 zz])) 26⟩ :: ⟨g4, .cells (av 4 (ls [.pointer (some ⟨gs, 0, none⟩), .pointer (some ⟨gr, 0, none⟩), .slice lt N kt, .slice lx_ N kx])) 65⟩ :: (G ++ (To ++ (H ++ Tt))))) (T := Tx) (suf := Ta) (by simp only [List.append_assoc, List.cons_append, List.nil_append, List.append_nil])) k hk)) ?_
     refine qV M 20 96 (.slice l4 n4 k4) ?_
     refine qV M 21 97 (.int .i64 (j : Int)) ?_
     refine hl_val M 22 rfl (by decide) (by kernel_rfl) (by kernel_rfl) (want_no rfl) (some 98) rfl (.pointer (some ⟨b4, (o4 + j * 4), none⟩)) (fun w _ => (run_ixK 54 69 4 Tryz.underlying54 inz69 _ _ rfl l4 b4 o4 n4 k4 (by kernel_rfl) (hl4 (by omega)) .i64 j (by kernel_rfl) (by omega)) w) ?_
     refine qV M 23 99 (.pointer (some ⟨b4, ((o4 + j * 4) + 3), none⟩)) ?_
     refine hl_cell M 24 rfl (by decide) (by kernel_rfl) (by kernel_rfl) (want_no rfl) (some 100) rfl 24 _ rfl b4 ((o4 + j * 4) + 3) (by kernel_rfl) (.int .u64 ((Nw j : Nat) : Int)) (fun _ => by kernel_rfl) (fun w M => M.oldc (h3 j (by omega)) (by simp)) ?_
     refine hl_one 12 (by decide) (by kernel_rfl) rfl ?_
     refine pC M 88 10 #[.pointer (some ⟨(tp k), 0, none⟩), .int .u64 ((Nw j : Nat) : Int)] (.bool ((pX (Y k) (gn k)).ov (Nw j))) (fun w M => g_Over hG hk hNj w M.laid (M.thereM (pre := [⟨g1, .cells (av 5 (ls [.int .u64 (rc : Int), .int .u64 (ct : Int), .int .u64 (rk : Int), .int .u64 (lf : Int), .int .i64 zz])) 26⟩, ⟨g4, .cells (av 4 (ls [.pointer (some ⟨gs, 0, none⟩), .pointer (some ⟨gr, 0, none⟩), .slice lt N kt, .slice lx_ N kx])) 65⟩]) (T := G) (suf := (To ++ (H ++ (Tt ++ (Tx ++ Ta))))) (by simp only [List.append_assoc, List.cons_append, List.nil_append, List.append_nil]))) fun u10 M => ?_
     refine nT ?_
     refine ⟨M, ?_⟩
     refine hl_one 25 (by decide) (by kernel_rfl) rfl ?_
     refine pC M 101 11 #[.pointer (some ⟨(dp k), 0, none⟩), .int .u64 ((Nw j : Nat) : Int)] (.bool ((pX (Y k) (gn k)).ov (Nw j))) (fun w M => h_Over hH hk (hj.dk k hk).1.k1 hNj w M.laid (M.thereM (pre := (⟨g1, .cells (av 5 (ls [.int .u64 (rc : Int), .int .u64 (ct : Int), .int .u64 (rk : Int), .int .u64 (lf : Int), .int .i64 zz])) 26⟩ :: ⟨g4, .cells (av 4 (ls [.pointer (some ⟨gs, 0, none⟩), .pointer (some ⟨gr, 0, none⟩), .slice lt N kt, .slice lx_ N kx])) 65⟩ :: (G ++ To))) (T := H) (suf := (Tt ++ (Tx ++ Ta))) (by simp only [List.append_assoc, List.cons_append, List.nil_append, List.append_nil]))) fun u11 M => ?_
     refine nT ?_
     refine ⟨M, ?_⟩
     refine hl_end (by kernel_rfl) (by kernel_rfl) rfl ?_
     refine pH 102 (.bool false) (fun w => by rcases Bool.eq_false_or_eq_true ((pX (Y k) (gn k)).ov (Nw j)) with h_ | h_ <;> rw [h_] <;> kernel_rfl) ?_
     refine nT <| au_then <| cF <| wp_skip ?_
     refine au_block ?_
     refine au_then ?_
     refine rg_lit ?_
     refine rV 1 ?_
     refine pH 75 (.int .i64 ((k + 1 : Nat) : Int)) (fun w => Eq.trans (b := .ok (.value (.int .i64 (IntKind.wrap .i64 ((k : Int) + 1)))) w) (by kernel_rfl) (by rw [wrap64 (by omega) (by omega)]; rfl)) ?_
     refine rV 1 <| nT ?_
     exact exS M
    ·intro a u0 hI
     obtain ⟨v3, rfl, M⟩ := hI
     refine wp_seq <| sR <| rV 4 <| ZE M 71 1 2 <| rV 1 ?_
     refine ZF 73 ((N : Int) < (N : Int)) ?_
     refine nT <| cF ?_
     refine wp_exit ?_
     refine au_then_exit ?_
     refine au_then_exit ?_
     refine au_block_exit ?_
     refine au_block ?_
     refine au_then ?_
     refine rg_lit ?_
     refine rV 1 ?_
     refine pH 24 (.int .i64 ((j + 1 : Nat) : Int)) (fun w => Eq.trans (b := .ok (.value (.int .i64 (IntKind.wrap .i64 ((j : Int) + 1)))) w) (by kernel_rfl) (by rw [wrap64 (by omega) (by omega)]; rfl)) ?_
     refine rV 1 <| nT ?_
     exact ⟨fun k_ => ([v3 4, undef, undef, sa, .int .i64 ((SQ.length : Nat) : Int), .int .i64 (N : Int), undef, undef, undef, undef, undef, undef, undef, undef, undef, .int .i64 (j : Int), .slice l4 n4 k4, .int .i64 (n4 : Int), .bool true, .int .i64 (j : Int), .int .i64 ((j + 1 : Nat) : Int), .pointer (some ⟨g4, 0, none⟩), .agg (av 5 (ls [.int .u64 (rc : Int), .int .u64 (ct : Int), .int .u64 (rk : Int), .int .u64 (lf : Int), .int .i64 zz])), .slice l4 n4 k4, .int .i64 (j : Int), .pointer (some ⟨b4, (o4 + j * 4), none⟩), .agg (av 4 (ls [.int .i64 (Dd j), .int .u32 ((Id j : Nat) : Int), .bool (Fi j), .int .u64 ((Nw j : Nat) : Int)])), .bool true, .bool false, .int .i64 ((SQ.length : Nat) : Int), .pointer (some ⟨g4, 0, none⟩), .pointer (some ⟨g4, 0, none⟩), .pointer (some ⟨g4, 1, none⟩), .pointer (some ⟨gr, 0, none⟩), .pointer (some ⟨gr, 0, none⟩), .pointer (some ⟨gr, 0, none⟩), .slice lQ SQ.length kQ, .int .i64 ((SQ.length : Nat) : Int), .bool false, v2 43, v2 44, v2 45, v2 46, v2 47, v2 48, v2 49, v2 50, v2 51, v2 52, v2 53, v2 54, v2 55, v2 56, v2 57, v2 58, .pointer (some ⟨g4, 0, none⟩), .pointer (some ⟨g4, 0, none⟩), .pointer (some ⟨g4, 0, none⟩), .pointer (some ⟨gs, 0, none⟩), so, sa, .bool true, .bool false, .int .i64 (N : Int), .pointer (some ⟨g4, 0, none⟩), .pointer (some ⟨g4, 0, none⟩), .pointer (some ⟨g4, 2, none⟩), .slice lt N kt, .int .i64 (N : Int), .bool false, v3 74, v3 75, v3 76, v3 77, v3 78, v3 79, v3 80, v3 81, v3 82, v3 83, v3 84, v3 85, v3 86, v3 87, v3 88, v3 89, v3 90, v3 91, v3 92, v3 93, v3 94, v3 95, v3 96, v3 97, v3 98, v3 99, v3 100, v3 101, v3 102] : List Value).getD (k_ - 4) undef, (⟨g4, .cells (av 4 (ls [.pointer (some ⟨gs, 0, none⟩), .pointer (some ⟨gr, 0, none⟩), .slice lt N kt, .slice lx_ N kx])) 65⟩ :: (G ++ (H ++ (Tt ++ Tx)))), by kernel_rfl, (M.drop (.cons_cons _ (.cons_cons _ ((List.Sublist.refl _).append (((List.Sublist.refl _).append ((List.Sublist.refl _).append (List.sublist_append_left _ _))).trans (List.sublist_append_right _ _)))))), hZ3⟩
  ·intro a u0 hI
   obtain ⟨v1, Z, rfl, M, hZ⟩ := hI
   refine wp_seq <| sR <| rV 3 ?_
   refine ZF 22 ((n4 : Int) < (n4 : Int)) ?_
   refine nT <| cF ?_
   refine wp_exit ?_
   refine au_then_exit ?_
   refine au_then_exit ?_
   refine au_block_exit ?_
   refine au_then <| sR ?_
   refine ZC M 103 (fun w M => c_alive w M.laid) fun u5 M => ?_
   refine rV 1 <| nT <| wp_ret ?_
   exact b1 M
open Go.ChangeShapes Go.WideShapes Go.ChangeAt Go.RowKit Go.Deep
theorem laidOut : laidOutB Tryz.prog = true := by kernel_rfl
theorem ownNone : ownKnob Tryz.prog.godebug = none := by kernel_rfl
section
variable {W : World} {b0 : Nat} {v : Value}
theorem cell_u64 (h : Cell.okWide Tryz.prog W .any b0 24 v) : ∃ n, v = .int .u64 n ∧ 0 ≤ n ∧ n < 18446744073709551616 := by
 simp only [Cell.okWide, Tryz.underlying24] at h
 cases v <;> simp_all [Cell.ok, Tryz.underlying24]
 rename_i k n
 obtain ⟨rfl, h1, h2⟩ := h
 simp [IntKind.min, IntKind.max, IntKind.bits, IntKind.signed] at h1 h2
 exact ⟨h1, by omega⟩
theorem cell_i64 (h : Cell.okWide Tryz.prog W .any b0 3 v) : ∃ n, v = .int .i64 n ∧ -9223372036854775808 ≤ n ∧ n < 9223372036854775808 := by
 simp only [Cell.okWide, Tryz.underlying3] at h
 cases v <;> simp_all [Cell.ok, Tryz.underlying3]
 rename_i k n
 obtain ⟨rfl, h1, h2⟩ := h
 simp [IntKind.min, IntKind.max, IntKind.bits, IntKind.signed] at h1 h2
 exact ⟨h1, by omega⟩
theorem row_av (cs : Array Value) (l : List Value) (hs : cs.size = l.length) (h : ∀ i, i < l.length → cs[i]? = l[i]?) : cs = av l.length (ls l) := by
 apply Array.ext_getElem?
 intro i
 by_cases hi : i < l.length
 ·rw [h i hi, av_get _ _ _ hi]
  unfold ls
  rw [getD_app, List.getElem?_eq_getElem hi]
  rfl
 ·rw [Array.getElem?_eq_none (by omega), Array.getElem?_eq_none (by rw [av_size]; omega)]
end
theorem row_cells {W : World} {b0 : Nat} {t : TypeId} {v : Value} {fs : Array Field} {ts : List TypeId} (ht : Tryz.prog.underlying t = some (.struct fs)) (hc : Tryz.prog.cellTypes Tryz.prog.depth t = some ts) (hn : Tryz.prog.cellsOf t = ts.length) (h : Value.okWide Tryz.prog W .any b0 t v) : ∃ cs, v = .agg cs ∧ cs.size = ts.length ∧ ∀ (i : Nat) (u : TypeId), ts[i]? = some u → ∃ x, cs[i]? = some x ∧ Cell.okWide Tryz.prog W .any b0 u x := by
 simp only [Value.okWide, ht] at h
 obtain ⟨cs, rfl, h2, ts2, h3, _, h4⟩ := h
 rw [hc] at h3
 cases h3
 refine ⟨cs, rfl, by omega, fun i u hu => ?_⟩
 have hi := (List.getElem?_eq_some_iff.1 hu).1
 obtain ⟨u2, hu2, hx⟩ := h4 i cs[i] (Array.getElem?_eq_getElem (by omega))
 rw [Nat.mod_eq_of_lt hi, hu] at hu2
 cases hu2
 exact ⟨cs[i], Array.getElem?_eq_getElem (by omega), hx⟩
theorem op_lim {W : World} {b0 : Nat} {v : Value} (h : Value.okWide Tryz.prog W .any b0 26 v) : ∃ (a b c d : Nat) (z : Int), v = .agg (av 5 (ls [.int .u64 (a : Int), .int .u64 (b : Int), .int .u64 (c : Int), .int .u64 (d : Int), .int .i64 z])) ∧ -9223372036854775808 ≤ z ∧ z < 9223372036854775808 := by
 obtain ⟨cs, rfl, hs, hc⟩ := row_cells (ts := [24, 24, 24, 24, 3]) Tryz.underlying26 (by kernel_rfl) (by kernel_rfl) h
 obtain ⟨x0, e0, o0⟩ := hc 0 24 rfl
 obtain ⟨y0, rfl, r0, _⟩ := cell_u64 o0
 obtain ⟨x1, e1, o1⟩ := hc 1 24 rfl
 obtain ⟨y1, rfl, r1, _⟩ := cell_u64 o1
 obtain ⟨x2, e2, o2⟩ := hc 2 24 rfl
 obtain ⟨y2, rfl, r2, _⟩ := cell_u64 o2
 obtain ⟨x3, e3, o3⟩ := hc 3 24 rfl
 obtain ⟨y3, rfl, r3, _⟩ := cell_u64 o3
 obtain ⟨x4, e4, o4⟩ := hc 4 3 rfl
 obtain ⟨y4, rfl, r4⟩ := cell_i64 o4
 refine ⟨y0.toNat, y1.toNat, y2.toNat, y3.toNat, y4, ?_, r4⟩
 rw [Int.toNat_of_nonneg r0, Int.toNat_of_nonneg r1, Int.toNat_of_nonneg r2, Int.toNat_of_nonneg r3]
 refine congrArg Value.agg (row_av cs [.int .u64 y0, .int .u64 y1, .int .u64 y2, .int .u64 y3, .int .i64 y4] hs fun i hi => ?_)
 rcases i with _ | _ | _ | _ | _ | i
 ·exact e0
 ·exact e1
 ·exact e2
 ·exact e3
 ·exact e4
 ·exact absurd hi (by simp)
theorem wt_cons {H : Type} (P : Program) (t : TypeId) (ts : List TypeId) (d : DataW H) (r : List (DataW H)) (h : (DataW.weightsEach P (t :: ts) (d :: r)).all (· ≤ reachBytes) = true) : (d.weights P t).all (· ≤ reachBytes) = true ∧ (DataW.weightsEach P ts r).all (· ≤ reachBytes) = true := by
 simp only [DataW.weightsEach, List.all_append, Bool.and_eq_true] at h
 exact h
theorem wt_all {H : Type} (P : Program) (e : TypeId) : ∀ (l : List (DataW H)), (DataW.weightsAll P e l).all (· ≤ reachBytes) = true → ∀ d ∈ l, (d.weights P e).all (· ≤ reachBytes) = true
 | [], _, d, hd => by cases hd
 | x :: l, h, d, hd => by
  simp only [DataW.weightsAll, List.all_append, Bool.and_eq_true] at h
  rcases List.mem_cons.1 hd with rfl | hd
  ·exact h.1
  ·exact wt_all P e l h.2 d hd
section
variable {H : Type} {enc : TypeId × Value → H}
theorem open_rows {T e : TypeId} {K : Nat} {W : World} {b0 : Nat} {v : Value} {d : DataW H} {p : List MemPlace} (ht : Tryz.prog.underlying T = some (.slice e)) (hK : Tryz.prog.cellsOf e = K) (h0 : 0 < K) (hval : Value.okWide Tryz.prog W .any b0 T v) (h : DataW.Trod enc Tryz.prog W 0 (fun _ => true) true T v d p) (hw : (d.weights Tryz.prog T).all (· ≤ reachBytes) = true) :
  ∃ (l : Option Addr) (b o len cap n : Nat) (C : Nat → List Value) (D : Nat → DataW H), v = .slice l len cap ∧ len ≤ 9223372036854775807 ∧ (0 < len → l = some ⟨b, o, none⟩) ∧ ∀ j, j < len → (C j).length = K ∧ (∀ i x, (C j)[i]? = some x → W.cell? ⟨b, o + j * K + i, none⟩ = some x) ∧ (∃ q, DataW.trod enc Tryz.prog W 0 (fun _ => true) true n e (C j) = some (D j, q)) ∧ ((D j).weights Tryz.prog e).all (· ≤ reachBytes) = true := by
 obtain ⟨l, len, cap, rfl⟩ := okWide_slice ht hval
 obtain ⟨n, h⟩ := h
 rcases open_slice ht h with ⟨hc, hx⟩ | ⟨a, len', cap', m, k, D, Pl, hc, _, hl, hm, hmm, hx, hall⟩
 ·simp [Value.cells] at hc
  obtain ⟨rfl, rfl, rfl⟩ := hc
  exact ⟨none, 0, 0, 0, 0, 0, fun _ => [], fun _ => .nil, rfl, by omega, fun h => by omega, fun j h => by omega⟩
 ·simp [Value.cells] at hc
  obtain ⟨rfl, rfl, rfl⟩ := hc
  simp only [if_true] at hmm
  subst hmm
  rw [hK] at hall
  obtain ⟨C, hC⟩ := choose_lt (p := fun i cs' => W.cells? 0 (a.add (i * K)) K = some cs' ∧ DataW.trod enc Tryz.prog W 0 (fun _ => true) true k e cs' = some (D i, Pl i)) hall
  obtain ⟨b, o, spot⟩ := a
  have hspot : 0 < len → spot = none := fun h1 => by
   obtain ⟨_, h3, h4⟩ := World.cells?_some (hC 0 (by omega)).1
   have h5 := h4 0 h0
   rw [List.getElem?_eq_getElem (by omega)] at h5
   simpa [Addr.add] using World.cell?_spot h5
  have hml : maxLen = 9223372036854775807 := rfl
  have hd : d = .slice ((List.range len).map D) ((List.range (m - len)).map fun j => D (len + j)) := congrArg Prod.fst hx
  subst hd
  unfold DataW.weights at hw
  rw [ht] at hw
  simp only [List.all_cons, List.all_append, Bool.and_eq_true] at hw
  refine ⟨_, b, o, len, m, k, C, D, rfl, by omega, fun h1 => by rw [hspot h1], fun j hj => ?_⟩
  obtain ⟨h1, h2⟩ := hC j (by omega)
  obtain ⟨_, h3, h4⟩ := World.cells?_some h1
  refine ⟨h3, fun i x hi => ?_, ⟨_, h2⟩, wt_all _ _ _ hw.2.1 _ (List.mem_map.2 ⟨j, List.mem_range.2 hj, rfl⟩)⟩
  have h5 := h4 i (by have := (List.getElem?_eq_some_iff.1 hi).1; omega)
  rw [hspot (by omega), add_plain, add_plain, hi] at h5
  exact h5
end
open Go.ChangeShapes Go.WideShapes Go.ChangeAt Go.RowKit Go.Deep
section
variable {H : Type} {enc : TypeId × Value → H}
theorem four_of {l : List Value} (h : l.length = 4) : ∃ a b c d, l = [a, b, c, d] := by
 match l, h with
 | [a, b, c, d], _ => exact ⟨a, b, c, d, rfl⟩
theorem int_litS {W : World} {n : Nat} {T : TypeId} {k : IntKind} {x : Value} {y : DataW H × List MemPlace} (ht : Tryz.prog.underlying T = some (.int k)) (h : DataW.trod enc Tryz.prog W 0 (fun _ => true) true n T [x] = some y) : ∃ z : Int, x = .int k z ∧ (Lit.int k z).wf = true := by
 obtain ⟨z, e1, _, e3⟩ := DataW.trod_int ht h
 simp only [List.cons.injEq, and_true] at e1
 exact ⟨z, e1, e3⟩
theorem open_calls {W : World} {b0 : Nat} {v : Value} {d : DataW H} {p : List MemPlace} (hval : Value.okWide Tryz.prog W .any b0 54 v) (h : DataW.Trod enc Tryz.prog W 0 (fun _ => true) true 54 v d p) (hw : (d.weights Tryz.prog 54).all (· ≤ reachBytes) = true) :
  ∃ (l : Option Addr) (b o len cap : Nat) (Dd : NI) (Id Nw : Nat → Nat) (Fi : Nat → Bool), v = .slice l len cap ∧ len ≤ 9223372036854775807 ∧ (0 < len → l = some ⟨b, o, none⟩) ∧ (∀ j, j < len → Nw j < 18446744073709551616) ∧ (∀ j, j < len → W.cell? ⟨b, o + j * 4 + 0, none⟩ = some (.int .i64 (Dd j))) ∧ (∀ j, j < len → W.cell? ⟨b, o + j * 4 + 1, none⟩ = some (.int .u32 ((Id j : Nat) : Int))) ∧ (∀ j, j < len → W.cell? ⟨b, o + j * 4 + 2, none⟩ = some (.bool (Fi j))) ∧ (∀ j, j < len → W.cell? ⟨b, o + j * 4 + 3, none⟩ = some (.int .u64 ((Nw j : Nat) : Int))) := by
 obtain ⟨l, b, o, len, cap, n, C, D, rfl, hm, hl, hC⟩ := open_rows Tryz.underlying54 (K := 4) (by kernel_rfl) (by decide) hval h hw
 have hs : ∀ i, i < len → ∃ t : Int × Nat × Bool × Nat, C i = [.int .i64 t.1, .int .u32 (t.2.1 : Int), .bool t.2.2.1, .int .u64 (t.2.2.2 : Int)] ∧ t.2.2.2 < 18446744073709551616 := fun i hi => by
  obtain ⟨h1, h2, ⟨q, h3⟩, h4⟩ := hC i hi
  obtain ⟨c0, c1, c2, c3, hc⟩ := four_of h1
  rw [hc] at h3 ⊢
  obtain ⟨xs, m, _, hx, _, hlen, hf⟩ := DataW.trod_struct Tryz.underlying69 h3
  have h14 : xs.length = 4 := hlen
  have f0 : DataW.trod enc Tryz.prog W 0 (fun _ => true) true m 3 [c0] = xs[0]? := hf 0 _ rfl
  have f1 : DataW.trod enc Tryz.prog W 0 (fun _ => true) true m 67 [c1] = xs[1]? := hf 1 _ rfl
  have f2 : DataW.trod enc Tryz.prog W 0 (fun _ => true) true m 4 [c2] = xs[2]? := hf 2 _ rfl
  have f3 : DataW.trod enc Tryz.prog W 0 (fun _ => true) true m 24 [c3] = xs[3]? := hf 3 _ rfl
  rw [List.getElem?_eq_getElem (by omega)] at f0 f1 f2 f3
  obtain ⟨z0, rfl, _⟩ := int_litS Tryz.underlying3 f0
  obtain ⟨z1, rfl, r1⟩ := int_litS Tryz.underlying67 f1
  obtain ⟨s2, e2, _⟩ := DataW.trod_bool Tryz.underlying4 f2
  simp only [List.cons.injEq, and_true] at e2
  subst e2
  obtain ⟨z3, rfl, r3⟩ := int_litS Tryz.underlying24 f3
  have g1 : 0 ≤ z1 ∧ z1 ≤ 4294967295 := by simpa [Lit.wf, IntKind.min, IntKind.max, IntKind.signed, IntKind.bits] using r1
  have g3 : 0 ≤ z3 ∧ z3 ≤ 18446744073709551615 := by simpa [Lit.wf, IntKind.min, IntKind.max, IntKind.signed, IntKind.bits] using r3
  exact ⟨(z0, z1.toNat, s2, z3.toNat), by simp only [Int.toNat_of_nonneg g1.1, Int.toNat_of_nonneg g3.1], by simp only; omega⟩
 obtain ⟨Y, hY⟩ := choose_lt hs
 exact ⟨l, b, o, len, cap, fun j => (Y j).1, fun j => (Y j).2.1, fun j => (Y j).2.2.2, fun j => (Y j).2.2.1, rfl, hm, hl, fun j hj => (hY j hj).2, fun j hj => (hC j hj).2.1 0 _ (by rw [(hY j hj).1]; rfl), fun j hj => (hC j hj).2.1 1 _ (by rw [(hY j hj).1]; rfl), fun j hj => (hC j hj).2.1 2 _ (by rw [(hY j hj).1]; rfl), fun j hj => (hC j hj).2.1 3 _ (by rw [(hY j hj).1]; rfl)⟩
end
open Go.RowKit
def lay6 : List (String × DataW Unit) := [("isthmus/chacha.turns", Rows.laid_isthmus_chacha_turns)]
theorem gl0 : Tryz.prog.globalNamed "isthmus/chacha.turns" = some 1 := by kernel_rfl
theorem glT : (Tryz.prog.globals[1]?).map (·.type) = some 208 := by kernel_rfl
theorem cells3 : Tryz.prog.cellsOf 3 = 1 := by kernel_rfl
theorem cells207 : Tryz.prog.cellsOf 207 = 2 := by kernel_rfl
theorem int_of_trod {H : Type} {enc : TypeId × Value → H} {P : Program} {w : World} {base : Nat} {sp : Nat → Bool} {held : Bool} {fuel : Nat} {t : TypeId} {k : IntKind} {c : Value} {y : DataW H × List MemPlace}
  (ht : P.underlying t = some (.int k)) (h : DataW.trod enc P w base sp held fuel t [c] = some y) : ∃ n, c = .int k n ∧ y = (.lit (.int k n), []) := by
 cases fuel with
 | zero => simp [DataW.trod] at h
 | succ fuel =>
  cases c <;> simp [DataW.trod, ht] at h
  rename_i k' n
  obtain ⟨⟨rfl, _⟩, rfl⟩ := h
  exact ⟨n, rfl, rfl⟩
def litsOf : DataW Unit → List (DataW Unit)
 | .agg l => l
 | _ => []
theorem lits_at : ∀ a, a < 2 → ∀ b, b < 2 → (litsOf (((litsOf Rows.laid_isthmus_chacha_turns)[a]?).getD .nil))[b]? = some (.lit (.int .i64 (TF (a * 2 + b)))) := by
 have h : ((List.range 2).all fun a => (List.range 2).all fun b => match (litsOf (((litsOf Rows.laid_isthmus_chacha_turns)[a]?).getD .nil))[b]? with | some (.lit (.int .i64 n)) => n == (TF (a * 2 + b)) | _ => false) = true := by decide +kernel
 intro a ha b hb
 have h1 := List.all_eq_true.1 h a (List.mem_range.2 ha)
 have h2 := List.all_eq_true.1 h1 b (List.mem_range.2 hb)
 split at h2
 ·rename_i n e
  rw [e, eq_of_beq h2]
 ·cases h2
theorem laid_of {W : World} (h0 : laidMetH Tryz.prog lay6 W) : Laid W := by
 have h : laidMet Tryz.prog lay6 W := h0
 obtain ⟨ps, ⟨g, t, cs, fuel, p, q, hg, ht, hvar, hd, _, _⟩, _⟩ := h
 obtain rfl := Option.some.inj (gl0.symm.trans hg)
 obtain rfl := Option.some.inj (glT.symm.trans ht)
 obtain ⟨xs, m, _, hx, hlen, hxl, hat⟩ := DataW.trod_array Tryz.underlying208 hd
 have hl160 : cs.toList.length = 4 := hlen.trans (by kernel_rfl)
 have e1 : litsOf Rows.laid_isthmus_chacha_turns = xs.map (·.1) := by
  have := congrArg Prod.fst hx
  simp only at this
  rw [this]
  rfl
 refine ⟨fun i hi => ?_⟩
 rw [World.var?_cell gl0 hvar i]
 obtain ⟨a, ha⟩ : ∃ a, a = i / 2 := ⟨_, rfl⟩
 obtain ⟨b, hb⟩ : ∃ b, b = i % 2 := ⟨_, rfl⟩
 have hi3 : i = a * 2 + b := by omega
 have ha1 : a < 2 := by omega
 have hb1 : b < 2 := by omega
 have h1 := hat a ha1
 rw [cells207, List.getElem?_eq_getElem (by omega)] at h1
 have h3 := lits_at a ha1 b hb1
 rw [e1, List.getElem?_map, List.getElem?_eq_getElem (l := xs) (i := a) (by omega), Option.map_some, Option.getD_some] at h3
 generalize xs[a] = xa at h1 h3
 obtain ⟨ys, m2, _, hy, hlen2, hyl, hat2⟩ := DataW.trod_array Tryz.underlying207 h1
 have e2 : litsOf xa.1 = ys.map (·.1) := by rw [hy]; rfl
 have h4 := hat2 b hb1
 have hl2 : cs.size = 4 := by simpa using hl160
 have hi2 : b < (List.take 2 (List.drop (a * 2) cs.toList)).length := by simp; omega
 rw [cells3, Nat.mul_one, List.drop_eq_getElem_cons hi2, List.take_succ_cons, List.take_zero, List.getElem?_eq_getElem (by omega)] at h4
 obtain ⟨n, hc, hy2⟩ := int_of_trod Tryz.underlying3 h4
 rw [e2, List.getElem?_map, List.getElem?_eq_getElem (l := ys) (i := b) (by omega), hy2] at h3
 simp at h3
 subst h3
 have e5 : cs.toList[i]? = some (List.take 2 (List.drop (a * 2) cs.toList))[b] := by
  rw [← List.getElem?_eq_getElem hi2, List.getElem?_take_of_lt hb1, List.getElem?_drop, hi3]
 rw [← Array.getElem?_toList, e5, hc, hi3]
theorem lay_witness (os : Os) (args : Array Value) : laidMetH Tryz.prog lay6 ((World.laidAll Tryz.prog os lay6).forCall (fun _ _ => 0) ⟨#[], args, []⟩).memory := laidMet_laidAll (laid := lay6) args (by kernel_rfl) (by kernel_rfl)
end Go.Proofs.YtenafinbaanicaaGreatDoor
