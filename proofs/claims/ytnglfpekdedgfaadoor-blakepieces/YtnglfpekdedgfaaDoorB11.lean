/- The walk of BlakePieces. -/
import Derived.Test.YtnglfpekdedgfaaDoorB9
namespace Go.Proofs.YtnglfpekdedgfaaDoor
open Go.RowKit

theorem run_ixO {P : Program} {a : Act} {o : Oper} (t : TypeId) (elem : TypeId) (hu : P.underlying t = some (.slice elem)) (hs : (P.info? elem).map (·.size) = some 1) (x ix : Operand) (ho : o.op = .indexAddr t x ix) (l : Option Addr) (b off len cap : Nat) (hl : l = some ⟨b, off, none⟩) (hx : a.eval x = .slice l len cap) (k : IntKind) (i : Nat) (hi : a.eval ix = .int k (i : Int)) (hlt : i < len) (w : World) :
    (execOp a.eval o).run P w = .ok (.value (.pointer (some ⟨b, off + i, none⟩))) w := by
  subst hl
  exact run_ixL t elem hu hs x ix ho b off len cap hx k i hi hlt w

set_option maxRecDepth 100000 in
set_option maxHeartbeats 4000000 in
theorem bpA (sz : Int) (key : ByteArray) (l : Option Addr) (len cap : Nat) (hk : 4096 < key.size) (w : World) (hL : Laid w)  :
    Calls Tryd.prog 4 #[.int .i64 sz, .string key, .slice l len cap] w fun r w' => r = .returned (.bool true) ∧ Below w.heap.size w w' := by
  go_enter Tryd.func4, Tryd.ntmps4
  have M := Mem.start hL
  refine wp_seq ?_
  refine rg_lit ?_
  refine pl_val (want_no rfl) (some 6) rfl (.bool false) (fun _ => by kernel_rfl) ?_
  refine pl_nil ?_
  refine au_then ?_
  refine wp_seq ?_
  refine wp_seq ?_
  refine rg_lit ?_
  refine pl_val (want_no rfl) (some 13) rfl (.string key) (fun _ => by kernel_rfl) ?_
  refine pl_val (want_no rfl) (some 14) rfl (.int .i64 (key.size : Int)) (fun _ => by kernel_rfl) ?_
  refine pl_val (want_no rfl) (some 15) rfl (.bool true) (fun w => Eq.trans (b := .ok (.value (.bool (decide ((4096 : Int) < (key.size : Int))))) w) (by kernel_rfl) (by rw [decide_eq_true (by omega)])) ?_
  refine pl_nil ?_
  refine au_then ?_
  refine wp_cond_true (by kernel_rfl) ?_
  refine wp_seq ?_
  refine rg_lit ?_
  refine pl_call M (want_no rfl) (some 16) rfl 7 #[] (.bool true) (fun _ => by kernel_rfl) (fun w M => c_alive w M.laid) ?_
  intro u1 M
  refine pl_val (want_no rfl) (some 6) rfl (.bool true) (fun _ => by kernel_rfl) ?_
  refine pl_nil ?_
  refine au_then ?_
  refine wp_ret ?_
  refine au_then_ret ?_
  exact bodyPost_ret (v := .bool true) (results_tmp1 Tryd.results4 _ _ _ (by kernel_rfl)) (by kernel_rfl) ⟨rfl, below_grown M.old⟩

set_option maxRecDepth 100000 in
set_option maxHeartbeats 4000000 in
theorem bpB (sz : Int) (key : ByteArray) (l : Option Addr) (len cap : Nat) (hk : ¬ 4096 < key.size) (hm : ¬ may sz key) (w : World) (hL : Laid w)  :
    Calls Tryd.prog 4 #[.int .i64 sz, .string key, .slice l len cap] w fun r w' => r = .returned (.bool true) ∧ Below w.heap.size w w' := by
  go_enter Tryd.func4, Tryd.ntmps4
  have M := Mem.start hL
  refine wp_seq ?_
  refine rg_lit ?_
  refine pl_val (want_no rfl) (some 6) rfl (.bool false) (fun _ => by kernel_rfl) ?_
  refine pl_nil ?_
  refine au_then ?_
  refine wp_seq ?_
  refine wp_seq ?_
  refine rg_lit ?_
  refine pl_val (want_no rfl) (some 13) rfl (.string key) (fun _ => by kernel_rfl) ?_
  refine pl_val (want_no rfl) (some 14) rfl (.int .i64 (key.size : Int)) (fun _ => by kernel_rfl) ?_
  refine pl_val (want_no rfl) (some 15) rfl (.bool false) (fun w => Eq.trans (b := .ok (.value (.bool (decide ((4096 : Int) < (key.size : Int))))) w) (by kernel_rfl) (by rw [decide_eq_false (by omega)])) ?_
  refine pl_nil ?_
  refine au_then ?_
  refine wp_cond_false (by kernel_rfl) ?_
  refine wp_skip ?_
  refine au_then ?_
  refine wp_seq ?_
  refine rg_lit ?_
  refine pl_val (want_no rfl) (some 18) rfl (.int .i64 sz) (fun _ => by kernel_rfl) ?_
  refine pl_val (want_no rfl) (some 19) rfl (.string key) (fun _ => by kernel_rfl) ?_
  refine pl_call M (want_no rfl) (some 20) rfl 9 #[.int .i64 sz, .string key] (.tuple #[.pointer none, .int .i64 2]) (fun _ => by kernel_rfl) (fun w M => c_newe sz key hm w M.laid) ?_
  intro u1 M
  refine pl_val (want_no rfl) (some 17) rfl (.tuple #[.pointer none, .int .i64 2]) (fun _ => by kernel_rfl) ?_
  refine pl_val (want_no rfl) (some 21) rfl (.pointer none) (fun _ => by kernel_rfl) ?_
  refine pl_val (want_no rfl) (some 22) rfl (.int .i64 2) (fun _ => by kernel_rfl) ?_
  refine pl_val (want_no rfl) (some 7) rfl (.pointer none) (fun _ => by kernel_rfl) ?_
  refine pl_val (want_no rfl) (some 8) rfl (.int .i64 2) (fun _ => by kernel_rfl) ?_
  refine pl_nil ?_
  refine au_then ?_
  refine wp_seq ?_
  refine wp_seq ?_
  refine rg_lit ?_
  refine pl_val (want_no rfl) (some 23) rfl (.int .i64 2) (fun _ => by kernel_rfl) ?_
  refine pl_val (want_no rfl) (some 24) rfl (.bool true) (fun _ => by kernel_rfl) ?_
  refine pl_nil ?_
  refine au_then ?_
  refine wp_cond_true (by kernel_rfl) ?_
  refine wp_seq ?_
  refine rg_lit ?_
  refine pl_val (want_no rfl) (some 25) rfl (.int .i64 sz) (fun _ => by kernel_rfl) ?_
  refine pl_val (want_no rfl) (some 26) rfl (.string key) (fun _ => by kernel_rfl) ?_
  refine pl_call M (want_no rfl) (some 27) rfl 10 #[.int .i64 sz, .string key] (.bool false) (fun _ => by kernel_rfl) (fun w M => d_mayn sz key hm w M.laid) ?_
  intro u2 M
  refine pl_val (want_no rfl) (some 28) rfl (.bool true) (fun _ => by kernel_rfl) ?_
  refine pl_val (want_no rfl) (some 29) rfl (.bool true) (fun _ => by kernel_rfl) ?_
  refine pl_call M (want_on 4 true rfl 29 rfl (by kernel_rfl)) (some 30) rfl 7 #[] (.bool true) (fun _ => by kernel_rfl) (fun w M => c_alive w M.laid) ?_
  intro u3 M
  refine pl_val (want_no rfl) (some 31) rfl (.bool true) (fun _ => by kernel_rfl) ?_
  refine pl_val (want_no rfl) (some 6) rfl (.bool true) (fun _ => by kernel_rfl) ?_
  refine pl_nil ?_
  refine au_then ?_
  refine wp_ret ?_
  refine au_then_ret ?_
  exact bodyPost_ret (v := .bool true) (results_tmp1 Tryd.results4 _ _ _ (by kernel_rfl)) (by kernel_rfl) ⟨rfl, below_grown M.old⟩

set_option maxRecDepth 100000 in
set_option maxHeartbeats 4000000 in
theorem bpC (z : Nat) (h1 : 1 ≤ z) (h2 : z ≤ 32) (key : ByteArray) (h3 : key.size ≤ 32) (l : Option Addr) (b o len cap : Nat) (Ss : Nat → ByteArray) (w : World) (hL : Laid w) (hll : 0 < len → l = some ⟨b, o, none⟩) (hS : ∀ j, j < len → w.cell? ⟨b, o + j, none⟩ = some (.string (Ss j))) :
    Calls Tryd.prog 4 #[.int .i64 (z : Int), .string key, .slice l len cap] w fun r w' => r = .returned (.bool true) ∧ Below w.heap.size w w' := by
  go_enter Tryd.func4, Tryd.ntmps4
  have M := Mem.start hL
  obtain ⟨NN, hN⟩ : ∃ NN, NN = min len 40 := ⟨_, rfl⟩
  refine wp_seq ?_
  refine rg_lit ?_
  refine pl_val (want_no rfl) (some 6) rfl (.bool false) (fun _ => by kernel_rfl) ?_
  refine pl_nil ?_
  refine au_then ?_
  refine wp_seq ?_
  refine wp_seq ?_
  refine rg_lit ?_
  refine pl_val (want_no rfl) (some 13) rfl (.string key) (fun _ => by kernel_rfl) ?_
  refine pl_val (want_no rfl) (some 14) rfl (.int .i64 (key.size : Int)) (fun _ => by kernel_rfl) ?_
  refine pl_val (want_no rfl) (some 15) rfl (.bool false) (fun w => Eq.trans (b := .ok (.value (.bool (decide ((4096 : Int) < (key.size : Int))))) w) (by kernel_rfl) (by rw [decide_eq_false (by omega)])) ?_
  refine pl_nil ?_
  refine au_then ?_
  refine wp_cond_false (by kernel_rfl) ?_
  refine wp_skip ?_
  refine au_then ?_
  refine wp_seq ?_
  refine rg_lit ?_
  refine pl_val (want_no rfl) (some 18) rfl (.int .i64 (z : Int)) (fun _ => by kernel_rfl) ?_
  refine pl_val (want_no rfl) (some 19) rfl (.string key) (fun _ => by kernel_rfl) ?_
  refine pl_calln2 M (want_no rfl) (some 20) rfl 9 #[.int .i64 (z : Int), .string key] (fun g1 => .tuple #[.pointer (some ⟨g1, 0, none⟩), .int .i64 0]) (fun g2 => .cells (av 11 (hF (z : Int) (nw z key).ws g2 (nw z key).wl.length (nw z key).ct)) 49) (fun Y => SB Y 64 (vs8 (nw z key).wl)) (fun _ => by kernel_rfl) (fun w M => c_new z key h1 h2 h3 w M.laid) ?_
  intro g1 g2 Y1 u1 hY1 M
  replace M : Mem ⟨w, []⟩ [⟨g1, .cells (av 11 (hF (z : Int) (nw z key).ws g2 (nw z key).wl.length (nw z key).ct)) 49⟩, ⟨g2, Y1⟩] u1 := M
  refine pl_val (want_no rfl) (some 17) rfl (.tuple #[.pointer (some ⟨g1, 0, none⟩), .int .i64 0]) (fun _ => by kernel_rfl) ?_
  refine pl_val (want_no rfl) (some 21) rfl (.pointer (some ⟨g1, 0, none⟩)) (fun _ => by kernel_rfl) ?_
  refine pl_val (want_no rfl) (some 22) rfl (.int .i64 0) (fun _ => by kernel_rfl) ?_
  refine pl_val (want_no rfl) (some 7) rfl (.pointer (some ⟨g1, 0, none⟩)) (fun _ => by kernel_rfl) ?_
  refine pl_val (want_no rfl) (some 8) rfl (.int .i64 0) (fun _ => by kernel_rfl) ?_
  refine pl_nil ?_
  refine au_then ?_
  refine wp_seq ?_
  refine wp_seq ?_
  refine rg_lit ?_
  refine pl_val (want_no rfl) (some 23) rfl (.int .i64 0) (fun _ => by kernel_rfl) ?_
  refine pl_val (want_no rfl) (some 24) rfl (.bool false) (fun _ => by kernel_rfl) ?_
  refine pl_nil ?_
  refine au_then ?_
  refine wp_cond_false (by kernel_rfl) ?_
  refine wp_skip ?_
  refine au_then ?_
  refine wp_seq ?_
  refine rg_lit ?_
  refine pl_val (want_no rfl) (some 9) rfl (.string ⟨#[]⟩) (fun _ => by kernel_rfl) ?_
  refine pl_nil ?_
  refine au_then ?_
  refine wp_seq ?_
  refine wp_seq ?_
  refine rg_lit ?_
  refine pl_val (want_no rfl) (some 10) rfl (.int .i64 0) (fun _ => by kernel_rfl) ?_
  refine pl_nil ?_
  refine au_then ?_
  refine wp_block ?_
  replace M : Mem ⟨w, []⟩ [⟨g1, .cells (av 11 (hF (z : Int) (tk (nw z key) strE strE.size).ws g2 (tk (nw z key) strE strE.size).wl.length (tk (nw z key) strE strE.size).ct)) 49⟩, ⟨g2, Y1⟩] u1 := M
  replace hY1 : SB Y1 64 (vs8 (tk (nw z key) strE strE.size).wl) := hY1
  refine au_loop (fun j a w' => ∃ (v : Nat → Value) (A : ByteArray) (Y : Obj), A.size ≤ 4596 ∧ a = ⟨#[.int .i64 (z : Int), .string key, .slice l len cap, undef, undef, undef, v 6, .pointer (some ⟨g1, 0, none⟩), .int .i64 0, .string A, .int .i64 (j : Int), v 11, v 12, .string key, .int .i64 (key.size : Int), .bool false, undef, .tuple #[.pointer (some ⟨g1, 0, none⟩), .int .i64 0], .int .i64 (z : Int), .string key, .tuple #[.pointer (some ⟨g1, 0, none⟩), .int .i64 0], .pointer (some ⟨g1, 0, none⟩), .int .i64 0, .int .i64 0, .bool false, undef, undef, undef, undef, undef, undef, undef, v 32, v 33, v 34, v 35, v 36, v 37, v 38, v 39, v 40, v 41, v 42, v 43, v 44, v 45, v 46, v 47, v 48, v 49, v 50, v 51, v 52, v 53, v 54, v 55, v 56, v 57, v 58, v 59, v 60, v 61, v 62, v 63, v 64, v 65, v 66, v 67, v 68, v 69, v 70, v 71, v 72, v 73, v 74, v 75, v 76, v 77, v 78, v 79, v 80, v 81, v 82, v 83, v 84, v 85, v 86, undef, undef, undef, undef, undef, undef, undef, undef, undef, undef], []⟩ ∧ SB Y 64 (vs8 (tk (nw z key) A A.size).wl) ∧ Mem ⟨w, []⟩ [⟨g1, .cells (av 11 (hF (z : Int) (tk (nw z key) A A.size).ws g2 (tk (nw z key) A A.size).wl.length (tk (nw z key) A A.size).ct)) 49⟩, ⟨g2, Y⟩] w') NN ⟨fun k_ => ([.bool false, undef, undef, undef, undef, undef, undef, undef, undef, undef, undef, undef, undef, undef, undef, undef, undef, undef, undef, undef, undef, undef, undef, undef, undef, undef, undef, undef, undef, undef, undef, undef, undef, undef, undef, undef, undef, undef, undef, undef, undef, undef, undef, undef, undef, undef, undef, undef, undef, undef, undef, undef, undef, undef, undef, undef, undef, undef, undef, undef, undef, undef, undef, undef, undef, undef, undef, undef, undef, undef, undef, undef, undef, undef, undef, undef, undef, undef, undef, undef, undef] : List Value).getD (k_ - 6) undef, strE, Y1, by decide, by kernel_rfl, hY1, M⟩ ?_ ?_
  · intro j a u0 hj hI
    obtain ⟨v, A, Y, hA, rfl, hY, M⟩ := hI
    have hjl : j < len := by omega
    have hl := hll (by omega)
    by_cases k1 : 500 < (Ss j).size
    · skip
      refine wp_seq ?_
      refine wp_seq ?_
      refine rg_lit ?_
      refine pl_val (want_no rfl) (some 32) rfl (.int .i64 (j : Int)) (fun _ => by kernel_rfl) ?_
      refine pl_val (want_no rfl) (some 33) rfl (.slice l len cap) (fun _ => by kernel_rfl) ?_
      refine pl_val (want_no rfl) (some 34) rfl (.int .i64 (len : Int)) (fun _ => by kernel_rfl) ?_
      refine pl_val (want_no rfl) (some 35) rfl (.bool true) (fun w => Eq.trans (b := .ok (.value (.bool (decide ((j : Int) < (len : Int))))) w) (by kernel_rfl) (by rw [decide_eq_true (by omega)])) ?_
      refine pl_val (want_no rfl) (some 36) rfl (.bool true) (fun _ => by kernel_rfl) ?_
      refine pl_val (want_on 4 true rfl 36 rfl (by kernel_rfl)) (some 37) rfl (.int .i64 (j : Int)) (fun _ => by kernel_rfl) ?_
      refine pl_val (want_on 4 true rfl 36 rfl (by kernel_rfl)) (some 38) rfl (.bool true) (fun w => Eq.trans (b := .ok (.value (.bool (decide ((j : Int) < 40)))) w) (by kernel_rfl) (by rw [decide_eq_true (by omega)])) ?_
      refine pl_val (want_no rfl) (some 39) rfl (.bool true) (fun _ => by kernel_rfl) ?_
      refine pl_nil ?_
      refine au_then ?_
      refine wp_cond_true (by kernel_rfl) ?_
      refine wp_skip ?_
      refine au_then ?_
      refine wp_seq ?_
      refine wp_block ?_
      refine wp_seq ?_
      refine wp_seq ?_
      refine rg_lit ?_
      refine pl_val (want_no rfl) (some 42) rfl (.slice l len cap) (fun _ => by kernel_rfl) ?_
      refine pl_val (want_no rfl) (some 43) rfl (.int .i64 (j : Int)) (fun _ => by kernel_rfl) ?_
      refine pl_val (want_no rfl) (some 44) rfl (.pointer (some ⟨b, (o + j), none⟩)) (run_ixO 33 9 Tryd.underlying33 inz9 _ _ rfl l b o len cap hl (by kernel_rfl) .i64 j (by kernel_rfl) hjl) ?_
      refine pl_cell M (want_no rfl) (some 45) rfl 9 _ rfl b (o + j) (by kernel_rfl) (.string (Ss j)) (fun _ => by kernel_rfl) (fun w M => M.oldc (hS j hjl) (by simp)) ?_
      refine pl_val (want_no rfl) (some 46) rfl (.int .i64 ((Ss j).size : Int)) (fun _ => by kernel_rfl) ?_
      refine pl_val (want_no rfl) (some 47) rfl (.bool true) (fun w => Eq.trans (b := .ok (.value (.bool (decide ((500 : Int) < ((Ss j).size : Int))))) w) (by kernel_rfl) (by rw [decide_eq_true (by omega)])) ?_
      refine pl_val (want_no rfl) (some 48) rfl (.bool true) (fun _ => by kernel_rfl) ?_
      refine pl_skip (want_off 6 false rfl 48 rfl (by kernel_rfl)) (some 49) rfl ?_
      refine pl_skip (want_off 6 false rfl 48 rfl (by kernel_rfl)) (some 50) rfl ?_
      refine pl_skip (want_off 6 false rfl 48 rfl (by kernel_rfl)) (some 51) rfl ?_
      refine pl_val (want_no rfl) (some 52) rfl (.bool true) (fun _ => by kernel_rfl) ?_
      refine pl_nil ?_
      refine au_then ?_
      refine wp_cond_true (by kernel_rfl) ?_
      refine wp_seq ?_
      refine rg_lit ?_
      refine pl_call M (want_no rfl) (some 53) rfl 7 #[] (.bool true) (fun _ => by kernel_rfl) (fun w M => c_alive w M.laid) ?_
      intro u2 M
      refine pl_val (want_no rfl) (some 6) rfl (.bool true) (fun _ => by kernel_rfl) ?_
      refine pl_nil ?_
      refine au_then ?_
      refine wp_ret ?_
      refine au_then_ret ?_
      refine au_block_ret ?_
      refine au_then_ret ?_
      refine au_then_ret ?_
      refine au_block_ret ?_
      refine au_then_ret ?_
      exact bodyPost_ret (v := .bool true) (results_tmp1 Tryd.results4 _ _ _ (by kernel_rfl)) (by kernel_rfl) ⟨rfl, below_grown M.old⟩
    · by_cases k2 : 4096 < A.size
      · skip
        refine wp_seq ?_
        refine wp_seq ?_
        refine rg_lit ?_
        refine pl_val (want_no rfl) (some 32) rfl (.int .i64 (j : Int)) (fun _ => by kernel_rfl) ?_
        refine pl_val (want_no rfl) (some 33) rfl (.slice l len cap) (fun _ => by kernel_rfl) ?_
        refine pl_val (want_no rfl) (some 34) rfl (.int .i64 (len : Int)) (fun _ => by kernel_rfl) ?_
        refine pl_val (want_no rfl) (some 35) rfl (.bool true) (fun w => Eq.trans (b := .ok (.value (.bool (decide ((j : Int) < (len : Int))))) w) (by kernel_rfl) (by rw [decide_eq_true (by omega)])) ?_
        refine pl_val (want_no rfl) (some 36) rfl (.bool true) (fun _ => by kernel_rfl) ?_
        refine pl_val (want_on 4 true rfl 36 rfl (by kernel_rfl)) (some 37) rfl (.int .i64 (j : Int)) (fun _ => by kernel_rfl) ?_
        refine pl_val (want_on 4 true rfl 36 rfl (by kernel_rfl)) (some 38) rfl (.bool true) (fun w => Eq.trans (b := .ok (.value (.bool (decide ((j : Int) < 40)))) w) (by kernel_rfl) (by rw [decide_eq_true (by omega)])) ?_
        refine pl_val (want_no rfl) (some 39) rfl (.bool true) (fun _ => by kernel_rfl) ?_
        refine pl_nil ?_
        refine au_then ?_
        refine wp_cond_true (by kernel_rfl) ?_
        refine wp_skip ?_
        refine au_then ?_
        refine wp_seq ?_
        refine wp_block ?_
        refine wp_seq ?_
        refine wp_seq ?_
        refine rg_lit ?_
        refine pl_val (want_no rfl) (some 42) rfl (.slice l len cap) (fun _ => by kernel_rfl) ?_
        refine pl_val (want_no rfl) (some 43) rfl (.int .i64 (j : Int)) (fun _ => by kernel_rfl) ?_
        refine pl_val (want_no rfl) (some 44) rfl (.pointer (some ⟨b, (o + j), none⟩)) (run_ixO 33 9 Tryd.underlying33 inz9 _ _ rfl l b o len cap hl (by kernel_rfl) .i64 j (by kernel_rfl) hjl) ?_
        refine pl_cell M (want_no rfl) (some 45) rfl 9 _ rfl b (o + j) (by kernel_rfl) (.string (Ss j)) (fun _ => by kernel_rfl) (fun w M => M.oldc (hS j hjl) (by simp)) ?_
        refine pl_val (want_no rfl) (some 46) rfl (.int .i64 ((Ss j).size : Int)) (fun _ => by kernel_rfl) ?_
        refine pl_val (want_no rfl) (some 47) rfl (.bool false) (fun w => Eq.trans (b := .ok (.value (.bool (decide ((500 : Int) < ((Ss j).size : Int))))) w) (by kernel_rfl) (by rw [decide_eq_false (by omega)])) ?_
        refine pl_val (want_no rfl) (some 48) rfl (.bool false) (fun _ => by kernel_rfl) ?_
        refine pl_val (want_on 6 false rfl 48 rfl (by kernel_rfl)) (some 49) rfl (.string A) (fun _ => by kernel_rfl) ?_
        refine pl_val (want_on 6 false rfl 48 rfl (by kernel_rfl)) (some 50) rfl (.int .i64 (A.size : Int)) (fun _ => by kernel_rfl) ?_
        refine pl_val (want_on 6 false rfl 48 rfl (by kernel_rfl)) (some 51) rfl (.bool true) (fun w => Eq.trans (b := .ok (.value (.bool (decide ((4096 : Int) < (A.size : Int))))) w) (by kernel_rfl) (by rw [decide_eq_true (by omega)])) ?_
        refine pl_val (want_no rfl) (some 52) rfl (.bool true) (fun _ => by kernel_rfl) ?_
        refine pl_nil ?_
        refine au_then ?_
        refine wp_cond_true (by kernel_rfl) ?_
        refine wp_seq ?_
        refine rg_lit ?_
        refine pl_call M (want_no rfl) (some 53) rfl 7 #[] (.bool true) (fun _ => by kernel_rfl) (fun w M => c_alive w M.laid) ?_
        intro u3 M
        refine pl_val (want_no rfl) (some 6) rfl (.bool true) (fun _ => by kernel_rfl) ?_
        refine pl_nil ?_
        refine au_then ?_
        refine wp_ret ?_
        refine au_then_ret ?_
        refine au_block_ret ?_
        refine au_then_ret ?_
        refine au_then_ret ?_
        refine au_block_ret ?_
        refine au_then_ret ?_
        exact bodyPost_ret (v := .bool true) (results_tmp1 Tryd.results4 _ _ _ (by kernel_rfl)) (by kernel_rfl) ⟨rfl, below_grown M.old⟩
      · by_cases k3 : j % 5 = 0
        · skip
          refine wp_seq ?_
          refine wp_seq ?_
          refine rg_lit ?_
          refine pl_val (want_no rfl) (some 32) rfl (.int .i64 (j : Int)) (fun _ => by kernel_rfl) ?_
          refine pl_val (want_no rfl) (some 33) rfl (.slice l len cap) (fun _ => by kernel_rfl) ?_
          refine pl_val (want_no rfl) (some 34) rfl (.int .i64 (len : Int)) (fun _ => by kernel_rfl) ?_
          refine pl_val (want_no rfl) (some 35) rfl (.bool true) (fun w => Eq.trans (b := .ok (.value (.bool (decide ((j : Int) < (len : Int))))) w) (by kernel_rfl) (by rw [decide_eq_true (by omega)])) ?_
          refine pl_val (want_no rfl) (some 36) rfl (.bool true) (fun _ => by kernel_rfl) ?_
          refine pl_val (want_on 4 true rfl 36 rfl (by kernel_rfl)) (some 37) rfl (.int .i64 (j : Int)) (fun _ => by kernel_rfl) ?_
          refine pl_val (want_on 4 true rfl 36 rfl (by kernel_rfl)) (some 38) rfl (.bool true) (fun w => Eq.trans (b := .ok (.value (.bool (decide ((j : Int) < 40)))) w) (by kernel_rfl) (by rw [decide_eq_true (by omega)])) ?_
          refine pl_val (want_no rfl) (some 39) rfl (.bool true) (fun _ => by kernel_rfl) ?_
          refine pl_nil ?_
          refine au_then ?_
          refine wp_cond_true (by kernel_rfl) ?_
          refine wp_skip ?_
          refine au_then ?_
          refine wp_seq ?_
          refine wp_block ?_
          refine wp_seq ?_
          refine wp_seq ?_
          refine rg_lit ?_
          refine pl_val (want_no rfl) (some 42) rfl (.slice l len cap) (fun _ => by kernel_rfl) ?_
          refine pl_val (want_no rfl) (some 43) rfl (.int .i64 (j : Int)) (fun _ => by kernel_rfl) ?_
          refine pl_val (want_no rfl) (some 44) rfl (.pointer (some ⟨b, (o + j), none⟩)) (run_ixO 33 9 Tryd.underlying33 inz9 _ _ rfl l b o len cap hl (by kernel_rfl) .i64 j (by kernel_rfl) hjl) ?_
          refine pl_cell M (want_no rfl) (some 45) rfl 9 _ rfl b (o + j) (by kernel_rfl) (.string (Ss j)) (fun _ => by kernel_rfl) (fun w M => M.oldc (hS j hjl) (by simp)) ?_
          refine pl_val (want_no rfl) (some 46) rfl (.int .i64 ((Ss j).size : Int)) (fun _ => by kernel_rfl) ?_
          refine pl_val (want_no rfl) (some 47) rfl (.bool false) (fun w => Eq.trans (b := .ok (.value (.bool (decide ((500 : Int) < ((Ss j).size : Int))))) w) (by kernel_rfl) (by rw [decide_eq_false (by omega)])) ?_
          refine pl_val (want_no rfl) (some 48) rfl (.bool false) (fun _ => by kernel_rfl) ?_
          refine pl_val (want_on 6 false rfl 48 rfl (by kernel_rfl)) (some 49) rfl (.string A) (fun _ => by kernel_rfl) ?_
          refine pl_val (want_on 6 false rfl 48 rfl (by kernel_rfl)) (some 50) rfl (.int .i64 (A.size : Int)) (fun _ => by kernel_rfl) ?_
          refine pl_val (want_on 6 false rfl 48 rfl (by kernel_rfl)) (some 51) rfl (.bool false) (fun w => Eq.trans (b := .ok (.value (.bool (decide ((4096 : Int) < (A.size : Int))))) w) (by kernel_rfl) (by rw [decide_eq_false (by omega)])) ?_
          refine pl_val (want_no rfl) (some 52) rfl (.bool false) (fun _ => by kernel_rfl) ?_
          refine pl_nil ?_
          refine au_then ?_
          refine wp_cond_false (by kernel_rfl) ?_
          refine wp_skip ?_
          refine au_then ?_
          refine wp_seq ?_
          refine wp_seq ?_
          refine rg_lit ?_
          refine pl_val (want_no rfl) (some 54) rfl (.pointer (some ⟨g1, 0, none⟩)) (fun _ => by kernel_rfl) ?_
          refine pl_val (want_no rfl) (some 55) rfl (.slice l len cap) (fun _ => by kernel_rfl) ?_
          refine pl_val (want_no rfl) (some 56) rfl (.int .i64 (j : Int)) (fun _ => by kernel_rfl) ?_
          refine pl_val (want_no rfl) (some 57) rfl (.pointer (some ⟨b, (o + j), none⟩)) (run_ixO 33 9 Tryd.underlying33 inz9 _ _ rfl l b o len cap hl (by kernel_rfl) .i64 j (by kernel_rfl) hjl) ?_
          refine pl_cell M (want_no rfl) (some 58) rfl 9 _ rfl b (o + j) (by kernel_rfl) (.string (Ss j)) (fun _ => by kernel_rfl) (fun w M => M.oldc (hS j hjl) (by simp)) ?_
          refine pl_callp2 M (want_no rfl) (some 59) rfl 14 #[.pointer (some ⟨g1, 0, none⟩), .string (Ss j)] (.int .i64 0) 0 1 g1 g2 (.cells (av 11 (hF (z : Int) (tk (nw z key) A A.size).ws g2 (tk (nw z key) A A.size).wl.length (tk (nw z key) A A.size).ct)) 49) Y (.cells (av 11 (hF (z : Int) (tk (tk (nw z key) A A.size) (Ss j) (Ss j).size).ws g2 (tk (tk (nw z key) A A.size) (Ss j) (Ss j).size).wl.length (tk (tk (nw z key) A A.size) (Ss j) (Ss j).size).ct)) 49) (fun Y => SB Y 64 (vs8 (tk (tk (nw z key) A A.size) (Ss j) (Ss j).size).wl)) rfl rfl (fun _ => by kernel_rfl) (fun w M => c_add (tk (nw z key) A A.size) (tk_ok (nw_ok _ _) _ _) z h1 g1 g2 Y (Ss j) w M.laid (M.get 0 rfl) (M.ne0 0 rfl) (M.get 1 rfl) (M.ne0 1 rfl) (nodup_at M.nodup (i := 0) (j := 1) rfl rfl (by decide)) hY) ?_
          intro Y2 u4 hY2 M
          replace M : Mem ⟨w, []⟩ [⟨g1, .cells (av 11 (hF (z : Int) (tk (tk (nw z key) A A.size) (Ss j) (Ss j).size).ws g2 (tk (tk (nw z key) A A.size) (Ss j) (Ss j).size).wl.length (tk (tk (nw z key) A A.size) (Ss j) (Ss j).size).ct)) 49⟩, ⟨g2, Y2⟩] u4 := M
          refine pl_val (want_no rfl) (some 60) rfl (.bool false) (fun _ => by kernel_rfl) ?_
          refine pl_nil ?_
          rw [← tk_all (nw z key) A (Ss j)] at M hY2
          replace M : Mem ⟨w, []⟩ [⟨g1, .cells (av 11 (hF (z : Int) (tk (nw z key) (A ++ Ss j) (A ++ Ss j).size).ws g2 (tk (nw z key) (A ++ Ss j) (A ++ Ss j).size).wl.length (tk (nw z key) (A ++ Ss j) (A ++ Ss j).size).ct)) 49⟩, ⟨g2, Y2⟩] u4 := M
          refine au_then ?_
          refine wp_cond_false (by kernel_rfl) ?_
          refine wp_skip ?_
          refine au_then ?_
          refine wp_seq ?_
          refine rg_lit ?_
          refine pl_val (want_no rfl) (some 61) rfl (.string A) (fun _ => by kernel_rfl) ?_
          refine pl_val (want_no rfl) (some 62) rfl (.slice l len cap) (fun _ => by kernel_rfl) ?_
          refine pl_val (want_no rfl) (some 63) rfl (.int .i64 (j : Int)) (fun _ => by kernel_rfl) ?_
          refine pl_val (want_no rfl) (some 64) rfl (.pointer (some ⟨b, (o + j), none⟩)) (run_ixO 33 9 Tryd.underlying33 inz9 _ _ rfl l b o len cap hl (by kernel_rfl) .i64 j (by kernel_rfl) hjl) ?_
          refine pl_cell M (want_no rfl) (some 65) rfl 9 _ rfl b (o + j) (by kernel_rfl) (.string (Ss j)) (fun _ => by kernel_rfl) (fun w M => M.oldc (hS j hjl) (by simp)) ?_
          refine pl_val (want_no rfl) (some 66) rfl (.string (A ++ Ss j)) (run_cat 9 9 _ _ rfl A (Ss j) (by kernel_rfl) (by kernel_rfl) (by omega)) ?_
          refine pl_val (want_no rfl) (some 9) rfl (.string (A ++ Ss j)) (fun _ => by kernel_rfl) ?_
          refine pl_nil ?_
          refine au_then ?_
          refine wp_seq ?_
          refine rg_lit ?_
          refine pl_val (want_no rfl) (some 68) rfl (.int .i64 (z : Int)) (fun _ => by kernel_rfl) ?_
          refine pl_val (want_no rfl) (some 69) rfl (.string key) (fun _ => by kernel_rfl) ?_
          refine pl_val (want_no rfl) (some 70) rfl (.string (A ++ Ss j)) (fun _ => by kernel_rfl) ?_
          refine pl_call M (want_no rfl) (some 71) rfl 8 #[.int .i64 (z : Int), .string key, .string (A ++ Ss j)] (.tuple #[.string (blV z key (A ++ Ss j)), .int .i64 0]) (fun _ => by kernel_rfl) (fun w M => c_blsum z key (A ++ Ss j) h1 h2 h3 w M.laid) ?_
          intro u5 M
          refine pl_val (want_no rfl) (some 67) rfl (.tuple #[.string (blV z key (A ++ Ss j)), .int .i64 0]) (fun _ => by kernel_rfl) ?_
          refine pl_val (want_no rfl) (some 72) rfl (.string (blV z key (A ++ Ss j))) (fun _ => by kernel_rfl) ?_
          refine pl_val (want_no rfl) (some 73) rfl (.int .i64 0) (fun _ => by kernel_rfl) ?_
          refine pl_val (want_no rfl) (some 11) rfl (.string (blV z key (A ++ Ss j))) (fun _ => by kernel_rfl) ?_
          refine pl_val (want_no rfl) (some 12) rfl (.int .i64 0) (fun _ => by kernel_rfl) ?_
          refine pl_nil ?_
          refine au_then ?_
          refine wp_seq ?_
          refine rg_lit ?_
          refine pl_val (want_no rfl) (some 74) rfl (.int .i64 (j : Int)) (fun _ => by kernel_rfl) ?_
          refine pl_val (want_no rfl) (some 75) rfl (.int .i64 ((j % 5 : Nat) : Int)) (fun w => Eq.trans (b := .ok (.value (.int .i64 (Int.tmod (j : Int) 5))) w) (by kernel_rfl) (by rw [rem5 j])) ?_
          refine pl_val (want_no rfl) (some 76) rfl (.bool true) (fun w => Eq.trans (b := .ok (.value (.bool (decide (((j % 5 : Nat) : Int) = 0)))) w) (by kernel_rfl) (by rw [decide_eq_true (by omega)])) ?_
          refine pl_val (want_no rfl) (some 77) rfl (.bool true) (fun _ => by kernel_rfl) ?_
          refine pl_val (want_on 3 true rfl 77 rfl (by kernel_rfl)) (some 78) rfl (.pointer (some ⟨g1, 0, none⟩)) (fun _ => by kernel_rfl) ?_
          refine pl_call M (want_on 3 true rfl 77 rfl (by kernel_rfl)) (some 79) rfl 15 #[.pointer (some ⟨g1, 0, none⟩)] (.string (blV z key (A ++ Ss j))) (fun _ => by kernel_rfl) (fun w M => (by have h := c_sum (tk (nw z key) (A ++ Ss j) (A ++ Ss j).size) (tk_ok (nw_ok _ _) _ _) z h1 h2 g1 g2 Y2 w M.laid (M.get 0 rfl) (M.ne0 0 rfl) (M.get 1 rfl) (M.ne0 1 rfl) (nodup_at M.nodup (i := 0) (j := 1) rfl rfl (by decide)) hY2; exact h)) ?_
          intro u6 M
          refine pl_val (want_on 3 true rfl 77 rfl (by kernel_rfl)) (some 80) rfl (.string (blV z key (A ++ Ss j))) (fun _ => by kernel_rfl) ?_
          refine pl_val (want_on 3 true rfl 77 rfl (by kernel_rfl)) (some 81) rfl (.bool false) (fun w => Eq.trans (b := .ok (.value (.bool (!((blV z key (A ++ Ss j)).toList == (blV z key (A ++ Ss j)).toList)))) w) (by kernel_rfl) (by rw [beq_self_eq_true]; rfl)) ?_
          refine pl_val (want_on 3 true rfl 77 rfl (by kernel_rfl)) (some 82) rfl (.bool false) (fun _ => by kernel_rfl) ?_
          refine pl_val (want_on 8 false rfl 82 rfl (by kernel_rfl)) (some 83) rfl (.int .i64 0) (fun _ => by kernel_rfl) ?_
          refine pl_val (want_on 8 false rfl 82 rfl (by kernel_rfl)) (some 84) rfl (.bool false) (fun _ => by kernel_rfl) ?_
          refine pl_val (want_on 3 true rfl 77 rfl (by kernel_rfl)) (some 85) rfl (.bool false) (fun _ => by kernel_rfl) ?_
          refine pl_val (want_no rfl) (some 86) rfl (.bool false) (fun _ => by kernel_rfl) ?_
          refine pl_nil ?_
          refine au_then ?_
          refine wp_cond_false (by kernel_rfl) ?_
          refine wp_skip ?_
          refine au_block ?_
          refine au_then ?_
          refine rg_lit ?_
          refine pl_val (want_no rfl) (some 40) rfl (.int .i64 (j : Int)) (fun _ => by kernel_rfl) ?_
          refine pl_val (want_no rfl) (some 41) rfl (.int .i64 ((j + 1 : Nat) : Int)) (fun w => Eq.trans (b := .ok (.value (.int .i64 (IntKind.wrap .i64 ((j : Int) + 1)))) w) (by kernel_rfl) (by rw [wrap64 (by omega) (by omega)]; congr 3)) ?_
          refine pl_val (want_no rfl) (some 10) rfl (.int .i64 ((j + 1 : Nat) : Int)) (fun _ => by kernel_rfl) ?_
          refine pl_nil ?_
          refine au_then ?_
          exact ⟨fun k_ => ([v 6, undef, undef, undef, undef, .string (blV z key (A ++ Ss j)), .int .i64 0, undef, undef, undef, undef, undef, undef, undef, undef, undef, undef, undef, undef, undef, undef, undef, undef, undef, undef, undef, .int .i64 (j : Int), .slice l len cap, .int .i64 (len : Int), .bool true, .bool true, .int .i64 (j : Int), .bool true, .bool true, .int .i64 (j : Int), .int .i64 ((j + 1 : Nat) : Int), .slice l len cap, .int .i64 (j : Int), .pointer (some ⟨b, (o + j), none⟩), .string (Ss j), .int .i64 ((Ss j).size : Int), .bool false, .bool false, .string A, .int .i64 (A.size : Int), .bool false, .bool false, v 53, .pointer (some ⟨g1, 0, none⟩), .slice l len cap, .int .i64 (j : Int), .pointer (some ⟨b, (o + j), none⟩), .string (Ss j), .int .i64 0, .bool false, .string A, .slice l len cap, .int .i64 (j : Int), .pointer (some ⟨b, (o + j), none⟩), .string (Ss j), .string (A ++ Ss j), .tuple #[.string (blV z key (A ++ Ss j)), .int .i64 0], .int .i64 (z : Int), .string key, .string (A ++ Ss j), .tuple #[.string (blV z key (A ++ Ss j)), .int .i64 0], .string (blV z key (A ++ Ss j)), .int .i64 0, .int .i64 (j : Int), .int .i64 ((j % 5 : Nat) : Int), .bool true, .bool true, .pointer (some ⟨g1, 0, none⟩), .string (blV z key (A ++ Ss j)), .string (blV z key (A ++ Ss j)), .bool false, .bool false, .int .i64 0, .bool false, .bool false, .bool false] : List Value).getD (k_ - 6) undef, A ++ Ss j, Y2, by rw [ByteArray.size_append]; omega, by kernel_rfl, hY2, M⟩
        · skip
          refine wp_seq ?_
          refine wp_seq ?_
          refine rg_lit ?_
          refine pl_val (want_no rfl) (some 32) rfl (.int .i64 (j : Int)) (fun _ => by kernel_rfl) ?_
          refine pl_val (want_no rfl) (some 33) rfl (.slice l len cap) (fun _ => by kernel_rfl) ?_
          refine pl_val (want_no rfl) (some 34) rfl (.int .i64 (len : Int)) (fun _ => by kernel_rfl) ?_
          refine pl_val (want_no rfl) (some 35) rfl (.bool true) (fun w => Eq.trans (b := .ok (.value (.bool (decide ((j : Int) < (len : Int))))) w) (by kernel_rfl) (by rw [decide_eq_true (by omega)])) ?_
          refine pl_val (want_no rfl) (some 36) rfl (.bool true) (fun _ => by kernel_rfl) ?_
          refine pl_val (want_on 4 true rfl 36 rfl (by kernel_rfl)) (some 37) rfl (.int .i64 (j : Int)) (fun _ => by kernel_rfl) ?_
          refine pl_val (want_on 4 true rfl 36 rfl (by kernel_rfl)) (some 38) rfl (.bool true) (fun w => Eq.trans (b := .ok (.value (.bool (decide ((j : Int) < 40)))) w) (by kernel_rfl) (by rw [decide_eq_true (by omega)])) ?_
          refine pl_val (want_no rfl) (some 39) rfl (.bool true) (fun _ => by kernel_rfl) ?_
          refine pl_nil ?_
          refine au_then ?_
          refine wp_cond_true (by kernel_rfl) ?_
          refine wp_skip ?_
          refine au_then ?_
          refine wp_seq ?_
          refine wp_block ?_
          refine wp_seq ?_
          refine wp_seq ?_
          refine rg_lit ?_
          refine pl_val (want_no rfl) (some 42) rfl (.slice l len cap) (fun _ => by kernel_rfl) ?_
          refine pl_val (want_no rfl) (some 43) rfl (.int .i64 (j : Int)) (fun _ => by kernel_rfl) ?_
          refine pl_val (want_no rfl) (some 44) rfl (.pointer (some ⟨b, (o + j), none⟩)) (run_ixO 33 9 Tryd.underlying33 inz9 _ _ rfl l b o len cap hl (by kernel_rfl) .i64 j (by kernel_rfl) hjl) ?_
          refine pl_cell M (want_no rfl) (some 45) rfl 9 _ rfl b (o + j) (by kernel_rfl) (.string (Ss j)) (fun _ => by kernel_rfl) (fun w M => M.oldc (hS j hjl) (by simp)) ?_
          refine pl_val (want_no rfl) (some 46) rfl (.int .i64 ((Ss j).size : Int)) (fun _ => by kernel_rfl) ?_
          refine pl_val (want_no rfl) (some 47) rfl (.bool false) (fun w => Eq.trans (b := .ok (.value (.bool (decide ((500 : Int) < ((Ss j).size : Int))))) w) (by kernel_rfl) (by rw [decide_eq_false (by omega)])) ?_
          refine pl_val (want_no rfl) (some 48) rfl (.bool false) (fun _ => by kernel_rfl) ?_
          refine pl_val (want_on 6 false rfl 48 rfl (by kernel_rfl)) (some 49) rfl (.string A) (fun _ => by kernel_rfl) ?_
          refine pl_val (want_on 6 false rfl 48 rfl (by kernel_rfl)) (some 50) rfl (.int .i64 (A.size : Int)) (fun _ => by kernel_rfl) ?_
          refine pl_val (want_on 6 false rfl 48 rfl (by kernel_rfl)) (some 51) rfl (.bool false) (fun w => Eq.trans (b := .ok (.value (.bool (decide ((4096 : Int) < (A.size : Int))))) w) (by kernel_rfl) (by rw [decide_eq_false (by omega)])) ?_
          refine pl_val (want_no rfl) (some 52) rfl (.bool false) (fun _ => by kernel_rfl) ?_
          refine pl_nil ?_
          refine au_then ?_
          refine wp_cond_false (by kernel_rfl) ?_
          refine wp_skip ?_
          refine au_then ?_
          refine wp_seq ?_
          refine wp_seq ?_
          refine rg_lit ?_
          refine pl_val (want_no rfl) (some 54) rfl (.pointer (some ⟨g1, 0, none⟩)) (fun _ => by kernel_rfl) ?_
          refine pl_val (want_no rfl) (some 55) rfl (.slice l len cap) (fun _ => by kernel_rfl) ?_
          refine pl_val (want_no rfl) (some 56) rfl (.int .i64 (j : Int)) (fun _ => by kernel_rfl) ?_
          refine pl_val (want_no rfl) (some 57) rfl (.pointer (some ⟨b, (o + j), none⟩)) (run_ixO 33 9 Tryd.underlying33 inz9 _ _ rfl l b o len cap hl (by kernel_rfl) .i64 j (by kernel_rfl) hjl) ?_
          refine pl_cell M (want_no rfl) (some 58) rfl 9 _ rfl b (o + j) (by kernel_rfl) (.string (Ss j)) (fun _ => by kernel_rfl) (fun w M => M.oldc (hS j hjl) (by simp)) ?_
          refine pl_callp2 M (want_no rfl) (some 59) rfl 14 #[.pointer (some ⟨g1, 0, none⟩), .string (Ss j)] (.int .i64 0) 0 1 g1 g2 (.cells (av 11 (hF (z : Int) (tk (nw z key) A A.size).ws g2 (tk (nw z key) A A.size).wl.length (tk (nw z key) A A.size).ct)) 49) Y (.cells (av 11 (hF (z : Int) (tk (tk (nw z key) A A.size) (Ss j) (Ss j).size).ws g2 (tk (tk (nw z key) A A.size) (Ss j) (Ss j).size).wl.length (tk (tk (nw z key) A A.size) (Ss j) (Ss j).size).ct)) 49) (fun Y => SB Y 64 (vs8 (tk (tk (nw z key) A A.size) (Ss j) (Ss j).size).wl)) rfl rfl (fun _ => by kernel_rfl) (fun w M => c_add (tk (nw z key) A A.size) (tk_ok (nw_ok _ _) _ _) z h1 g1 g2 Y (Ss j) w M.laid (M.get 0 rfl) (M.ne0 0 rfl) (M.get 1 rfl) (M.ne0 1 rfl) (nodup_at M.nodup (i := 0) (j := 1) rfl rfl (by decide)) hY) ?_
          intro Y3 u7 hY3 M
          replace M : Mem ⟨w, []⟩ [⟨g1, .cells (av 11 (hF (z : Int) (tk (tk (nw z key) A A.size) (Ss j) (Ss j).size).ws g2 (tk (tk (nw z key) A A.size) (Ss j) (Ss j).size).wl.length (tk (tk (nw z key) A A.size) (Ss j) (Ss j).size).ct)) 49⟩, ⟨g2, Y3⟩] u7 := M
          refine pl_val (want_no rfl) (some 60) rfl (.bool false) (fun _ => by kernel_rfl) ?_
          refine pl_nil ?_
          rw [← tk_all (nw z key) A (Ss j)] at M hY3
          replace M : Mem ⟨w, []⟩ [⟨g1, .cells (av 11 (hF (z : Int) (tk (nw z key) (A ++ Ss j) (A ++ Ss j).size).ws g2 (tk (nw z key) (A ++ Ss j) (A ++ Ss j).size).wl.length (tk (nw z key) (A ++ Ss j) (A ++ Ss j).size).ct)) 49⟩, ⟨g2, Y3⟩] u7 := M
          refine au_then ?_
          refine wp_cond_false (by kernel_rfl) ?_
          refine wp_skip ?_
          refine au_then ?_
          refine wp_seq ?_
          refine rg_lit ?_
          refine pl_val (want_no rfl) (some 61) rfl (.string A) (fun _ => by kernel_rfl) ?_
          refine pl_val (want_no rfl) (some 62) rfl (.slice l len cap) (fun _ => by kernel_rfl) ?_
          refine pl_val (want_no rfl) (some 63) rfl (.int .i64 (j : Int)) (fun _ => by kernel_rfl) ?_
          refine pl_val (want_no rfl) (some 64) rfl (.pointer (some ⟨b, (o + j), none⟩)) (run_ixO 33 9 Tryd.underlying33 inz9 _ _ rfl l b o len cap hl (by kernel_rfl) .i64 j (by kernel_rfl) hjl) ?_
          refine pl_cell M (want_no rfl) (some 65) rfl 9 _ rfl b (o + j) (by kernel_rfl) (.string (Ss j)) (fun _ => by kernel_rfl) (fun w M => M.oldc (hS j hjl) (by simp)) ?_
          refine pl_val (want_no rfl) (some 66) rfl (.string (A ++ Ss j)) (run_cat 9 9 _ _ rfl A (Ss j) (by kernel_rfl) (by kernel_rfl) (by omega)) ?_
          refine pl_val (want_no rfl) (some 9) rfl (.string (A ++ Ss j)) (fun _ => by kernel_rfl) ?_
          refine pl_nil ?_
          refine au_then ?_
          refine wp_seq ?_
          refine rg_lit ?_
          refine pl_val (want_no rfl) (some 68) rfl (.int .i64 (z : Int)) (fun _ => by kernel_rfl) ?_
          refine pl_val (want_no rfl) (some 69) rfl (.string key) (fun _ => by kernel_rfl) ?_
          refine pl_val (want_no rfl) (some 70) rfl (.string (A ++ Ss j)) (fun _ => by kernel_rfl) ?_
          refine pl_call M (want_no rfl) (some 71) rfl 8 #[.int .i64 (z : Int), .string key, .string (A ++ Ss j)] (.tuple #[.string (blV z key (A ++ Ss j)), .int .i64 0]) (fun _ => by kernel_rfl) (fun w M => c_blsum z key (A ++ Ss j) h1 h2 h3 w M.laid) ?_
          intro u8 M
          refine pl_val (want_no rfl) (some 67) rfl (.tuple #[.string (blV z key (A ++ Ss j)), .int .i64 0]) (fun _ => by kernel_rfl) ?_
          refine pl_val (want_no rfl) (some 72) rfl (.string (blV z key (A ++ Ss j))) (fun _ => by kernel_rfl) ?_
          refine pl_val (want_no rfl) (some 73) rfl (.int .i64 0) (fun _ => by kernel_rfl) ?_
          refine pl_val (want_no rfl) (some 11) rfl (.string (blV z key (A ++ Ss j))) (fun _ => by kernel_rfl) ?_
          refine pl_val (want_no rfl) (some 12) rfl (.int .i64 0) (fun _ => by kernel_rfl) ?_
          refine pl_nil ?_
          refine au_then ?_
          refine wp_seq ?_
          refine rg_lit ?_
          refine pl_val (want_no rfl) (some 74) rfl (.int .i64 (j : Int)) (fun _ => by kernel_rfl) ?_
          refine pl_val (want_no rfl) (some 75) rfl (.int .i64 ((j % 5 : Nat) : Int)) (fun w => Eq.trans (b := .ok (.value (.int .i64 (Int.tmod (j : Int) 5))) w) (by kernel_rfl) (by rw [rem5 j])) ?_
          refine pl_val (want_no rfl) (some 76) rfl (.bool false) (fun w => Eq.trans (b := .ok (.value (.bool (decide (((j % 5 : Nat) : Int) = 0)))) w) (by kernel_rfl) (by rw [decide_eq_false (by omega)])) ?_
          refine pl_val (want_no rfl) (some 77) rfl (.bool false) (fun _ => by kernel_rfl) ?_
          refine pl_skip (want_off 3 true rfl 77 rfl (by kernel_rfl)) (some 78) rfl ?_
          refine pl_skip (want_off 3 true rfl 77 rfl (by kernel_rfl)) (some 79) rfl ?_
          refine pl_skip (want_off 3 true rfl 77 rfl (by kernel_rfl)) (some 80) rfl ?_
          refine pl_skip (want_off 3 true rfl 77 rfl (by kernel_rfl)) (some 81) rfl ?_
          refine pl_skip (want_off 3 true rfl 77 rfl (by kernel_rfl)) (some 82) rfl ?_
          refine pl_skip (want_und 8 false rfl 82 rfl (by kernel_rfl)) (some 83) rfl ?_
          refine pl_skip (want_und 8 false rfl 82 rfl (by kernel_rfl)) (some 84) rfl ?_
          refine pl_skip (want_off 3 true rfl 77 rfl (by kernel_rfl)) (some 85) rfl ?_
          refine pl_val (want_no rfl) (some 86) rfl (.bool false) (fun _ => by kernel_rfl) ?_
          refine pl_nil ?_
          refine au_then ?_
          refine wp_cond_false (by kernel_rfl) ?_
          refine wp_skip ?_
          refine au_block ?_
          refine au_then ?_
          refine rg_lit ?_
          refine pl_val (want_no rfl) (some 40) rfl (.int .i64 (j : Int)) (fun _ => by kernel_rfl) ?_
          refine pl_val (want_no rfl) (some 41) rfl (.int .i64 ((j + 1 : Nat) : Int)) (fun w => Eq.trans (b := .ok (.value (.int .i64 (IntKind.wrap .i64 ((j : Int) + 1)))) w) (by kernel_rfl) (by rw [wrap64 (by omega) (by omega)]; congr 3)) ?_
          refine pl_val (want_no rfl) (some 10) rfl (.int .i64 ((j + 1 : Nat) : Int)) (fun _ => by kernel_rfl) ?_
          refine pl_nil ?_
          refine au_then ?_
          exact ⟨fun k_ => ([v 6, undef, undef, undef, undef, .string (blV z key (A ++ Ss j)), .int .i64 0, undef, undef, undef, undef, undef, undef, undef, undef, undef, undef, undef, undef, undef, undef, undef, undef, undef, undef, undef, .int .i64 (j : Int), .slice l len cap, .int .i64 (len : Int), .bool true, .bool true, .int .i64 (j : Int), .bool true, .bool true, .int .i64 (j : Int), .int .i64 ((j + 1 : Nat) : Int), .slice l len cap, .int .i64 (j : Int), .pointer (some ⟨b, (o + j), none⟩), .string (Ss j), .int .i64 ((Ss j).size : Int), .bool false, .bool false, .string A, .int .i64 (A.size : Int), .bool false, .bool false, v 53, .pointer (some ⟨g1, 0, none⟩), .slice l len cap, .int .i64 (j : Int), .pointer (some ⟨b, (o + j), none⟩), .string (Ss j), .int .i64 0, .bool false, .string A, .slice l len cap, .int .i64 (j : Int), .pointer (some ⟨b, (o + j), none⟩), .string (Ss j), .string (A ++ Ss j), .tuple #[.string (blV z key (A ++ Ss j)), .int .i64 0], .int .i64 (z : Int), .string key, .string (A ++ Ss j), .tuple #[.string (blV z key (A ++ Ss j)), .int .i64 0], .string (blV z key (A ++ Ss j)), .int .i64 0, .int .i64 (j : Int), .int .i64 ((j % 5 : Nat) : Int), .bool false, .bool false, undef, undef, undef, undef, undef, undef, undef, undef, .bool false] : List Value).getD (k_ - 6) undef, A ++ Ss j, Y3, by rw [ByteArray.size_append]; omega, by kernel_rfl, hY3, M⟩
  · intro a u0 hI
    obtain ⟨v, A, Y, hA, rfl, hY, M⟩ := hI
    by_cases k4 : len ≤ 40
    · skip
      refine wp_seq ?_
      refine wp_seq ?_
      refine rg_lit ?_
      refine pl_val (want_no rfl) (some 32) rfl (.int .i64 (NN : Int)) (fun _ => by kernel_rfl) ?_
      refine pl_val (want_no rfl) (some 33) rfl (.slice l len cap) (fun _ => by kernel_rfl) ?_
      refine pl_val (want_no rfl) (some 34) rfl (.int .i64 (len : Int)) (fun _ => by kernel_rfl) ?_
      refine pl_val (want_no rfl) (some 35) rfl (.bool false) (fun w => Eq.trans (b := .ok (.value (.bool (decide ((NN : Int) < (len : Int))))) w) (by kernel_rfl) (by rw [decide_eq_false (by omega)])) ?_
      refine pl_val (want_no rfl) (some 36) rfl (.bool false) (fun _ => by kernel_rfl) ?_
      refine pl_skip (want_off 4 true rfl 36 rfl (by kernel_rfl)) (some 37) rfl ?_
      refine pl_skip (want_off 4 true rfl 36 rfl (by kernel_rfl)) (some 38) rfl ?_
      refine pl_val (want_no rfl) (some 39) rfl (.bool false) (fun _ => by kernel_rfl) ?_
      refine pl_nil ?_
      refine au_then ?_
      refine wp_cond_false (by kernel_rfl) ?_
      refine wp_exit ?_
      refine au_then_exit ?_
      refine au_then_exit ?_
      refine au_block_exit ?_
      refine au_then ?_
      refine wp_seq ?_
      refine rg_lit ?_
      refine pl_val (want_no rfl) (some 87) rfl (.pointer (some ⟨g1, 0, none⟩)) (fun _ => by kernel_rfl) ?_
      refine pl_call M (want_no rfl) (some 88) rfl 15 #[.pointer (some ⟨g1, 0, none⟩)] (.string (blV z key A)) (fun _ => by kernel_rfl) (fun w M => (by have h := c_sum (tk (nw z key) A A.size) (tk_ok (nw_ok _ _) _ _) z h1 h2 g1 g2 Y w M.laid (M.get 0 rfl) (M.ne0 0 rfl) (M.get 1 rfl) (M.ne0 1 rfl) (nodup_at M.nodup (i := 0) (j := 1) rfl rfl (by decide)) hY; exact h)) ?_
      intro u9 M
      refine pl_val (want_no rfl) (some 89) rfl (.int .i64 (z : Int)) (fun _ => by kernel_rfl) ?_
      refine pl_val (want_no rfl) (some 90) rfl (.string key) (fun _ => by kernel_rfl) ?_
      refine pl_val (want_no rfl) (some 91) rfl (.string A) (fun _ => by kernel_rfl) ?_
      refine pl_call M (want_no rfl) (some 92) rfl 11 #[.int .i64 (z : Int), .string key, .string A] (.string (docS z key A)) (fun _ => by kernel_rfl) (fun w M => d_sum z h1 h2 key A (by omega) h3 w M.laid) ?_
      intro u10 M
      refine pl_val (want_no rfl) (some 93) rfl (.bool true) (fun w => Eq.trans (b := .ok (.value (.bool ((blV z key A).toList == (docS z key A).toList))) w) (by kernel_rfl) (by rw [doc_eq z h2 key A (by omega) h3, beq_self_eq_true])) ?_
      refine pl_val (want_no rfl) (some 94) rfl (.bool true) (fun _ => by kernel_rfl) ?_
      refine pl_call M (want_on 7 true rfl 94 rfl (by kernel_rfl)) (some 95) rfl 7 #[] (.bool true) (fun _ => by kernel_rfl) (fun w M => c_alive w M.laid) ?_
      intro u11 M
      refine pl_val (want_no rfl) (some 96) rfl (.bool true) (fun _ => by kernel_rfl) ?_
      refine pl_val (want_no rfl) (some 6) rfl (.bool true) (fun _ => by kernel_rfl) ?_
      refine pl_nil ?_
      refine au_then ?_
      refine wp_ret ?_
      exact bodyPost_ret (v := .bool true) (results_tmp1 Tryd.results4 _ _ _ (by kernel_rfl)) (by kernel_rfl) ⟨rfl, below_grown M.old⟩
    · skip
      refine wp_seq ?_
      refine wp_seq ?_
      refine rg_lit ?_
      refine pl_val (want_no rfl) (some 32) rfl (.int .i64 (NN : Int)) (fun _ => by kernel_rfl) ?_
      refine pl_val (want_no rfl) (some 33) rfl (.slice l len cap) (fun _ => by kernel_rfl) ?_
      refine pl_val (want_no rfl) (some 34) rfl (.int .i64 (len : Int)) (fun _ => by kernel_rfl) ?_
      refine pl_val (want_no rfl) (some 35) rfl (.bool true) (fun w => Eq.trans (b := .ok (.value (.bool (decide ((NN : Int) < (len : Int))))) w) (by kernel_rfl) (by rw [decide_eq_true (by omega)])) ?_
      refine pl_val (want_no rfl) (some 36) rfl (.bool true) (fun _ => by kernel_rfl) ?_
      refine pl_val (want_on 4 true rfl 36 rfl (by kernel_rfl)) (some 37) rfl (.int .i64 (NN : Int)) (fun _ => by kernel_rfl) ?_
      refine pl_val (want_on 4 true rfl 36 rfl (by kernel_rfl)) (some 38) rfl (.bool false) (fun w => Eq.trans (b := .ok (.value (.bool (decide ((NN : Int) < 40)))) w) (by kernel_rfl) (by rw [decide_eq_false (by omega)])) ?_
      refine pl_val (want_no rfl) (some 39) rfl (.bool false) (fun _ => by kernel_rfl) ?_
      refine pl_nil ?_
      refine au_then ?_
      refine wp_cond_false (by kernel_rfl) ?_
      refine wp_exit ?_
      refine au_then_exit ?_
      refine au_then_exit ?_
      refine au_block_exit ?_
      refine au_then ?_
      refine wp_seq ?_
      refine rg_lit ?_
      refine pl_val (want_no rfl) (some 87) rfl (.pointer (some ⟨g1, 0, none⟩)) (fun _ => by kernel_rfl) ?_
      refine pl_call M (want_no rfl) (some 88) rfl 15 #[.pointer (some ⟨g1, 0, none⟩)] (.string (blV z key A)) (fun _ => by kernel_rfl) (fun w M => (by have h := c_sum (tk (nw z key) A A.size) (tk_ok (nw_ok _ _) _ _) z h1 h2 g1 g2 Y w M.laid (M.get 0 rfl) (M.ne0 0 rfl) (M.get 1 rfl) (M.ne0 1 rfl) (nodup_at M.nodup (i := 0) (j := 1) rfl rfl (by decide)) hY; exact h)) ?_
      intro u12 M
      refine pl_val (want_no rfl) (some 89) rfl (.int .i64 (z : Int)) (fun _ => by kernel_rfl) ?_
      refine pl_val (want_no rfl) (some 90) rfl (.string key) (fun _ => by kernel_rfl) ?_
      refine pl_val (want_no rfl) (some 91) rfl (.string A) (fun _ => by kernel_rfl) ?_
      refine pl_call M (want_no rfl) (some 92) rfl 11 #[.int .i64 (z : Int), .string key, .string A] (.string (docS z key A)) (fun _ => by kernel_rfl) (fun w M => d_sum z h1 h2 key A (by omega) h3 w M.laid) ?_
      intro u13 M
      refine pl_val (want_no rfl) (some 93) rfl (.bool true) (fun w => Eq.trans (b := .ok (.value (.bool ((blV z key A).toList == (docS z key A).toList))) w) (by kernel_rfl) (by rw [doc_eq z h2 key A (by omega) h3, beq_self_eq_true])) ?_
      refine pl_val (want_no rfl) (some 94) rfl (.bool true) (fun _ => by kernel_rfl) ?_
      refine pl_call M (want_on 7 true rfl 94 rfl (by kernel_rfl)) (some 95) rfl 7 #[] (.bool true) (fun _ => by kernel_rfl) (fun w M => c_alive w M.laid) ?_
      intro u14 M
      refine pl_val (want_no rfl) (some 96) rfl (.bool true) (fun _ => by kernel_rfl) ?_
      refine pl_val (want_no rfl) (some 6) rfl (.bool true) (fun _ => by kernel_rfl) ?_
      refine pl_nil ?_
      refine au_then ?_
      refine wp_ret ?_
      exact bodyPost_ret (v := .bool true) (results_tmp1 Tryd.results4 _ _ _ (by kernel_rfl)) (by kernel_rfl) ⟨rfl, below_grown M.old⟩

theorem c_blakepieces (sz : Int) (key : ByteArray) (l : Option Addr) (b o len cap : Nat) (Ss : Nat → ByteArray) (w : World) (hL : Laid w) (hll : 0 < len → l = some ⟨b, o, none⟩) (hS : ∀ j, j < len → w.cell? ⟨b, o + j, none⟩ = some (.string (Ss j))) : Calls Tryd.prog 4 #[.int .i64 sz, .string key, .slice l len cap] w fun r w' => r = .returned (.bool true) ∧ Below w.heap.size w w' := by
  by_cases h1 : 4096 < key.size
  · exact bpA sz key l len cap h1 w hL
  · by_cases hm : may sz key
    · obtain ⟨m1, m2, m3⟩ := hm
      obtain ⟨z, rfl⟩ : ∃ z : Nat, sz = (z : Int) := ⟨sz.toNat, by omega⟩
      exact bpC z (by omega) (by omega) key m3 l b o len cap Ss w hL hll hS
    · exact bpB sz key l len cap h1 hm w hL

end Go.Proofs.YtnglfpekdedgfaaDoor
