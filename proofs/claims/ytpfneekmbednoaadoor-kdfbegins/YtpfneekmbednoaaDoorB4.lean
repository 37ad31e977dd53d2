/- Hashes are made, added to, asked for their sums: the walks of New, Add, Sum, blake.Sum and Of. -/
import Derived.Test.YtpfneekmbednoaaDoorB3
import Derived.Test.YtpfneekmbednoaaDoorRep
namespace Go.Proofs.YtpfneekmbednoaaDoor
open Go.RowKit

theorem pl_calln2 {P : Program} {ops : Array Oper} {rest : List Oper} {o : Oper} {a : Act} {w : World} {c : Ctx} {L : List Blk} {Q : Exit → Act → World → Prop} (M : Mem c L w) (hw : Region.wanted o (yielded ops a.tmps) = true) (d : Option Tmp) (hd : o.dst = d) (f : FuncId) (args : Array Value) (v : Nat → Value) (Zf : Nat → Obj) (R : Obj → Prop) (hrun : ∀ w, (execOp a.eval o).run P w = .ok (.enter f args) w)
    (hc : ∀ w, Mem c L w → Calls P f args w fun e w' => ∃ g k Y, e = .returned (v g) ∧ w.heap.size ≤ g ∧ w.heap.size ≤ k ∧ g ≠ k ∧ w'.heap[g]? = some (Zf k) ∧ w'.heap[k]? = some Y ∧ R Y ∧ Below w.heap.size w w') (h : ∀ g k Y w', R Y → Mem c (L ++ [⟨g, Zf k⟩, ⟨k, Y⟩]) w' → PL P ops Q rest (a.put d (v g)) w') : PL P ops Q (o :: rest) a w :=
  pl_callq hw d hd f args hrun ((hc w M).mono fun _ w' ⟨g, k, Y, he, h1, h2, h3, h4, h5, h6, hb⟩ => ⟨v g, he, h g k Y w' h6 (M.news hb (by simpa using ⟨h4, h5⟩) (by simpa using ⟨h1, h2⟩) (by simpa using h3))⟩)
theorem run_cat {P : Program} {a : Act} {o : Oper} (t rt : TypeId) (x y : Operand) (ho : o.op = .binOp .add t x y rt) (s u : ByteArray) (hx : a.eval x = .string s) (hy : a.eval y = .string u) (hb : s.size + u.size ≤ 9223372036854775807) (w : World) :
    (execOp a.eval o).run P w = .ok (.value (.string (s ++ u))) w := by
  have h := run_string_add_sum (P := P) (w := w) s u hb
  unfold execOp
  simp [ho, hx, hy, eqGuard, binOp, h]
theorem zs_size (c : Nat) : (zs c).size = c := by simp [zs, ByteArray.size]
theorem sb_new : SB (.cells (av 64 (w8 fun _ => 0)) 5) 64 (vs8 []) := ⟨_, 5, (0, 0), rfl, by simp [vs8], by rw [av_size]; exact Nat.le_refl _, fun i hi => by simp [vs8] at hi, fun i _ => by simp⟩
theorem key_ne (k : ByteArray) (h : k.size ≠ 0) : (k.toList == (⟨#[]⟩ : ByteArray).toList) = false := by
  have hs : k.size = k.data.size := rfl
  rw [ByteArray.toList_eq, ByteArray.toList_eq, beq_eq_false_iff_ne]
  intro e
  have := congrArg List.length e
  simp at this
  exact h (by rw [hs, this]; rfl)
theorem key_e (k : ByteArray) (h : k.size = 0) : k = ⟨#[]⟩ := by
  have hs : k.size = k.data.size := rfl
  apply ByteArray.ext
  exact Array.eq_empty_of_size_eq_zero (by omega)
theorem below_same {w w' : World} {g k : Nat} {Z Y : Obj} (h : Grw w w' [g, k]) (h1 : w.heap[g]? = some Z) (h2 : w'.heap[g]? = some Z) (h3 : w.heap[k]? = some Y) (h4 : w'.heap[k]? = some Y) : Below w.heap.size w w' := ⟨h.os, h.tape, h.output, h.size, fun j hj => by
  by_cases e : j = g
  · subst e
    rw [h1, h2]
  · by_cases e2 : j = k
    · subst e2
      rw [h3, h4]
    · exact h.block j hj (by simp [e, e2])⟩

/-- A hash that has no bytes: without its key, and with it. -/
def hs0 (z kl : Nat) : HS := ⟨upd HB 0 (vx (HB 0) (vx (vx 16842752 (vl (cv .u32 (kl : Int)) 8)) (cv .u32 (z : Int)))), [], 0⟩
def nw (z : Nat) (key : ByteArray) : HS := if key.size = 0 then hs0 z key.size else tk (hs0 z key.size) (key ++ zs (64 - key.size)) (key ++ zs (64 - key.size)).size
theorem hs0_ok (z kl : Nat) : (hs0 z kl).ok := ⟨by simp [hs0], by simp [hs0]⟩
theorem nw_ok (z : Nat) (key : ByteArray) : (nw z key).ok := by
  unfold nw
  split
  · exact hs0_ok _ _
  · exact tk_ok (hs0_ok _ _) _ _
def sumW (H : HS) : Nat → Int := mixV H.ws (lf H.wl) H.wl.length (ua H.ct (cv .u64 (H.wl.length : Int))) true
def sumV (z : Nat) (H : HS) : ByteArray := (bs (loI (sumW H) 8)).extract 0 z
def blV (z : Nat) (key s : ByteArray) : ByteArray := sumV z (tk (nw z key) s s.size)

set_option maxRecDepth 100000 in
set_option maxHeartbeats 4000000 in
theorem c_neweA (sz : Int) (key : ByteArray) (h : sz < 1) (w : World) (hL : Laid w)  :
    Calls Tryd.prog 29 #[.int .i64 sz, .string key] w fun r w' => r = .returned (.tuple #[.pointer none, .int .i64 2]) ∧ Below w.heap.size w w' := by
  go_enter Tryd.func29, Tryd.ntmps29
  have M := Mem.start hL
  refine wp_seq ?_
  refine rg_lit ?_
  refine pl_val (want_no rfl) (some 4) rfl (.pointer none) (fun _ => by kernel_rfl) ?_
  refine pl_val (want_no rfl) (some 5) rfl (.int .i64 0) (fun _ => by kernel_rfl) ?_
  refine pl_nil ?_
  refine au_then ?_
  refine wp_seq ?_
  refine wp_seq ?_
  refine rg_lit ?_
  refine pl_val (want_no rfl) (some 7) rfl (.int .i64 sz) (fun _ => by kernel_rfl) ?_
  refine pl_val (want_no rfl) (some 8) rfl (.bool true) (fun w => Eq.trans (b := .ok (.value (.bool (decide (sz < 1)))) w) (by kernel_rfl) (by rw [decide_eq_true (by omega)])) ?_
  refine pl_val (want_no rfl) (some 9) rfl (.bool true) (fun _ => by kernel_rfl) ?_
  refine pl_skip (want_off 2 false rfl 9 rfl (by kernel_rfl)) (some 10) rfl ?_
  refine pl_skip (want_off 2 false rfl 9 rfl (by kernel_rfl)) (some 11) rfl ?_
  refine pl_val (want_no rfl) (some 12) rfl (.bool true) (fun _ => by kernel_rfl) ?_
  refine pl_val (want_no rfl) (some 13) rfl (.bool true) (fun _ => by kernel_rfl) ?_
  refine pl_skip (want_off 6 false rfl 13 rfl (by kernel_rfl)) (some 14) rfl ?_
  refine pl_skip (want_off 6 false rfl 13 rfl (by kernel_rfl)) (some 15) rfl ?_
  refine pl_skip (want_off 6 false rfl 13 rfl (by kernel_rfl)) (some 16) rfl ?_
  refine pl_val (want_no rfl) (some 17) rfl (.bool true) (fun _ => by kernel_rfl) ?_
  refine pl_nil ?_
  refine au_then ?_
  refine wp_cond_true (by kernel_rfl) ?_
  refine wp_seq ?_
  refine rg_lit ?_
  refine pl_val (want_no rfl) (some 4) rfl (.pointer none) (fun _ => by kernel_rfl) ?_
  refine pl_val (want_no rfl) (some 5) rfl (.int .i64 2) (fun _ => by kernel_rfl) ?_
  refine pl_nil ?_
  refine au_then ?_
  refine wp_ret ?_
  refine au_then_ret ?_
  exact bodyPost_ret (v := .tuple #[.pointer none, .int .i64 2]) (results_tmp2 Tryd.results29 _ _ _ _ (by kernel_rfl) (by kernel_rfl)) (by kernel_rfl) ⟨rfl, below_grown M.old⟩

set_option maxRecDepth 100000 in
set_option maxHeartbeats 4000000 in
theorem c_neweB (sz : Int) (key : ByteArray) (h1 : ¬ sz < 1) (h : 32 < sz) (w : World) (hL : Laid w)  :
    Calls Tryd.prog 29 #[.int .i64 sz, .string key] w fun r w' => r = .returned (.tuple #[.pointer none, .int .i64 2]) ∧ Below w.heap.size w w' := by
  go_enter Tryd.func29, Tryd.ntmps29
  have M := Mem.start hL
  refine wp_seq ?_
  refine rg_lit ?_
  refine pl_val (want_no rfl) (some 4) rfl (.pointer none) (fun _ => by kernel_rfl) ?_
  refine pl_val (want_no rfl) (some 5) rfl (.int .i64 0) (fun _ => by kernel_rfl) ?_
  refine pl_nil ?_
  refine au_then ?_
  refine wp_seq ?_
  refine wp_seq ?_
  refine rg_lit ?_
  refine pl_val (want_no rfl) (some 7) rfl (.int .i64 sz) (fun _ => by kernel_rfl) ?_
  refine pl_val (want_no rfl) (some 8) rfl (.bool false) (fun w => Eq.trans (b := .ok (.value (.bool (decide (sz < 1)))) w) (by kernel_rfl) (by rw [decide_eq_false (by omega)])) ?_
  refine pl_val (want_no rfl) (some 9) rfl (.bool false) (fun _ => by kernel_rfl) ?_
  refine pl_val (want_on 2 false rfl 9 rfl (by kernel_rfl)) (some 10) rfl (.int .i64 sz) (fun _ => by kernel_rfl) ?_
  refine pl_val (want_on 2 false rfl 9 rfl (by kernel_rfl)) (some 11) rfl (.bool true) (fun w => Eq.trans (b := .ok (.value (.bool (decide ((32 : Int) < sz)))) w) (by kernel_rfl) (by rw [decide_eq_true (by omega)])) ?_
  refine pl_val (want_no rfl) (some 12) rfl (.bool true) (fun _ => by kernel_rfl) ?_
  refine pl_val (want_no rfl) (some 13) rfl (.bool true) (fun _ => by kernel_rfl) ?_
  refine pl_skip (want_off 6 false rfl 13 rfl (by kernel_rfl)) (some 14) rfl ?_
  refine pl_skip (want_off 6 false rfl 13 rfl (by kernel_rfl)) (some 15) rfl ?_
  refine pl_skip (want_off 6 false rfl 13 rfl (by kernel_rfl)) (some 16) rfl ?_
  refine pl_val (want_no rfl) (some 17) rfl (.bool true) (fun _ => by kernel_rfl) ?_
  refine pl_nil ?_
  refine au_then ?_
  refine wp_cond_true (by kernel_rfl) ?_
  refine wp_seq ?_
  refine rg_lit ?_
  refine pl_val (want_no rfl) (some 4) rfl (.pointer none) (fun _ => by kernel_rfl) ?_
  refine pl_val (want_no rfl) (some 5) rfl (.int .i64 2) (fun _ => by kernel_rfl) ?_
  refine pl_nil ?_
  refine au_then ?_
  refine wp_ret ?_
  refine au_then_ret ?_
  exact bodyPost_ret (v := .tuple #[.pointer none, .int .i64 2]) (results_tmp2 Tryd.results29 _ _ _ _ (by kernel_rfl) (by kernel_rfl)) (by kernel_rfl) ⟨rfl, below_grown M.old⟩

set_option maxRecDepth 100000 in
set_option maxHeartbeats 4000000 in
theorem c_neweC (sz : Int) (key : ByteArray) (h1 : ¬ sz < 1) (h2 : ¬ 32 < sz) (h : 32 < key.size) (w : World) (hL : Laid w)  :
    Calls Tryd.prog 29 #[.int .i64 sz, .string key] w fun r w' => r = .returned (.tuple #[.pointer none, .int .i64 2]) ∧ Below w.heap.size w w' := by
  go_enter Tryd.func29, Tryd.ntmps29
  have M := Mem.start hL
  refine wp_seq ?_
  refine rg_lit ?_
  refine pl_val (want_no rfl) (some 4) rfl (.pointer none) (fun _ => by kernel_rfl) ?_
  refine pl_val (want_no rfl) (some 5) rfl (.int .i64 0) (fun _ => by kernel_rfl) ?_
  refine pl_nil ?_
  refine au_then ?_
  refine wp_seq ?_
  refine wp_seq ?_
  refine rg_lit ?_
  refine pl_val (want_no rfl) (some 7) rfl (.int .i64 sz) (fun _ => by kernel_rfl) ?_
  refine pl_val (want_no rfl) (some 8) rfl (.bool false) (fun w => Eq.trans (b := .ok (.value (.bool (decide (sz < 1)))) w) (by kernel_rfl) (by rw [decide_eq_false (by omega)])) ?_
  refine pl_val (want_no rfl) (some 9) rfl (.bool false) (fun _ => by kernel_rfl) ?_
  refine pl_val (want_on 2 false rfl 9 rfl (by kernel_rfl)) (some 10) rfl (.int .i64 sz) (fun _ => by kernel_rfl) ?_
  refine pl_val (want_on 2 false rfl 9 rfl (by kernel_rfl)) (some 11) rfl (.bool false) (fun w => Eq.trans (b := .ok (.value (.bool (decide ((32 : Int) < sz)))) w) (by kernel_rfl) (by rw [decide_eq_false (by omega)])) ?_
  refine pl_val (want_no rfl) (some 12) rfl (.bool false) (fun _ => by kernel_rfl) ?_
  refine pl_val (want_no rfl) (some 13) rfl (.bool false) (fun _ => by kernel_rfl) ?_
  refine pl_val (want_on 6 false rfl 13 rfl (by kernel_rfl)) (some 14) rfl (.string key) (fun _ => by kernel_rfl) ?_
  refine pl_val (want_on 6 false rfl 13 rfl (by kernel_rfl)) (some 15) rfl (.int .i64 (key.size : Int)) (fun _ => by kernel_rfl) ?_
  refine pl_val (want_on 6 false rfl 13 rfl (by kernel_rfl)) (some 16) rfl (.bool true) (fun w => Eq.trans (b := .ok (.value (.bool (decide ((32 : Int) < (key.size : Int))))) w) (by kernel_rfl) (by rw [decide_eq_true (by omega)])) ?_
  refine pl_val (want_no rfl) (some 17) rfl (.bool true) (fun _ => by kernel_rfl) ?_
  refine pl_nil ?_
  refine au_then ?_
  refine wp_cond_true (by kernel_rfl) ?_
  refine wp_seq ?_
  refine rg_lit ?_
  refine pl_val (want_no rfl) (some 4) rfl (.pointer none) (fun _ => by kernel_rfl) ?_
  refine pl_val (want_no rfl) (some 5) rfl (.int .i64 2) (fun _ => by kernel_rfl) ?_
  refine pl_nil ?_
  refine au_then ?_
  refine wp_ret ?_
  refine au_then_ret ?_
  exact bodyPost_ret (v := .tuple #[.pointer none, .int .i64 2]) (results_tmp2 Tryd.results29 _ _ _ _ (by kernel_rfl) (by kernel_rfl)) (by kernel_rfl) ⟨rfl, below_grown M.old⟩

/-- The document's May. -/
def may (sz : Int) (key : ByteArray) : Prop := 1 ≤ sz ∧ sz ≤ 32 ∧ key.size ≤ 32
theorem c_newe (sz : Int) (key : ByteArray) (h : ¬ may sz key) (w : World) (hL : Laid w) : Calls Tryd.prog 29 #[.int .i64 sz, .string key] w fun r w' => r = .returned (.tuple #[.pointer none, .int .i64 2]) ∧ Below w.heap.size w w' := by
  unfold may at h
  by_cases h1 : sz < 1
  · exact c_neweA sz key h1 w hL
  · by_cases h2 : 32 < sz
    · exact c_neweB sz key h1 h2 w hL
    · exact c_neweC sz key h1 h2 (by omega) w hL

set_option maxRecDepth 100000 in
set_option maxHeartbeats 4000000 in
theorem c_new0 (z : Nat) (key : ByteArray) (h1 : 1 ≤ z) (h2 : z ≤ 32) (_h3 : key.size ≤ 32) (hz : key.size = 0) (w : World) (hL : Laid w)  :
    Calls Tryd.prog 29 #[.int .i64 (z : Int), .string key] w fun r w' => ∃ g gw Y, r = .returned (.tuple #[.pointer (some ⟨g, 0, none⟩), .int .i64 0]) ∧ w.heap.size ≤ g ∧ w.heap.size ≤ gw ∧ g ≠ gw ∧ w'.heap[g]? = some (.cells (av 11 (hF (z : Int) (nw z key).ws gw (nw z key).wl.length (nw z key).ct)) 74) ∧ w'.heap[gw]? = some Y ∧ SB Y 64 (vs8 (nw z key).wl) ∧ Below w.heap.size w w' := by
  go_enter Tryd.func29, Tryd.ntmps29
  have M := Mem.start hL
  refine wp_seq ?_
  refine rg_lit ?_
  refine pl_val (want_no rfl) (some 4) rfl (.pointer none) (fun _ => by kernel_rfl) ?_
  refine pl_val (want_no rfl) (some 5) rfl (.int .i64 0) (fun _ => by kernel_rfl) ?_
  refine pl_nil ?_
  refine au_then ?_
  refine wp_seq ?_
  refine wp_seq ?_
  refine rg_lit ?_
  refine pl_val (want_no rfl) (some 7) rfl (.int .i64 (z : Int)) (fun _ => by kernel_rfl) ?_
  refine pl_val (want_no rfl) (some 8) rfl (.bool false) (fun w => Eq.trans (b := .ok (.value (.bool (decide ((z : Int) < 1)))) w) (by kernel_rfl) (by rw [decide_eq_false (by omega)])) ?_
  refine pl_val (want_no rfl) (some 9) rfl (.bool false) (fun _ => by kernel_rfl) ?_
  refine pl_val (want_on 2 false rfl 9 rfl (by kernel_rfl)) (some 10) rfl (.int .i64 (z : Int)) (fun _ => by kernel_rfl) ?_
  refine pl_val (want_on 2 false rfl 9 rfl (by kernel_rfl)) (some 11) rfl (.bool false) (fun w => Eq.trans (b := .ok (.value (.bool (decide ((32 : Int) < (z : Int))))) w) (by kernel_rfl) (by rw [decide_eq_false (by omega)])) ?_
  refine pl_val (want_no rfl) (some 12) rfl (.bool false) (fun _ => by kernel_rfl) ?_
  refine pl_val (want_no rfl) (some 13) rfl (.bool false) (fun _ => by kernel_rfl) ?_
  refine pl_val (want_on 6 false rfl 13 rfl (by kernel_rfl)) (some 14) rfl (.string key) (fun _ => by kernel_rfl) ?_
  refine pl_val (want_on 6 false rfl 13 rfl (by kernel_rfl)) (some 15) rfl (.int .i64 (key.size : Int)) (fun _ => by kernel_rfl) ?_
  refine pl_val (want_on 6 false rfl 13 rfl (by kernel_rfl)) (some 16) rfl (.bool false) (fun w => Eq.trans (b := .ok (.value (.bool (decide ((32 : Int) < (key.size : Int))))) w) (by kernel_rfl) (by rw [decide_eq_false (by omega)])) ?_
  refine pl_val (want_no rfl) (some 17) rfl (.bool false) (fun _ => by kernel_rfl) ?_
  refine pl_nil ?_
  refine au_then ?_
  refine wp_cond_false (by kernel_rfl) ?_
  refine wp_skip ?_
  refine au_then ?_
  refine wp_seq ?_
  refine rg_allocs M 2 [(20, fun g => .slice (some ⟨g, 0, none⟩) 0 64, .cells (av 64 (w8 fun _ => 0)) 5)] (by kernel_rfl) (by kernel_rfl) (⟨rfl, rfl, fun _ _ => by kernel_rfl, trivial⟩) (by decide) ?_
  simp only [List.take_succ_cons, List.take_zero]
  refine k_val (want_no rfl) (some 18) rfl (.int .i64 (z : Int)) (fun _ => by kernel_rfl) ?_
  refine k_call M (want_no rfl) (some 19) rfl 35 #[] (.agg (av 8 (w32 HB))) (fun _ => by kernel_rfl) (fun w M => c_first w M.laid) ?_
  refine kl_nil ?_
  intro u1 g1 M
  replace M : Mem ⟨w, []⟩ [⟨g1, (.cells (av 64 (w8 fun _ => 0)) 5)⟩] u1 := M
  refine pl_val (want_no rfl) (some 21) rfl (.agg (av 11 (hF (z : Int) HB g1 0 0))) (fun _ => by kernel_rfl) ?_
  refine pl_new M (want_no rfl) (some 22) rfl (.cells (av 11 (hF (z : Int) HB g1 0 0)) 74) (fun _ => by kernel_rfl) ?_
  intro g2 u2 M
  replace M : Mem ⟨w, []⟩ [⟨g1, (.cells (av 64 (w8 fun _ => 0)) 5)⟩, ⟨g2, .cells (av 11 (hF (z : Int) HB g1 0 0)) 74⟩] u2 := M
  refine pl_val (want_no rfl) (some 6) rfl (.pointer (some ⟨g2, 0, none⟩)) (fun _ => by kernel_rfl) ?_
  refine pl_nil ?_
  refine au_then ?_
  refine wp_seq ?_
  refine rg_tail M 17 (by kernel_rfl) (by kernel_rfl) ?_
  simp only [List.take_succ_cons, List.take_zero]
  refine k_val (want_no rfl) (some 23) rfl (.pointer (some ⟨g2, 0, none⟩)) (fun _ => by kernel_rfl) ?_
  refine k_val (want_no rfl) (some 24) rfl (.pointer (some ⟨g2, 0, none⟩)) (fun _ => by kernel_rfl) ?_
  refine k_val (want_no rfl) (some 25) rfl (.pointer (some ⟨g2, 1, none⟩)) (fun _ => by kernel_rfl) ?_
  refine k_val (want_no rfl) (some 26) rfl (.pointer (some ⟨g2, 1, none⟩)) (fun _ => by kernel_rfl) ?_
  refine k_cell M (want_no rfl) (some 27) rfl 56 _ rfl g2 1 (by kernel_rfl) (.int .u32 (HB 0)) (fun _ => by kernel_rfl) (fun w M => M.cell 1 rfl (by decide) rfl) ?_
  refine k_val (want_no rfl) (some 28) rfl (.string key) (fun _ => by kernel_rfl) ?_
  refine k_val (want_no rfl) (some 29) rfl (.int .i64 (key.size : Int)) (fun _ => by kernel_rfl) ?_
  refine k_val (want_no rfl) (some 30) rfl (.int .u32 (cv .u32 (key.size : Int))) (fun _ => by kernel_rfl) ?_
  refine k_val (want_no rfl) (some 31) rfl (.int .u32 (vl (cv .u32 (key.size : Int)) 8)) (fun _ => by kernel_rfl) ?_
  refine k_val (want_no rfl) (some 32) rfl (.int .u32 (vx 16842752 (vl (cv .u32 (key.size : Int)) 8))) (fun _ => by kernel_rfl) ?_
  refine k_val (want_no rfl) (some 33) rfl (.int .i64 (z : Int)) (fun _ => by kernel_rfl) ?_
  refine k_val (want_no rfl) (some 34) rfl (.int .u32 (cv .u32 (z : Int))) (fun _ => by kernel_rfl) ?_
  refine k_val (want_no rfl) (some 35) rfl (.int .u32 (vx (vx 16842752 (vl (cv .u32 (key.size : Int)) 8)) (cv .u32 (z : Int)))) (fun _ => by kernel_rfl) ?_
  refine k_val (want_no rfl) (some 36) rfl (.int .u32 (vx (HB 0) (vx (vx 16842752 (vl (cv .u32 (key.size : Int)) 8)) (cv .u32 (z : Int))))) (fun _ => by kernel_rfl) ?_
  refine k_val (want_no rfl) (some 37) rfl (.pointer (some ⟨g2, 0, none⟩)) (fun _ => by kernel_rfl) ?_
  refine k_val (want_no rfl) (some 38) rfl (.pointer (some ⟨g2, 1, none⟩)) (fun _ => by kernel_rfl) ?_
  refine k_val (want_no rfl) (some 39) rfl (.pointer (some ⟨g2, 1, none⟩)) (fun _ => by kernel_rfl) ?_
  refine kl_nil ?_
  intro u3 M
  replace M : Mem ⟨w, []⟩ [⟨g1, (.cells (av 64 (w8 fun _ => 0)) 5)⟩, ⟨g2, .cells (av 11 (hF (z : Int) HB g1 0 0)) 74⟩] u3 := M
  refine pl_put1 M (want_no rfl) rfl 56 _ _ rfl 1 g2 1 (by kernel_rfl) 11 74 (hF (z : Int) HB g1 0 0) rfl (.int .u32 (vx (HB 0) (vx (vx 16842752 (vl (cv .u32 (key.size : Int)) 8)) (cv .u32 (z : Int))))) (hF (z : Int) (upd HB 0 (vx (HB 0) (vx (vx 16842752 (vl (cv .u32 (key.size : Int)) 8)) (cv .u32 (z : Int))))) g1 0 0) (by kernel_rfl) inz56 (by decide) rfl rfl (hF_put1 (z : Int) HB g1 0 0 (vx (HB 0) (vx (vx 16842752 (vl (cv .u32 (key.size : Int)) 8)) (cv .u32 (z : Int))))) ?_
  intro u4 M
  replace M : Mem ⟨w, []⟩ [⟨g1, (.cells (av 64 (w8 fun _ => 0)) 5)⟩, ⟨g2, .cells (av 11 (hF (z : Int) (upd HB 0 (vx (HB 0) (vx (vx 16842752 (vl (cv .u32 (key.size : Int)) 8)) (cv .u32 (z : Int))))) g1 0 0)) 74⟩] u4 := M
  refine pl_nil ?_
  refine au_then ?_
  refine wp_seq ?_
  refine wp_seq ?_
  refine rg_lit ?_
  refine pl_val (want_no rfl) (some 40) rfl (.string key) (fun _ => by kernel_rfl) ?_
  refine pl_val (want_no rfl) (some 41) rfl (.bool false) (fun w => Eq.trans (b := .ok (.value (.bool (!(key.toList == (⟨#[]⟩ : ByteArray).toList)))) w) (by kernel_rfl) (by rw [key_e key hz, beq_self_eq_true]; rfl)) ?_
  refine pl_nil ?_
  refine au_then ?_
  refine wp_cond_false (by kernel_rfl) ?_
  refine wp_skip ?_
  refine au_then ?_
  refine wp_seq ?_
  refine rg_lit ?_
  refine pl_val (want_no rfl) (some 50) rfl (.pointer (some ⟨g2, 0, none⟩)) (fun _ => by kernel_rfl) ?_
  refine pl_val (want_no rfl) (some 4) rfl (.pointer (some ⟨g2, 0, none⟩)) (fun _ => by kernel_rfl) ?_
  refine pl_val (want_no rfl) (some 5) rfl (.int .i64 0) (fun _ => by kernel_rfl) ?_
  refine pl_nil ?_
  refine au_then ?_
  refine wp_ret ?_
  have e : nw z key = hs0 z key.size := by unfold nw; rw [if_pos hz]
  rw [e]
  exact bodyPost_ret (v := .tuple #[.pointer (some ⟨g2, 0, none⟩), .int .i64 0]) (results_tmp2 Tryd.results29 _ _ _ _ (by kernel_rfl) (by kernel_rfl)) (by kernel_rfl) ⟨g2, g1, (.cells (av 64 (w8 fun _ => 0)) 5), rfl, (M.ge _ (List.mem_of_getElem? (i := 1) rfl)).elim id (fun h => by cases h), (M.ge _ (List.mem_of_getElem? (i := 0) rfl)).elim id (fun h => by cases h), nodup_at M.nodup (i := 1) (j := 0) rfl rfl (by decide), M.get 1 rfl, M.get 0 rfl, sb_new, below_grown M.old⟩

set_option maxRecDepth 100000 in
set_option maxHeartbeats 4000000 in
theorem c_new1 (z : Nat) (key : ByteArray) (h1 : 1 ≤ z) (h2 : z ≤ 32) (h3 : key.size ≤ 32) (hz : ¬ key.size = 0) (w : World) (hL : Laid w)  :
    Calls Tryd.prog 29 #[.int .i64 (z : Int), .string key] w fun r w' => ∃ g gw Y, r = .returned (.tuple #[.pointer (some ⟨g, 0, none⟩), .int .i64 0]) ∧ w.heap.size ≤ g ∧ w.heap.size ≤ gw ∧ g ≠ gw ∧ w'.heap[g]? = some (.cells (av 11 (hF (z : Int) (nw z key).ws gw (nw z key).wl.length (nw z key).ct)) 74) ∧ w'.heap[gw]? = some Y ∧ SB Y 64 (vs8 (nw z key).wl) ∧ Below w.heap.size w w' := by
  go_enter Tryd.func29, Tryd.ntmps29
  have M := Mem.start hL
  refine wp_seq ?_
  refine rg_lit ?_
  refine pl_val (want_no rfl) (some 4) rfl (.pointer none) (fun _ => by kernel_rfl) ?_
  refine pl_val (want_no rfl) (some 5) rfl (.int .i64 0) (fun _ => by kernel_rfl) ?_
  refine pl_nil ?_
  refine au_then ?_
  refine wp_seq ?_
  refine wp_seq ?_
  refine rg_lit ?_
  refine pl_val (want_no rfl) (some 7) rfl (.int .i64 (z : Int)) (fun _ => by kernel_rfl) ?_
  refine pl_val (want_no rfl) (some 8) rfl (.bool false) (fun w => Eq.trans (b := .ok (.value (.bool (decide ((z : Int) < 1)))) w) (by kernel_rfl) (by rw [decide_eq_false (by omega)])) ?_
  refine pl_val (want_no rfl) (some 9) rfl (.bool false) (fun _ => by kernel_rfl) ?_
  refine pl_val (want_on 2 false rfl 9 rfl (by kernel_rfl)) (some 10) rfl (.int .i64 (z : Int)) (fun _ => by kernel_rfl) ?_
  refine pl_val (want_on 2 false rfl 9 rfl (by kernel_rfl)) (some 11) rfl (.bool false) (fun w => Eq.trans (b := .ok (.value (.bool (decide ((32 : Int) < (z : Int))))) w) (by kernel_rfl) (by rw [decide_eq_false (by omega)])) ?_
  refine pl_val (want_no rfl) (some 12) rfl (.bool false) (fun _ => by kernel_rfl) ?_
  refine pl_val (want_no rfl) (some 13) rfl (.bool false) (fun _ => by kernel_rfl) ?_
  refine pl_val (want_on 6 false rfl 13 rfl (by kernel_rfl)) (some 14) rfl (.string key) (fun _ => by kernel_rfl) ?_
  refine pl_val (want_on 6 false rfl 13 rfl (by kernel_rfl)) (some 15) rfl (.int .i64 (key.size : Int)) (fun _ => by kernel_rfl) ?_
  refine pl_val (want_on 6 false rfl 13 rfl (by kernel_rfl)) (some 16) rfl (.bool false) (fun w => Eq.trans (b := .ok (.value (.bool (decide ((32 : Int) < (key.size : Int))))) w) (by kernel_rfl) (by rw [decide_eq_false (by omega)])) ?_
  refine pl_val (want_no rfl) (some 17) rfl (.bool false) (fun _ => by kernel_rfl) ?_
  refine pl_nil ?_
  refine au_then ?_
  refine wp_cond_false (by kernel_rfl) ?_
  refine wp_skip ?_
  refine au_then ?_
  refine wp_seq ?_
  refine rg_allocs M 2 [(20, fun g => .slice (some ⟨g, 0, none⟩) 0 64, .cells (av 64 (w8 fun _ => 0)) 5)] (by kernel_rfl) (by kernel_rfl) (⟨rfl, rfl, fun _ _ => by kernel_rfl, trivial⟩) (by decide) ?_
  simp only [List.take_succ_cons, List.take_zero]
  refine k_val (want_no rfl) (some 18) rfl (.int .i64 (z : Int)) (fun _ => by kernel_rfl) ?_
  refine k_call M (want_no rfl) (some 19) rfl 35 #[] (.agg (av 8 (w32 HB))) (fun _ => by kernel_rfl) (fun w M => c_first w M.laid) ?_
  refine kl_nil ?_
  intro u1 g1 M
  replace M : Mem ⟨w, []⟩ [⟨g1, (.cells (av 64 (w8 fun _ => 0)) 5)⟩] u1 := M
  refine pl_val (want_no rfl) (some 21) rfl (.agg (av 11 (hF (z : Int) HB g1 0 0))) (fun _ => by kernel_rfl) ?_
  refine pl_new M (want_no rfl) (some 22) rfl (.cells (av 11 (hF (z : Int) HB g1 0 0)) 74) (fun _ => by kernel_rfl) ?_
  intro g2 u2 M
  replace M : Mem ⟨w, []⟩ [⟨g1, (.cells (av 64 (w8 fun _ => 0)) 5)⟩, ⟨g2, .cells (av 11 (hF (z : Int) HB g1 0 0)) 74⟩] u2 := M
  refine pl_val (want_no rfl) (some 6) rfl (.pointer (some ⟨g2, 0, none⟩)) (fun _ => by kernel_rfl) ?_
  refine pl_nil ?_
  refine au_then ?_
  refine wp_seq ?_
  refine rg_tail M 17 (by kernel_rfl) (by kernel_rfl) ?_
  simp only [List.take_succ_cons, List.take_zero]
  refine k_val (want_no rfl) (some 23) rfl (.pointer (some ⟨g2, 0, none⟩)) (fun _ => by kernel_rfl) ?_
  refine k_val (want_no rfl) (some 24) rfl (.pointer (some ⟨g2, 0, none⟩)) (fun _ => by kernel_rfl) ?_
  refine k_val (want_no rfl) (some 25) rfl (.pointer (some ⟨g2, 1, none⟩)) (fun _ => by kernel_rfl) ?_
  refine k_val (want_no rfl) (some 26) rfl (.pointer (some ⟨g2, 1, none⟩)) (fun _ => by kernel_rfl) ?_
  refine k_cell M (want_no rfl) (some 27) rfl 56 _ rfl g2 1 (by kernel_rfl) (.int .u32 (HB 0)) (fun _ => by kernel_rfl) (fun w M => M.cell 1 rfl (by decide) rfl) ?_
  refine k_val (want_no rfl) (some 28) rfl (.string key) (fun _ => by kernel_rfl) ?_
  refine k_val (want_no rfl) (some 29) rfl (.int .i64 (key.size : Int)) (fun _ => by kernel_rfl) ?_
  refine k_val (want_no rfl) (some 30) rfl (.int .u32 (cv .u32 (key.size : Int))) (fun _ => by kernel_rfl) ?_
  refine k_val (want_no rfl) (some 31) rfl (.int .u32 (vl (cv .u32 (key.size : Int)) 8)) (fun _ => by kernel_rfl) ?_
  refine k_val (want_no rfl) (some 32) rfl (.int .u32 (vx 16842752 (vl (cv .u32 (key.size : Int)) 8))) (fun _ => by kernel_rfl) ?_
  refine k_val (want_no rfl) (some 33) rfl (.int .i64 (z : Int)) (fun _ => by kernel_rfl) ?_
  refine k_val (want_no rfl) (some 34) rfl (.int .u32 (cv .u32 (z : Int))) (fun _ => by kernel_rfl) ?_
  refine k_val (want_no rfl) (some 35) rfl (.int .u32 (vx (vx 16842752 (vl (cv .u32 (key.size : Int)) 8)) (cv .u32 (z : Int)))) (fun _ => by kernel_rfl) ?_
  refine k_val (want_no rfl) (some 36) rfl (.int .u32 (vx (HB 0) (vx (vx 16842752 (vl (cv .u32 (key.size : Int)) 8)) (cv .u32 (z : Int))))) (fun _ => by kernel_rfl) ?_
  refine k_val (want_no rfl) (some 37) rfl (.pointer (some ⟨g2, 0, none⟩)) (fun _ => by kernel_rfl) ?_
  refine k_val (want_no rfl) (some 38) rfl (.pointer (some ⟨g2, 1, none⟩)) (fun _ => by kernel_rfl) ?_
  refine k_val (want_no rfl) (some 39) rfl (.pointer (some ⟨g2, 1, none⟩)) (fun _ => by kernel_rfl) ?_
  refine kl_nil ?_
  intro u3 M
  replace M : Mem ⟨w, []⟩ [⟨g1, (.cells (av 64 (w8 fun _ => 0)) 5)⟩, ⟨g2, .cells (av 11 (hF (z : Int) HB g1 0 0)) 74⟩] u3 := M
  refine pl_put1 M (want_no rfl) rfl 56 _ _ rfl 1 g2 1 (by kernel_rfl) 11 74 (hF (z : Int) HB g1 0 0) rfl (.int .u32 (vx (HB 0) (vx (vx 16842752 (vl (cv .u32 (key.size : Int)) 8)) (cv .u32 (z : Int))))) (hF (z : Int) (upd HB 0 (vx (HB 0) (vx (vx 16842752 (vl (cv .u32 (key.size : Int)) 8)) (cv .u32 (z : Int))))) g1 0 0) (by kernel_rfl) inz56 (by decide) rfl rfl (hF_put1 (z : Int) HB g1 0 0 (vx (HB 0) (vx (vx 16842752 (vl (cv .u32 (key.size : Int)) 8)) (cv .u32 (z : Int))))) ?_
  intro u4 M
  replace M : Mem ⟨w, []⟩ [⟨g1, (.cells (av 64 (w8 fun _ => 0)) 5)⟩, ⟨g2, .cells (av 11 (hF (z : Int) (upd HB 0 (vx (HB 0) (vx (vx 16842752 (vl (cv .u32 (key.size : Int)) 8)) (cv .u32 (z : Int))))) g1 0 0)) 74⟩] u4 := M
  refine pl_nil ?_
  refine au_then ?_
  refine wp_seq ?_
  refine wp_seq ?_
  refine rg_lit ?_
  refine pl_val (want_no rfl) (some 40) rfl (.string key) (fun _ => by kernel_rfl) ?_
  refine pl_val (want_no rfl) (some 41) rfl (.bool true) (fun w => Eq.trans (b := .ok (.value (.bool (!(key.toList == (⟨#[]⟩ : ByteArray).toList)))) w) (by kernel_rfl) (by rw [key_ne key hz]; rfl)) ?_
  refine pl_nil ?_
  refine au_then ?_
  refine wp_cond_true (by kernel_rfl) ?_
  refine rg_lit ?_
  refine pl_val (want_no rfl) (some 42) rfl (.pointer (some ⟨g2, 0, none⟩)) (fun _ => by kernel_rfl) ?_
  refine pl_val (want_no rfl) (some 43) rfl (.string key) (fun _ => by kernel_rfl) ?_
  refine pl_val (want_no rfl) (some 44) rfl (.string key) (fun _ => by kernel_rfl) ?_
  refine pl_val (want_no rfl) (some 45) rfl (.int .i64 (key.size : Int)) (fun _ => by kernel_rfl) ?_
  refine pl_val (want_no rfl) (some 46) rfl (.int .i64 ((64 - key.size : Nat) : Int)) (fun w => Eq.trans (b := .ok (.value (.int .i64 (IntKind.wrap .i64 (64 - (key.size : Int))))) w) (by kernel_rfl) (by rw [wrap64 (by omega) (by omega)]; congr 3 <;> omega)) ?_
  refine pl_call M (want_no rfl) (some 47) rfl 36 #[.string ⟨#[0]⟩, .int .i64 ((64 - key.size : Nat) : Int)] (.string (zs (64 - key.size))) (fun _ => by kernel_rfl) (fun w M => c_rep (64 - key.size) w (by omega)) ?_
  intro u5 M
  refine pl_val (want_no rfl) (some 48) rfl (.string (key ++ zs (64 - key.size))) (run_cat 9 9 _ _ rfl key (zs (64 - key.size)) (by kernel_rfl) (by kernel_rfl) (by rw [zs_size]; omega)) ?_
  refine pl_callp2 M (want_no rfl) (some 49) rfl 30 #[.pointer (some ⟨g2, 0, none⟩), .string (key ++ zs (64 - key.size))] (.tuple #[]) 1 0 g2 g1 (.cells (av 11 (hF (z : Int) (upd HB 0 (vx (HB 0) (vx (vx 16842752 (vl (cv .u32 (key.size : Int)) 8)) (cv .u32 (z : Int))))) g1 0 0)) 74) (.cells (av 64 (w8 fun _ => 0)) 5) (.cells (av 11 (hF (z : Int) (tk (hs0 z key.size) (key ++ zs (64 - key.size)) (key ++ zs (64 - key.size)).size).ws g1 (tk (hs0 z key.size) (key ++ zs (64 - key.size)) (key ++ zs (64 - key.size)).size).wl.length (tk (hs0 z key.size) (key ++ zs (64 - key.size)) (key ++ zs (64 - key.size)).size).ct)) 74) (fun Y => SB Y 64 (vs8 (tk (hs0 z key.size) (key ++ zs (64 - key.size)) (key ++ zs (64 - key.size)).size).wl)) rfl rfl (fun _ => by kernel_rfl) (fun w M => c_take (hs0 z key.size) (hs0_ok _ _) z g2 g1 (.cells (av 64 (w8 fun _ => 0)) 5) (key ++ zs (64 - key.size)) w M.laid (M.get 1 rfl) (M.ne0 1 rfl) (M.get 0 rfl) (M.ne0 0 rfl) (nodup_at M.nodup (i := 1) (j := 0) rfl rfl (by decide)) sb_new) ?_
  intro Y1 u6 hY1 M
  replace M : Mem ⟨w, []⟩ [⟨g1, Y1⟩, ⟨g2, .cells (av 11 (hF (z : Int) (tk (hs0 z key.size) (key ++ zs (64 - key.size)) (key ++ zs (64 - key.size)).size).ws g1 (tk (hs0 z key.size) (key ++ zs (64 - key.size)) (key ++ zs (64 - key.size)).size).wl.length (tk (hs0 z key.size) (key ++ zs (64 - key.size)) (key ++ zs (64 - key.size)).size).ct)) 74⟩] u6 := M
  refine pl_nil ?_
  refine au_then ?_
  refine wp_seq ?_
  refine rg_lit ?_
  refine pl_val (want_no rfl) (some 50) rfl (.pointer (some ⟨g2, 0, none⟩)) (fun _ => by kernel_rfl) ?_
  refine pl_val (want_no rfl) (some 4) rfl (.pointer (some ⟨g2, 0, none⟩)) (fun _ => by kernel_rfl) ?_
  refine pl_val (want_no rfl) (some 5) rfl (.int .i64 0) (fun _ => by kernel_rfl) ?_
  refine pl_nil ?_
  refine au_then ?_
  refine wp_ret ?_
  have e : nw z key = tk (hs0 z key.size) (key ++ zs (64 - key.size)) (key ++ zs (64 - key.size)).size := by unfold nw; rw [if_neg hz]
  rw [e]
  exact bodyPost_ret (v := .tuple #[.pointer (some ⟨g2, 0, none⟩), .int .i64 0]) (results_tmp2 Tryd.results29 _ _ _ _ (by kernel_rfl) (by kernel_rfl)) (by kernel_rfl) ⟨g2, g1, Y1, rfl, (M.ge _ (List.mem_of_getElem? (i := 1) rfl)).elim id (fun h => by cases h), (M.ge _ (List.mem_of_getElem? (i := 0) rfl)).elim id (fun h => by cases h), nodup_at M.nodup (i := 1) (j := 0) rfl rfl (by decide), M.get 1 rfl, M.get 0 rfl, hY1, below_grown M.old⟩

theorem c_new (z : Nat) (key : ByteArray) (h1 : 1 ≤ z) (h2 : z ≤ 32) (h3 : key.size ≤ 32) (w : World) (hL : Laid w) : Calls Tryd.prog 29 #[.int .i64 (z : Int), .string key] w fun r w' => ∃ g gw Y, r = .returned (.tuple #[.pointer (some ⟨g, 0, none⟩), .int .i64 0]) ∧ w.heap.size ≤ g ∧ w.heap.size ≤ gw ∧ g ≠ gw ∧ w'.heap[g]? = some (.cells (av 11 (hF (z : Int) (nw z key).ws gw (nw z key).wl.length (nw z key).ct)) 74) ∧ w'.heap[gw]? = some Y ∧ SB Y 64 (vs8 (nw z key).wl) ∧ Below w.heap.size w w' := by
  by_cases hz : key.size = 0
  · exact c_new0 z key h1 h2 h3 hz w hL
  · exact c_new1 z key h1 h2 h3 hz w hL

set_option maxRecDepth 100000 in
set_option maxHeartbeats 4000000 in
theorem c_sumnil  (w : World) (hL : Laid w)  :
    Calls Tryd.prog 31 #[.pointer none] w fun r w' => r = .returned (.string ⟨#[]⟩) ∧ Below w.heap.size w w' := by
  go_enter Tryd.func31, Tryd.ntmps31
  have M := Mem.start hL
  refine wp_seq ?_
  refine rg_lit ?_
  refine pl_val (want_no rfl) (some 2) rfl (.string ⟨#[]⟩) (fun _ => by kernel_rfl) ?_
  refine pl_nil ?_
  refine au_then ?_
  refine wp_seq ?_
  refine wp_seq ?_
  refine rg_lit ?_
  refine pl_val (want_no rfl) (some 4) rfl (.pointer none) (fun _ => by kernel_rfl) ?_
  refine pl_val (want_no rfl) (some 5) rfl (.bool true) (fun _ => by kernel_rfl) ?_
  refine pl_val (want_no rfl) (some 6) rfl (.bool true) (fun _ => by kernel_rfl) ?_
  refine pl_skip (want_off 2 false rfl 6 rfl (by kernel_rfl)) (some 7) rfl ?_
  refine pl_skip (want_off 2 false rfl 6 rfl (by kernel_rfl)) (some 8) rfl ?_
  refine pl_skip (want_off 2 false rfl 6 rfl (by kernel_rfl)) (some 9) rfl ?_
  refine pl_skip (want_off 2 false rfl 6 rfl (by kernel_rfl)) (some 10) rfl ?_
  refine pl_skip (want_off 2 false rfl 6 rfl (by kernel_rfl)) (some 11) rfl ?_
  refine pl_val (want_no rfl) (some 12) rfl (.bool true) (fun _ => by kernel_rfl) ?_
  refine pl_nil ?_
  refine au_then ?_
  refine wp_cond_true (by kernel_rfl) ?_
  refine wp_seq ?_
  refine rg_lit ?_
  refine pl_val (want_no rfl) (some 2) rfl (.string ⟨#[]⟩) (fun _ => by kernel_rfl) ?_
  refine pl_nil ?_
  refine au_then ?_
  refine wp_ret ?_
  refine au_then_ret ?_
  exact bodyPost_ret (v := .string ⟨#[]⟩) (results_tmp1 Tryd.results31 _ _ _ (by kernel_rfl)) (by kernel_rfl) ⟨rfl, below_grown M.old⟩

set_option maxRecDepth 100000 in
set_option maxHeartbeats 4000000 in
theorem c_sum (H : HS) (hH : H.ok) (z : Nat) (h1 : 1 ≤ z) (h2 : z ≤ 32) (g gw : Nat) (Z : Obj) (w : World) (hL : Laid w) (hg : w.heap[g]? = some (.cells (av 11 (hF (z : Int) H.ws gw H.wl.length H.ct)) 74)) (h0 : g ≠ 0) (hk : w.heap[gw]? = some Z) (k0 : gw ≠ 0) (hne : g ≠ gw) (hZ : SB Z 64 (vs8 H.wl)) :
    Calls Tryd.prog 31 #[.pointer (some ⟨g, 0, none⟩)] w fun r w' => r = .returned (.string (sumV z H)) ∧ Below w.heap.size w w' := by
  go_enter Tryd.func31, Tryd.ntmps31
  have M := Mem.startp2 hL hg h0 hk k0 hne
  refine wp_seq ?_
  refine rg_lit ?_
  refine pl_val (want_no rfl) (some 2) rfl (.string ⟨#[]⟩) (fun _ => by kernel_rfl) ?_
  refine pl_nil ?_
  refine au_then ?_
  refine wp_seq ?_
  refine wp_seq ?_
  refine rg_lit ?_
  refine pl_val (want_no rfl) (some 4) rfl (.pointer (some ⟨g, 0, none⟩)) (fun _ => by kernel_rfl) ?_
  refine pl_val (want_no rfl) (some 5) rfl (.bool false) (fun _ => by kernel_rfl) ?_
  refine pl_val (want_no rfl) (some 6) rfl (.bool false) (fun _ => by kernel_rfl) ?_
  refine pl_val (want_on 2 false rfl 6 rfl (by kernel_rfl)) (some 7) rfl (.pointer (some ⟨g, 0, none⟩)) (fun _ => by kernel_rfl) ?_
  refine pl_val (want_on 2 false rfl 6 rfl (by kernel_rfl)) (some 8) rfl (.pointer (some ⟨g, 0, none⟩)) (fun _ => by kernel_rfl) ?_
  refine pl_val (want_on 2 false rfl 6 rfl (by kernel_rfl)) (some 9) rfl (.pointer (some ⟨g, 0, none⟩)) (fun _ => by kernel_rfl) ?_
  refine pl_cell M (want_on 2 false rfl 6 rfl (by kernel_rfl)) (some 10) rfl 3 _ rfl g 0 (by kernel_rfl) (.int .i64 (z : Int)) (fun _ => by kernel_rfl) (fun w M => M.cell 0 rfl (by decide) rfl) ?_
  refine pl_val (want_on 2 false rfl 6 rfl (by kernel_rfl)) (some 11) rfl (.bool false) (fun w => Eq.trans (b := .ok (.value (.bool (decide ((z : Int) = 0)))) w) (by kernel_rfl) (by rw [decide_eq_false (by omega)])) ?_
  refine pl_val (want_no rfl) (some 12) rfl (.bool false) (fun _ => by kernel_rfl) ?_
  refine pl_nil ?_
  refine au_then ?_
  refine wp_cond_false (by kernel_rfl) ?_
  refine wp_skip ?_
  refine au_then ?_
  refine wp_seq ?_
  refine rg_allocs M 20 [(3, fun g => .pointer (some ⟨g, 0, none⟩), .cells (av 8 (w32 (fun _ => 0))) 57)] (by kernel_rfl) (by kernel_rfl) (⟨rfl, rfl, fun _ _ => by kernel_rfl, trivial⟩) (by decide) ?_
  simp only [List.take_succ_cons, List.take_zero]
  refine k_val (want_no rfl) (some 13) rfl (.pointer (some ⟨g, 0, none⟩)) (fun _ => by kernel_rfl) ?_
  refine k_val (want_no rfl) (some 14) rfl (.pointer (some ⟨g, 0, none⟩)) (fun _ => by kernel_rfl) ?_
  refine k_val (want_no rfl) (some 15) rfl (.pointer (some ⟨g, 1, none⟩)) (fun _ => by kernel_rfl) ?_
  refine k_load M (want_no rfl) (some 16) rfl 57 _ rfl 0 g 1 (by kernel_rfl) 11 74 (hF (z : Int) H.ws gw H.wl.length H.ct) rfl 8 (w32 H.ws) (hF_words (z : Int) H.ws gw H.wl.length H.ct) (by decide) _ Tryd.underlying57 rfl inz57 ?_
  refine k_val (want_no rfl) (some 17) rfl (.pointer (some ⟨g, 0, none⟩)) (fun _ => by kernel_rfl) ?_
  refine k_val (want_no rfl) (some 18) rfl (.pointer (some ⟨g, 0, none⟩)) (fun _ => by kernel_rfl) ?_
  refine k_val (want_no rfl) (some 19) rfl (.pointer (some ⟨g, 9, none⟩)) (fun _ => by kernel_rfl) ?_
  refine k_cell M (want_no rfl) (some 20) rfl 42 _ rfl g 9 (by kernel_rfl) (.slice (some ⟨gw, 0, none⟩) H.wl.length 64) (fun _ => by kernel_rfl) (fun w M => M.cell 0 rfl (by decide) rfl) ?_
  refine k_val (want_no rfl) (some 21) rfl (.pointer (some ⟨g, 0, none⟩)) (fun _ => by kernel_rfl) ?_
  refine k_val (want_no rfl) (some 22) rfl (.pointer (some ⟨g, 0, none⟩)) (fun _ => by kernel_rfl) ?_
  refine k_val (want_no rfl) (some 23) rfl (.pointer (some ⟨g, 10, none⟩)) (fun _ => by kernel_rfl) ?_
  refine k_cell M (want_no rfl) (some 24) rfl 61 _ rfl g 10 (by kernel_rfl) (.int .u64 H.ct) (fun _ => by kernel_rfl) (fun w M => M.cell 0 rfl (by decide) rfl) ?_
  refine k_val (want_no rfl) (some 25) rfl (.pointer (some ⟨g, 0, none⟩)) (fun _ => by kernel_rfl) ?_
  refine k_val (want_no rfl) (some 26) rfl (.pointer (some ⟨g, 0, none⟩)) (fun _ => by kernel_rfl) ?_
  refine k_val (want_no rfl) (some 27) rfl (.pointer (some ⟨g, 9, none⟩)) (fun _ => by kernel_rfl) ?_
  refine k_cell M (want_no rfl) (some 28) rfl 42 _ rfl g 9 (by kernel_rfl) (.slice (some ⟨gw, 0, none⟩) H.wl.length 64) (fun _ => by kernel_rfl) (fun w M => M.cell 0 rfl (by decide) rfl) ?_
  refine k_val (want_no rfl) (some 29) rfl (.int .i64 ((H.wl.length : Nat) : Int)) (fun _ => by kernel_rfl) ?_
  refine k_val (want_no rfl) (some 30) rfl (.int .u64 (cv .u64 ((H.wl.length : Nat) : Int))) (fun _ => by kernel_rfl) ?_
  refine k_val (want_no rfl) (some 31) rfl (.int .u64 (ua H.ct (cv .u64 ((H.wl.length : Nat) : Int)))) (fun _ => by kernel_rfl) ?_
  refine k_call M (want_no rfl) (some 32) rfl 37 #[.agg (av 8 (w32 H.ws)), .slice (some ⟨gw, 0, none⟩) H.wl.length 64, .int .u64 (ua H.ct (cv .u64 ((H.wl.length : Nat) : Int))), .bool true] (.agg (av 8 (w32 (sumW H)))) (fun _ => by kernel_rfl) (fun w M => c_mixed H.ws (lf H.wl) gw H.wl.length 64 hH.le (ua H.ct (cv .u64 (H.wl.length : Int))) true w M.laid (fun i hi => hZ.cell (M.get 1 rfl) (vs8_cell H.wl i hi))) ?_
  refine kl_nil ?_
  intro u1 g1 M
  replace M : Mem ⟨w, [g, gw]⟩ [⟨g, .cells (av 11 (hF (z : Int) H.ws gw H.wl.length H.ct)) 74⟩, ⟨gw, Z⟩, ⟨g1, .cells (av 8 (w32 (fun _ => 0))) 57⟩] u1 := M
  refine pl_put M (want_no rfl) rfl 57 _ _ rfl 2 g1 0 (by kernel_rfl) 8 57 (w32 (fun _ => 0)) rfl 8 (w32 (sumW H)) (w32 (sumW H)) (by kernel_rfl) inz57 (by decide) (fun _ _ => rfl) (fun j hj => by rw [if_pos (by omega), Nat.sub_zero]) ?_
  intro u2 M
  replace M : Mem ⟨w, [g, gw]⟩ [⟨g, .cells (av 11 (hF (z : Int) H.ws gw H.wl.length H.ct)) 74⟩, ⟨gw, Z⟩, ⟨g1, .cells (av 8 (w32 (sumW H))) 57⟩] u2 := M
  refine pl_nil ?_
  refine au_then ?_
  refine wp_seq ?_
  refine rg_tail M 7 (by kernel_rfl) (by kernel_rfl) ?_
  simp only [List.take_succ_cons, List.take_zero]
  refine k_load M (want_no rfl) (some 33) rfl 57 _ rfl 2 g1 0 (by kernel_rfl) 8 57 (w32 (sumW H)) rfl 8 (w32 (sumW H)) (fun j _ => by rw [Nat.zero_add]) (by decide) _ Tryd.underlying57 rfl inz57 ?_
  refine k_call M (want_no rfl) (some 34) rfl 38 #[.agg (av 8 (w32 (sumW H)))] (.string (bs (loI (sumW H) 8))) (fun _ => by kernel_rfl) (fun w M => c_low (sumW H) w M.laid) ?_
  refine k_val (want_no rfl) (some 35) rfl (.pointer (some ⟨g, 0, none⟩)) (fun _ => by kernel_rfl) ?_
  refine k_val (want_no rfl) (some 36) rfl (.pointer (some ⟨g, 0, none⟩)) (fun _ => by kernel_rfl) ?_
  refine k_val (want_no rfl) (some 37) rfl (.pointer (some ⟨g, 0, none⟩)) (fun _ => by kernel_rfl) ?_
  refine k_cell M (want_no rfl) (some 38) rfl 3 _ rfl g 0 (by kernel_rfl) (.int .i64 (z : Int)) (fun _ => by kernel_rfl) (fun w M => M.cell 0 rfl (by decide) rfl) ?_
  refine k_val (want_no rfl) (some 39) rfl (.string (sumV z H)) (run_strh 9 Tryd.underlying9 _ _ rfl (bs (loI (sumW H) 8)) (by kernel_rfl) .i64 z (by kernel_rfl) (by rw [bs_size, loI_length]; omega) _ rfl) ?_
  refine kl_nil ?_
  intro u3 M
  replace M : Mem ⟨w, [g, gw]⟩ [⟨g, .cells (av 11 (hF (z : Int) H.ws gw H.wl.length H.ct)) 74⟩, ⟨gw, Z⟩, ⟨g1, .cells (av 8 (w32 (sumW H))) 57⟩] u3 := M
  refine pl_val (want_no rfl) (some 2) rfl (.string (sumV z H)) (fun _ => by kernel_rfl) ?_
  refine pl_nil ?_
  refine au_then ?_
  refine wp_ret ?_
  exact bodyPost_ret (v := .string (sumV z H)) (results_tmp1 Tryd.results31 _ _ _ (by kernel_rfl)) (by kernel_rfl) ⟨rfl, below_same M.old hg (M.get 0 rfl) hk (M.get 1 rfl)⟩

set_option maxRecDepth 100000 in
set_option maxHeartbeats 4000000 in
theorem c_blsume (sz : Int) (key s : ByteArray) (h : ¬ may sz key) (w : World) (hL : Laid w)  :
    Calls Tryd.prog 25 #[.int .i64 sz, .string key, .string s] w fun r w' => r = .returned (.tuple #[.string ⟨#[]⟩, .int .i64 2]) ∧ Below w.heap.size w w' := by
  go_enter Tryd.func25, Tryd.ntmps25
  have M := Mem.start hL
  refine wp_seq ?_
  refine rg_lit ?_
  refine pl_val (want_no rfl) (some 6) rfl (.string ⟨#[]⟩) (fun _ => by kernel_rfl) ?_
  refine pl_val (want_no rfl) (some 7) rfl (.int .i64 0) (fun _ => by kernel_rfl) ?_
  refine pl_nil ?_
  refine au_then ?_
  refine wp_seq ?_
  refine rg_lit ?_
  refine pl_val (want_no rfl) (some 11) rfl (.int .i64 sz) (fun _ => by kernel_rfl) ?_
  refine pl_val (want_no rfl) (some 12) rfl (.string key) (fun _ => by kernel_rfl) ?_
  refine pl_call M (want_no rfl) (some 13) rfl 29 #[.int .i64 sz, .string key] (.tuple #[.pointer none, .int .i64 2]) (fun _ => by kernel_rfl) (fun w M => c_newe sz key h w M.laid) ?_
  intro u1 M
  refine pl_val (want_no rfl) (some 10) rfl (.tuple #[.pointer none, .int .i64 2]) (fun _ => by kernel_rfl) ?_
  refine pl_val (want_no rfl) (some 14) rfl (.pointer none) (fun _ => by kernel_rfl) ?_
  refine pl_val (want_no rfl) (some 15) rfl (.int .i64 2) (fun _ => by kernel_rfl) ?_
  refine pl_val (want_no rfl) (some 8) rfl (.pointer none) (fun _ => by kernel_rfl) ?_
  refine pl_val (want_no rfl) (some 9) rfl (.int .i64 2) (fun _ => by kernel_rfl) ?_
  refine pl_nil ?_
  refine au_then ?_
  refine wp_seq ?_
  refine wp_seq ?_
  refine rg_lit ?_
  refine pl_val (want_no rfl) (some 16) rfl (.int .i64 2) (fun _ => by kernel_rfl) ?_
  refine pl_val (want_no rfl) (some 17) rfl (.bool true) (fun _ => by kernel_rfl) ?_
  refine pl_nil ?_
  refine au_then ?_
  refine wp_cond_true (by kernel_rfl) ?_
  refine wp_seq ?_
  refine rg_lit ?_
  refine pl_val (want_no rfl) (some 18) rfl (.int .i64 2) (fun _ => by kernel_rfl) ?_
  refine pl_val (want_no rfl) (some 6) rfl (.string ⟨#[]⟩) (fun _ => by kernel_rfl) ?_
  refine pl_val (want_no rfl) (some 7) rfl (.int .i64 2) (fun _ => by kernel_rfl) ?_
  refine pl_nil ?_
  refine au_then ?_
  refine wp_ret ?_
  refine au_then_ret ?_
  exact bodyPost_ret (v := .tuple #[.string ⟨#[]⟩, .int .i64 2]) (results_tmp2 Tryd.results25 _ _ _ _ (by kernel_rfl) (by kernel_rfl)) (by kernel_rfl) ⟨rfl, below_grown M.old⟩

set_option maxRecDepth 100000 in
set_option maxHeartbeats 4000000 in
theorem c_blsum (z : Nat) (key s : ByteArray) (h1 : 1 ≤ z) (h2 : z ≤ 32) (h3 : key.size ≤ 32) (w : World) (hL : Laid w)  :
    Calls Tryd.prog 25 #[.int .i64 (z : Int), .string key, .string s] w fun r w' => r = .returned (.tuple #[.string (blV z key s), .int .i64 0]) ∧ Below w.heap.size w w' := by
  go_enter Tryd.func25, Tryd.ntmps25
  have M := Mem.start hL
  refine wp_seq ?_
  refine rg_lit ?_
  refine pl_val (want_no rfl) (some 6) rfl (.string ⟨#[]⟩) (fun _ => by kernel_rfl) ?_
  refine pl_val (want_no rfl) (some 7) rfl (.int .i64 0) (fun _ => by kernel_rfl) ?_
  refine pl_nil ?_
  refine au_then ?_
  refine wp_seq ?_
  refine rg_lit ?_
  refine pl_val (want_no rfl) (some 11) rfl (.int .i64 (z : Int)) (fun _ => by kernel_rfl) ?_
  refine pl_val (want_no rfl) (some 12) rfl (.string key) (fun _ => by kernel_rfl) ?_
  refine pl_calln2 M (want_no rfl) (some 13) rfl 29 #[.int .i64 (z : Int), .string key] (fun g1 => .tuple #[.pointer (some ⟨g1, 0, none⟩), .int .i64 0]) (fun g2 => .cells (av 11 (hF (z : Int) (nw z key).ws g2 (nw z key).wl.length (nw z key).ct)) 74) (fun Y => SB Y 64 (vs8 (nw z key).wl)) (fun _ => by kernel_rfl) (fun w M => c_new z key h1 h2 h3 w M.laid) ?_
  intro g1 g2 Y1 u1 hY1 M
  replace M : Mem ⟨w, []⟩ [⟨g1, .cells (av 11 (hF (z : Int) (nw z key).ws g2 (nw z key).wl.length (nw z key).ct)) 74⟩, ⟨g2, Y1⟩] u1 := M
  refine pl_val (want_no rfl) (some 10) rfl (.tuple #[.pointer (some ⟨g1, 0, none⟩), .int .i64 0]) (fun _ => by kernel_rfl) ?_
  refine pl_val (want_no rfl) (some 14) rfl (.pointer (some ⟨g1, 0, none⟩)) (fun _ => by kernel_rfl) ?_
  refine pl_val (want_no rfl) (some 15) rfl (.int .i64 0) (fun _ => by kernel_rfl) ?_
  refine pl_val (want_no rfl) (some 8) rfl (.pointer (some ⟨g1, 0, none⟩)) (fun _ => by kernel_rfl) ?_
  refine pl_val (want_no rfl) (some 9) rfl (.int .i64 0) (fun _ => by kernel_rfl) ?_
  refine pl_nil ?_
  refine au_then ?_
  refine wp_seq ?_
  refine wp_seq ?_
  refine rg_lit ?_
  refine pl_val (want_no rfl) (some 16) rfl (.int .i64 0) (fun _ => by kernel_rfl) ?_
  refine pl_val (want_no rfl) (some 17) rfl (.bool false) (fun _ => by kernel_rfl) ?_
  refine pl_nil ?_
  refine au_then ?_
  refine wp_cond_false (by kernel_rfl) ?_
  refine wp_skip ?_
  refine au_then ?_
  refine wp_seq ?_
  refine rg_lit ?_
  refine pl_val (want_no rfl) (some 19) rfl (.pointer (some ⟨g1, 0, none⟩)) (fun _ => by kernel_rfl) ?_
  refine pl_val (want_no rfl) (some 20) rfl (.string s) (fun _ => by kernel_rfl) ?_
  refine pl_callp2 M (want_no rfl) (some 21) rfl 30 #[.pointer (some ⟨g1, 0, none⟩), .string s] (.tuple #[]) 0 1 g1 g2 (.cells (av 11 (hF (z : Int) (nw z key).ws g2 (nw z key).wl.length (nw z key).ct)) 74) Y1 (.cells (av 11 (hF (z : Int) (tk (nw z key) s s.size).ws g2 (tk (nw z key) s s.size).wl.length (tk (nw z key) s s.size).ct)) 74) (fun Y => SB Y 64 (vs8 (tk (nw z key) s s.size).wl)) rfl rfl (fun _ => by kernel_rfl) (fun w M => c_take (nw z key) (nw_ok _ _) z g1 g2 Y1 s w M.laid (M.get 0 rfl) (M.ne0 0 rfl) (M.get 1 rfl) (M.ne0 1 rfl) (nodup_at M.nodup (i := 0) (j := 1) rfl rfl (by decide)) hY1) ?_
  intro Y2 u2 hY2 M
  replace M : Mem ⟨w, []⟩ [⟨g1, .cells (av 11 (hF (z : Int) (tk (nw z key) s s.size).ws g2 (tk (nw z key) s s.size).wl.length (tk (nw z key) s s.size).ct)) 74⟩, ⟨g2, Y2⟩] u2 := M
  refine pl_nil ?_
  refine au_then ?_
  refine wp_seq ?_
  refine rg_lit ?_
  refine pl_val (want_no rfl) (some 22) rfl (.pointer (some ⟨g1, 0, none⟩)) (fun _ => by kernel_rfl) ?_
  refine pl_call M (want_no rfl) (some 23) rfl 31 #[.pointer (some ⟨g1, 0, none⟩)] (.string (blV z key s)) (fun _ => by kernel_rfl) (fun w M => c_sum (tk (nw z key) s s.size) (tk_ok (nw_ok _ _) _ _) z h1 h2 g1 g2 Y2 w M.laid (M.get 0 rfl) (M.ne0 0 rfl) (M.get 1 rfl) (M.ne0 1 rfl) (nodup_at M.nodup (i := 0) (j := 1) rfl rfl (by decide)) hY2) ?_
  intro u3 M
  refine pl_val (want_no rfl) (some 6) rfl (.string (blV z key s)) (fun _ => by kernel_rfl) ?_
  refine pl_val (want_no rfl) (some 7) rfl (.int .i64 0) (fun _ => by kernel_rfl) ?_
  refine pl_nil ?_
  refine au_then ?_
  refine wp_ret ?_
  exact bodyPost_ret (v := .tuple #[.string (blV z key s), .int .i64 0]) (results_tmp2 Tryd.results25 _ _ _ _ (by kernel_rfl) (by kernel_rfl)) (by kernel_rfl) ⟨rfl, below_grown M.old⟩

def strE : ByteArray := ⟨#[]⟩
set_option maxRecDepth 100000 in
set_option maxHeartbeats 4000000 in
theorem c_of (s : ByteArray) (w : World) (hL : Laid w)  :
    Calls Tryd.prog 19 #[.string s] w fun r w' => r = .returned (.string (blV 32 strE s)) ∧ Below w.heap.size w w' := by
  go_enter Tryd.func19, Tryd.ntmps19
  have M := Mem.start hL
  refine wp_seq ?_
  refine rg_lit ?_
  refine pl_val (want_no rfl) (some 2) rfl (.string ⟨#[]⟩) (fun _ => by kernel_rfl) ?_
  refine pl_nil ?_
  refine au_then ?_
  refine wp_seq ?_
  refine rg_lit ?_
  refine pl_val (want_no rfl) (some 6) rfl (.string s) (fun _ => by kernel_rfl) ?_
  refine pl_call M (want_no rfl) (some 7) rfl 25 #[.int .i64 32, .string ⟨#[]⟩, .string s] (.tuple #[.string (blV 32 strE s), .int .i64 0]) (fun _ => by kernel_rfl) (fun w M => c_blsum 32 strE s (by decide) (by decide) (by decide) w M.laid) ?_
  intro u1 M
  refine pl_val (want_no rfl) (some 5) rfl (.tuple #[.string (blV 32 strE s), .int .i64 0]) (fun _ => by kernel_rfl) ?_
  refine pl_val (want_no rfl) (some 8) rfl (.string (blV 32 strE s)) (fun _ => by kernel_rfl) ?_
  refine pl_val (want_no rfl) (some 9) rfl (.int .i64 0) (fun _ => by kernel_rfl) ?_
  refine pl_val (want_no rfl) (some 3) rfl (.string (blV 32 strE s)) (fun _ => by kernel_rfl) ?_
  refine pl_val (want_no rfl) (some 4) rfl (.int .i64 0) (fun _ => by kernel_rfl) ?_
  refine pl_nil ?_
  refine au_then ?_
  refine wp_seq ?_
  refine rg_lit ?_
  refine pl_val (want_no rfl) (some 10) rfl (.string (blV 32 strE s)) (fun _ => by kernel_rfl) ?_
  refine pl_val (want_no rfl) (some 2) rfl (.string (blV 32 strE s)) (fun _ => by kernel_rfl) ?_
  refine pl_nil ?_
  refine au_then ?_
  refine wp_ret ?_
  exact bodyPost_ret (v := .string (blV 32 strE s)) (results_tmp1 Tryd.results19 _ _ _ (by kernel_rfl)) (by kernel_rfl) ⟨rfl, below_grown M.old⟩


end Go.Proofs.YtpfneekmbednoaaDoor
