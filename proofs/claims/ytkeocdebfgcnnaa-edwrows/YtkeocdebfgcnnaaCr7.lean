/- Part 7 of the walks and facts behind edwRows_holds. -/
import Derived.Test.YtkeocdebfgcnnaaCr6
/- The walk of EdwRows. -/
namespace Go.Proofs.Ytkeocdebfgcnnaa
open Go.RowKit

theorem run_ixL {P : Program} {a : Act} {o : Oper} (t : TypeId) (elem : TypeId) (hu : P.underlying t = some (.slice elem)) (hs : (P.info? elem).map (·.size) = some 1) (x ix : Operand) (ho : o.op = .indexAddr t x ix) (l : Option Addr) (b off len cap : Nat) (hl : l = some ⟨b, off, none⟩) (hx : a.eval x = .slice l len cap) (k : IntKind) (i : Nat) (hi : a.eval ix = .int k (i : Int)) (hlt : i < len) (w : World) :
    (execOp a.eval o).run P w = .ok (.value (.pointer (some ⟨b, off + i, none⟩))) w := by
  have hadd : (⟨b, off, none⟩ : Addr).add i = ⟨b, off + i, none⟩ := by unfold Addr.add; split <;> simp_all
  cases hq : P.info? elem with
  | none => simp [hq] at hs
  | some u =>
    have hsz : u.size = 1 := by simpa [hq] using hs
    subst hl
    unfold execOp
    simp [ho, hx, hi, Instr.indexAt, asIntOf, run_underlying hu, sizeOf, typeInfo, hq, hsz, hadd, hlt]
theorem pl_out {P : Program} {ops : Array Oper} {rest : List Oper} {o : Oper} {a : Act} {w w0 : World} {L : List Blk} {Q : Exit → Act → World → Prop} (M : Mem w0 L w) (hw : Region.wanted o (yielded ops a.tmps) = true) (d : Option Tmp) (hd : o.dst = d) (ty : TypeId) (x : Operand) (ho : o.op = .load ty x) (g k : Nat) (hx : a.eval x = .pointer (some ⟨g, k, none⟩)) (hg : g < w0.heap.size) (v : Value) (hc : w0.cell? ⟨g, k, none⟩ = some v) (hag : ∀ w, (isAgg ty).run P w = .ok false w)
    (h : PL P ops Q rest (a.put d v) w) : PL P ops Q (o :: rest) a w := by
  have hc2 : w.cell? ⟨g, k, none⟩ = some v := by
    rw [← hc]
    unfold World.cell?
    rw [M.old.block g hg]
  refine pl_to hw d hd v w ?_ h
  have hr := run_byte (P := P) hc2 ty hag
  unfold execOp
  simp only [ho, hx, Sem.run_bind, hr, Result.andThen_ok, Sem.run_pure]
theorem inz9 : (Try.prog.info? 9).map (·.size) = some 1 := by kernel_rfl

structure rowsNF (s : ByteArray) (l : Option Addr) (b o len cap : Nat) (Ss : Nat → ByteArray)  : Prop where
  h0 : True

set_option maxRecDepth 100000 in
set_option maxHeartbeats 4000000 in
theorem rowsN_gen (s : ByteArray) (l : Option Addr) (b o len cap : Nat) (Ss : Nat → ByteArray)  (w : World) (_F : rowsNF s l b o len cap Ss ) (hc : ¬ decC s = 0) :
    Calls Try.prog 4 #[.string s, .slice l len cap] w fun r w' => r = .returned (.bool true) ∧ Below w.heap.size w w' := by
  go_enter Try.func4, Try.ntmps4
  have M := Mem.start w
  refine wp_seq ?_
  refine rg_lit ?_
  refine pl_val (want_no rfl) (some 4) rfl (.bool false) (fun _ => by kernel_rfl) ?_
  refine pl_nil ?_
  refine au_then ?_
  refine wp_seq ?_
  refine rg_lit ?_
  refine pl_val (want_no rfl) (some 15) rfl (.string s) (fun _ => by kernel_rfl) ?_
  refine pl_call M (want_no rfl) (some 16) rfl 7 #[.string s] (.tuple #[.agg (arr 20 (decP s).f), .int .i64 (decC s)]) (fun _ => by kernel_rfl) (dec_yes rfl rfl) ?_
  intro w1 M
  refine pl_val (want_no rfl) (some 14) rfl (.tuple #[.agg (arr 20 (decP s).f), .int .i64 (decC s)]) (fun _ => by kernel_rfl) ?_
  refine pl_val (want_no rfl) (some 17) rfl (.agg (arr 20 (decP s).f)) (fun _ => by kernel_rfl) ?_
  refine pl_val (want_no rfl) (some 18) rfl (.int .i64 (decC s)) (fun _ => by kernel_rfl) ?_
  refine pl_new M (want_no rfl) (some 5) rfl (.cells (arr 20 (fun _ => 0)) 28) (fun _ => by kernel_rfl) ?_
  intro g1 w2 M
  replace M : Mem w [⟨g1, .cells (arr 20 (fun _ => 0)) 28⟩] w2 := M
  refine pl_put M (want_no rfl) rfl 28 _ _ rfl 0 g1 (by kernel_rfl) 20 28 (fun _ => 0) (decP s).f rfl (by kernel_rfl) inz28 ?_
  intro w3 M
  replace M : Mem w [⟨g1, .cells (arr 20 (decP s).f) 28⟩] w3 := M
  refine pl_val (want_no rfl) (some 6) rfl (.int .i64 (decC s)) (fun _ => by kernel_rfl) ?_
  refine pl_nil ?_
  refine au_then ?_
  refine wp_seq ?_
  refine wp_seq ?_
  refine rg_lit ?_
  refine pl_val (want_no rfl) (some 19) rfl (.int .i64 (decC s)) (fun _ => by kernel_rfl) ?_
  refine pl_val (want_no rfl) (some 20) rfl (.bool true) (fun w => Eq.trans (b := .ok (.value (.bool (!(decide (decC s = 0))))) w) (by kernel_rfl) (by simp [hc])) ?_
  refine pl_val (want_no rfl) (some 21) rfl (.bool true) (fun _ => by kernel_rfl) ?_
  refine pl_skip (want_off 2 false rfl 21 rfl (by kernel_rfl)) (some 22) rfl ?_
  refine pl_skip (want_off 2 false rfl 21 rfl (by kernel_rfl)) (some 23) rfl ?_
  refine pl_skip (want_off 2 false rfl 21 rfl (by kernel_rfl)) (some 24) rfl ?_
  refine pl_val (want_no rfl) (some 25) rfl (.bool true) (fun _ => by kernel_rfl) ?_
  refine pl_nil ?_
  refine au_then ?_
  refine wp_cond_true (by kernel_rfl) ?_
  refine wp_seq ?_
  refine rg_lit ?_
  refine pl_call M (want_no rfl) (some 26) rfl 6 #[] (.bool true) (fun _ => by kernel_rfl) alive_any ?_
  intro w4 M
  refine pl_val (want_no rfl) (some 4) rfl (.bool true) (fun _ => by kernel_rfl) ?_
  refine pl_nil ?_
  refine au_then ?_
  refine wp_ret ?_
  refine au_then_ret ?_
  exact bodyPost_ret (v := .bool true) (results_tmp1 Try.results4 _ _ _ (by kernel_rfl)) (by kernel_rfl) ⟨rfl, M.old⟩

structure rowsLF (s : ByteArray) (l : Option Addr) (b o len cap : Nat) (Ss : Nat → ByteArray)  : Prop where
  h0 : True

set_option maxRecDepth 100000 in
set_option maxHeartbeats 4000000 in
theorem rowsL_gen (s : ByteArray) (l : Option Addr) (b o len cap : Nat) (Ss : Nat → ByteArray)  (w : World) (_F : rowsLF s l b o len cap Ss ) (hc : decC s = 0) (hl : 40 < (len : Int)) :
    Calls Try.prog 4 #[.string s, .slice l len cap] w fun r w' => r = .returned (.bool true) ∧ Below w.heap.size w w' := by
  go_enter Try.func4, Try.ntmps4
  have M := Mem.start w
  refine wp_seq ?_
  refine rg_lit ?_
  refine pl_val (want_no rfl) (some 4) rfl (.bool false) (fun _ => by kernel_rfl) ?_
  refine pl_nil ?_
  refine au_then ?_
  refine wp_seq ?_
  refine rg_lit ?_
  refine pl_val (want_no rfl) (some 15) rfl (.string s) (fun _ => by kernel_rfl) ?_
  refine pl_call M (want_no rfl) (some 16) rfl 7 #[.string s] (.tuple #[.agg (arr 20 (decP s).f), .int .i64 (decC s)]) (fun _ => by kernel_rfl) (dec_yes rfl rfl) ?_
  intro w1 M
  refine pl_val (want_no rfl) (some 14) rfl (.tuple #[.agg (arr 20 (decP s).f), .int .i64 (decC s)]) (fun _ => by kernel_rfl) ?_
  refine pl_val (want_no rfl) (some 17) rfl (.agg (arr 20 (decP s).f)) (fun _ => by kernel_rfl) ?_
  refine pl_val (want_no rfl) (some 18) rfl (.int .i64 (decC s)) (fun _ => by kernel_rfl) ?_
  refine pl_new M (want_no rfl) (some 5) rfl (.cells (arr 20 (fun _ => 0)) 28) (fun _ => by kernel_rfl) ?_
  intro g1 w2 M
  replace M : Mem w [⟨g1, .cells (arr 20 (fun _ => 0)) 28⟩] w2 := M
  refine pl_put M (want_no rfl) rfl 28 _ _ rfl 0 g1 (by kernel_rfl) 20 28 (fun _ => 0) (decP s).f rfl (by kernel_rfl) inz28 ?_
  intro w3 M
  replace M : Mem w [⟨g1, .cells (arr 20 (decP s).f) 28⟩] w3 := M
  refine pl_val (want_no rfl) (some 6) rfl (.int .i64 (decC s)) (fun _ => by kernel_rfl) ?_
  refine pl_nil ?_
  refine au_then ?_
  refine wp_seq ?_
  refine wp_seq ?_
  refine rg_lit ?_
  refine pl_val (want_no rfl) (some 19) rfl (.int .i64 (decC s)) (fun _ => by kernel_rfl) ?_
  refine pl_val (want_no rfl) (some 20) rfl (.bool false) (fun w => Eq.trans (b := .ok (.value (.bool (!(decide (decC s = 0))))) w) (by kernel_rfl) (by simp [hc])) ?_
  refine pl_val (want_no rfl) (some 21) rfl (.bool false) (fun _ => by kernel_rfl) ?_
  refine pl_val (want_on 2 false rfl 21 rfl (by kernel_rfl)) (some 22) rfl (.slice l len cap) (fun _ => by kernel_rfl) ?_
  refine pl_val (want_on 2 false rfl 21 rfl (by kernel_rfl)) (some 23) rfl (.int .i64 (len : Int)) (fun _ => by kernel_rfl) ?_
  refine pl_val (want_on 2 false rfl 21 rfl (by kernel_rfl)) (some 24) rfl (.bool true) (fun w => Eq.trans (b := .ok (.value (.bool (decide (40 < (len : Int))))) w) (by kernel_rfl) (by rw [decide_eq_true hl])) ?_
  refine pl_val (want_no rfl) (some 25) rfl (.bool true) (fun _ => by kernel_rfl) ?_
  refine pl_nil ?_
  refine au_then ?_
  refine wp_cond_true (by kernel_rfl) ?_
  refine wp_seq ?_
  refine rg_lit ?_
  refine pl_call M (want_no rfl) (some 26) rfl 6 #[] (.bool true) (fun _ => by kernel_rfl) alive_any ?_
  intro w4 M
  refine pl_val (want_no rfl) (some 4) rfl (.bool true) (fun _ => by kernel_rfl) ?_
  refine pl_nil ?_
  refine au_then ?_
  refine wp_ret ?_
  refine au_then_ret ?_
  exact bodyPost_ret (v := .bool true) (results_tmp1 Try.results4 _ _ _ (by kernel_rfl)) (by kernel_rfl) ⟨rfl, M.old⟩

def decQ (s : ByteArray) : Pt := if h : rdecB s = true then decPt s h else zeroP
theorem dec_both {s : ByteArray} (hc : decC s = 0) : Rep (decP s) (decQ s) ∧ RRep (rdecP s) (decQ s) := by
  have h32 : s.size = 32 := by
    refine Classical.byContradiction fun h => ?_
    unfold decC at hc
    rw [if_neg h] at hc
    cases hc
  have hB : rdecB s = true := by
    cases h : rdecB s
    · unfold decC at hc
      rw [if_pos h32, dec_eq, h] at hc
      cases hc
    · rfl
  have e : decQ s = decPt s hB := by
    unfold decQ
    rw [dif_pos hB]
  rw [e]
  exact ⟨dec_rep h32 hB, rdec_rep h32 hB⟩
theorem is_yes {p : P5} {q : RQ} {X : Pt} (hp : Rep p X) (hq : RRep q X) (w : World) : Calls Try.prog 12 #[.agg (arr 20 p.f), .agg (arr 64 q.f)] w fun r w' => r = .returned (.bool true) ∧ Below w.heap.size w w' := by
  have h := isF_gen p.f q.f (ptS X) (ptS X) w ⟨bytes_yes hp.ok hp.bytes, fun w => by
    have h := c_rbytes q w hq.ok
    rwa [hq.bytes] at h⟩
  simpa using h

structure rowsYF (s : ByteArray) (l : Option Addr) (b o len cap : Nat) (Ss : Nat → ByteArray)  : Prop where
  h0 : True

set_option maxRecDepth 100000 in
set_option maxHeartbeats 4000000 in
theorem rowsY_gen (s : ByteArray) (l : Option Addr) (b o len cap : Nat) (Ss : Nat → ByteArray)  (w : World) (_F : rowsYF s l b o len cap Ss ) (hc : decC s = 0) (hl : ¬ 40 < (len : Int)) (hll : 0 < len → l = some ⟨b, o, none⟩) (hbb : 0 < len → b < w.heap.size) (hS : ∀ j, j < len → w.cell? ⟨b, o + j, none⟩ = some (.string (Ss j))) :
    Calls Try.prog 4 #[.string s, .slice l len cap] w fun r w' => r = .returned (.bool true) ∧ Below w.heap.size w w' := by
  go_enter Try.func4, Try.ntmps4
  obtain ⟨hp0, hq0⟩ := dec_both hc
  have M := Mem.start w
  refine wp_seq ?_
  refine rg_lit ?_
  refine pl_val (want_no rfl) (some 4) rfl (.bool false) (fun _ => by kernel_rfl) ?_
  refine pl_nil ?_
  refine au_then ?_
  refine wp_seq ?_
  refine rg_lit ?_
  refine pl_val (want_no rfl) (some 15) rfl (.string s) (fun _ => by kernel_rfl) ?_
  refine pl_call M (want_no rfl) (some 16) rfl 7 #[.string s] (.tuple #[.agg (arr 20 (decP s).f), .int .i64 (decC s)]) (fun _ => by kernel_rfl) (dec_yes rfl rfl) ?_
  intro w1 M
  refine pl_val (want_no rfl) (some 14) rfl (.tuple #[.agg (arr 20 (decP s).f), .int .i64 (decC s)]) (fun _ => by kernel_rfl) ?_
  refine pl_val (want_no rfl) (some 17) rfl (.agg (arr 20 (decP s).f)) (fun _ => by kernel_rfl) ?_
  refine pl_val (want_no rfl) (some 18) rfl (.int .i64 (decC s)) (fun _ => by kernel_rfl) ?_
  refine pl_new M (want_no rfl) (some 5) rfl (.cells (arr 20 (fun _ => 0)) 28) (fun _ => by kernel_rfl) ?_
  intro g1 w2 M
  replace M : Mem w [⟨g1, .cells (arr 20 (fun _ => 0)) 28⟩] w2 := M
  refine pl_put M (want_no rfl) rfl 28 _ _ rfl 0 g1 (by kernel_rfl) 20 28 (fun _ => 0) (decP s).f rfl (by kernel_rfl) inz28 ?_
  intro w3 M
  replace M : Mem w [⟨g1, .cells (arr 20 (decP s).f) 28⟩] w3 := M
  refine pl_val (want_no rfl) (some 6) rfl (.int .i64 (decC s)) (fun _ => by kernel_rfl) ?_
  refine pl_nil ?_
  refine au_then ?_
  refine wp_seq ?_
  refine wp_seq ?_
  refine rg_lit ?_
  refine pl_val (want_no rfl) (some 19) rfl (.int .i64 (decC s)) (fun _ => by kernel_rfl) ?_
  refine pl_val (want_no rfl) (some 20) rfl (.bool false) (fun w => Eq.trans (b := .ok (.value (.bool (!(decide (decC s = 0))))) w) (by kernel_rfl) (by simp [hc])) ?_
  refine pl_val (want_no rfl) (some 21) rfl (.bool false) (fun _ => by kernel_rfl) ?_
  refine pl_val (want_on 2 false rfl 21 rfl (by kernel_rfl)) (some 22) rfl (.slice l len cap) (fun _ => by kernel_rfl) ?_
  refine pl_val (want_on 2 false rfl 21 rfl (by kernel_rfl)) (some 23) rfl (.int .i64 (len : Int)) (fun _ => by kernel_rfl) ?_
  refine pl_val (want_on 2 false rfl 21 rfl (by kernel_rfl)) (some 24) rfl (.bool false) (fun w => Eq.trans (b := .ok (.value (.bool (decide (40 < (len : Int))))) w) (by kernel_rfl) (by rw [decide_eq_false hl])) ?_
  refine pl_val (want_no rfl) (some 25) rfl (.bool false) (fun _ => by kernel_rfl) ?_
  refine pl_nil ?_
  refine au_then ?_
  refine wp_cond_false (by kernel_rfl) ?_
  refine wp_skip ?_
  refine au_then ?_
  refine wp_seq ?_
  refine rg_lit ?_
  refine pl_val (want_no rfl) (some 28) rfl (.string s) (fun _ => by kernel_rfl) ?_
  refine pl_call M (want_no rfl) (some 29) rfl 8 #[.string s] (.tuple #[.agg (arr 64 (rdecP s).f), .int .i64 (rdecC s)]) (fun _ => by kernel_rfl) (c_rdec s) ?_
  intro w4 M
  refine pl_val (want_no rfl) (some 27) rfl (.tuple #[.agg (arr 64 (rdecP s).f), .int .i64 (rdecC s)]) (fun _ => by kernel_rfl) ?_
  refine pl_val (want_no rfl) (some 30) rfl (.agg (arr 64 (rdecP s).f)) (fun _ => by kernel_rfl) ?_
  refine pl_val (want_no rfl) (some 31) rfl (.int .i64 (rdecC s)) (fun _ => by kernel_rfl) ?_
  refine pl_new M (want_no rfl) (some 7) rfl (.cells (arr 64 (fun _ => 0)) 35) (fun _ => by kernel_rfl) ?_
  intro g2 w5 M
  replace M : Mem w [⟨g1, .cells (arr 20 (decP s).f) 28⟩, ⟨g2, .cells (arr 64 (fun _ => 0)) 35⟩] w5 := M
  refine pl_put M (want_no rfl) rfl 35 _ _ rfl 1 g2 (by kernel_rfl) 64 35 (fun _ => 0) (rdecP s).f rfl (by kernel_rfl) inz35 ?_
  intro w6 M
  replace M : Mem w [⟨g1, .cells (arr 20 (decP s).f) 28⟩, ⟨g2, .cells (arr 64 (rdecP s).f) 35⟩] w6 := M
  refine pl_val (want_no rfl) (some 8) rfl (.int .i64 (rdecC s)) (fun _ => by kernel_rfl) ?_
  refine pl_nil ?_
  refine au_then ?_
  refine wp_seq ?_
  refine wp_seq ?_
  refine rg_lit ?_
  refine pl_val (want_no rfl) (some 9) rfl (.int .i64 0) (fun _ => by kernel_rfl) ?_
  refine pl_nil ?_
  refine au_then ?_
  refine wp_block ?_
  refine au_loop (fun j a w' => ∃ (v : Nat → Value) (p : P5) (q : RQ), a = ⟨#[.string s, .slice l len cap, undef, undef, .bool false, .pointer (some ⟨g1, 0, none⟩), .int .i64 (decC s), .pointer (some ⟨g2, 0, none⟩), .int .i64 (rdecC s), .int .i64 (j : Int), v 10, v 11, v 12, v 13, .tuple #[.agg (arr 20 (decP s).f), .int .i64 (decC s)], .string s, .tuple #[.agg (arr 20 (decP s).f), .int .i64 (decC s)], .agg (arr 20 (decP s).f), .int .i64 (decC s), .int .i64 (decC s), .bool false, .bool false, .slice l len cap, .int .i64 (len : Int), .bool false, .bool false, undef, .tuple #[.agg (arr 64 (rdecP s).f), .int .i64 (rdecC s)], .string s, .tuple #[.agg (arr 64 (rdecP s).f), .int .i64 (rdecC s)], .agg (arr 64 (rdecP s).f), .int .i64 (rdecC s), v 32, v 33, v 34, v 35, v 36, v 37, v 38, v 39, v 40, v 41, v 42, v 43, v 44, v 45, v 46, v 47, v 48, v 49, v 50, v 51, v 52, v 53, v 54, v 55, v 56, v 57, v 58, v 59, v 60, v 61, v 62, v 63, v 64, v 65, v 66, v 67, v 68, v 69, v 70, v 71, v 72, v 73, v 74, v 75, v 76, v 77, v 78, v 79, v 80, v 81, v 82, v 83, v 84, v 85, v 86, v 87, v 88, v 89, v 90, v 91, v 92, undef, undef, undef, undef, undef, undef], []⟩ ∧ Mem w [⟨g1, .cells (arr 20 p.f) 28⟩, ⟨g2, .cells (arr 64 q.f) 35⟩] w' ∧ ∃ X, Rep p X ∧ RRep q X) len ⟨fun _ => undef, decP s, rdecP s, by kernel_rfl, M, _, hp0, hq0⟩ ?_ ?_
  · intro j a w1 hj hI
    obtain ⟨v, p, q, rfl, M, X, hp, hq⟩ := hI
    have hl := hll (by omega)
    have hb := hbb (by omega)
    have hjl : (j : Int) < (len : Int) := by omega
    cases hA : decide (40 < ((Ss j).size : Int))
    · cases hE : ((Ss j).toList == (⟨#[]⟩ : ByteArray).toList)
      · cases hO : decide (((Ss j).size : Int) = 1)
        · cases hC : decide (decC (Ss j) = 0)
          · skip
            refine wp_seq ?_
            refine wp_seq ?_
            refine rg_lit ?_
            refine pl_val (want_no rfl) (some 32) rfl (.int .i64 (j : Int)) (fun _ => by kernel_rfl) ?_
            refine pl_val (want_no rfl) (some 33) rfl (.slice l len cap) (fun _ => by kernel_rfl) ?_
            refine pl_val (want_no rfl) (some 34) rfl (.int .i64 (len : Int)) (fun _ => by kernel_rfl) ?_
            refine pl_val (want_no rfl) (some 35) rfl (.bool true) (fun w => Eq.trans (b := .ok (.value (.bool (decide ((j : Int) < (len : Int))))) w) (by kernel_rfl) (by rw [decide_eq_true hjl])) ?_
            refine pl_nil ?_
            refine au_then ?_
            refine wp_cond_true (by kernel_rfl) ?_
            refine wp_skip ?_
            refine au_then ?_
            refine wp_seq ?_
            refine wp_block ?_
            refine wp_seq ?_
            refine wp_seq ?_
            refine rg_lit ?_
            refine pl_val (want_no rfl) (some 38) rfl (.slice l len cap) (fun _ => by kernel_rfl) ?_
            refine pl_val (want_no rfl) (some 39) rfl (.int .i64 (j : Int)) (fun _ => by kernel_rfl) ?_
            refine pl_val (want_no rfl) (some 40) rfl (.pointer (some ⟨b, o + j, none⟩)) (fun w => run_ixL 42 9 Try.underlying42 inz9 _ _ rfl l b o len cap hl (by kernel_rfl) .i64 j (by kernel_rfl) hj w) ?_
            refine pl_out M (want_no rfl) (some 41) rfl 9 _ rfl b (o + j) (by kernel_rfl) hb (.string (Ss j)) (hS j hj) (fun _ => by kernel_rfl) ?_
            refine pl_val (want_no rfl) (some 42) rfl (.int .i64 ((Ss j).size : Int)) (fun _ => by kernel_rfl) ?_
            refine pl_val (want_no rfl) (some 43) rfl (.bool false) (fun w => Eq.trans (b := .ok (.value (.bool (decide (40 < ((Ss j).size : Int))))) w) (by kernel_rfl) (by rw [hA])) ?_
            refine pl_nil ?_
            refine au_then ?_
            refine wp_cond_false (by kernel_rfl) ?_
            refine wp_skip ?_
            refine au_then ?_
            refine wp_seq ?_
            refine rg_lit ?_
            refine pl_val (want_no rfl) (some 46) rfl (.slice l len cap) (fun _ => by kernel_rfl) ?_
            refine pl_val (want_no rfl) (some 47) rfl (.int .i64 (j : Int)) (fun _ => by kernel_rfl) ?_
            refine pl_val (want_no rfl) (some 48) rfl (.pointer (some ⟨b, o + j, none⟩)) (fun w => run_ixL 42 9 Try.underlying42 inz9 _ _ rfl l b o len cap hl (by kernel_rfl) .i64 j (by kernel_rfl) hj w) ?_
            refine pl_out M (want_no rfl) (some 49) rfl 9 _ rfl b (o + j) (by kernel_rfl) hb (.string (Ss j)) (hS j hj) (fun _ => by kernel_rfl) ?_
            refine pl_call M (want_no rfl) (some 50) rfl 7 #[.string (Ss j)] (.tuple #[.agg (arr 20 (decP (Ss j)).f), .int .i64 (decC (Ss j))]) (fun _ => by kernel_rfl) (dec_yes rfl rfl) ?_
            intro w7 M
            refine pl_val (want_no rfl) (some 45) rfl (.tuple #[.agg (arr 20 (decP (Ss j)).f), .int .i64 (decC (Ss j))]) (fun _ => by kernel_rfl) ?_
            refine pl_val (want_no rfl) (some 51) rfl (.agg (arr 20 (decP (Ss j)).f)) (fun _ => by kernel_rfl) ?_
            refine pl_val (want_no rfl) (some 52) rfl (.int .i64 (decC (Ss j))) (fun _ => by kernel_rfl) ?_
            refine pl_new M (want_no rfl) (some 10) rfl (.cells (arr 20 (fun _ => 0)) 28) (fun _ => by kernel_rfl) ?_
            intro g3 w8 M
            replace M : Mem w [⟨g1, .cells (arr 20 p.f) 28⟩, ⟨g2, .cells (arr 64 q.f) 35⟩, ⟨g3, .cells (arr 20 (fun _ => 0)) 28⟩] w8 := M
            refine pl_put M (want_no rfl) rfl 28 _ _ rfl 2 g3 (by kernel_rfl) 20 28 (fun _ => 0) (decP (Ss j)).f rfl (by kernel_rfl) inz28 ?_
            intro w9 M
            replace M : Mem w [⟨g1, .cells (arr 20 p.f) 28⟩, ⟨g2, .cells (arr 64 q.f) 35⟩, ⟨g3, .cells (arr 20 (decP (Ss j)).f) 28⟩] w9 := M
            refine pl_val (want_no rfl) (some 11) rfl (.int .i64 (decC (Ss j))) (fun _ => by kernel_rfl) ?_
            refine pl_nil ?_
            refine au_then ?_
            refine wp_block ?_
            refine wp_seq ?_
            refine rg_lit ?_
            refine pl_val (want_no rfl) (some 54) rfl (.slice l len cap) (fun _ => by kernel_rfl) ?_
            refine pl_val (want_no rfl) (some 55) rfl (.int .i64 (j : Int)) (fun _ => by kernel_rfl) ?_
            refine pl_val (want_no rfl) (some 56) rfl (.pointer (some ⟨b, o + j, none⟩)) (fun w => run_ixL 42 9 Try.underlying42 inz9 _ _ rfl l b o len cap hl (by kernel_rfl) .i64 j (by kernel_rfl) hj w) ?_
            refine pl_out M (want_no rfl) (some 57) rfl 9 _ rfl b (o + j) (by kernel_rfl) hb (.string (Ss j)) (hS j hj) (fun _ => by kernel_rfl) ?_
            refine pl_val (want_no rfl) (some 58) rfl (.bool false) (fun w => Eq.trans (b := .ok (.value (.bool (((Ss j).toList == (⟨#[]⟩ : ByteArray).toList)))) w) (by kernel_rfl) (by rw [hE])) ?_
            refine pl_val (want_no rfl) (some 53) rfl (.bool false) (fun _ => by kernel_rfl) ?_
            refine pl_nil ?_
            refine au_then ?_
            refine wp_cond_false (by kernel_rfl) ?_
            refine wp_seq ?_
            refine rg_lit ?_
            refine pl_val (want_no rfl) (some 66) rfl (.slice l len cap) (fun _ => by kernel_rfl) ?_
            refine pl_val (want_no rfl) (some 67) rfl (.int .i64 (j : Int)) (fun _ => by kernel_rfl) ?_
            refine pl_val (want_no rfl) (some 68) rfl (.pointer (some ⟨b, o + j, none⟩)) (fun w => run_ixL 42 9 Try.underlying42 inz9 _ _ rfl l b o len cap hl (by kernel_rfl) .i64 j (by kernel_rfl) hj w) ?_
            refine pl_out M (want_no rfl) (some 69) rfl 9 _ rfl b (o + j) (by kernel_rfl) hb (.string (Ss j)) (hS j hj) (fun _ => by kernel_rfl) ?_
            refine pl_val (want_no rfl) (some 70) rfl (.int .i64 ((Ss j).size : Int)) (fun _ => by kernel_rfl) ?_
            refine pl_val (want_no rfl) (some 71) rfl (.bool false) (fun w => Eq.trans (b := .ok (.value (.bool (decide (((Ss j).size : Int) = 1)))) w) (by kernel_rfl) (by rw [hO])) ?_
            refine pl_val (want_no rfl) (some 65) rfl (.bool false) (fun _ => by kernel_rfl) ?_
            refine pl_nil ?_
            refine au_then ?_
            refine wp_cond_false (by kernel_rfl) ?_
            refine wp_seq ?_
            refine rg_lit ?_
            refine pl_val (want_no rfl) (some 77) rfl (.int .i64 (decC (Ss j))) (fun _ => by kernel_rfl) ?_
            refine pl_val (want_no rfl) (some 78) rfl (.bool false) (fun w => Eq.trans (b := .ok (.value (.bool (decide (decC (Ss j) = 0)))) w) (by kernel_rfl) (by rw [hC])) ?_
            refine pl_val (want_no rfl) (some 76) rfl (.bool false) (fun _ => by kernel_rfl) ?_
            refine pl_nil ?_
            refine au_then ?_
            refine wp_cond_false (by kernel_rfl) ?_
            refine wp_skip ?_
            refine au_block ?_
            refine au_block ?_
            refine au_then ?_
            refine rg_lit ?_
            refine pl_val (want_no rfl) (some 36) rfl (.int .i64 (j : Int)) (fun _ => by kernel_rfl) ?_
            refine pl_val (want_no rfl) (some 37) rfl (.int .i64 ((j + 1 : Nat) : Int)) (fun w => Eq.trans (b := .ok (.value (.int .i64 (IntKind.wrap .i64 ((j : Int) + 1)))) w) (by kernel_rfl) (by rw [wrap64 (by omega) (by omega), Int.natCast_add]; rfl)) ?_
            refine pl_val (want_no rfl) (some 9) rfl (.int .i64 ((j + 1 : Nat) : Int)) (fun _ => by kernel_rfl) ?_
            refine pl_nil ?_
            refine au_then ?_
            exact ⟨fun k => ([.pointer (some ⟨g3, 0, none⟩), .int .i64 (decC (Ss j)), v 12, v 13, undef, undef, undef, undef, undef, undef, undef, undef, undef, undef, undef, undef, undef, undef, undef, undef, undef, undef, .int .i64 (j : Int), .slice l len cap, .int .i64 (len : Int), .bool true, .int .i64 (j : Int), .int .i64 ((j + 1 : Nat) : Int), .slice l len cap, .int .i64 (j : Int), .pointer (some ⟨b, o + j, none⟩), .string (Ss j), .int .i64 ((Ss j).size : Int), .bool false, v 44, .tuple #[.agg (arr 20 (decP (Ss j)).f), .int .i64 (decC (Ss j))], .slice l len cap, .int .i64 (j : Int), .pointer (some ⟨b, o + j, none⟩), .string (Ss j), .tuple #[.agg (arr 20 (decP (Ss j)).f), .int .i64 (decC (Ss j))], .agg (arr 20 (decP (Ss j)).f), .int .i64 (decC (Ss j)), .bool false, .slice l len cap, .int .i64 (j : Int), .pointer (some ⟨b, o + j, none⟩), .string (Ss j), .bool false, v 59, v 60, v 61, v 62, v 63, v 64, .bool false, .slice l len cap, .int .i64 (j : Int), .pointer (some ⟨b, o + j, none⟩), .string (Ss j), .int .i64 ((Ss j).size : Int), .bool false, v 72, v 73, v 74, v 75, .bool false, .int .i64 (decC (Ss j)), .bool false, v 79, v 80, v 81, v 82, v 83, v 84, v 85, v 86, v 87, v 88, v 89, v 90, v 91, v 92] : List Value).getD (k - 10) undef, p, q, by kernel_rfl, M.drop (.cons_cons _ (.cons_cons _ (.cons _ .slnil))), _, hp, hq⟩
          · obtain ⟨hd1, hd2⟩ := dec_both (of_decide_eq_true hC)
            refine wp_seq ?_
            refine wp_seq ?_
            refine rg_lit ?_
            refine pl_val (want_no rfl) (some 32) rfl (.int .i64 (j : Int)) (fun _ => by kernel_rfl) ?_
            refine pl_val (want_no rfl) (some 33) rfl (.slice l len cap) (fun _ => by kernel_rfl) ?_
            refine pl_val (want_no rfl) (some 34) rfl (.int .i64 (len : Int)) (fun _ => by kernel_rfl) ?_
            refine pl_val (want_no rfl) (some 35) rfl (.bool true) (fun w => Eq.trans (b := .ok (.value (.bool (decide ((j : Int) < (len : Int))))) w) (by kernel_rfl) (by rw [decide_eq_true hjl])) ?_
            refine pl_nil ?_
            refine au_then ?_
            refine wp_cond_true (by kernel_rfl) ?_
            refine wp_skip ?_
            refine au_then ?_
            refine wp_seq ?_
            refine wp_block ?_
            refine wp_seq ?_
            refine wp_seq ?_
            refine rg_lit ?_
            refine pl_val (want_no rfl) (some 38) rfl (.slice l len cap) (fun _ => by kernel_rfl) ?_
            refine pl_val (want_no rfl) (some 39) rfl (.int .i64 (j : Int)) (fun _ => by kernel_rfl) ?_
            refine pl_val (want_no rfl) (some 40) rfl (.pointer (some ⟨b, o + j, none⟩)) (fun w => run_ixL 42 9 Try.underlying42 inz9 _ _ rfl l b o len cap hl (by kernel_rfl) .i64 j (by kernel_rfl) hj w) ?_
            refine pl_out M (want_no rfl) (some 41) rfl 9 _ rfl b (o + j) (by kernel_rfl) hb (.string (Ss j)) (hS j hj) (fun _ => by kernel_rfl) ?_
            refine pl_val (want_no rfl) (some 42) rfl (.int .i64 ((Ss j).size : Int)) (fun _ => by kernel_rfl) ?_
            refine pl_val (want_no rfl) (some 43) rfl (.bool false) (fun w => Eq.trans (b := .ok (.value (.bool (decide (40 < ((Ss j).size : Int))))) w) (by kernel_rfl) (by rw [hA])) ?_
            refine pl_nil ?_
            refine au_then ?_
            refine wp_cond_false (by kernel_rfl) ?_
            refine wp_skip ?_
            refine au_then ?_
            refine wp_seq ?_
            refine rg_lit ?_
            refine pl_val (want_no rfl) (some 46) rfl (.slice l len cap) (fun _ => by kernel_rfl) ?_
            refine pl_val (want_no rfl) (some 47) rfl (.int .i64 (j : Int)) (fun _ => by kernel_rfl) ?_
            refine pl_val (want_no rfl) (some 48) rfl (.pointer (some ⟨b, o + j, none⟩)) (fun w => run_ixL 42 9 Try.underlying42 inz9 _ _ rfl l b o len cap hl (by kernel_rfl) .i64 j (by kernel_rfl) hj w) ?_
            refine pl_out M (want_no rfl) (some 49) rfl 9 _ rfl b (o + j) (by kernel_rfl) hb (.string (Ss j)) (hS j hj) (fun _ => by kernel_rfl) ?_
            refine pl_call M (want_no rfl) (some 50) rfl 7 #[.string (Ss j)] (.tuple #[.agg (arr 20 (decP (Ss j)).f), .int .i64 (decC (Ss j))]) (fun _ => by kernel_rfl) (dec_yes rfl rfl) ?_
            intro w10 M
            refine pl_val (want_no rfl) (some 45) rfl (.tuple #[.agg (arr 20 (decP (Ss j)).f), .int .i64 (decC (Ss j))]) (fun _ => by kernel_rfl) ?_
            refine pl_val (want_no rfl) (some 51) rfl (.agg (arr 20 (decP (Ss j)).f)) (fun _ => by kernel_rfl) ?_
            refine pl_val (want_no rfl) (some 52) rfl (.int .i64 (decC (Ss j))) (fun _ => by kernel_rfl) ?_
            refine pl_new M (want_no rfl) (some 10) rfl (.cells (arr 20 (fun _ => 0)) 28) (fun _ => by kernel_rfl) ?_
            intro g4 w11 M
            replace M : Mem w [⟨g1, .cells (arr 20 p.f) 28⟩, ⟨g2, .cells (arr 64 q.f) 35⟩, ⟨g4, .cells (arr 20 (fun _ => 0)) 28⟩] w11 := M
            refine pl_put M (want_no rfl) rfl 28 _ _ rfl 2 g4 (by kernel_rfl) 20 28 (fun _ => 0) (decP (Ss j)).f rfl (by kernel_rfl) inz28 ?_
            intro w12 M
            replace M : Mem w [⟨g1, .cells (arr 20 p.f) 28⟩, ⟨g2, .cells (arr 64 q.f) 35⟩, ⟨g4, .cells (arr 20 (decP (Ss j)).f) 28⟩] w12 := M
            refine pl_val (want_no rfl) (some 11) rfl (.int .i64 (decC (Ss j))) (fun _ => by kernel_rfl) ?_
            refine pl_nil ?_
            refine au_then ?_
            refine wp_block ?_
            refine wp_seq ?_
            refine rg_lit ?_
            refine pl_val (want_no rfl) (some 54) rfl (.slice l len cap) (fun _ => by kernel_rfl) ?_
            refine pl_val (want_no rfl) (some 55) rfl (.int .i64 (j : Int)) (fun _ => by kernel_rfl) ?_
            refine pl_val (want_no rfl) (some 56) rfl (.pointer (some ⟨b, o + j, none⟩)) (fun w => run_ixL 42 9 Try.underlying42 inz9 _ _ rfl l b o len cap hl (by kernel_rfl) .i64 j (by kernel_rfl) hj w) ?_
            refine pl_out M (want_no rfl) (some 57) rfl 9 _ rfl b (o + j) (by kernel_rfl) hb (.string (Ss j)) (hS j hj) (fun _ => by kernel_rfl) ?_
            refine pl_val (want_no rfl) (some 58) rfl (.bool false) (fun w => Eq.trans (b := .ok (.value (.bool (((Ss j).toList == (⟨#[]⟩ : ByteArray).toList)))) w) (by kernel_rfl) (by rw [hE])) ?_
            refine pl_val (want_no rfl) (some 53) rfl (.bool false) (fun _ => by kernel_rfl) ?_
            refine pl_nil ?_
            refine au_then ?_
            refine wp_cond_false (by kernel_rfl) ?_
            refine wp_seq ?_
            refine rg_lit ?_
            refine pl_val (want_no rfl) (some 66) rfl (.slice l len cap) (fun _ => by kernel_rfl) ?_
            refine pl_val (want_no rfl) (some 67) rfl (.int .i64 (j : Int)) (fun _ => by kernel_rfl) ?_
            refine pl_val (want_no rfl) (some 68) rfl (.pointer (some ⟨b, o + j, none⟩)) (fun w => run_ixL 42 9 Try.underlying42 inz9 _ _ rfl l b o len cap hl (by kernel_rfl) .i64 j (by kernel_rfl) hj w) ?_
            refine pl_out M (want_no rfl) (some 69) rfl 9 _ rfl b (o + j) (by kernel_rfl) hb (.string (Ss j)) (hS j hj) (fun _ => by kernel_rfl) ?_
            refine pl_val (want_no rfl) (some 70) rfl (.int .i64 ((Ss j).size : Int)) (fun _ => by kernel_rfl) ?_
            refine pl_val (want_no rfl) (some 71) rfl (.bool false) (fun w => Eq.trans (b := .ok (.value (.bool (decide (((Ss j).size : Int) = 1)))) w) (by kernel_rfl) (by rw [hO])) ?_
            refine pl_val (want_no rfl) (some 65) rfl (.bool false) (fun _ => by kernel_rfl) ?_
            refine pl_nil ?_
            refine au_then ?_
            refine wp_cond_false (by kernel_rfl) ?_
            refine wp_seq ?_
            refine rg_lit ?_
            refine pl_val (want_no rfl) (some 77) rfl (.int .i64 (decC (Ss j))) (fun _ => by kernel_rfl) ?_
            refine pl_val (want_no rfl) (some 78) rfl (.bool true) (fun w => Eq.trans (b := .ok (.value (.bool (decide (decC (Ss j) = 0)))) w) (by kernel_rfl) (by rw [hC])) ?_
            refine pl_val (want_no rfl) (some 76) rfl (.bool true) (fun _ => by kernel_rfl) ?_
            refine pl_nil ?_
            refine au_then ?_
            refine wp_cond_true (by kernel_rfl) ?_
            refine wp_seq ?_
            refine rg_lit ?_
            refine pl_val (want_no rfl) (some 80) rfl (.slice l len cap) (fun _ => by kernel_rfl) ?_
            refine pl_val (want_no rfl) (some 81) rfl (.int .i64 (j : Int)) (fun _ => by kernel_rfl) ?_
            refine pl_val (want_no rfl) (some 82) rfl (.pointer (some ⟨b, o + j, none⟩)) (fun w => run_ixL 42 9 Try.underlying42 inz9 _ _ rfl l b o len cap hl (by kernel_rfl) .i64 j (by kernel_rfl) hj w) ?_
            refine pl_out M (want_no rfl) (some 83) rfl 9 _ rfl b (o + j) (by kernel_rfl) hb (.string (Ss j)) (hS j hj) (fun _ => by kernel_rfl) ?_
            refine pl_call M (want_no rfl) (some 84) rfl 8 #[.string (Ss j)] (.tuple #[.agg (arr 64 (rdecP (Ss j)).f), .int .i64 (rdecC (Ss j))]) (fun _ => by kernel_rfl) (c_rdec (Ss j)) ?_
            intro w13 M
            refine pl_val (want_no rfl) (some 79) rfl (.tuple #[.agg (arr 64 (rdecP (Ss j)).f), .int .i64 (rdecC (Ss j))]) (fun _ => by kernel_rfl) ?_
            refine pl_val (want_no rfl) (some 85) rfl (.agg (arr 64 (rdecP (Ss j)).f)) (fun _ => by kernel_rfl) ?_
            refine pl_val (want_no rfl) (some 86) rfl (.int .i64 (rdecC (Ss j))) (fun _ => by kernel_rfl) ?_
            refine pl_new M (want_no rfl) (some 12) rfl (.cells (arr 64 (fun _ => 0)) 35) (fun _ => by kernel_rfl) ?_
            intro g5 w14 M
            replace M : Mem w [⟨g1, .cells (arr 20 p.f) 28⟩, ⟨g2, .cells (arr 64 q.f) 35⟩, ⟨g4, .cells (arr 20 (decP (Ss j)).f) 28⟩, ⟨g5, .cells (arr 64 (fun _ => 0)) 35⟩] w14 := M
            refine pl_put M (want_no rfl) rfl 35 _ _ rfl 3 g5 (by kernel_rfl) 64 35 (fun _ => 0) (rdecP (Ss j)).f rfl (by kernel_rfl) inz35 ?_
            intro w15 M
            replace M : Mem w [⟨g1, .cells (arr 20 p.f) 28⟩, ⟨g2, .cells (arr 64 q.f) 35⟩, ⟨g4, .cells (arr 20 (decP (Ss j)).f) 28⟩, ⟨g5, .cells (arr 64 (rdecP (Ss j)).f) 35⟩] w15 := M
            refine pl_val (want_no rfl) (some 13) rfl (.int .i64 (rdecC (Ss j))) (fun _ => by kernel_rfl) ?_
            refine pl_nil ?_
            refine au_then ?_
            refine wp_seq ?_
            refine rg_lit ?_
            refine pl_load M (want_no rfl) (some 87) rfl 28 _ rfl 0 g1 0 (by kernel_rfl) 20 28 p.f rfl 20 p.f (Part.all _ _) (by decide) _ Try.underlying28 rfl inz28 ?_
            refine pl_load M (want_no rfl) (some 88) rfl 28 _ rfl 2 g4 0 (by kernel_rfl) 20 28 (decP (Ss j)).f rfl 20 (decP (Ss j)).f (Part.all _ _) (by decide) _ Try.underlying28 rfl inz28 ?_
            refine pl_call M (want_no rfl) (some 89) rfl 16 #[.agg (arr 20 p.f), .agg (arr 20 (decP (Ss j)).f)] (.agg (arr 20 (addV p (decP (Ss j))).f)) (fun _ => by kernel_rfl) (fun w => c_add p (decP (Ss j)) w hp.ok (decP_ok _)) ?_
            intro w16 M
            refine pl_put M (want_no rfl) rfl 28 _ _ rfl 0 g1 (by kernel_rfl) 20 28 p.f (addV p (decP (Ss j))).f rfl (by kernel_rfl) inz28 ?_
            intro w17 M
            replace M : Mem w [⟨g1, .cells (arr 20 (addV p (decP (Ss j))).f) 28⟩, ⟨g2, .cells (arr 64 q.f) 35⟩, ⟨g4, .cells (arr 20 (decP (Ss j)).f) 28⟩, ⟨g5, .cells (arr 64 (rdecP (Ss j)).f) 35⟩] w17 := M
            refine pl_nil ?_
            refine au_then ?_
            refine rg_lit ?_
            refine pl_load M (want_no rfl) (some 90) rfl 35 _ rfl 1 g2 0 (by kernel_rfl) 64 35 q.f rfl 64 q.f (Part.all _ _) (by decide) _ Try.underlying35 rfl inz35 ?_
            refine pl_load M (want_no rfl) (some 91) rfl 35 _ rfl 3 g5 0 (by kernel_rfl) 64 35 (rdecP (Ss j)).f rfl 64 (rdecP (Ss j)).f (Part.all _ _) (by decide) _ Try.underlying35 rfl inz35 ?_
            refine pl_call M (want_no rfl) (some 92) rfl 17 #[.agg (arr 64 q.f), .agg (arr 64 (rdecP (Ss j)).f)] (.agg (arr 64 (raddV q (rdecP (Ss j))).f)) (fun _ => by kernel_rfl) (fun w => c_radd q (rdecP (Ss j)) w hq.ok hd2.ok) ?_
            intro w18 M
            refine pl_put M (want_no rfl) rfl 35 _ _ rfl 1 g2 (by kernel_rfl) 64 35 q.f (raddV q (rdecP (Ss j))).f rfl (by kernel_rfl) inz35 ?_
            intro w19 M
            replace M : Mem w [⟨g1, .cells (arr 20 (addV p (decP (Ss j))).f) 28⟩, ⟨g2, .cells (arr 64 (raddV q (rdecP (Ss j))).f) 35⟩, ⟨g4, .cells (arr 20 (decP (Ss j)).f) 28⟩, ⟨g5, .cells (arr 64 (rdecP (Ss j)).f) 35⟩] w19 := M
            refine pl_nil ?_
            refine au_block ?_
            refine au_block ?_
            refine au_then ?_
            refine rg_lit ?_
            refine pl_val (want_no rfl) (some 36) rfl (.int .i64 (j : Int)) (fun _ => by kernel_rfl) ?_
            refine pl_val (want_no rfl) (some 37) rfl (.int .i64 ((j + 1 : Nat) : Int)) (fun w => Eq.trans (b := .ok (.value (.int .i64 (IntKind.wrap .i64 ((j : Int) + 1)))) w) (by kernel_rfl) (by rw [wrap64 (by omega) (by omega), Int.natCast_add]; rfl)) ?_
            refine pl_val (want_no rfl) (some 9) rfl (.int .i64 ((j + 1 : Nat) : Int)) (fun _ => by kernel_rfl) ?_
            refine pl_nil ?_
            refine au_then ?_
            exact ⟨fun k => ([.pointer (some ⟨g4, 0, none⟩), .int .i64 (decC (Ss j)), .pointer (some ⟨g5, 0, none⟩), .int .i64 (rdecC (Ss j)), undef, undef, undef, undef, undef, undef, undef, undef, undef, undef, undef, undef, undef, undef, undef, undef, undef, undef, .int .i64 (j : Int), .slice l len cap, .int .i64 (len : Int), .bool true, .int .i64 (j : Int), .int .i64 ((j + 1 : Nat) : Int), .slice l len cap, .int .i64 (j : Int), .pointer (some ⟨b, o + j, none⟩), .string (Ss j), .int .i64 ((Ss j).size : Int), .bool false, v 44, .tuple #[.agg (arr 20 (decP (Ss j)).f), .int .i64 (decC (Ss j))], .slice l len cap, .int .i64 (j : Int), .pointer (some ⟨b, o + j, none⟩), .string (Ss j), .tuple #[.agg (arr 20 (decP (Ss j)).f), .int .i64 (decC (Ss j))], .agg (arr 20 (decP (Ss j)).f), .int .i64 (decC (Ss j)), .bool false, .slice l len cap, .int .i64 (j : Int), .pointer (some ⟨b, o + j, none⟩), .string (Ss j), .bool false, v 59, v 60, v 61, v 62, v 63, v 64, .bool false, .slice l len cap, .int .i64 (j : Int), .pointer (some ⟨b, o + j, none⟩), .string (Ss j), .int .i64 ((Ss j).size : Int), .bool false, v 72, v 73, v 74, v 75, .bool true, .int .i64 (decC (Ss j)), .bool true, .tuple #[.agg (arr 64 (rdecP (Ss j)).f), .int .i64 (rdecC (Ss j))], .slice l len cap, .int .i64 (j : Int), .pointer (some ⟨b, o + j, none⟩), .string (Ss j), .tuple #[.agg (arr 64 (rdecP (Ss j)).f), .int .i64 (rdecC (Ss j))], .agg (arr 64 (rdecP (Ss j)).f), .int .i64 (rdecC (Ss j)), .agg (arr 20 p.f), .agg (arr 20 (decP (Ss j)).f), .agg (arr 20 (addV p (decP (Ss j))).f), .agg (arr 64 q.f), .agg (arr 64 (rdecP (Ss j)).f), .agg (arr 64 (raddV q (rdecP (Ss j))).f)] : List Value).getD (k - 10) undef, (addV p (decP (Ss j))), (raddV q (rdecP (Ss j))), by kernel_rfl, M.drop (.cons_cons _ (.cons_cons _ (.cons _ (.cons _ .slnil)))), _, (hp.add hd1), (hq.add hd2)⟩
        · skip
          refine wp_seq ?_
          refine wp_seq ?_
          refine rg_lit ?_
          refine pl_val (want_no rfl) (some 32) rfl (.int .i64 (j : Int)) (fun _ => by kernel_rfl) ?_
          refine pl_val (want_no rfl) (some 33) rfl (.slice l len cap) (fun _ => by kernel_rfl) ?_
          refine pl_val (want_no rfl) (some 34) rfl (.int .i64 (len : Int)) (fun _ => by kernel_rfl) ?_
          refine pl_val (want_no rfl) (some 35) rfl (.bool true) (fun w => Eq.trans (b := .ok (.value (.bool (decide ((j : Int) < (len : Int))))) w) (by kernel_rfl) (by rw [decide_eq_true hjl])) ?_
          refine pl_nil ?_
          refine au_then ?_
          refine wp_cond_true (by kernel_rfl) ?_
          refine wp_skip ?_
          refine au_then ?_
          refine wp_seq ?_
          refine wp_block ?_
          refine wp_seq ?_
          refine wp_seq ?_
          refine rg_lit ?_
          refine pl_val (want_no rfl) (some 38) rfl (.slice l len cap) (fun _ => by kernel_rfl) ?_
          refine pl_val (want_no rfl) (some 39) rfl (.int .i64 (j : Int)) (fun _ => by kernel_rfl) ?_
          refine pl_val (want_no rfl) (some 40) rfl (.pointer (some ⟨b, o + j, none⟩)) (fun w => run_ixL 42 9 Try.underlying42 inz9 _ _ rfl l b o len cap hl (by kernel_rfl) .i64 j (by kernel_rfl) hj w) ?_
          refine pl_out M (want_no rfl) (some 41) rfl 9 _ rfl b (o + j) (by kernel_rfl) hb (.string (Ss j)) (hS j hj) (fun _ => by kernel_rfl) ?_
          refine pl_val (want_no rfl) (some 42) rfl (.int .i64 ((Ss j).size : Int)) (fun _ => by kernel_rfl) ?_
          refine pl_val (want_no rfl) (some 43) rfl (.bool false) (fun w => Eq.trans (b := .ok (.value (.bool (decide (40 < ((Ss j).size : Int))))) w) (by kernel_rfl) (by rw [hA])) ?_
          refine pl_nil ?_
          refine au_then ?_
          refine wp_cond_false (by kernel_rfl) ?_
          refine wp_skip ?_
          refine au_then ?_
          refine wp_seq ?_
          refine rg_lit ?_
          refine pl_val (want_no rfl) (some 46) rfl (.slice l len cap) (fun _ => by kernel_rfl) ?_
          refine pl_val (want_no rfl) (some 47) rfl (.int .i64 (j : Int)) (fun _ => by kernel_rfl) ?_
          refine pl_val (want_no rfl) (some 48) rfl (.pointer (some ⟨b, o + j, none⟩)) (fun w => run_ixL 42 9 Try.underlying42 inz9 _ _ rfl l b o len cap hl (by kernel_rfl) .i64 j (by kernel_rfl) hj w) ?_
          refine pl_out M (want_no rfl) (some 49) rfl 9 _ rfl b (o + j) (by kernel_rfl) hb (.string (Ss j)) (hS j hj) (fun _ => by kernel_rfl) ?_
          refine pl_call M (want_no rfl) (some 50) rfl 7 #[.string (Ss j)] (.tuple #[.agg (arr 20 (decP (Ss j)).f), .int .i64 (decC (Ss j))]) (fun _ => by kernel_rfl) (dec_yes rfl rfl) ?_
          intro w20 M
          refine pl_val (want_no rfl) (some 45) rfl (.tuple #[.agg (arr 20 (decP (Ss j)).f), .int .i64 (decC (Ss j))]) (fun _ => by kernel_rfl) ?_
          refine pl_val (want_no rfl) (some 51) rfl (.agg (arr 20 (decP (Ss j)).f)) (fun _ => by kernel_rfl) ?_
          refine pl_val (want_no rfl) (some 52) rfl (.int .i64 (decC (Ss j))) (fun _ => by kernel_rfl) ?_
          refine pl_new M (want_no rfl) (some 10) rfl (.cells (arr 20 (fun _ => 0)) 28) (fun _ => by kernel_rfl) ?_
          intro g6 w21 M
          replace M : Mem w [⟨g1, .cells (arr 20 p.f) 28⟩, ⟨g2, .cells (arr 64 q.f) 35⟩, ⟨g6, .cells (arr 20 (fun _ => 0)) 28⟩] w21 := M
          refine pl_put M (want_no rfl) rfl 28 _ _ rfl 2 g6 (by kernel_rfl) 20 28 (fun _ => 0) (decP (Ss j)).f rfl (by kernel_rfl) inz28 ?_
          intro w22 M
          replace M : Mem w [⟨g1, .cells (arr 20 p.f) 28⟩, ⟨g2, .cells (arr 64 q.f) 35⟩, ⟨g6, .cells (arr 20 (decP (Ss j)).f) 28⟩] w22 := M
          refine pl_val (want_no rfl) (some 11) rfl (.int .i64 (decC (Ss j))) (fun _ => by kernel_rfl) ?_
          refine pl_nil ?_
          refine au_then ?_
          refine wp_block ?_
          refine wp_seq ?_
          refine rg_lit ?_
          refine pl_val (want_no rfl) (some 54) rfl (.slice l len cap) (fun _ => by kernel_rfl) ?_
          refine pl_val (want_no rfl) (some 55) rfl (.int .i64 (j : Int)) (fun _ => by kernel_rfl) ?_
          refine pl_val (want_no rfl) (some 56) rfl (.pointer (some ⟨b, o + j, none⟩)) (fun w => run_ixL 42 9 Try.underlying42 inz9 _ _ rfl l b o len cap hl (by kernel_rfl) .i64 j (by kernel_rfl) hj w) ?_
          refine pl_out M (want_no rfl) (some 57) rfl 9 _ rfl b (o + j) (by kernel_rfl) hb (.string (Ss j)) (hS j hj) (fun _ => by kernel_rfl) ?_
          refine pl_val (want_no rfl) (some 58) rfl (.bool false) (fun w => Eq.trans (b := .ok (.value (.bool (((Ss j).toList == (⟨#[]⟩ : ByteArray).toList)))) w) (by kernel_rfl) (by rw [hE])) ?_
          refine pl_val (want_no rfl) (some 53) rfl (.bool false) (fun _ => by kernel_rfl) ?_
          refine pl_nil ?_
          refine au_then ?_
          refine wp_cond_false (by kernel_rfl) ?_
          refine wp_seq ?_
          refine rg_lit ?_
          refine pl_val (want_no rfl) (some 66) rfl (.slice l len cap) (fun _ => by kernel_rfl) ?_
          refine pl_val (want_no rfl) (some 67) rfl (.int .i64 (j : Int)) (fun _ => by kernel_rfl) ?_
          refine pl_val (want_no rfl) (some 68) rfl (.pointer (some ⟨b, o + j, none⟩)) (fun w => run_ixL 42 9 Try.underlying42 inz9 _ _ rfl l b o len cap hl (by kernel_rfl) .i64 j (by kernel_rfl) hj w) ?_
          refine pl_out M (want_no rfl) (some 69) rfl 9 _ rfl b (o + j) (by kernel_rfl) hb (.string (Ss j)) (hS j hj) (fun _ => by kernel_rfl) ?_
          refine pl_val (want_no rfl) (some 70) rfl (.int .i64 ((Ss j).size : Int)) (fun _ => by kernel_rfl) ?_
          refine pl_val (want_no rfl) (some 71) rfl (.bool true) (fun w => Eq.trans (b := .ok (.value (.bool (decide (((Ss j).size : Int) = 1)))) w) (by kernel_rfl) (by rw [hO])) ?_
          refine pl_val (want_no rfl) (some 65) rfl (.bool true) (fun _ => by kernel_rfl) ?_
          refine pl_nil ?_
          refine au_then ?_
          refine wp_cond_true (by kernel_rfl) ?_
          refine wp_seq ?_
          refine rg_lit ?_
          refine pl_load M (want_no rfl) (some 72) rfl 28 _ rfl 0 g1 0 (by kernel_rfl) 20 28 p.f rfl 20 p.f (Part.all _ _) (by decide) _ Try.underlying28 rfl inz28 ?_
          refine pl_call M (want_no rfl) (some 73) rfl 18 #[.agg (arr 20 p.f)] (.agg (arr 20 (negV p).f)) (fun _ => by kernel_rfl) (fun w => c_neg p w hp.ok) ?_
          intro w23 M
          refine pl_put M (want_no rfl) rfl 28 _ _ rfl 0 g1 (by kernel_rfl) 20 28 p.f (negV p).f rfl (by kernel_rfl) inz28 ?_
          intro w24 M
          replace M : Mem w [⟨g1, .cells (arr 20 (negV p).f) 28⟩, ⟨g2, .cells (arr 64 q.f) 35⟩, ⟨g6, .cells (arr 20 (decP (Ss j)).f) 28⟩] w24 := M
          refine pl_nil ?_
          refine au_then ?_
          refine rg_lit ?_
          refine pl_load M (want_no rfl) (some 74) rfl 35 _ rfl 1 g2 0 (by kernel_rfl) 64 35 q.f rfl 64 q.f (Part.all _ _) (by decide) _ Try.underlying35 rfl inz35 ?_
          refine pl_call M (want_no rfl) (some 75) rfl 19 #[.agg (arr 64 q.f)] (.agg (arr 64 (rnegV q).f)) (fun _ => by kernel_rfl) (fun w => c_rneg q w hq.ok) ?_
          intro w25 M
          refine pl_put M (want_no rfl) rfl 35 _ _ rfl 1 g2 (by kernel_rfl) 64 35 q.f (rnegV q).f rfl (by kernel_rfl) inz35 ?_
          intro w26 M
          replace M : Mem w [⟨g1, .cells (arr 20 (negV p).f) 28⟩, ⟨g2, .cells (arr 64 (rnegV q).f) 35⟩, ⟨g6, .cells (arr 20 (decP (Ss j)).f) 28⟩] w26 := M
          refine pl_nil ?_
          refine au_block ?_
          refine au_block ?_
          refine au_then ?_
          refine rg_lit ?_
          refine pl_val (want_no rfl) (some 36) rfl (.int .i64 (j : Int)) (fun _ => by kernel_rfl) ?_
          refine pl_val (want_no rfl) (some 37) rfl (.int .i64 ((j + 1 : Nat) : Int)) (fun w => Eq.trans (b := .ok (.value (.int .i64 (IntKind.wrap .i64 ((j : Int) + 1)))) w) (by kernel_rfl) (by rw [wrap64 (by omega) (by omega), Int.natCast_add]; rfl)) ?_
          refine pl_val (want_no rfl) (some 9) rfl (.int .i64 ((j + 1 : Nat) : Int)) (fun _ => by kernel_rfl) ?_
          refine pl_nil ?_
          refine au_then ?_
          exact ⟨fun k => ([.pointer (some ⟨g6, 0, none⟩), .int .i64 (decC (Ss j)), v 12, v 13, undef, undef, undef, undef, undef, undef, undef, undef, undef, undef, undef, undef, undef, undef, undef, undef, undef, undef, .int .i64 (j : Int), .slice l len cap, .int .i64 (len : Int), .bool true, .int .i64 (j : Int), .int .i64 ((j + 1 : Nat) : Int), .slice l len cap, .int .i64 (j : Int), .pointer (some ⟨b, o + j, none⟩), .string (Ss j), .int .i64 ((Ss j).size : Int), .bool false, v 44, .tuple #[.agg (arr 20 (decP (Ss j)).f), .int .i64 (decC (Ss j))], .slice l len cap, .int .i64 (j : Int), .pointer (some ⟨b, o + j, none⟩), .string (Ss j), .tuple #[.agg (arr 20 (decP (Ss j)).f), .int .i64 (decC (Ss j))], .agg (arr 20 (decP (Ss j)).f), .int .i64 (decC (Ss j)), .bool false, .slice l len cap, .int .i64 (j : Int), .pointer (some ⟨b, o + j, none⟩), .string (Ss j), .bool false, v 59, v 60, v 61, v 62, v 63, v 64, .bool true, .slice l len cap, .int .i64 (j : Int), .pointer (some ⟨b, o + j, none⟩), .string (Ss j), .int .i64 ((Ss j).size : Int), .bool true, .agg (arr 20 p.f), .agg (arr 20 (negV p).f), .agg (arr 64 q.f), .agg (arr 64 (rnegV q).f), v 76, v 77, v 78, v 79, v 80, v 81, v 82, v 83, v 84, v 85, v 86, v 87, v 88, v 89, v 90, v 91, v 92] : List Value).getD (k - 10) undef, (negV p), (rnegV q), by kernel_rfl, M.drop (.cons_cons _ (.cons_cons _ (.cons _ .slnil))), _, hp.neg, hq.neg⟩
      · skip
        refine wp_seq ?_
        refine wp_seq ?_
        refine rg_lit ?_
        refine pl_val (want_no rfl) (some 32) rfl (.int .i64 (j : Int)) (fun _ => by kernel_rfl) ?_
        refine pl_val (want_no rfl) (some 33) rfl (.slice l len cap) (fun _ => by kernel_rfl) ?_
        refine pl_val (want_no rfl) (some 34) rfl (.int .i64 (len : Int)) (fun _ => by kernel_rfl) ?_
        refine pl_val (want_no rfl) (some 35) rfl (.bool true) (fun w => Eq.trans (b := .ok (.value (.bool (decide ((j : Int) < (len : Int))))) w) (by kernel_rfl) (by rw [decide_eq_true hjl])) ?_
        refine pl_nil ?_
        refine au_then ?_
        refine wp_cond_true (by kernel_rfl) ?_
        refine wp_skip ?_
        refine au_then ?_
        refine wp_seq ?_
        refine wp_block ?_
        refine wp_seq ?_
        refine wp_seq ?_
        refine rg_lit ?_
        refine pl_val (want_no rfl) (some 38) rfl (.slice l len cap) (fun _ => by kernel_rfl) ?_
        refine pl_val (want_no rfl) (some 39) rfl (.int .i64 (j : Int)) (fun _ => by kernel_rfl) ?_
        refine pl_val (want_no rfl) (some 40) rfl (.pointer (some ⟨b, o + j, none⟩)) (fun w => run_ixL 42 9 Try.underlying42 inz9 _ _ rfl l b o len cap hl (by kernel_rfl) .i64 j (by kernel_rfl) hj w) ?_
        refine pl_out M (want_no rfl) (some 41) rfl 9 _ rfl b (o + j) (by kernel_rfl) hb (.string (Ss j)) (hS j hj) (fun _ => by kernel_rfl) ?_
        refine pl_val (want_no rfl) (some 42) rfl (.int .i64 ((Ss j).size : Int)) (fun _ => by kernel_rfl) ?_
        refine pl_val (want_no rfl) (some 43) rfl (.bool false) (fun w => Eq.trans (b := .ok (.value (.bool (decide (40 < ((Ss j).size : Int))))) w) (by kernel_rfl) (by rw [hA])) ?_
        refine pl_nil ?_
        refine au_then ?_
        refine wp_cond_false (by kernel_rfl) ?_
        refine wp_skip ?_
        refine au_then ?_
        refine wp_seq ?_
        refine rg_lit ?_
        refine pl_val (want_no rfl) (some 46) rfl (.slice l len cap) (fun _ => by kernel_rfl) ?_
        refine pl_val (want_no rfl) (some 47) rfl (.int .i64 (j : Int)) (fun _ => by kernel_rfl) ?_
        refine pl_val (want_no rfl) (some 48) rfl (.pointer (some ⟨b, o + j, none⟩)) (fun w => run_ixL 42 9 Try.underlying42 inz9 _ _ rfl l b o len cap hl (by kernel_rfl) .i64 j (by kernel_rfl) hj w) ?_
        refine pl_out M (want_no rfl) (some 49) rfl 9 _ rfl b (o + j) (by kernel_rfl) hb (.string (Ss j)) (hS j hj) (fun _ => by kernel_rfl) ?_
        refine pl_call M (want_no rfl) (some 50) rfl 7 #[.string (Ss j)] (.tuple #[.agg (arr 20 (decP (Ss j)).f), .int .i64 (decC (Ss j))]) (fun _ => by kernel_rfl) (dec_yes rfl rfl) ?_
        intro w27 M
        refine pl_val (want_no rfl) (some 45) rfl (.tuple #[.agg (arr 20 (decP (Ss j)).f), .int .i64 (decC (Ss j))]) (fun _ => by kernel_rfl) ?_
        refine pl_val (want_no rfl) (some 51) rfl (.agg (arr 20 (decP (Ss j)).f)) (fun _ => by kernel_rfl) ?_
        refine pl_val (want_no rfl) (some 52) rfl (.int .i64 (decC (Ss j))) (fun _ => by kernel_rfl) ?_
        refine pl_new M (want_no rfl) (some 10) rfl (.cells (arr 20 (fun _ => 0)) 28) (fun _ => by kernel_rfl) ?_
        intro g7 w28 M
        replace M : Mem w [⟨g1, .cells (arr 20 p.f) 28⟩, ⟨g2, .cells (arr 64 q.f) 35⟩, ⟨g7, .cells (arr 20 (fun _ => 0)) 28⟩] w28 := M
        refine pl_put M (want_no rfl) rfl 28 _ _ rfl 2 g7 (by kernel_rfl) 20 28 (fun _ => 0) (decP (Ss j)).f rfl (by kernel_rfl) inz28 ?_
        intro w29 M
        replace M : Mem w [⟨g1, .cells (arr 20 p.f) 28⟩, ⟨g2, .cells (arr 64 q.f) 35⟩, ⟨g7, .cells (arr 20 (decP (Ss j)).f) 28⟩] w29 := M
        refine pl_val (want_no rfl) (some 11) rfl (.int .i64 (decC (Ss j))) (fun _ => by kernel_rfl) ?_
        refine pl_nil ?_
        refine au_then ?_
        refine wp_block ?_
        refine wp_seq ?_
        refine rg_lit ?_
        refine pl_val (want_no rfl) (some 54) rfl (.slice l len cap) (fun _ => by kernel_rfl) ?_
        refine pl_val (want_no rfl) (some 55) rfl (.int .i64 (j : Int)) (fun _ => by kernel_rfl) ?_
        refine pl_val (want_no rfl) (some 56) rfl (.pointer (some ⟨b, o + j, none⟩)) (fun w => run_ixL 42 9 Try.underlying42 inz9 _ _ rfl l b o len cap hl (by kernel_rfl) .i64 j (by kernel_rfl) hj w) ?_
        refine pl_out M (want_no rfl) (some 57) rfl 9 _ rfl b (o + j) (by kernel_rfl) hb (.string (Ss j)) (hS j hj) (fun _ => by kernel_rfl) ?_
        refine pl_val (want_no rfl) (some 58) rfl (.bool true) (fun w => Eq.trans (b := .ok (.value (.bool (((Ss j).toList == (⟨#[]⟩ : ByteArray).toList)))) w) (by kernel_rfl) (by rw [hE])) ?_
        refine pl_val (want_no rfl) (some 53) rfl (.bool true) (fun _ => by kernel_rfl) ?_
        refine pl_nil ?_
        refine au_then ?_
        refine wp_cond_true (by kernel_rfl) ?_
        refine wp_seq ?_
        refine rg_lit ?_
        refine pl_load M (want_no rfl) (some 59) rfl 28 _ rfl 0 g1 0 (by kernel_rfl) 20 28 p.f rfl 20 p.f (Part.all _ _) (by decide) _ Try.underlying28 rfl inz28 ?_
        refine pl_load M (want_no rfl) (some 60) rfl 28 _ rfl 0 g1 0 (by kernel_rfl) 20 28 p.f rfl 20 p.f (Part.all _ _) (by decide) _ Try.underlying28 rfl inz28 ?_
        refine pl_call M (want_no rfl) (some 61) rfl 16 #[.agg (arr 20 p.f), .agg (arr 20 p.f)] (.agg (arr 20 (addV p p).f)) (fun _ => by kernel_rfl) (fun w => c_add p p w hp.ok hp.ok) ?_
        intro w30 M
        refine pl_put M (want_no rfl) rfl 28 _ _ rfl 0 g1 (by kernel_rfl) 20 28 p.f (addV p p).f rfl (by kernel_rfl) inz28 ?_
        intro w31 M
        replace M : Mem w [⟨g1, .cells (arr 20 (addV p p).f) 28⟩, ⟨g2, .cells (arr 64 q.f) 35⟩, ⟨g7, .cells (arr 20 (decP (Ss j)).f) 28⟩] w31 := M
        refine pl_nil ?_
        refine au_then ?_
        refine rg_lit ?_
        refine pl_load M (want_no rfl) (some 62) rfl 35 _ rfl 1 g2 0 (by kernel_rfl) 64 35 q.f rfl 64 q.f (Part.all _ _) (by decide) _ Try.underlying35 rfl inz35 ?_
        refine pl_load M (want_no rfl) (some 63) rfl 35 _ rfl 1 g2 0 (by kernel_rfl) 64 35 q.f rfl 64 q.f (Part.all _ _) (by decide) _ Try.underlying35 rfl inz35 ?_
        refine pl_call M (want_no rfl) (some 64) rfl 17 #[.agg (arr 64 q.f), .agg (arr 64 q.f)] (.agg (arr 64 (raddV q q).f)) (fun _ => by kernel_rfl) (fun w => c_radd q q w hq.ok hq.ok) ?_
        intro w32 M
        refine pl_put M (want_no rfl) rfl 35 _ _ rfl 1 g2 (by kernel_rfl) 64 35 q.f (raddV q q).f rfl (by kernel_rfl) inz35 ?_
        intro w33 M
        replace M : Mem w [⟨g1, .cells (arr 20 (addV p p).f) 28⟩, ⟨g2, .cells (arr 64 (raddV q q).f) 35⟩, ⟨g7, .cells (arr 20 (decP (Ss j)).f) 28⟩] w33 := M
        refine pl_nil ?_
        refine au_block ?_
        refine au_block ?_
        refine au_then ?_
        refine rg_lit ?_
        refine pl_val (want_no rfl) (some 36) rfl (.int .i64 (j : Int)) (fun _ => by kernel_rfl) ?_
        refine pl_val (want_no rfl) (some 37) rfl (.int .i64 ((j + 1 : Nat) : Int)) (fun w => Eq.trans (b := .ok (.value (.int .i64 (IntKind.wrap .i64 ((j : Int) + 1)))) w) (by kernel_rfl) (by rw [wrap64 (by omega) (by omega), Int.natCast_add]; rfl)) ?_
        refine pl_val (want_no rfl) (some 9) rfl (.int .i64 ((j + 1 : Nat) : Int)) (fun _ => by kernel_rfl) ?_
        refine pl_nil ?_
        refine au_then ?_
        exact ⟨fun k => ([.pointer (some ⟨g7, 0, none⟩), .int .i64 (decC (Ss j)), v 12, v 13, undef, undef, undef, undef, undef, undef, undef, undef, undef, undef, undef, undef, undef, undef, undef, undef, undef, undef, .int .i64 (j : Int), .slice l len cap, .int .i64 (len : Int), .bool true, .int .i64 (j : Int), .int .i64 ((j + 1 : Nat) : Int), .slice l len cap, .int .i64 (j : Int), .pointer (some ⟨b, o + j, none⟩), .string (Ss j), .int .i64 ((Ss j).size : Int), .bool false, v 44, .tuple #[.agg (arr 20 (decP (Ss j)).f), .int .i64 (decC (Ss j))], .slice l len cap, .int .i64 (j : Int), .pointer (some ⟨b, o + j, none⟩), .string (Ss j), .tuple #[.agg (arr 20 (decP (Ss j)).f), .int .i64 (decC (Ss j))], .agg (arr 20 (decP (Ss j)).f), .int .i64 (decC (Ss j)), .bool true, .slice l len cap, .int .i64 (j : Int), .pointer (some ⟨b, o + j, none⟩), .string (Ss j), .bool true, .agg (arr 20 p.f), .agg (arr 20 p.f), .agg (arr 20 (addV p p).f), .agg (arr 64 q.f), .agg (arr 64 q.f), .agg (arr 64 (raddV q q).f), v 65, v 66, v 67, v 68, v 69, v 70, v 71, v 72, v 73, v 74, v 75, v 76, v 77, v 78, v 79, v 80, v 81, v 82, v 83, v 84, v 85, v 86, v 87, v 88, v 89, v 90, v 91, v 92] : List Value).getD (k - 10) undef, (addV p p), (raddV q q), by kernel_rfl, M.drop (.cons_cons _ (.cons_cons _ (.cons _ .slnil))), _, (hp.add hp), (hq.add hq)⟩
    · skip
      refine wp_seq ?_
      refine wp_seq ?_
      refine rg_lit ?_
      refine pl_val (want_no rfl) (some 32) rfl (.int .i64 (j : Int)) (fun _ => by kernel_rfl) ?_
      refine pl_val (want_no rfl) (some 33) rfl (.slice l len cap) (fun _ => by kernel_rfl) ?_
      refine pl_val (want_no rfl) (some 34) rfl (.int .i64 (len : Int)) (fun _ => by kernel_rfl) ?_
      refine pl_val (want_no rfl) (some 35) rfl (.bool true) (fun w => Eq.trans (b := .ok (.value (.bool (decide ((j : Int) < (len : Int))))) w) (by kernel_rfl) (by rw [decide_eq_true hjl])) ?_
      refine pl_nil ?_
      refine au_then ?_
      refine wp_cond_true (by kernel_rfl) ?_
      refine wp_skip ?_
      refine au_then ?_
      refine wp_seq ?_
      refine wp_block ?_
      refine wp_seq ?_
      refine wp_seq ?_
      refine rg_lit ?_
      refine pl_val (want_no rfl) (some 38) rfl (.slice l len cap) (fun _ => by kernel_rfl) ?_
      refine pl_val (want_no rfl) (some 39) rfl (.int .i64 (j : Int)) (fun _ => by kernel_rfl) ?_
      refine pl_val (want_no rfl) (some 40) rfl (.pointer (some ⟨b, o + j, none⟩)) (fun w => run_ixL 42 9 Try.underlying42 inz9 _ _ rfl l b o len cap hl (by kernel_rfl) .i64 j (by kernel_rfl) hj w) ?_
      refine pl_out M (want_no rfl) (some 41) rfl 9 _ rfl b (o + j) (by kernel_rfl) hb (.string (Ss j)) (hS j hj) (fun _ => by kernel_rfl) ?_
      refine pl_val (want_no rfl) (some 42) rfl (.int .i64 ((Ss j).size : Int)) (fun _ => by kernel_rfl) ?_
      refine pl_val (want_no rfl) (some 43) rfl (.bool true) (fun w => Eq.trans (b := .ok (.value (.bool (decide (40 < ((Ss j).size : Int))))) w) (by kernel_rfl) (by rw [hA])) ?_
      refine pl_nil ?_
      refine au_then ?_
      refine wp_cond_true (by kernel_rfl) ?_
      refine wp_seq ?_
      refine rg_lit ?_
      refine pl_call M (want_no rfl) (some 44) rfl 6 #[] (.bool true) (fun _ => by kernel_rfl) alive_any ?_
      intro w34 M
      refine pl_val (want_no rfl) (some 4) rfl (.bool true) (fun _ => by kernel_rfl) ?_
      refine pl_nil ?_
      refine au_then ?_
      refine wp_ret ?_
      refine au_then_ret ?_
      refine au_block_ret ?_
      refine au_then_ret ?_
      refine au_then_ret ?_
      refine au_block_ret ?_
      refine au_then_ret ?_
      exact bodyPost_ret (v := .bool true) (results_tmp1 Try.results4 _ _ _ (by kernel_rfl)) (by kernel_rfl) ⟨rfl, M.old⟩
  · intro a w1 hI
    obtain ⟨v, p, q, rfl, M, X, hp, hq⟩ := hI
    refine wp_seq ?_
    refine wp_seq ?_
    refine rg_lit ?_
    refine pl_val (want_no rfl) (some 32) rfl (.int .i64 (len : Int)) (fun _ => by kernel_rfl) ?_
    refine pl_val (want_no rfl) (some 33) rfl (.slice l len cap) (fun _ => by kernel_rfl) ?_
    refine pl_val (want_no rfl) (some 34) rfl (.int .i64 (len : Int)) (fun _ => by kernel_rfl) ?_
    refine pl_val (want_no rfl) (some 35) rfl (.bool false) (fun w => Eq.trans (b := .ok (.value (.bool (decide ((len : Int) < (len : Int))))) w) (by kernel_rfl) (by rw [decide_eq_false (Int.lt_irrefl _)])) ?_
    refine pl_nil ?_
    refine au_then ?_
    refine wp_cond_false (by kernel_rfl) ?_
    refine wp_exit ?_
    refine au_then_exit ?_
    refine au_then_exit ?_
    refine au_block_exit ?_
    refine au_then ?_
    refine wp_seq ?_
    refine rg_lit ?_
    refine pl_load M (want_no rfl) (some 93) rfl 28 _ rfl 0 g1 0 (by kernel_rfl) 20 28 p.f rfl 20 p.f (Part.all _ _) (by decide) _ Try.underlying28 rfl inz28 ?_
    refine pl_load M (want_no rfl) (some 94) rfl 35 _ rfl 1 g2 0 (by kernel_rfl) 64 35 q.f rfl 64 q.f (Part.all _ _) (by decide) _ Try.underlying35 rfl inz35 ?_
    refine pl_call M (want_no rfl) (some 95) rfl 12 #[.agg (arr 20 p.f), .agg (arr 64 q.f)] (.bool true) (fun _ => by kernel_rfl) (fun w => is_yes hp hq w) ?_
    intro w35 M
    refine pl_val (want_no rfl) (some 96) rfl (.bool true) (fun _ => by kernel_rfl) ?_
    refine pl_call M (want_on 3 true rfl 96 rfl (by kernel_rfl)) (some 97) rfl 6 #[] (.bool true) (fun _ => by kernel_rfl) alive_any ?_
    intro w36 M
    refine pl_val (want_no rfl) (some 98) rfl (.bool true) (fun _ => by kernel_rfl) ?_
    refine pl_val (want_no rfl) (some 4) rfl (.bool true) (fun _ => by kernel_rfl) ?_
    refine pl_nil ?_
    refine au_then ?_
    refine wp_ret ?_
    exact bodyPost_ret (v := .bool true) (results_tmp1 Try.results4 _ _ _ (by kernel_rfl)) (by kernel_rfl) ⟨rfl, M.old⟩

end Go.Proofs.Ytkeocdebfgcnnaa
