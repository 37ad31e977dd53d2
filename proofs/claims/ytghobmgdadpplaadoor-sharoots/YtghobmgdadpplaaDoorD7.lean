/- The end of a text, its digest: the walks of end, Sum, Add and Of. -/
import Derived.Test.YtghobmgdadpplaaDoorD6
import Derived.Test.YtghobmgdadpplaaDoorRep
namespace Go.Proofs.YtghobmgdadpplaaDoor
open Go.RowKit

def r2 (a b : Int) : Nat → Int
  | 0 => a
  | _ => b
/-- What stands behind a text of so many bytes. -/
def padS (ct : Int) : ByteArray := (⟨#[128]⟩ ++ zs ((239 - (ct % 128).toNat) % 128)) ++ bs (hI (r2 (sr ct 61) (sl ct 3)) 2)
def sumV (H : HS) : ByteArray := bs (hI (tk H (padS H.ct) (padS H.ct).size).ws 8)
def ofV (s : ByteArray) : ByteArray := sumV (tk hs0 s s.size)
theorem run_cat {P : Program} {a : Act} {o : Oper} (t rt : TypeId) (x y : Operand) (ho : o.op = .binOp .add t x y rt) (s u : ByteArray) (hx : a.eval x = .string s) (hy : a.eval y = .string u) (hb : s.size + u.size ≤ 9223372036854775807) (w : World) :
    (execOp a.eval o).run P w = .ok (.value (.string (s ++ u))) w := by
  have h := run_string_add_sum (P := P) (w := w) s u hb
  unfold execOp
  simp [ho, hx, hy, eqGuard, binOp, h]
theorem zs_size (c : Nat) : (zs c).size = c := by simp [zs, ByteArray.size]
theorem below_same {w w' : World} {g : Nat} {Z : Obj} (h : w.grownBy w' (some g)) (h1 : w.heap[g]? = some Z) (h2 : w'.heap[g]? = some Z) : Below w.heap.size w w' := ⟨h.os, h.tape, h.output, h.size, fun k hk => by
  by_cases e : k = g
  · subst e
    rw [h1, h2]
  · exact h.block k hk (fun e2 => e (Option.some.inj e2))⟩
theorem rem64 (n : Nat) : Int.tmod (n : Int) 128 = ((n % 128 : Nat) : Int) := by
  rw [Int.tmod_eq_emod_of_nonneg (by omega)]
  omega

set_option maxRecDepth 100000 in
set_option maxHeartbeats 4000000 in
theorem c_endA (H : HS) (hH : H.ok) (g : Nat) (A : ByteArray) (hA : padS H.ct = A) (w : World) (hL : Laid w) (hg : w.heap[g]? = some (.cells (av 138 (hF true H.ws H.rs H.ct)) 47)) (h0 : g ≠ 0) :
    Calls Tryd.prog 20 #[.pointer (some ⟨g, 0, none⟩)] w fun r w' => r = .returned (.tuple #[]) ∧ w.grownBy w' (some g) ∧ w'.heap[g]? = some (.cells (av 138 (hF true (tk H A A.size).ws (tk H A A.size).rs (tk H A A.size).ct)) 47) := by
  go_enter Tryd.func20, Tryd.ntmps20
  have M := Mem.startp hL hg h0
  obtain ⟨p, hp⟩ : ∃ p, p = (H.ct % 128).toNat := ⟨_, rfl⟩
  have hp2 : H.ct % 128 = (p : Int) := by unfold HS.ok at hH; omega
  have hp1 : p < 128 := by omega
  refine wp_seq ?_
  refine rg_tail M 11 (by kernel_rfl) (by kernel_rfl) ?_
  simp only [List.take_succ_cons, List.take_zero]
  refine k_val (want_no rfl) (some 5) rfl (.pointer (some ⟨g, 0, none⟩)) (fun _ => by kernel_rfl) ?_
  refine k_val (want_no rfl) (some 6) rfl (.pointer (some ⟨g, 0, none⟩)) (fun _ => by kernel_rfl) ?_
  refine k_val (want_no rfl) (some 7) rfl (.pointer (some ⟨g, 137, none⟩)) (fun _ => by kernel_rfl) ?_
  refine k_cell M (want_no rfl) (some 8) rfl 25 _ rfl g 137 (by kernel_rfl) (.int .u64 H.ct) (fun _ => by kernel_rfl) (fun w M => M.cell 0 rfl (by decide) rfl) ?_
  refine k_val (want_no rfl) (some 9) rfl (.int .u64 (sr H.ct 61)) (fun _ => by kernel_rfl) ?_
  refine k_val (want_no rfl) (some 10) rfl (.pointer (some ⟨g, 0, none⟩)) (fun _ => by kernel_rfl) ?_
  refine k_val (want_no rfl) (some 11) rfl (.pointer (some ⟨g, 0, none⟩)) (fun _ => by kernel_rfl) ?_
  refine k_val (want_no rfl) (some 12) rfl (.pointer (some ⟨g, 137, none⟩)) (fun _ => by kernel_rfl) ?_
  refine k_cell M (want_no rfl) (some 13) rfl 25 _ rfl g 137 (by kernel_rfl) (.int .u64 H.ct) (fun _ => by kernel_rfl) (fun w M => M.cell 0 rfl (by decide) rfl) ?_
  refine k_val (want_no rfl) (some 14) rfl (.int .u64 (sl H.ct 3)) (fun _ => by kernel_rfl) ?_
  refine k_val (want_no rfl) (some 2) rfl (.int .u64 (sr H.ct 61)) (fun _ => by kernel_rfl) ?_
  refine kl_nil ?_
  intro u1 M
  replace M : Mem ⟨w, some g⟩ [⟨g, .cells (av 138 (hF true H.ws H.rs H.ct)) 47⟩] u1 := M
  refine pl_val (want_no rfl) (some 3) rfl (.int .u64 (sl H.ct 3)) (fun _ => by kernel_rfl) ?_
  refine pl_nil ?_
  refine au_then ?_
  refine wp_seq ?_
  refine rg_lit ?_
  refine pl_val (want_no rfl) (some 15) rfl (.pointer (some ⟨g, 0, none⟩)) (fun _ => by kernel_rfl) ?_
  refine pl_val (want_no rfl) (some 16) rfl (.pointer (some ⟨g, 0, none⟩)) (fun _ => by kernel_rfl) ?_
  refine pl_val (want_no rfl) (some 17) rfl (.pointer (some ⟨g, 137, none⟩)) (fun _ => by kernel_rfl) ?_
  refine pl_cell M (want_no rfl) (some 18) rfl 25 _ rfl g 137 (by kernel_rfl) (.int .u64 H.ct) (fun _ => by kernel_rfl) (fun w M => M.cell 0 rfl (by decide) rfl) ?_
  refine pl_val (want_no rfl) (some 19) rfl (.int .u64 (Int.tmod H.ct 128)) (fun _ => by kernel_rfl) ?_
  refine pl_val (want_no rfl) (some 20) rfl (.int .i64 (p : Int)) (fun w => Eq.trans (b := .ok (.value (.int .i64 (IntKind.wrap .i64 (Int.tmod H.ct 128)))) w) (by kernel_rfl) (by rw [rem128 H.ct hH.1 p hp2])) ?_
  refine pl_val (want_no rfl) (some 21) rfl (.int .i64 ((239 - p : Nat) : Int)) (fun w => Eq.trans (b := .ok (.value (.int .i64 (IntKind.wrap .i64 (239 - (p : Int))))) w) (by kernel_rfl) (by rw [wrap64 (by omega) (by omega)]; congr 3 <;> omega)) ?_
  refine pl_val (want_no rfl) (some 22) rfl (.int .i64 (((239 - p) % 128 : Nat) : Int)) (fun w => Eq.trans (b := .ok (.value (.int .i64 (Int.tmod ((239 - p : Nat) : Int) 128))) w) (by kernel_rfl) (by rw [rem64])) ?_
  refine pl_val (want_no rfl) (some 4) rfl (.int .i64 (((239 - p) % 128 : Nat) : Int)) (fun _ => by kernel_rfl) ?_
  refine pl_nil ?_
  refine au_then ?_
  refine rg_lit ?_
  refine pl_val (want_no rfl) (some 23) rfl (.pointer (some ⟨g, 0, none⟩)) (fun _ => by kernel_rfl) ?_
  refine pl_val (want_no rfl) (some 24) rfl (.int .i64 (((239 - p) % 128 : Nat) : Int)) (fun _ => by kernel_rfl) ?_
  refine pl_call M (want_no rfl) (some 25) rfl 26 #[.string ⟨#[0]⟩, .int .i64 (((239 - p) % 128 : Nat) : Int)] (.string (zs ((239 - p) % 128))) (fun _ => by kernel_rfl) (fun w M => c_rep ((239 - p) % 128) w (by omega)) ?_
  intro u2 M
  refine pl_val (want_no rfl) (some 26) rfl (.string (⟨#[128]⟩ ++ (zs ((239 - p) % 128)))) (run_cat 9 9 _ _ rfl ⟨#[128]⟩ ((zs ((239 - p) % 128))) (by kernel_rfl) (by kernel_rfl) (by rw [zs_size]; show 1 + _ ≤ _; omega)) ?_
  refine pl_val (want_no rfl) (some 27) rfl (.int .u64 (sr H.ct 61)) (fun _ => by kernel_rfl) ?_
  refine pl_val (want_no rfl) (some 28) rfl (.int .u64 (sl H.ct 3)) (fun _ => by kernel_rfl) ?_
  refine pl_mk M (want_no rfl) (some 29) rfl (fun g1 => .slice (some ⟨g1, 0, none⟩) 2 2) (.cells (av 2 (w64 (r2 (sr H.ct 61) (sl H.ct 3)))) 25) (fun _ => by kernel_rfl) ?_
  intro g1 u3 M
  replace M : Mem ⟨w, some g⟩ [⟨g, .cells (av 138 (hF true H.ws H.rs H.ct)) 47⟩, ⟨g1, .cells (av 2 (w64 (r2 (sr H.ct 61) (sl H.ct 3)))) 25⟩] u3 := M
  refine pl_call M (want_no rfl) (some 30) rfl 21 #[.slice (some ⟨g1, 0, none⟩) 2 2] (.string (bs (hI (r2 (sr H.ct 61) (sl H.ct 3)) 2))) (fun _ => by kernel_rfl) (fun w M => c_high g1 0 2 2 (r2 (sr H.ct 61) (sl H.ct 3)) (by decide) w M.laid (fun i hi => by rw [Nat.zero_add]; exact M.cell 1 rfl hi rfl)) ?_
  intro u4 M
  refine pl_val (want_no rfl) (some 31) rfl (.string A) (fun w => Eq.trans (run_cat 9 9 _ _ rfl (⟨#[128]⟩ ++ zs ((239 - p) % 128)) (bs (hI (r2 (sr H.ct 61) (sl H.ct 3)) 2)) (by kernel_rfl) (by kernel_rfl) (by rw [ByteArray.size_append, zs_size, bs_size, hI_length]; show 1 + _ + _ ≤ _; omega) w) (by rw [← hA]; unfold padS; rw [← hp])) ?_
  refine pl_callp M (want_no rfl) (some 32) rfl 16 #[.pointer (some ⟨g, 0, none⟩), .string A] (.tuple #[]) 0 g (.cells (av 138 (hF true H.ws H.rs H.ct)) 47) (.cells (av 138 (hF true (tk H A A.size).ws (tk H A A.size).rs (tk H A A.size).ct)) 47) rfl (fun _ => by kernel_rfl) (fun w M => c_take H hH g A w M.laid (M.get 0 rfl) (M.ne0 0 rfl)) ?_
  intro u5 M
  replace M : Mem ⟨w, some g⟩ [⟨g, .cells (av 138 (hF true (tk H A A.size).ws (tk H A A.size).rs (tk H A A.size).ct)) 47⟩, ⟨g1, .cells (av 2 (w64 (r2 (sr H.ct 61) (sl H.ct 3)))) 25⟩] u5 := M
  refine pl_nil ?_
  exact bodyPost_end (v := .tuple #[]) (results_none Tryd.results20 _ _) (by kernel_rfl) ⟨rfl, M.old, M.get 0 rfl⟩

theorem c_end (H : HS) (hH : H.ok) (g : Nat) (w : World) (hL : Laid w) (hg : w.heap[g]? = some (.cells (av 138 (hF true H.ws H.rs H.ct)) 47)) (h0 : g ≠ 0) : Calls Tryd.prog 20 #[.pointer (some ⟨g, 0, none⟩)] w fun r w' => r = .returned (.tuple #[]) ∧ w.grownBy w' (some g) ∧ w'.heap[g]? = some (.cells (av 138 (hF true (tk H (padS H.ct) (padS H.ct).size).ws (tk H (padS H.ct) (padS H.ct).size).rs (tk H (padS H.ct) (padS H.ct).size).ct)) 47) := c_endA H hH g (padS H.ct) rfl w hL hg h0

set_option maxRecDepth 100000 in
set_option maxHeartbeats 4000000 in
theorem c_add (H : HS) (hH : H.ok) (g : Nat) (s : ByteArray) (w : World) (hL : Laid w) (hg : w.heap[g]? = some (.cells (av 138 (hF true H.ws H.rs H.ct)) 47)) (h0 : g ≠ 0) :
    Calls Tryd.prog 14 #[.pointer (some ⟨g, 0, none⟩), .string s] w fun r w' => r = .returned (.int .i64 0) ∧ w.grownBy w' (some g) ∧ w'.heap[g]? = some (.cells (av 138 (hF true (tk H s s.size).ws (tk H s s.size).rs (tk H s s.size).ct)) 47) := by
  go_enter Tryd.func14, Tryd.ntmps14
  have M := Mem.startp hL hg h0
  refine wp_seq ?_
  refine rg_lit ?_
  refine pl_val (want_no rfl) (some 4) rfl (.int .i64 0) (fun _ => by kernel_rfl) ?_
  refine pl_nil ?_
  refine au_then ?_
  refine wp_seq ?_
  refine wp_seq ?_
  refine rg_lit ?_
  refine pl_val (want_no rfl) (some 5) rfl (.pointer (some ⟨g, 0, none⟩)) (fun _ => by kernel_rfl) ?_
  refine pl_val (want_no rfl) (some 6) rfl (.bool false) (fun _ => by kernel_rfl) ?_
  refine pl_val (want_no rfl) (some 7) rfl (.bool false) (fun _ => by kernel_rfl) ?_
  refine pl_val (want_on 2 false rfl 7 rfl (by kernel_rfl)) (some 8) rfl (.pointer (some ⟨g, 0, none⟩)) (fun _ => by kernel_rfl) ?_
  refine pl_val (want_on 2 false rfl 7 rfl (by kernel_rfl)) (some 9) rfl (.pointer (some ⟨g, 0, none⟩)) (fun _ => by kernel_rfl) ?_
  refine pl_val (want_on 2 false rfl 7 rfl (by kernel_rfl)) (some 10) rfl (.pointer (some ⟨g, 0, none⟩)) (fun _ => by kernel_rfl) ?_
  refine pl_cell M (want_on 2 false rfl 7 rfl (by kernel_rfl)) (some 11) rfl 4 _ rfl g 0 (by kernel_rfl) (.bool true) (fun _ => by kernel_rfl) (fun w M => M.cell 0 rfl (by decide) rfl) ?_
  refine pl_val (want_on 2 false rfl 7 rfl (by kernel_rfl)) (some 12) rfl (.bool false) (fun _ => by kernel_rfl) ?_
  refine pl_val (want_no rfl) (some 13) rfl (.bool false) (fun _ => by kernel_rfl) ?_
  refine pl_nil ?_
  refine au_then ?_
  refine wp_cond_false (by kernel_rfl) ?_
  refine wp_skip ?_
  refine au_then ?_
  refine wp_seq ?_
  refine rg_lit ?_
  refine pl_val (want_no rfl) (some 14) rfl (.pointer (some ⟨g, 0, none⟩)) (fun _ => by kernel_rfl) ?_
  refine pl_val (want_no rfl) (some 15) rfl (.string s) (fun _ => by kernel_rfl) ?_
  refine pl_callp M (want_no rfl) (some 16) rfl 16 #[.pointer (some ⟨g, 0, none⟩), .string s] (.tuple #[]) 0 g (.cells (av 138 (hF true H.ws H.rs H.ct)) 47) (.cells (av 138 (hF true (tk H s s.size).ws (tk H s s.size).rs (tk H s s.size).ct)) 47) rfl (fun _ => by kernel_rfl) (fun w M => c_take H hH g s w M.laid (M.get 0 rfl) (M.ne0 0 rfl)) ?_
  intro u1 M
  replace M : Mem ⟨w, some g⟩ [⟨g, .cells (av 138 (hF true (tk H s s.size).ws (tk H s s.size).rs (tk H s s.size).ct)) 47⟩] u1 := M
  refine pl_nil ?_
  refine au_then ?_
  refine wp_seq ?_
  refine rg_lit ?_
  refine pl_val (want_no rfl) (some 4) rfl (.int .i64 0) (fun _ => by kernel_rfl) ?_
  refine pl_nil ?_
  refine au_then ?_
  refine wp_ret ?_
  exact bodyPost_ret (v := .int .i64 0) (results_tmp1 Tryd.results14 _ _ _ (by kernel_rfl)) (by kernel_rfl) ⟨rfl, M.old, M.get 0 rfl⟩

set_option maxRecDepth 100000 in
set_option maxHeartbeats 4000000 in
theorem c_addnil (s : ByteArray) (w : World) (hL : Laid w)  :
    Calls Tryd.prog 14 #[.pointer none, .string s] w fun r w' => r = .returned (.int .i64 1) ∧ Below w.heap.size w w' := by
  go_enter Tryd.func14, Tryd.ntmps14
  have M := Mem.start hL
  refine wp_seq ?_
  refine rg_lit ?_
  refine pl_val (want_no rfl) (some 4) rfl (.int .i64 0) (fun _ => by kernel_rfl) ?_
  refine pl_nil ?_
  refine au_then ?_
  refine wp_seq ?_
  refine wp_seq ?_
  refine rg_lit ?_
  refine pl_val (want_no rfl) (some 5) rfl (.pointer none) (fun _ => by kernel_rfl) ?_
  refine pl_val (want_no rfl) (some 6) rfl (.bool true) (fun _ => by kernel_rfl) ?_
  refine pl_val (want_no rfl) (some 7) rfl (.bool true) (fun _ => by kernel_rfl) ?_
  refine pl_skip (want_off 2 false rfl 7 rfl (by kernel_rfl)) (some 8) rfl ?_
  refine pl_skip (want_off 2 false rfl 7 rfl (by kernel_rfl)) (some 9) rfl ?_
  refine pl_skip (want_off 2 false rfl 7 rfl (by kernel_rfl)) (some 10) rfl ?_
  refine pl_skip (want_off 2 false rfl 7 rfl (by kernel_rfl)) (some 11) rfl ?_
  refine pl_skip (want_off 2 false rfl 7 rfl (by kernel_rfl)) (some 12) rfl ?_
  refine pl_val (want_no rfl) (some 13) rfl (.bool true) (fun _ => by kernel_rfl) ?_
  refine pl_nil ?_
  refine au_then ?_
  refine wp_cond_true (by kernel_rfl) ?_
  refine wp_seq ?_
  refine rg_lit ?_
  refine pl_val (want_no rfl) (some 4) rfl (.int .i64 1) (fun _ => by kernel_rfl) ?_
  refine pl_nil ?_
  refine au_then ?_
  refine wp_ret ?_
  refine au_then_ret ?_
  exact bodyPost_ret (v := .int .i64 1) (results_tmp1 Tryd.results14 _ _ _ (by kernel_rfl)) (by kernel_rfl) ⟨rfl, below_grown M.old⟩

set_option maxRecDepth 100000 in
set_option maxHeartbeats 4000000 in
theorem c_sum (H : HS) (hH : H.ok) (g : Nat) (w : World) (hL : Laid w) (hg : w.heap[g]? = some (.cells (av 138 (hF true H.ws H.rs H.ct)) 47)) (h0 : g ≠ 0) :
    Calls Tryd.prog 15 #[.pointer (some ⟨g, 0, none⟩)] w fun r w' => r = .returned (.string (sumV H)) ∧ Below w.heap.size w w' := by
  go_enter Tryd.func15, Tryd.ntmps15
  have M := Mem.startp hL hg h0
  refine wp_seq ?_
  refine rg_lit ?_
  refine pl_val (want_no rfl) (some 2) rfl (.string ⟨#[]⟩) (fun _ => by kernel_rfl) ?_
  refine pl_nil ?_
  refine au_then ?_
  refine wp_seq ?_
  refine wp_seq ?_
  refine rg_lit ?_
  refine pl_val (want_no rfl) (some 4) rfl (.pointer (some ⟨g, 0, none⟩)) (fun _ => by kernel_rfl) ?_
  refine pl_val (want_no rfl) (some 5) rfl (.bool false) (fun _ => by kernel_rfl) ?_
  refine pl_val (want_no rfl) (some 6) rfl (.bool false) (fun _ => by kernel_rfl) ?_
  refine pl_val (want_on 2 false rfl 6 rfl (by kernel_rfl)) (some 7) rfl (.pointer (some ⟨g, 0, none⟩)) (fun _ => by kernel_rfl) ?_
  refine pl_val (want_on 2 false rfl 6 rfl (by kernel_rfl)) (some 8) rfl (.pointer (some ⟨g, 0, none⟩)) (fun _ => by kernel_rfl) ?_
  refine pl_val (want_on 2 false rfl 6 rfl (by kernel_rfl)) (some 9) rfl (.pointer (some ⟨g, 0, none⟩)) (fun _ => by kernel_rfl) ?_
  refine pl_cell M (want_on 2 false rfl 6 rfl (by kernel_rfl)) (some 10) rfl 4 _ rfl g 0 (by kernel_rfl) (.bool true) (fun _ => by kernel_rfl) (fun w M => M.cell 0 rfl (by decide) rfl) ?_
  refine pl_val (want_on 2 false rfl 6 rfl (by kernel_rfl)) (some 11) rfl (.bool false) (fun _ => by kernel_rfl) ?_
  refine pl_val (want_no rfl) (some 12) rfl (.bool false) (fun _ => by kernel_rfl) ?_
  refine pl_nil ?_
  refine au_then ?_
  refine wp_cond_false (by kernel_rfl) ?_
  refine wp_skip ?_
  refine au_then ?_
  refine wp_seq ?_
  refine rg_lit ?_
  refine pl_val (want_no rfl) (some 13) rfl (.pointer (some ⟨g, 0, none⟩)) (fun _ => by kernel_rfl) ?_
  refine pl_val (want_no rfl) (some 14) rfl (.pointer (some ⟨g, 0, none⟩)) (fun _ => by kernel_rfl) ?_
  refine pl_load M (want_no rfl) (some 15) rfl 47 _ rfl 0 g 0 (by kernel_rfl) 138 47 (hF true H.ws H.rs H.ct) rfl 138 (hF true H.ws H.rs H.ct) (fun j _ => by rw [Nat.zero_add]) (by decide) _ Tryd.underlying47 rfl inz47 ?_
  refine pl_new M (want_no rfl) (some 3) rfl (.cells (av 138 (hF false (fun _ => 0) (fun _ => 0) 0)) 47) (fun _ => by kernel_rfl) ?_
  intro g1 u1 M
  replace M : Mem ⟨w, some g⟩ [⟨g, .cells (av 138 (hF true H.ws H.rs H.ct)) 47⟩, ⟨g1, .cells (av 138 (hF false (fun _ => 0) (fun _ => 0) 0)) 47⟩] u1 := M
  refine pl_put M (want_no rfl) rfl 47 _ _ rfl 1 g1 0 (by kernel_rfl) 138 47 (hF false (fun _ => 0) (fun _ => 0) 0) rfl 138 (hF true H.ws H.rs H.ct) (hF true H.ws H.rs H.ct) (by kernel_rfl) inz47 (by decide) (hF_one true H.ws H.rs H.ct) (fun j hj => by rw [if_pos (by omega), Nat.sub_zero]) ?_
  intro u2 M
  replace M : Mem ⟨w, some g⟩ [⟨g, .cells (av 138 (hF true H.ws H.rs H.ct)) 47⟩, ⟨g1, .cells (av 138 (hF true H.ws H.rs H.ct)) 47⟩] u2 := M
  refine pl_nil ?_
  refine au_then ?_
  refine wp_seq ?_
  refine rg_lit ?_
  refine pl_callp M (want_no rfl) (some 16) rfl 20 #[.pointer (some ⟨g1, 0, none⟩)] (.tuple #[]) 1 g1 (.cells (av 138 (hF true H.ws H.rs H.ct)) 47) (.cells (av 138 (hF true (tk H (padS H.ct) (padS H.ct).size).ws (tk H (padS H.ct) (padS H.ct).size).rs (tk H (padS H.ct) (padS H.ct).size).ct)) 47) rfl (fun _ => by kernel_rfl) (fun w M => c_end H hH g1 w M.laid (M.get 1 rfl) (M.ne0 1 rfl)) ?_
  intro u3 M
  replace M : Mem ⟨w, some g⟩ [⟨g, .cells (av 138 (hF true H.ws H.rs H.ct)) 47⟩, ⟨g1, .cells (av 138 (hF true (tk H (padS H.ct) (padS H.ct).size).ws (tk H (padS H.ct) (padS H.ct).size).rs (tk H (padS H.ct) (padS H.ct).size).ct)) 47⟩] u3 := M
  refine pl_nil ?_
  refine au_then ?_
  refine wp_seq ?_
  refine rg_lit ?_
  refine pl_val (want_no rfl) (some 17) rfl (.pointer (some ⟨g1, 1, none⟩)) (fun _ => by kernel_rfl) ?_
  refine pl_val (want_no rfl) (some 18) rfl (.slice (some ⟨g1, 1, none⟩) 8 8) (fun _ => by kernel_rfl) ?_
  refine pl_call M (want_no rfl) (some 19) rfl 21 #[.slice (some ⟨g1, 1, none⟩) 8 8] (.string (sumV H)) (fun _ => by kernel_rfl) (fun w M => c_high g1 1 8 8 (tk H (padS H.ct) (padS H.ct).size).ws (by decide) w M.laid (fun i hi => M.cell 1 rfl (by omega) (hF_words _ _ _ _ i hi))) ?_
  intro u4 M
  refine pl_val (want_no rfl) (some 2) rfl (.string (sumV H)) (fun _ => by kernel_rfl) ?_
  refine pl_nil ?_
  refine au_then ?_
  refine wp_ret ?_
  exact bodyPost_ret (v := .string (sumV H)) (results_tmp1 Tryd.results15 _ _ _ (by kernel_rfl)) (by kernel_rfl) ⟨rfl, below_same M.old hg (M.get 0 rfl)⟩

set_option maxRecDepth 100000 in
set_option maxHeartbeats 4000000 in
theorem c_sumnil  (w : World) (hL : Laid w)  :
    Calls Tryd.prog 15 #[.pointer none] w fun r w' => r = .returned (.string ⟨#[]⟩) ∧ Below w.heap.size w w' := by
  go_enter Tryd.func15, Tryd.ntmps15
  have M := Mem.start hL
  refine wp_seq ?_
  refine rg_lit ?_
  refine pl_val (want_no rfl) (some 2) rfl (.string ⟨#[]⟩) (fun _ => by kernel_rfl) ?_
  refine pl_nil ?_
  refine au_then ?_
  refine wp_seq ?_
  refine wp_seq ?_
  refine rg_lit ?_
  refine pl_val (want_no rfl) (some 4) rfl (.pointer none) (fun _ => by kernel_rfl) ?_
  refine pl_val (want_no rfl) (some 5) rfl (.bool true) (fun _ => by kernel_rfl) ?_
  refine pl_val (want_no rfl) (some 6) rfl (.bool true) (fun _ => by kernel_rfl) ?_
  refine pl_skip (want_off 2 false rfl 6 rfl (by kernel_rfl)) (some 7) rfl ?_
  refine pl_skip (want_off 2 false rfl 6 rfl (by kernel_rfl)) (some 8) rfl ?_
  refine pl_skip (want_off 2 false rfl 6 rfl (by kernel_rfl)) (some 9) rfl ?_
  refine pl_skip (want_off 2 false rfl 6 rfl (by kernel_rfl)) (some 10) rfl ?_
  refine pl_skip (want_off 2 false rfl 6 rfl (by kernel_rfl)) (some 11) rfl ?_
  refine pl_val (want_no rfl) (some 12) rfl (.bool true) (fun _ => by kernel_rfl) ?_
  refine pl_nil ?_
  refine au_then ?_
  refine wp_cond_true (by kernel_rfl) ?_
  refine wp_seq ?_
  refine rg_lit ?_
  refine pl_val (want_no rfl) (some 2) rfl (.string ⟨#[]⟩) (fun _ => by kernel_rfl) ?_
  refine pl_nil ?_
  refine au_then ?_
  refine wp_ret ?_
  refine au_then_ret ?_
  exact bodyPost_ret (v := .string ⟨#[]⟩) (results_tmp1 Tryd.results15 _ _ _ (by kernel_rfl)) (by kernel_rfl) ⟨rfl, below_grown M.old⟩

theorem hs0_ok : hs0.ok := ⟨by decide, by decide⟩
set_option maxRecDepth 100000 in
set_option maxHeartbeats 4000000 in
theorem c_of (s : ByteArray) (w : World) (hL : Laid w)  :
    Calls Tryd.prog 8 #[.string s] w fun r w' => r = .returned (.string (ofV s)) ∧ Below w.heap.size w w' := by
  go_enter Tryd.func8, Tryd.ntmps8
  have M := Mem.start hL
  refine wp_seq ?_
  refine rg_lit ?_
  refine pl_val (want_no rfl) (some 2) rfl (.string ⟨#[]⟩) (fun _ => by kernel_rfl) ?_
  refine pl_nil ?_
  refine au_then ?_
  refine wp_seq ?_
  refine rg_lit ?_
  refine pl_calln M (want_no rfl) (some 4) rfl 13 #[] (fun g1 => .pointer (some ⟨g1, 0, none⟩)) (.cells (av 138 (hF true hs0.ws hs0.rs hs0.ct)) 47) (fun _ => by kernel_rfl) (fun w M => c_new w M.laid) ?_
  intro g1 u1 M
  replace M : Mem ⟨w, none⟩ [⟨g1, .cells (av 138 (hF true hs0.ws hs0.rs hs0.ct)) 47⟩] u1 := M
  refine pl_val (want_no rfl) (some 3) rfl (.pointer (some ⟨g1, 0, none⟩)) (fun _ => by kernel_rfl) ?_
  refine pl_nil ?_
  refine au_then ?_
  refine wp_seq ?_
  refine rg_lit ?_
  refine pl_val (want_no rfl) (some 5) rfl (.pointer (some ⟨g1, 0, none⟩)) (fun _ => by kernel_rfl) ?_
  refine pl_val (want_no rfl) (some 6) rfl (.string s) (fun _ => by kernel_rfl) ?_
  refine pl_callp M (want_no rfl) (some 7) rfl 16 #[.pointer (some ⟨g1, 0, none⟩), .string s] (.tuple #[]) 0 g1 (.cells (av 138 (hF true hs0.ws hs0.rs hs0.ct)) 47) (.cells (av 138 (hF true (tk hs0 s s.size).ws (tk hs0 s s.size).rs (tk hs0 s s.size).ct)) 47) rfl (fun _ => by kernel_rfl) (fun w M => c_take hs0 hs0_ok g1 s w M.laid (M.get 0 rfl) (M.ne0 0 rfl)) ?_
  intro u2 M
  replace M : Mem ⟨w, none⟩ [⟨g1, .cells (av 138 (hF true (tk hs0 s s.size).ws (tk hs0 s s.size).rs (tk hs0 s s.size).ct)) 47⟩] u2 := M
  refine pl_nil ?_
  refine au_then ?_
  refine wp_seq ?_
  refine rg_lit ?_
  refine pl_val (want_no rfl) (some 8) rfl (.pointer (some ⟨g1, 0, none⟩)) (fun _ => by kernel_rfl) ?_
  refine pl_call M (want_no rfl) (some 9) rfl 15 #[.pointer (some ⟨g1, 0, none⟩)] (.string (ofV s)) (fun _ => by kernel_rfl) (fun w M => c_sum (tk hs0 s s.size) (tk_ok hs0_ok s _) g1 w M.laid (M.get 0 rfl) (M.ne0 0 rfl)) ?_
  intro u3 M
  refine pl_val (want_no rfl) (some 2) rfl (.string (ofV s)) (fun _ => by kernel_rfl) ?_
  refine pl_nil ?_
  refine au_then ?_
  refine wp_ret ?_
  exact bodyPost_ret (v := .string (ofV s)) (results_tmp1 Tryd.results8 _ _ _ (by kernel_rfl)) (by kernel_rfl) ⟨rfl, below_grown M.old⟩


end Go.Proofs.YtghobmgdadpplaaDoor
