/- The walk of alive, and that of ShaNil. -/
import Derived.Test.YtghobmgdadpplaaDoorD8
namespace Go.Proofs.YtghobmgdadpplaaDoor
open Go.RowKit

theorem of_ext (s X : ByteArray) (l : List Int) (n : Nat) (hs : s = bs l) (hX : X = bs (l.take n)) : s.extract 0 n = X := by
  subst hs hX
  apply ByteArray.ext
  rw [ByteArray.data_extract]
  unfold bs
  apply Array.ext_getElem?
  intro i
  simp only [Array.getElem?_extract, List.getElem?_toArray, List.getElem?_map, List.getElem?_take]
  by_cases h : i < n
  · simp [h]
    intro h2
    rw [List.getElem?_eq_none (by omega)]
    rfl
  · simp [h]
    omega
theorem hI_congr {f g : Nat → Int} : ∀ n, (∀ i, i < n → f i = g i) → hI f n = hI g n
  | 0, _ => rfl
  | n + 1, h => by
    unfold hI
    rw [hI_congr n fun i hi => h i (by omega), h n (by omega)]
theorem ofV_size (s : ByteArray) : (ofV s).size = 64 := by
  unfold ofV sumV
  rw [bs_size, hI_length]
theorem run_strh {P : Program} {a : Act} {o : Oper} (t : TypeId) (hu : P.underlying t = some .string) (x hi : Operand) (ho : o.op = .slice t x none (some hi) none) (s : ByteArray) (hx : a.eval x = .string s) (k : IntKind) (i : Nat) (hh : a.eval hi = .int k (i : Int)) (hle : i ≤ s.size) (v : ByteArray) (hv : s.extract 0 i = v) (w : World) :
    (execOp a.eval o).run P w = .ok (.value (.string v)) w := by
  subst hv
  unfold execOp
  simp [ho, hx, hh, run_sliceAt_string w t (.string s) none (some (.int k i)) none hu, run_slice_string_h w t s hu k i (by omega) (by omega)]
theorem ofE4 : (ofV strE).extract 0 4 = ⟨#[207, 131, 225, 53]⟩ := by
  refine of_ext _ _ _ 4 rfl ?_
  rw [hI_congr 8 wsE]
  decide +kernel
theorem ofA4 : (ofV strA).extract 0 4 = ⟨#[221, 175, 53, 161]⟩ := by
  refine of_ext _ _ _ 4 rfl ?_
  rw [hI_congr 8 wsA]
  decide +kernel
def strAB : ByteArray := ⟨#[97, 98]⟩
def strC : ByteArray := ⟨#[99]⟩
theorem sumAB : sumV (tk (tk hs0 strAB strAB.size) strC strC.size) = ofV strA := by
  have e : tk (tk hs0 strAB strAB.size) strC strC.size = tk hs0 strA strA.size := by
    show ab (ab (ab hs0 (bt strAB 0)) (bt strAB 1)) (bt strC 0) = ab (ab (ab hs0 (bt strA 0)) (bt strA 1)) (bt strA 2)
    rw [show bt strAB 0 = bt strA 0 by decide, show bt strAB 1 = bt strA 1 by decide, show bt strC 0 = bt strA 2 by decide]
  unfold ofV
  rw [e]

set_option maxRecDepth 100000 in
set_option maxHeartbeats 4000000 in
theorem c_alive  (w : World) (hL : Laid w)  :
    Calls Tryd.prog 7 #[] w fun r w' => r = .returned (.bool true) ∧ Below w.heap.size w w' := by
  go_enter Tryd.func7, Tryd.ntmps7
  have M := Mem.start hL
  refine wp_seq ?_
  refine rg_lit ?_
  refine pl_val (want_no rfl) (some 0) rfl (.bool false) (fun _ => by kernel_rfl) ?_
  refine pl_nil ?_
  refine au_then ?_
  refine wp_seq ?_
  refine rg_lit ?_
  refine pl_call M (want_no rfl) (some 4) rfl 8 #[.string ⟨#[]⟩] (.string (ofV strE)) (fun _ => by kernel_rfl) (fun w M => c_of strE w M.laid) ?_
  intro u1 M
  refine pl_val (want_no rfl) (some 1) rfl (.string (ofV strE)) (fun _ => by kernel_rfl) ?_
  refine pl_nil ?_
  refine au_then ?_
  refine wp_seq ?_
  refine rg_lit ?_
  refine pl_call M (want_no rfl) (some 5) rfl 8 #[.string ⟨#[97, 98, 99]⟩] (.string (ofV strA)) (fun _ => by kernel_rfl) (fun w M => c_of strA w M.laid) ?_
  intro u2 M
  refine pl_val (want_no rfl) (some 2) rfl (.string (ofV strA)) (fun _ => by kernel_rfl) ?_
  refine pl_nil ?_
  refine au_then ?_
  refine wp_seq ?_
  refine rg_lit ?_
  refine pl_calln M (want_no rfl) (some 6) rfl 13 #[] (fun g1 => .pointer (some ⟨g1, 0, none⟩)) (.cells (av 138 (hF true hs0.ws hs0.rs hs0.ct)) 47) (fun _ => by kernel_rfl) (fun w M => c_new w M.laid) ?_
  intro g1 u3 M
  replace M : Mem ⟨w, none⟩ [⟨g1, .cells (av 138 (hF true hs0.ws hs0.rs hs0.ct)) 47⟩] u3 := M
  refine pl_val (want_no rfl) (some 3) rfl (.pointer (some ⟨g1, 0, none⟩)) (fun _ => by kernel_rfl) ?_
  refine pl_nil ?_
  refine au_then ?_
  refine wp_seq ?_
  refine rg_lit ?_
  refine pl_val (want_no rfl) (some 7) rfl (.string (ofV strE)) (fun _ => by kernel_rfl) ?_
  refine pl_val (want_no rfl) (some 8) rfl (.int .i64 ((ofV strE).size : Int)) (fun _ => by kernel_rfl) ?_
  refine pl_val (want_no rfl) (some 9) rfl (.bool true) (fun w => Eq.trans (b := .ok (.value (.bool (decide (((ofV strE).size : Int) = 64)))) w) (by kernel_rfl) (by rw [ofV_size]; rfl)) ?_
  refine pl_val (want_no rfl) (some 10) rfl (.bool true) (fun _ => by kernel_rfl) ?_
  refine pl_val (want_on 3 true rfl 10 rfl (by kernel_rfl)) (some 11) rfl (.string (ofV strE)) (fun _ => by kernel_rfl) ?_
  refine pl_val (want_on 3 true rfl 10 rfl (by kernel_rfl)) (some 12) rfl (.string (⟨#[207, 131, 225, 53]⟩ : ByteArray)) (run_strh 9 Tryd.underlying9 _ _ rfl (ofV strE) (by kernel_rfl) .i64 4 (by kernel_rfl) (by rw [ofV_size]; decide) _ ofE4) ?_
  refine pl_val (want_on 3 true rfl 10 rfl (by kernel_rfl)) (some 13) rfl (.bool true) (fun w => Eq.trans (b := .ok (.value (.bool ((⟨#[207, 131, 225, 53]⟩ : ByteArray).toList == (⟨#[207, 131, 225, 53]⟩ : ByteArray).toList))) w) (by kernel_rfl) (by rw [beq_self_eq_true])) ?_
  refine pl_val (want_no rfl) (some 14) rfl (.bool true) (fun _ => by kernel_rfl) ?_
  refine pl_val (want_no rfl) (some 15) rfl (.bool true) (fun _ => by kernel_rfl) ?_
  refine pl_val (want_on 8 true rfl 15 rfl (by kernel_rfl)) (some 16) rfl (.string (ofV strA)) (fun _ => by kernel_rfl) ?_
  refine pl_val (want_on 8 true rfl 15 rfl (by kernel_rfl)) (some 17) rfl (.int .i64 ((ofV strA).size : Int)) (fun _ => by kernel_rfl) ?_
  refine pl_val (want_on 8 true rfl 15 rfl (by kernel_rfl)) (some 18) rfl (.bool true) (fun w => Eq.trans (b := .ok (.value (.bool (decide (((ofV strA).size : Int) = 64)))) w) (by kernel_rfl) (by rw [ofV_size]; rfl)) ?_
  refine pl_val (want_no rfl) (some 19) rfl (.bool true) (fun _ => by kernel_rfl) ?_
  refine pl_val (want_no rfl) (some 20) rfl (.bool true) (fun _ => by kernel_rfl) ?_
  refine pl_val (want_on 13 true rfl 20 rfl (by kernel_rfl)) (some 21) rfl (.string (ofV strA)) (fun _ => by kernel_rfl) ?_
  refine pl_val (want_on 13 true rfl 20 rfl (by kernel_rfl)) (some 22) rfl (.string (⟨#[221, 175, 53, 161]⟩ : ByteArray)) (run_strh 9 Tryd.underlying9 _ _ rfl (ofV strA) (by kernel_rfl) .i64 4 (by kernel_rfl) (by rw [ofV_size]; decide) _ ofA4) ?_
  refine pl_val (want_on 13 true rfl 20 rfl (by kernel_rfl)) (some 23) rfl (.bool true) (fun w => Eq.trans (b := .ok (.value (.bool ((⟨#[221, 175, 53, 161]⟩ : ByteArray).toList == (⟨#[221, 175, 53, 161]⟩ : ByteArray).toList))) w) (by kernel_rfl) (by rw [beq_self_eq_true])) ?_
  refine pl_val (want_no rfl) (some 24) rfl (.bool true) (fun _ => by kernel_rfl) ?_
  refine pl_val (want_no rfl) (some 25) rfl (.bool true) (fun _ => by kernel_rfl) ?_
  refine pl_val (want_on 18 true rfl 25 rfl (by kernel_rfl)) (some 26) rfl (.pointer (some ⟨g1, 0, none⟩)) (fun _ => by kernel_rfl) ?_
  refine pl_callp M (want_on 18 true rfl 25 rfl (by kernel_rfl)) (some 27) rfl 14 #[.pointer (some ⟨g1, 0, none⟩), .string ⟨#[97, 98]⟩] (.int .i64 0) 0 g1 (.cells (av 138 (hF true hs0.ws hs0.rs hs0.ct)) 47) (.cells (av 138 (hF true (tk hs0 strAB strAB.size).ws (tk hs0 strAB strAB.size).rs (tk hs0 strAB strAB.size).ct)) 47) rfl (fun _ => by kernel_rfl) (fun w M => c_add hs0 hs0_ok g1 strAB w M.laid (M.get 0 rfl) (M.ne0 0 rfl)) ?_
  intro u4 M
  replace M : Mem ⟨w, none⟩ [⟨g1, .cells (av 138 (hF true (tk hs0 strAB strAB.size).ws (tk hs0 strAB strAB.size).rs (tk hs0 strAB strAB.size).ct)) 47⟩] u4 := M
  refine pl_val (want_on 18 true rfl 25 rfl (by kernel_rfl)) (some 28) rfl (.bool true) (fun _ => by kernel_rfl) ?_
  refine pl_val (want_no rfl) (some 29) rfl (.bool true) (fun _ => by kernel_rfl) ?_
  refine pl_val (want_no rfl) (some 30) rfl (.bool true) (fun _ => by kernel_rfl) ?_
  refine pl_val (want_on 23 true rfl 30 rfl (by kernel_rfl)) (some 31) rfl (.pointer (some ⟨g1, 0, none⟩)) (fun _ => by kernel_rfl) ?_
  refine pl_callp M (want_on 23 true rfl 30 rfl (by kernel_rfl)) (some 32) rfl 14 #[.pointer (some ⟨g1, 0, none⟩), .string ⟨#[99]⟩] (.int .i64 0) 0 g1 (.cells (av 138 (hF true (tk hs0 strAB strAB.size).ws (tk hs0 strAB strAB.size).rs (tk hs0 strAB strAB.size).ct)) 47) (.cells (av 138 (hF true (tk (tk hs0 strAB strAB.size) strC strC.size).ws (tk (tk hs0 strAB strAB.size) strC strC.size).rs (tk (tk hs0 strAB strAB.size) strC strC.size).ct)) 47) rfl (fun _ => by kernel_rfl) (fun w M => c_add (tk hs0 strAB strAB.size) (tk_ok hs0_ok _ _) g1 strC w M.laid (M.get 0 rfl) (M.ne0 0 rfl)) ?_
  intro u5 M
  replace M : Mem ⟨w, none⟩ [⟨g1, .cells (av 138 (hF true (tk (tk hs0 strAB strAB.size) strC strC.size).ws (tk (tk hs0 strAB strAB.size) strC strC.size).rs (tk (tk hs0 strAB strAB.size) strC strC.size).ct)) 47⟩] u5 := M
  refine pl_val (want_on 23 true rfl 30 rfl (by kernel_rfl)) (some 33) rfl (.bool true) (fun _ => by kernel_rfl) ?_
  refine pl_val (want_no rfl) (some 34) rfl (.bool true) (fun _ => by kernel_rfl) ?_
  refine pl_val (want_no rfl) (some 35) rfl (.bool true) (fun _ => by kernel_rfl) ?_
  refine pl_val (want_on 28 true rfl 35 rfl (by kernel_rfl)) (some 36) rfl (.pointer (some ⟨g1, 0, none⟩)) (fun _ => by kernel_rfl) ?_
  refine pl_call M (want_on 28 true rfl 35 rfl (by kernel_rfl)) (some 37) rfl 15 #[.pointer (some ⟨g1, 0, none⟩)] (.string (sumV (tk (tk hs0 strAB strAB.size) strC strC.size))) (fun _ => by kernel_rfl) (fun w M => c_sum (tk (tk hs0 strAB strAB.size) strC strC.size) (tk_ok (tk_ok hs0_ok _ _) _ _) g1 w M.laid (M.get 0 rfl) (M.ne0 0 rfl)) ?_
  intro u6 M
  refine pl_val (want_on 28 true rfl 35 rfl (by kernel_rfl)) (some 38) rfl (.string (ofV strA)) (fun _ => by kernel_rfl) ?_
  refine pl_val (want_on 28 true rfl 35 rfl (by kernel_rfl)) (some 39) rfl (.bool true) (fun w => Eq.trans (b := .ok (.value (.bool ((sumV (tk (tk hs0 strAB strAB.size) strC strC.size)).toList == (ofV strA).toList))) w) (by kernel_rfl) (by rw [sumAB]; rw [beq_self_eq_true])) ?_
  refine pl_val (want_no rfl) (some 40) rfl (.bool true) (fun _ => by kernel_rfl) ?_
  refine pl_val (want_no rfl) (some 0) rfl (.bool true) (fun _ => by kernel_rfl) ?_
  refine pl_nil ?_
  refine au_then ?_
  refine wp_ret ?_
  exact bodyPost_ret (v := .bool true) (results_tmp1 Tryd.results7 _ _ _ (by kernel_rfl)) (by kernel_rfl) ⟨rfl, below_grown M.old⟩

set_option maxRecDepth 100000 in
set_option maxHeartbeats 4000000 in
theorem c_shanil (s : ByteArray) (w : World) (hL : Laid w)  :
    Calls Tryd.prog 6 #[.string s] w fun r w' => r = .returned (.bool true) ∧ Below w.heap.size w w' := by
  go_enter Tryd.func6, Tryd.ntmps6
  have M := Mem.start hL
  refine wp_seq ?_
  refine rg_lit ?_
  refine pl_val (want_no rfl) (some 2) rfl (.bool false) (fun _ => by kernel_rfl) ?_
  refine pl_nil ?_
  refine au_then ?_
  refine wp_seq ?_
  refine rg_lit ?_
  refine pl_val (want_no rfl) (some 3) rfl (.pointer none) (fun _ => by kernel_rfl) ?_
  refine pl_nil ?_
  refine au_then ?_
  refine wp_seq ?_
  refine rg_lit ?_
  refine pl_val (want_no rfl) (some 4) rfl (.pointer none) (fun _ => by kernel_rfl) ?_
  refine pl_val (want_no rfl) (some 5) rfl (.string s) (fun _ => by kernel_rfl) ?_
  refine pl_call M (want_no rfl) (some 6) rfl 14 #[.pointer none, .string s] (.int .i64 1) (fun _ => by kernel_rfl) (fun w M => c_addnil s w M.laid) ?_
  intro u1 M
  refine pl_val (want_no rfl) (some 7) rfl (.bool true) (fun _ => by kernel_rfl) ?_
  refine pl_val (want_no rfl) (some 8) rfl (.bool true) (fun _ => by kernel_rfl) ?_
  refine pl_val (want_on 4 true rfl 8 rfl (by kernel_rfl)) (some 9) rfl (.pointer none) (fun _ => by kernel_rfl) ?_
  refine pl_call M (want_on 4 true rfl 8 rfl (by kernel_rfl)) (some 10) rfl 15 #[.pointer none] (.string ⟨#[]⟩) (fun _ => by kernel_rfl) (fun w M => c_sumnil w M.laid) ?_
  intro u2 M
  refine pl_val (want_on 4 true rfl 8 rfl (by kernel_rfl)) (some 11) rfl (.bool true) (fun w => Eq.trans (b := .ok (.value (.bool ((⟨#[]⟩ : ByteArray).toList == (⟨#[]⟩ : ByteArray).toList))) w) (by kernel_rfl) (by rw [beq_self_eq_true])) ?_
  refine pl_val (want_no rfl) (some 12) rfl (.bool true) (fun _ => by kernel_rfl) ?_
  refine pl_val (want_no rfl) (some 13) rfl (.bool true) (fun _ => by kernel_rfl) ?_
  refine pl_call M (want_on 9 true rfl 13 rfl (by kernel_rfl)) (some 14) rfl 7 #[] (.bool true) (fun _ => by kernel_rfl) (fun w M => c_alive w M.laid) ?_
  intro u3 M
  refine pl_val (want_no rfl) (some 15) rfl (.bool true) (fun _ => by kernel_rfl) ?_
  refine pl_val (want_no rfl) (some 2) rfl (.bool true) (fun _ => by kernel_rfl) ?_
  refine pl_nil ?_
  refine au_then ?_
  refine wp_ret ?_
  exact bodyPost_ret (v := .bool true) (results_tmp1 Tryd.results6 _ _ _ (by kernel_rfl)) (by kernel_rfl) ⟨rfl, below_grown M.old⟩


end Go.Proofs.YtghobmgdadpplaaDoor
