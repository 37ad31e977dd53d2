/- What one end keeps: the walks of its calls. -/
import Derived.Test.YtenafinbaanicaaDoorW3
namespace Go.Proofs.YtenafinbaanicaaDoor
open Go.RowKit
set_option maxRecDepth 100000

/-- Whether it is over. -/
def ovB (sd : ByteArray) (lf mt n : Nat) : Bool := decide (sd = ⟨#[]⟩ ∨ lf ≤ n - mt)
def wnB (sd : ByteArray) (fi : Bool) (rc rk lf nx mt n : Nat) : Bool := fi && (!ovB sd lf mt n && decide (rc ≤ nx ∨ rk ≤ n - mt))
def slF (sd : ByteArray) (su : Bool) (ct lf nx mt n : Nat) : Int := if ovB sd lf mt n = true then 180 else if ct ≤ nx then 180 else if su = true then 0 else 3
theorem age_eq (n mt : Nat) (hn : n < 18446744073709551616) : IntKind.wrap .u64 (max (n : Int) (mt : Int) - (mt : Int)) = ((n - mt : Nat) : Int) := by
  rw [IntKind.wrap_u64]
  omega
theorem a_Mark {g k s h : Nat} {m : Nat → Int} {n : Nat} {l : List Nat} (hs : 1 ≤ s) (hh : h < 18446744073709551616) (hn : n < 18446744073709551616) (I : Inv s h m l) (w : World) (hL : Laid w) (hT : There w [⟨g, .cells (av 3 (ls [.int .u64 (s : Int), .int .u64 (h : Int), .slice (some ⟨k, 0, none⟩) (nW s) (nW s)])) 88⟩, ⟨k, .cells (av (nW s) (w64 m)) 22⟩]) :
    Calls Tryd.prog 45 #[.pointer (some ⟨g, 0, none⟩), .int .u64 (n : Int)] w fun r w' => ∃ x : Nat × (Nat → Int), r = .returned (.int .i64 (my s l n)) ∧ (Inv s x.1 x.2 (mk s l n) ∧ x.1 < 18446744073709551616) ∧ OkT w w' [⟨g, .cells (av 3 (ls [.int .u64 (s : Int), .int .u64 (h : Int), .slice (some ⟨k, 0, none⟩) (nW s) (nW s)])) 88⟩, ⟨k, .cells (av (nW s) (w64 m)) 22⟩] [⟨g, .cells (av 3 (ls [.int .u64 (s : Int), .int .u64 ((x.1 : Nat) : Int), .slice (some ⟨k, 0, none⟩) (nW s) (nW s)])) 88⟩, ⟨k, .cells (av (nW s) (w64 x.2)) 22⟩] := by
  rw [← may_eq I hs n]
  exact (c_Mark g k s h (nW s) m n hs (Nat.le_refl _) hh hn w hL hT).mono fun _ _ ⟨he, h1, h2, h3⟩ => ⟨(mkH s h m n, mkM s h m n), he, ⟨inv_mark I hs n, mkH_lt hh hn⟩, h1, by simpa using ⟨h2, h3⟩, by simpa using hT.nodup, by simp⟩
theorem a_May {g k s h : Nat} {m : Nat → Int} {n : Nat} {l : List Nat} (hs : 1 ≤ s) (hh : h < 18446744073709551616) (hn : n < 18446744073709551616) (I : Inv s h m l) (w : World) (hL : Laid w) (hT : There w [⟨g, .cells (av 3 (ls [.int .u64 (s : Int), .int .u64 (h : Int), .slice (some ⟨k, 0, none⟩) (nW s) (nW s)])) 88⟩, ⟨k, .cells (av (nW s) (w64 m)) 22⟩]) :
    Calls Tryd.prog 43 #[.pointer (some ⟨g, 0, none⟩), .int .u64 (n : Int)] w fun r w' => r = .returned (.int .i64 (my s l n)) ∧ Below w.heap.size w w' := by
  rw [← may_eq I hs n]
  exact c_May g k s h (nW s) m n hs (Nat.le_refl _) hh hn w hL hT
set_option maxRecDepth 100000 in
set_option maxHeartbeats 4000000 in
set_option linter.unusedSimpArgs false in
theorem c_wiped {e wd md : Nat} {rc ct rk lf sz nx : Nat} {sd rv : ByteArray} {fi su : Bool} (w : World) (hL : Laid w)  (hT : There w [⟨e, .cells (av 12 (ls [.pointer (some ⟨wd, 0, none⟩), .func (.func 39) #[] #[.pointer (some ⟨md, 0, none⟩)], .int .u64 (rc : Int), .int .u64 (ct : Int), .int .u64 (rk : Int), .int .u64 (lf : Int), .int .i64 (sz : Int), .string sd, .string rv, .bool (fi), .bool (su), .int .u64 (nx : Int)])) 64⟩]) :
    Calls Tryd.prog 48 #[.pointer (some ⟨e, 0, none⟩)] w fun r w' => r = .returned (.bool (decide (sd = (⟨#[]⟩ : ByteArray)))) ∧ Below w.heap.size w w' := by
  go_enter Tryd.func48, Tryd.ntmps48
  have M : Mem ⟨w, [e]⟩ [⟨e, .cells (av 12 (ls [.pointer (some ⟨wd, 0, none⟩), .func (.func 39) #[] #[.pointer (some ⟨md, 0, none⟩)], .int .u64 (rc : Int), .int .u64 (ct : Int), .int .u64 (rk : Int), .int .u64 (lf : Int), .int .i64 (sz : Int), .string sd, .string rv, .bool (fi), .bool (su), .int .u64 (nx : Int)])) 64⟩] w := Mem.startT hL hT
  refine wp_seq ?_
  refine rg_lit ?_
  refine pl_val (want_no rfl) (some 2) rfl (.bool false) (fun _ => by kernel_rfl) ?_
  refine pl_nil ?_
  refine au_then ?_
  refine wp_seq ?_
  refine rg_lit ?_
  refine pl_val (want_no rfl) (some 3) rfl (.pointer (some ⟨e, 0, none⟩)) (fun _ => by kernel_rfl) ?_
  refine pl_val (want_no rfl) (some 4) rfl (.pointer (some ⟨e, 0, none⟩)) (fun _ => by kernel_rfl) ?_
  refine pl_val (want_no rfl) (some 5) rfl (.pointer (some ⟨e, 7, none⟩)) (fun _ => by kernel_rfl) ?_
  refine pl_cell M (want_no rfl) (some 6) rfl 9 _ rfl e 7 (by kernel_rfl) (.string sd) (fun _ => by kernel_rfl) (fun w M => M.cell 0 rfl (by decide) rfl) ?_
  by_cases c0 : sd = (⟨#[]⟩ : ByteArray)
  · skip
    refine pl_val (want_no rfl) (some 7) rfl (.bool true) (fun w => Eq.trans (b := .ok (.value (.bool (sd.toList == (⟨#[]⟩ : ByteArray).toList))) w) (by kernel_rfl) (by rw [seq_pos c0])) ?_
    refine pl_val (want_no rfl) (some 2) rfl (.bool true) (fun _ => by kernel_rfl) ?_
    refine pl_nil ?_
    refine au_then ?_
    refine wp_ret ?_
    have e0 : decide (sd = (⟨#[]⟩ : ByteArray)) = true := by first | (simp only [if_pos c0]; done) | simp [c0]
    exact bodyPost_ret (v := .bool true) (results_tmp1 Tryd.results48 _ _ _ (by kernel_rfl)) (by kernel_rfl) ⟨by rw [e0], ro_T hT M⟩
  · skip
    refine pl_val (want_no rfl) (some 7) rfl (.bool false) (fun w => Eq.trans (b := .ok (.value (.bool (sd.toList == (⟨#[]⟩ : ByteArray).toList))) w) (by kernel_rfl) (by rw [seq_neg c0])) ?_
    refine pl_val (want_no rfl) (some 2) rfl (.bool false) (fun _ => by kernel_rfl) ?_
    refine pl_nil ?_
    refine au_then ?_
    refine wp_ret ?_
    have e0 : decide (sd = (⟨#[]⟩ : ByteArray)) = false := by first | (simp only [if_neg c0]; done) | simp [c0]
    exact bodyPost_ret (v := .bool false) (results_tmp1 Tryd.results48 _ _ _ (by kernel_rfl)) (by kernel_rfl) ⟨by rw [e0], ro_T hT M⟩

set_option maxRecDepth 100000 in
set_option maxHeartbeats 4000000 in
set_option linter.unusedSimpArgs false in
theorem c_age {md mt n : Nat} (hn : n < 18446744073709551616) (w : World) (hL : Laid w)  (hT : There w [⟨md, .cells (av 1 (ls [.int .u64 (mt : Int)])) 22⟩]) :
    Calls Tryd.prog 39 #[.int .u64 (n : Int), .pointer (some ⟨md, 0, none⟩)] w fun r w' => r = .returned (.int .u64 ((n - mt : Nat) : Int)) ∧ Below w.heap.size w w' := by
  go_enter Tryd.func39, Tryd.ntmps39
  have M : Mem ⟨w, [md]⟩ [⟨md, .cells (av 1 (ls [.int .u64 (mt : Int)])) 22⟩] w := Mem.startT hL hT
  refine wp_seq ?_
  refine rg_lit ?_
  refine pl_val (want_no rfl) (some 3) rfl (.int .u64 0) (fun _ => by kernel_rfl) ?_
  refine pl_nil ?_
  refine au_then ?_
  refine wp_seq ?_
  refine rg_lit ?_
  refine pl_val (want_no rfl) (some 4) rfl (.int .u64 (n : Int)) (fun _ => by kernel_rfl) ?_
  refine pl_cell M (want_no rfl) (some 5) rfl 22 _ rfl md 0 (by kernel_rfl) (.int .u64 (mt : Int)) (fun _ => by kernel_rfl) (fun w M => M.cell 0 rfl (by decide) rfl) ?_
  refine pl_val (want_no rfl) (some 6) rfl (.int .u64 (max (n : Int) (mt : Int))) (fun w => Eq.trans (b := .ok (.value (.int .u64 (if ((mt : Int) : Int) > (n : Int) then (mt : Int) else (n : Int)))) w) (by kernel_rfl) (by rw [if_max])) ?_
  refine pl_cell M (want_no rfl) (some 7) rfl 22 _ rfl md 0 (by kernel_rfl) (.int .u64 (mt : Int)) (fun _ => by kernel_rfl) (fun w M => M.cell 0 rfl (by decide) rfl) ?_
  refine pl_val (want_no rfl) (some 8) rfl (.int .u64 ((n - mt : Nat) : Int)) (fun w => Eq.trans (b := .ok (.value (.int .u64 (IntKind.wrap .u64 (max (n : Int) (mt : Int) - (mt : Int))))) w) (by kernel_rfl) (by rw [age_eq n mt hn])) ?_
  refine pl_val (want_no rfl) (some 3) rfl (.int .u64 ((n - mt : Nat) : Int)) (fun _ => by kernel_rfl) ?_
  refine pl_nil ?_
  refine au_then ?_
  refine wp_ret ?_
  exact bodyPost_ret (v := .int .u64 ((n - mt : Nat) : Int)) (results_tmp1 Tryd.results39 _ _ _ (by kernel_rfl)) (by kernel_rfl) ⟨rfl, ro_T hT M⟩

set_option maxRecDepth 100000 in
set_option maxHeartbeats 4000000 in
set_option linter.unusedSimpArgs false in
theorem c_over {e wd md : Nat} {rc ct rk lf sz nx mt : Nat} {sd rv : ByteArray} {fi su : Bool} {n : Nat} (hn : n < 18446744073709551616) (w : World) (hL : Laid w)  (hT : There w [⟨e, .cells (av 12 (ls [.pointer (some ⟨wd, 0, none⟩), .func (.func 39) #[] #[.pointer (some ⟨md, 0, none⟩)], .int .u64 (rc : Int), .int .u64 (ct : Int), .int .u64 (rk : Int), .int .u64 (lf : Int), .int .i64 (sz : Int), .string sd, .string rv, .bool (fi), .bool (su), .int .u64 (nx : Int)])) 64⟩, ⟨md, .cells (av 1 (ls [.int .u64 (mt : Int)])) 22⟩]) :
    Calls Tryd.prog 33 #[.pointer (some ⟨e, 0, none⟩), .int .u64 (n : Int)] w fun r w' => r = .returned (.bool (ovB sd lf mt n)) ∧ Below w.heap.size w w' := by
  go_enter Tryd.func33, Tryd.ntmps33
  have M : Mem ⟨w, [e, md]⟩ [⟨e, .cells (av 12 (ls [.pointer (some ⟨wd, 0, none⟩), .func (.func 39) #[] #[.pointer (some ⟨md, 0, none⟩)], .int .u64 (rc : Int), .int .u64 (ct : Int), .int .u64 (rk : Int), .int .u64 (lf : Int), .int .i64 (sz : Int), .string sd, .string rv, .bool (fi), .bool (su), .int .u64 (nx : Int)])) 64⟩, ⟨md, .cells (av 1 (ls [.int .u64 (mt : Int)])) 22⟩] w := Mem.startT hL hT
  refine wp_seq ?_
  refine rg_lit ?_
  refine pl_val (want_no rfl) (some 4) rfl (.bool false) (fun _ => by kernel_rfl) ?_
  refine pl_nil ?_
  refine au_then ?_
  refine wp_seq ?_
  refine rg_held M [⟨e, .cells (av 12 (ls [.pointer (some ⟨wd, 0, none⟩), .func (.func 39) #[] #[.pointer (some ⟨md, 0, none⟩)], .int .u64 (rc : Int), .int .u64 (ct : Int), .int .u64 (rk : Int), .int .u64 (lf : Int), .int .i64 (sz : Int), .string sd, .string rv, .bool (fi), .bool (su), .int .u64 (nx : Int)])) 64⟩, ⟨md, .cells (av 1 (ls [.int .u64 (mt : Int)])) 22⟩] 16 rfl (by kernel_rfl) (by kernel_rfl) (fun _ _ d _ _ h => by cases d <;> exact h) ?_
  intro u1 M
  replace M : Mem ⟨w, [e, md]⟩ [⟨e, .cells (av 12 (ls [.pointer (some ⟨wd, 0, none⟩), .func (.func 39) #[] #[.pointer (some ⟨md, 0, none⟩)], .int .u64 (rc : Int), .int .u64 (ct : Int), .int .u64 (rk : Int), .int .u64 (lf : Int), .int .i64 (sz : Int), .string sd, .string rv, .bool (fi), .bool (su), .int .u64 (nx : Int)])) 64⟩, ⟨md, .cells (av 1 (ls [.int .u64 (mt : Int)])) 22⟩] u1 := M
  refine hl_val M 0 rfl (by decide) (by kernel_rfl) (by kernel_rfl) (want_no rfl) (some 5) rfl (.pointer (some ⟨e, 0, none⟩)) (fun _ _ => by kernel_rfl) ?_
  refine hl_one 1 (by decide) (by kernel_rfl) rfl ?_
  by_cases c0 : sd = (⟨#[]⟩ : ByteArray)
  · skip
    refine pl_call M (want_no rfl) (some 6) rfl 48 #[.pointer (some ⟨e, 0, none⟩)] (.bool true) (fun _ => by kernel_rfl) (fun w M => call_val (c_wiped w M.laid (M.there (.cons_cons _ (List.nil_sublist _)))) (congrArg Value.bool (decide_eq_true (c0)))) ?_
    intro u2 M
    refine pl_nil ?_
    refine au_then ?_
    refine ⟨M, ?_⟩
    refine hl_val M 2 rfl (by decide) (by kernel_rfl) (by kernel_rfl) (want_no rfl) (some 7) rfl (.bool true) (fun _ _ => by kernel_rfl) ?_
    refine hl_skip M 3 rfl (by decide) (by kernel_rfl) (by kernel_rfl) (want_off 2 false rfl 7 rfl (by kernel_rfl)) (some 8) rfl ?_
    refine hl_skip M 4 rfl (by decide) (by kernel_rfl) (by kernel_rfl) (want_off 2 false rfl 7 rfl (by kernel_rfl)) (some 9) rfl ?_
    refine hl_skip M 5 rfl (by decide) (by kernel_rfl) (by kernel_rfl) (want_off 2 false rfl 7 rfl (by kernel_rfl)) (some 10) rfl ?_
    refine hl_skip M 6 rfl (by decide) (by kernel_rfl) (by kernel_rfl) (want_off 2 false rfl 7 rfl (by kernel_rfl)) (some 11) rfl ?_
    refine hl_skip M 7 rfl (by decide) (by kernel_rfl) (by kernel_rfl) (want_off 2 false rfl 7 rfl (by kernel_rfl)) (some 12) rfl ?_
    refine hl_skip M 8 rfl (by decide) (by kernel_rfl) (by kernel_rfl) (want_off 2 false rfl 7 rfl (by kernel_rfl)) (some 13) rfl ?_
    refine hl_skip M 9 rfl (by decide) (by kernel_rfl) (by kernel_rfl) (want_off 2 false rfl 7 rfl (by kernel_rfl)) (some 14) rfl ?_
    refine hl_skip M 10 rfl (by decide) (by kernel_rfl) (by kernel_rfl) (want_off 2 false rfl 7 rfl (by kernel_rfl)) (some 15) rfl ?_
    refine hl_skip M 11 rfl (by decide) (by kernel_rfl) (by kernel_rfl) (want_off 2 false rfl 7 rfl (by kernel_rfl)) (some 16) rfl ?_
    refine hl_skip M 12 rfl (by decide) (by kernel_rfl) (by kernel_rfl) (want_off 2 false rfl 7 rfl (by kernel_rfl)) (some 17) rfl ?_
    refine hl_skip M 13 rfl (by decide) (by kernel_rfl) (by kernel_rfl) (want_off 2 false rfl 7 rfl (by kernel_rfl)) (some 18) rfl ?_
    refine hl_skip M 14 rfl (by decide) (by kernel_rfl) (by kernel_rfl) (want_off 2 false rfl 7 rfl (by kernel_rfl)) (some 19) rfl ?_
    refine hl_val M 15 rfl (by decide) (by kernel_rfl) (by kernel_rfl) (want_no rfl) (some 20) rfl (.bool true) (fun _ _ => by kernel_rfl) ?_
    refine hl_end (by kernel_rfl) (by kernel_rfl) rfl ?_
    refine pl_val (want_no rfl) (some 4) rfl (.bool true) (fun _ => by kernel_rfl) ?_
    refine pl_nil ?_
    refine au_then ?_
    refine au_then ?_
    refine wp_ret ?_
    have e0 : ovB sd lf mt n = true := by unfold ovB; exact decide_eq_true (.inl c0)
    exact bodyPost_ret (v := .bool true) (results_tmp1 Tryd.results33 _ _ _ (by kernel_rfl)) (by kernel_rfl) ⟨by rw [e0], ro_T hT M⟩
  · skip
    refine pl_call M (want_no rfl) (some 6) rfl 48 #[.pointer (some ⟨e, 0, none⟩)] (.bool false) (fun _ => by kernel_rfl) (fun w M => call_val (c_wiped w M.laid (M.there (.cons_cons _ (List.nil_sublist _)))) (congrArg Value.bool (decide_eq_false (c0)))) ?_
    intro u2 M
    refine pl_nil ?_
    refine au_then ?_
    refine ⟨M, ?_⟩
    refine hl_val M 2 rfl (by decide) (by kernel_rfl) (by kernel_rfl) (want_no rfl) (some 7) rfl (.bool false) (fun _ _ => by kernel_rfl) ?_
    refine hl_val M 3 rfl (by decide) (by kernel_rfl) (by kernel_rfl) (want_on 2 false rfl 7 rfl (by kernel_rfl)) (some 8) rfl (.pointer (some ⟨e, 0, none⟩)) (fun _ _ => by kernel_rfl) ?_
    refine hl_val M 4 rfl (by decide) (by kernel_rfl) (by kernel_rfl) (want_on 2 false rfl 7 rfl (by kernel_rfl)) (some 9) rfl (.pointer (some ⟨e, 0, none⟩)) (fun _ _ => by kernel_rfl) ?_
    refine hl_val M 5 rfl (by decide) (by kernel_rfl) (by kernel_rfl) (want_on 2 false rfl 7 rfl (by kernel_rfl)) (some 10) rfl (.pointer (some ⟨e, 1, none⟩)) (fun _ _ => by kernel_rfl) ?_
    refine hl_cell M 6 rfl (by decide) (by kernel_rfl) (by kernel_rfl) (want_on 2 false rfl 7 rfl (by kernel_rfl)) (some 11) rfl 61 _ rfl e 1 (by kernel_rfl) (.func (.func 39) #[] #[.pointer (some ⟨md, 0, none⟩)]) (fun _ => by kernel_rfl) (fun w M => M.cell 0 rfl (by decide) rfl) ?_
    refine hl_val M 7 rfl (by decide) (by kernel_rfl) (by kernel_rfl) (want_on 2 false rfl 7 rfl (by kernel_rfl)) (some 12) rfl (.int .u64 (n : Int)) (fun _ _ => by kernel_rfl) ?_
    refine hl_val M 9 rfl (by decide) (by kernel_rfl) (by kernel_rfl) (want_on 2 false rfl 7 rfl (by kernel_rfl)) (some 14) rfl (.pointer (some ⟨e, 0, none⟩)) (fun _ _ => by kernel_rfl) ?_
    refine hl_val M 10 rfl (by decide) (by kernel_rfl) (by kernel_rfl) (want_on 2 false rfl 7 rfl (by kernel_rfl)) (some 15) rfl (.pointer (some ⟨e, 0, none⟩)) (fun _ _ => by kernel_rfl) ?_
    refine hl_val M 11 rfl (by decide) (by kernel_rfl) (by kernel_rfl) (want_on 2 false rfl 7 rfl (by kernel_rfl)) (some 16) rfl (.pointer (some ⟨e, 2, none⟩)) (fun _ _ => by kernel_rfl) ?_
    refine hl_val M 12 rfl (by decide) (by kernel_rfl) (by kernel_rfl) (want_on 2 false rfl 7 rfl (by kernel_rfl)) (some 17) rfl (.pointer (some ⟨e, 5, none⟩)) (fun _ _ => by kernel_rfl) ?_
    refine hl_cell M 13 rfl (by decide) (by kernel_rfl) (by kernel_rfl) (want_on 2 false rfl 7 rfl (by kernel_rfl)) (some 18) rfl 22 _ rfl e 5 (by kernel_rfl) (.int .u64 (lf : Int)) (fun _ => by kernel_rfl) (fun w M => M.cell 0 rfl (by decide) rfl) ?_
    refine hl_one 8 (by decide) (by kernel_rfl) rfl ?_
    refine pl_call M (want_on 2 false rfl 7 rfl (by kernel_rfl)) (some 13) rfl 39 #[.int .u64 (n : Int), .pointer (some ⟨md, 0, none⟩)] (.int .u64 ((n - mt : Nat) : Int)) (fun _ => by kernel_rfl) (fun w M => c_age hn w M.laid (M.there (.cons _ (.cons_cons _ (List.nil_sublist _))))) ?_
    intro u3 M
    refine pl_nil ?_
    refine au_then ?_
    refine ⟨M, ?_⟩
    by_cases c1 : ((n - mt : Nat) : Int) < (lf : Int)
    · skip
      refine hl_val M 14 rfl (by decide) (by kernel_rfl) (by kernel_rfl) (want_on 2 false rfl 7 rfl (by kernel_rfl)) (some 19) rfl (.bool false) (fun w _ => (fun w => Eq.trans (b := .ok (.value (.bool (decide ((lf : Int) ≤ ((n - mt : Nat) : Int))))) w) (by kernel_rfl) (by rw [decide_eq_false (by omega)])) w) ?_
      refine hl_val M 15 rfl (by decide) (by kernel_rfl) (by kernel_rfl) (want_no rfl) (some 20) rfl (.bool false) (fun _ _ => by kernel_rfl) ?_
      refine hl_end (by kernel_rfl) (by kernel_rfl) rfl ?_
      refine pl_val (want_no rfl) (some 4) rfl (.bool false) (fun _ => by kernel_rfl) ?_
      refine pl_nil ?_
      refine au_then ?_
      refine au_then ?_
      refine wp_ret ?_
      have e0 : ovB sd lf mt n = false := by unfold ovB; exact decide_eq_false (by rintro (h | h) <;> first | exact c0 h | omega)
      exact bodyPost_ret (v := .bool false) (results_tmp1 Tryd.results33 _ _ _ (by kernel_rfl)) (by kernel_rfl) ⟨by rw [e0], ro_T hT M⟩
    · skip
      refine hl_val M 14 rfl (by decide) (by kernel_rfl) (by kernel_rfl) (want_on 2 false rfl 7 rfl (by kernel_rfl)) (some 19) rfl (.bool true) (fun w _ => (fun w => Eq.trans (b := .ok (.value (.bool (decide ((lf : Int) ≤ ((n - mt : Nat) : Int))))) w) (by kernel_rfl) (by rw [decide_eq_true (by omega)])) w) ?_
      refine hl_val M 15 rfl (by decide) (by kernel_rfl) (by kernel_rfl) (want_no rfl) (some 20) rfl (.bool true) (fun _ _ => by kernel_rfl) ?_
      refine hl_end (by kernel_rfl) (by kernel_rfl) rfl ?_
      refine pl_val (want_no rfl) (some 4) rfl (.bool true) (fun _ => by kernel_rfl) ?_
      refine pl_nil ?_
      refine au_then ?_
      refine au_then ?_
      refine wp_ret ?_
      have e0 : ovB sd lf mt n = true := by unfold ovB; exact decide_eq_true (.inr (by omega))
      exact bodyPost_ret (v := .bool true) (results_tmp1 Tryd.results33 _ _ _ (by kernel_rfl)) (by kernel_rfl) ⟨by rw [e0], ro_T hT M⟩

set_option maxRecDepth 100000 in
set_option maxHeartbeats 4000000 in
set_option linter.unusedSimpArgs false in
theorem c_spent {e wd md : Nat} {rc ct rk lf sz nx : Nat} {sd rv : ByteArray} {fi su : Bool} (w : World) (hL : Laid w)  (hT : There w [⟨e, .cells (av 12 (ls [.pointer (some ⟨wd, 0, none⟩), .func (.func 39) #[] #[.pointer (some ⟨md, 0, none⟩)], .int .u64 (rc : Int), .int .u64 (ct : Int), .int .u64 (rk : Int), .int .u64 (lf : Int), .int .i64 (sz : Int), .string sd, .string rv, .bool (fi), .bool (su), .int .u64 (nx : Int)])) 64⟩]) :
    Calls Tryd.prog 40 #[.pointer (some ⟨e, 0, none⟩)] w fun r w' => r = .returned (.bool (decide ((nx : Int) ≥ (ct : Int)))) ∧ Below w.heap.size w w' := by
  go_enter Tryd.func40, Tryd.ntmps40
  have M : Mem ⟨w, [e]⟩ [⟨e, .cells (av 12 (ls [.pointer (some ⟨wd, 0, none⟩), .func (.func 39) #[] #[.pointer (some ⟨md, 0, none⟩)], .int .u64 (rc : Int), .int .u64 (ct : Int), .int .u64 (rk : Int), .int .u64 (lf : Int), .int .i64 (sz : Int), .string sd, .string rv, .bool (fi), .bool (su), .int .u64 (nx : Int)])) 64⟩] w := Mem.startT hL hT
  refine wp_seq ?_
  refine rg_lit ?_
  refine pl_val (want_no rfl) (some 2) rfl (.bool false) (fun _ => by kernel_rfl) ?_
  refine pl_nil ?_
  refine au_then ?_
  refine wp_seq ?_
  refine rg_held M [⟨e, .cells (av 12 (ls [.pointer (some ⟨wd, 0, none⟩), .func (.func 39) #[] #[.pointer (some ⟨md, 0, none⟩)], .int .u64 (rc : Int), .int .u64 (ct : Int), .int .u64 (rk : Int), .int .u64 (lf : Int), .int .i64 (sz : Int), .string sd, .string rv, .bool (fi), .bool (su), .int .u64 (nx : Int)])) 64⟩] 10 rfl (by kernel_rfl) (by kernel_rfl) (fun _ _ d _ _ h => by cases d <;> exact h) ?_
  intro u1 M
  replace M : Mem ⟨w, [e]⟩ [⟨e, .cells (av 12 (ls [.pointer (some ⟨wd, 0, none⟩), .func (.func 39) #[] #[.pointer (some ⟨md, 0, none⟩)], .int .u64 (rc : Int), .int .u64 (ct : Int), .int .u64 (rk : Int), .int .u64 (lf : Int), .int .i64 (sz : Int), .string sd, .string rv, .bool (fi), .bool (su), .int .u64 (nx : Int)])) 64⟩] u1 := M
  refine hl_val M 0 rfl (by decide) (by kernel_rfl) (by kernel_rfl) (want_no rfl) (some 3) rfl (.pointer (some ⟨e, 0, none⟩)) (fun _ _ => by kernel_rfl) ?_
  refine hl_val M 1 rfl (by decide) (by kernel_rfl) (by kernel_rfl) (want_no rfl) (some 4) rfl (.pointer (some ⟨e, 0, none⟩)) (fun _ _ => by kernel_rfl) ?_
  refine hl_val M 2 rfl (by decide) (by kernel_rfl) (by kernel_rfl) (want_no rfl) (some 5) rfl (.pointer (some ⟨e, 11, none⟩)) (fun _ _ => by kernel_rfl) ?_
  refine hl_cell M 3 rfl (by decide) (by kernel_rfl) (by kernel_rfl) (want_no rfl) (some 6) rfl 22 _ rfl e 11 (by kernel_rfl) (.int .u64 (nx : Int)) (fun _ => by kernel_rfl) (fun w M => M.cell 0 rfl (by decide) rfl) ?_
  refine hl_val M 4 rfl (by decide) (by kernel_rfl) (by kernel_rfl) (want_no rfl) (some 7) rfl (.pointer (some ⟨e, 0, none⟩)) (fun _ _ => by kernel_rfl) ?_
  refine hl_val M 5 rfl (by decide) (by kernel_rfl) (by kernel_rfl) (want_no rfl) (some 8) rfl (.pointer (some ⟨e, 0, none⟩)) (fun _ _ => by kernel_rfl) ?_
  refine hl_val M 6 rfl (by decide) (by kernel_rfl) (by kernel_rfl) (want_no rfl) (some 9) rfl (.pointer (some ⟨e, 2, none⟩)) (fun _ _ => by kernel_rfl) ?_
  refine hl_val M 7 rfl (by decide) (by kernel_rfl) (by kernel_rfl) (want_no rfl) (some 10) rfl (.pointer (some ⟨e, 3, none⟩)) (fun _ _ => by kernel_rfl) ?_
  refine hl_cell M 8 rfl (by decide) (by kernel_rfl) (by kernel_rfl) (want_no rfl) (some 11) rfl 22 _ rfl e 3 (by kernel_rfl) (.int .u64 (ct : Int)) (fun _ => by kernel_rfl) (fun w M => M.cell 0 rfl (by decide) rfl) ?_
  by_cases c0 : (nx : Int) < (ct : Int)
  · skip
    refine hl_val M 9 rfl (by decide) (by kernel_rfl) (by kernel_rfl) (want_no rfl) (some 12) rfl (.bool false) (fun w _ => (fun w => Eq.trans (b := .ok (.value (.bool (decide ((ct : Int) ≤ (nx : Int))))) w) (by kernel_rfl) (by rw [decide_eq_false (by omega)])) w) ?_
    refine hl_end (by kernel_rfl) (by kernel_rfl) rfl ?_
    refine pl_val (want_no rfl) (some 2) rfl (.bool false) (fun _ => by kernel_rfl) ?_
    refine pl_nil ?_
    refine au_then ?_
    refine au_then ?_
    refine wp_ret ?_
    have e0 : decide ((nx : Int) ≥ (ct : Int)) = false := decide_eq_false (by omega)
    exact bodyPost_ret (v := .bool false) (results_tmp1 Tryd.results40 _ _ _ (by kernel_rfl)) (by kernel_rfl) ⟨by rw [e0], ro_T hT M⟩
  · skip
    refine hl_val M 9 rfl (by decide) (by kernel_rfl) (by kernel_rfl) (want_no rfl) (some 12) rfl (.bool true) (fun w _ => (fun w => Eq.trans (b := .ok (.value (.bool (decide ((ct : Int) ≤ (nx : Int))))) w) (by kernel_rfl) (by rw [decide_eq_true (by omega)])) w) ?_
    refine hl_end (by kernel_rfl) (by kernel_rfl) rfl ?_
    refine pl_val (want_no rfl) (some 2) rfl (.bool true) (fun _ => by kernel_rfl) ?_
    refine pl_nil ?_
    refine au_then ?_
    refine au_then ?_
    refine wp_ret ?_
    have e0 : decide ((nx : Int) ≥ (ct : Int)) = true := decide_eq_true (by omega)
    exact bodyPost_ret (v := .bool true) (results_tmp1 Tryd.results40 _ _ _ (by kernel_rfl)) (by kernel_rfl) ⟨by rw [e0], ro_T hT M⟩

set_option maxRecDepth 100000 in
set_option maxHeartbeats 4000000 in
set_option linter.unusedSimpArgs false in
theorem c_sealFault {e wd md : Nat} {rc ct rk lf sz nx mt : Nat} {sd rv : ByteArray} {fi su : Bool} {n : Nat} (hn : n < 18446744073709551616) (w : World) (hL : Laid w)  (hT : There w [⟨e, .cells (av 12 (ls [.pointer (some ⟨wd, 0, none⟩), .func (.func 39) #[] #[.pointer (some ⟨md, 0, none⟩)], .int .u64 (rc : Int), .int .u64 (ct : Int), .int .u64 (rk : Int), .int .u64 (lf : Int), .int .i64 (sz : Int), .string sd, .string rv, .bool (fi), .bool (su), .int .u64 (nx : Int)])) 64⟩, ⟨md, .cells (av 1 (ls [.int .u64 (mt : Int)])) 22⟩]) :
    Calls Tryd.prog 24 #[.pointer (some ⟨e, 0, none⟩), .int .u64 (n : Int)] w fun r w' => r = .returned (.int .i64 (slF sd su ct lf nx mt n)) ∧ Below w.heap.size w w' := by
  go_enter Tryd.func24, Tryd.ntmps24
  have M : Mem ⟨w, [e, md]⟩ [⟨e, .cells (av 12 (ls [.pointer (some ⟨wd, 0, none⟩), .func (.func 39) #[] #[.pointer (some ⟨md, 0, none⟩)], .int .u64 (rc : Int), .int .u64 (ct : Int), .int .u64 (rk : Int), .int .u64 (lf : Int), .int .i64 (sz : Int), .string sd, .string rv, .bool (fi), .bool (su), .int .u64 (nx : Int)])) 64⟩, ⟨md, .cells (av 1 (ls [.int .u64 (mt : Int)])) 22⟩] w := Mem.startT hL hT
  refine wp_seq ?_
  refine rg_lit ?_
  refine pl_val (want_no rfl) (some 4) rfl (.int .i64 0) (fun _ => by kernel_rfl) ?_
  refine pl_nil ?_
  refine au_then ?_
  refine wp_seq ?_
  refine wp_block ?_
  refine wp_seq ?_
  refine wp_seq ?_
  refine rg_lit ?_
  refine pl_val (want_no rfl) (some 6) rfl (.pointer (some ⟨e, 0, none⟩)) (fun _ => by kernel_rfl) ?_
  refine pl_val (want_no rfl) (some 7) rfl (.int .u64 (n : Int)) (fun _ => by kernel_rfl) ?_
  rcases Bool.eq_false_or_eq_true (ovB sd lf mt n) with c0 | c0
  · skip
    refine pl_call M (want_no rfl) (some 8) rfl 33 #[.pointer (some ⟨e, 0, none⟩), .int .u64 (n : Int)] (.bool true) (fun _ => by kernel_rfl) (fun w M => call_val (c_over hn w M.laid (M.there (.cons_cons _ (.cons_cons _ (List.nil_sublist _))))) (congrArg Value.bool c0)) ?_
    intro u1 M
    refine pl_val (want_no rfl) (some 5) rfl (.bool true) (fun _ => by kernel_rfl) ?_
    refine pl_nil ?_
    refine au_then ?_
    refine wp_cond_true (by kernel_rfl) ?_
    refine wp_skip ?_
    refine au_then ?_
    refine wp_cond_true (by kernel_rfl) ?_
    refine wp_seq ?_
    refine rg_lit ?_
    refine pl_val (want_no rfl) (some 4) rfl (.int .i64 180) (fun _ => by kernel_rfl) ?_
    refine pl_nil ?_
    refine au_then ?_
    refine wp_ret ?_
    refine au_block_ret ?_
    refine au_then_ret ?_
    have e0 : (slF sd su ct lf nx mt n) = 180 := by unfold slF; rw [if_pos c0]
    exact bodyPost_ret (v := .int .i64 180) (results_tmp1 Tryd.results24 _ _ _ (by kernel_rfl)) (by kernel_rfl) ⟨by rw [e0], ro_T hT M⟩
  · skip
    refine pl_call M (want_no rfl) (some 8) rfl 33 #[.pointer (some ⟨e, 0, none⟩), .int .u64 (n : Int)] (.bool false) (fun _ => by kernel_rfl) (fun w M => call_val (c_over hn w M.laid (M.there (.cons_cons _ (.cons_cons _ (List.nil_sublist _))))) (congrArg Value.bool c0)) ?_
    intro u1 M
    refine pl_val (want_no rfl) (some 5) rfl (.bool false) (fun _ => by kernel_rfl) ?_
    refine pl_nil ?_
    refine au_then ?_
    refine wp_cond_false (by kernel_rfl) ?_
    refine rg_lit ?_
    refine pl_val (want_no rfl) (some 9) rfl (.pointer (some ⟨e, 0, none⟩)) (fun _ => by kernel_rfl) ?_
    by_cases c1 : (nx : Int) < (ct : Int)
    · skip
      refine pl_call M (want_no rfl) (some 10) rfl 40 #[.pointer (some ⟨e, 0, none⟩)] (.bool false) (fun _ => by kernel_rfl) (fun w M => call_val (c_spent w M.laid (M.there (.cons_cons _ (List.nil_sublist _)))) (congrArg Value.bool (decide_eq_false (by omega)))) ?_
      intro u2 M
      refine pl_val (want_no rfl) (some 5) rfl (.bool false) (fun _ => by kernel_rfl) ?_
      refine pl_nil ?_
      refine au_then ?_
      refine wp_cond_false (by kernel_rfl) ?_
      refine wp_seq ?_
      refine rg_lit ?_
      refine pl_val (want_no rfl) (some 12) rfl (.pointer (some ⟨e, 0, none⟩)) (fun _ => by kernel_rfl) ?_
      refine pl_val (want_no rfl) (some 13) rfl (.pointer (some ⟨e, 0, none⟩)) (fun _ => by kernel_rfl) ?_
      refine pl_val (want_no rfl) (some 14) rfl (.pointer (some ⟨e, 10, none⟩)) (fun _ => by kernel_rfl) ?_
      rcases Bool.eq_false_or_eq_true (su) with c2 | c2
      · skip
        refine pl_cell M (want_no rfl) (some 15) rfl 4 _ rfl e 10 (by kernel_rfl) (.bool true) (fun _ => by kernel_rfl) (fun w M => M.cell 0 rfl (by decide) (congrArg Value.bool c2)) ?_
        refine pl_val (want_no rfl) (some 16) rfl (.bool false) (fun _ => by kernel_rfl) ?_
        refine pl_val (want_no rfl) (some 11) rfl (.bool false) (fun _ => by kernel_rfl) ?_
        refine pl_nil ?_
        refine au_then ?_
        refine wp_cond_false (by kernel_rfl) ?_
        refine wp_skip ?_
        refine au_block ?_
        refine au_then ?_
        refine wp_seq ?_
        refine rg_lit ?_
        refine pl_val (want_no rfl) (some 4) rfl (.int .i64 0) (fun _ => by kernel_rfl) ?_
        refine pl_nil ?_
        refine au_then ?_
        refine wp_ret ?_
        have e0 : (slF sd su ct lf nx mt n) = 0 := by unfold slF; rw [if_neg (Bool.eq_false_iff.1 c0), if_neg (by omega), if_pos c2]
        exact bodyPost_ret (v := .int .i64 0) (results_tmp1 Tryd.results24 _ _ _ (by kernel_rfl)) (by kernel_rfl) ⟨by rw [e0], ro_T hT M⟩
      · skip
        refine pl_cell M (want_no rfl) (some 15) rfl 4 _ rfl e 10 (by kernel_rfl) (.bool false) (fun _ => by kernel_rfl) (fun w M => M.cell 0 rfl (by decide) (congrArg Value.bool c2)) ?_
        refine pl_val (want_no rfl) (some 16) rfl (.bool true) (fun _ => by kernel_rfl) ?_
        refine pl_val (want_no rfl) (some 11) rfl (.bool true) (fun _ => by kernel_rfl) ?_
        refine pl_nil ?_
        refine au_then ?_
        refine wp_cond_true (by kernel_rfl) ?_
        refine wp_seq ?_
        refine rg_lit ?_
        refine pl_val (want_no rfl) (some 4) rfl (.int .i64 3) (fun _ => by kernel_rfl) ?_
        refine pl_nil ?_
        refine au_then ?_
        refine wp_ret ?_
        refine au_block_ret ?_
        refine au_then_ret ?_
        have e0 : (slF sd su ct lf nx mt n) = 3 := by unfold slF; rw [if_neg (Bool.eq_false_iff.1 c0), if_neg (by omega), if_neg (Bool.eq_false_iff.1 c2)]
        exact bodyPost_ret (v := .int .i64 3) (results_tmp1 Tryd.results24 _ _ _ (by kernel_rfl)) (by kernel_rfl) ⟨by rw [e0], ro_T hT M⟩
    · skip
      refine pl_call M (want_no rfl) (some 10) rfl 40 #[.pointer (some ⟨e, 0, none⟩)] (.bool true) (fun _ => by kernel_rfl) (fun w M => call_val (c_spent w M.laid (M.there (.cons_cons _ (List.nil_sublist _)))) (congrArg Value.bool (decide_eq_true (by omega)))) ?_
      intro u2 M
      refine pl_val (want_no rfl) (some 5) rfl (.bool true) (fun _ => by kernel_rfl) ?_
      refine pl_nil ?_
      refine au_then ?_
      refine wp_cond_true (by kernel_rfl) ?_
      refine wp_seq ?_
      refine rg_lit ?_
      refine pl_val (want_no rfl) (some 4) rfl (.int .i64 180) (fun _ => by kernel_rfl) ?_
      refine pl_nil ?_
      refine au_then ?_
      refine wp_ret ?_
      refine au_block_ret ?_
      refine au_then_ret ?_
      have e0 : (slF sd su ct lf nx mt n) = 180 := by unfold slF; rw [if_neg (Bool.eq_false_iff.1 c0), if_pos (by omega)]
      exact bodyPost_ret (v := .int .i64 180) (results_tmp1 Tryd.results24 _ _ _ (by kernel_rfl)) (by kernel_rfl) ⟨by rw [e0], ro_T hT M⟩

set_option maxRecDepth 100000 in
set_option maxHeartbeats 4000000 in
set_option linter.unusedSimpArgs false in
theorem c_wants {e wd md : Nat} {rc ct rk lf sz nx mt : Nat} {sd rv : ByteArray} {fi su : Bool} {n : Nat} (hn : n < 18446744073709551616) (w : World) (hL : Laid w)  (hT : There w [⟨e, .cells (av 12 (ls [.pointer (some ⟨wd, 0, none⟩), .func (.func 39) #[] #[.pointer (some ⟨md, 0, none⟩)], .int .u64 (rc : Int), .int .u64 (ct : Int), .int .u64 (rk : Int), .int .u64 (lf : Int), .int .i64 (sz : Int), .string sd, .string rv, .bool (fi), .bool (su), .int .u64 (nx : Int)])) 64⟩, ⟨md, .cells (av 1 (ls [.int .u64 (mt : Int)])) 22⟩]) :
    Calls Tryd.prog 34 #[.pointer (some ⟨e, 0, none⟩), .int .u64 (n : Int)] w fun r w' => r = .returned (.bool (wnB sd fi rc rk lf nx mt n)) ∧ Below w.heap.size w w' := by
  go_enter Tryd.func34, Tryd.ntmps34
  have M : Mem ⟨w, [e, md]⟩ [⟨e, .cells (av 12 (ls [.pointer (some ⟨wd, 0, none⟩), .func (.func 39) #[] #[.pointer (some ⟨md, 0, none⟩)], .int .u64 (rc : Int), .int .u64 (ct : Int), .int .u64 (rk : Int), .int .u64 (lf : Int), .int .i64 (sz : Int), .string sd, .string rv, .bool (fi), .bool (su), .int .u64 (nx : Int)])) 64⟩, ⟨md, .cells (av 1 (ls [.int .u64 (mt : Int)])) 22⟩] w := Mem.startT hL hT
  refine wp_seq ?_
  refine rg_lit ?_
  refine pl_val (want_no rfl) (some 4) rfl (.bool false) (fun _ => by kernel_rfl) ?_
  refine pl_nil ?_
  refine au_then ?_
  refine wp_seq ?_
  refine rg_held M [⟨e, .cells (av 12 (ls [.pointer (some ⟨wd, 0, none⟩), .func (.func 39) #[] #[.pointer (some ⟨md, 0, none⟩)], .int .u64 (rc : Int), .int .u64 (ct : Int), .int .u64 (rk : Int), .int .u64 (lf : Int), .int .i64 (sz : Int), .string sd, .string rv, .bool (fi), .bool (su), .int .u64 (nx : Int)])) 64⟩, ⟨md, .cells (av 1 (ls [.int .u64 (mt : Int)])) 22⟩] 36 rfl (by kernel_rfl) (by kernel_rfl) (fun _ _ d _ _ h => by cases d <;> exact h) ?_
  intro u1 M
  replace M : Mem ⟨w, [e, md]⟩ [⟨e, .cells (av 12 (ls [.pointer (some ⟨wd, 0, none⟩), .func (.func 39) #[] #[.pointer (some ⟨md, 0, none⟩)], .int .u64 (rc : Int), .int .u64 (ct : Int), .int .u64 (rk : Int), .int .u64 (lf : Int), .int .i64 (sz : Int), .string sd, .string rv, .bool (fi), .bool (su), .int .u64 (nx : Int)])) 64⟩, ⟨md, .cells (av 1 (ls [.int .u64 (mt : Int)])) 22⟩] u1 := M
  refine hl_val M 0 rfl (by decide) (by kernel_rfl) (by kernel_rfl) (want_no rfl) (some 5) rfl (.pointer (some ⟨e, 0, none⟩)) (fun _ _ => by kernel_rfl) ?_
  refine hl_val M 1 rfl (by decide) (by kernel_rfl) (by kernel_rfl) (want_no rfl) (some 6) rfl (.pointer (some ⟨e, 0, none⟩)) (fun _ _ => by kernel_rfl) ?_
  refine hl_val M 2 rfl (by decide) (by kernel_rfl) (by kernel_rfl) (want_no rfl) (some 7) rfl (.pointer (some ⟨e, 9, none⟩)) (fun _ _ => by kernel_rfl) ?_
  rcases Bool.eq_false_or_eq_true (fi) with c0 | c0
  · skip
    refine hl_cell M 3 rfl (by decide) (by kernel_rfl) (by kernel_rfl) (want_no rfl) (some 8) rfl 4 _ rfl e 9 (by kernel_rfl) (.bool true) (fun _ => by kernel_rfl) (fun w M => M.cell 0 rfl (by decide) (congrArg Value.bool c0)) ?_
    refine hl_val M 4 rfl (by decide) (by kernel_rfl) (by kernel_rfl) (want_no rfl) (some 9) rfl (.bool true) (fun _ _ => by kernel_rfl) ?_
    refine hl_val M 5 rfl (by decide) (by kernel_rfl) (by kernel_rfl) (want_on 4 true rfl 9 rfl (by kernel_rfl)) (some 10) rfl (.pointer (some ⟨e, 0, none⟩)) (fun _ _ => by kernel_rfl) ?_
    refine hl_val M 6 rfl (by decide) (by kernel_rfl) (by kernel_rfl) (want_on 4 true rfl 9 rfl (by kernel_rfl)) (some 11) rfl (.int .u64 (n : Int)) (fun _ _ => by kernel_rfl) ?_
    refine hl_one 7 (by decide) (by kernel_rfl) rfl ?_
    rcases Bool.eq_false_or_eq_true (ovB sd lf mt n) with c1 | c1
    · skip
      refine pl_call M (want_on 4 true rfl 9 rfl (by kernel_rfl)) (some 12) rfl 33 #[.pointer (some ⟨e, 0, none⟩), .int .u64 (n : Int)] (.bool true) (fun _ => by kernel_rfl) (fun w M => call_val (c_over hn w M.laid (M.there (.cons_cons _ (.cons_cons _ (List.nil_sublist _))))) (congrArg Value.bool c1)) ?_
      intro u2 M
      refine pl_nil ?_
      refine au_then ?_
      refine ⟨M, ?_⟩
      refine hl_val M 8 rfl (by decide) (by kernel_rfl) (by kernel_rfl) (want_on 4 true rfl 9 rfl (by kernel_rfl)) (some 13) rfl (.bool false) (fun _ _ => by kernel_rfl) ?_
      refine hl_val M 9 rfl (by decide) (by kernel_rfl) (by kernel_rfl) (want_no rfl) (some 14) rfl (.bool false) (fun _ _ => by kernel_rfl) ?_
      refine hl_val M 10 rfl (by decide) (by kernel_rfl) (by kernel_rfl) (want_no rfl) (some 15) rfl (.bool false) (fun _ _ => by kernel_rfl) ?_
      refine hl_skip M 11 rfl (by decide) (by kernel_rfl) (by kernel_rfl) (want_off 10 true rfl 15 rfl (by kernel_rfl)) (some 16) rfl ?_
      refine hl_skip M 12 rfl (by decide) (by kernel_rfl) (by kernel_rfl) (want_off 10 true rfl 15 rfl (by kernel_rfl)) (some 17) rfl ?_
      refine hl_skip M 13 rfl (by decide) (by kernel_rfl) (by kernel_rfl) (want_off 10 true rfl 15 rfl (by kernel_rfl)) (some 18) rfl ?_
      refine hl_skip M 14 rfl (by decide) (by kernel_rfl) (by kernel_rfl) (want_off 10 true rfl 15 rfl (by kernel_rfl)) (some 19) rfl ?_
      refine hl_skip M 15 rfl (by decide) (by kernel_rfl) (by kernel_rfl) (want_off 10 true rfl 15 rfl (by kernel_rfl)) (some 20) rfl ?_
      refine hl_skip M 16 rfl (by decide) (by kernel_rfl) (by kernel_rfl) (want_off 10 true rfl 15 rfl (by kernel_rfl)) (some 21) rfl ?_
      refine hl_skip M 17 rfl (by decide) (by kernel_rfl) (by kernel_rfl) (want_off 10 true rfl 15 rfl (by kernel_rfl)) (some 22) rfl ?_
      refine hl_skip M 18 rfl (by decide) (by kernel_rfl) (by kernel_rfl) (want_off 10 true rfl 15 rfl (by kernel_rfl)) (some 23) rfl ?_
      refine hl_skip M 19 rfl (by decide) (by kernel_rfl) (by kernel_rfl) (want_off 10 true rfl 15 rfl (by kernel_rfl)) (some 24) rfl ?_
      refine hl_skip M 20 rfl (by decide) (by kernel_rfl) (by kernel_rfl) (want_off 10 true rfl 15 rfl (by kernel_rfl)) (some 25) rfl ?_
      refine hl_skip M 21 rfl (by decide) (by kernel_rfl) (by kernel_rfl) (want_off 10 true rfl 15 rfl (by kernel_rfl)) (some 26) rfl ?_
      refine hl_skip M 22 rfl (by decide) (by kernel_rfl) (by kernel_rfl) (want_und 21 false rfl 26 rfl (by kernel_rfl)) (some 27) rfl ?_
      refine hl_skip M 23 rfl (by decide) (by kernel_rfl) (by kernel_rfl) (want_und 21 false rfl 26 rfl (by kernel_rfl)) (some 28) rfl ?_
      refine hl_skip M 24 rfl (by decide) (by kernel_rfl) (by kernel_rfl) (want_und 21 false rfl 26 rfl (by kernel_rfl)) (some 29) rfl ?_
      refine hl_skip M 25 rfl (by decide) (by kernel_rfl) (by kernel_rfl) (want_und 21 false rfl 26 rfl (by kernel_rfl)) (some 30) rfl ?_
      refine hl_skip M 26 rfl (by decide) (by kernel_rfl) (by kernel_rfl) (want_und 21 false rfl 26 rfl (by kernel_rfl)) (some 31) rfl ?_
      refine hl_skip M 27 rfl (by decide) (by kernel_rfl) (by kernel_rfl) (want_und 21 false rfl 26 rfl (by kernel_rfl)) (some 32) rfl ?_
      refine hl_skip M 28 rfl (by decide) (by kernel_rfl) (by kernel_rfl) (want_und 21 false rfl 26 rfl (by kernel_rfl)) (some 33) rfl ?_
      refine hl_skip M 29 rfl (by decide) (by kernel_rfl) (by kernel_rfl) (want_und 21 false rfl 26 rfl (by kernel_rfl)) (some 34) rfl ?_
      refine hl_skip M 30 rfl (by decide) (by kernel_rfl) (by kernel_rfl) (want_und 21 false rfl 26 rfl (by kernel_rfl)) (some 35) rfl ?_
      refine hl_skip M 31 rfl (by decide) (by kernel_rfl) (by kernel_rfl) (want_und 21 false rfl 26 rfl (by kernel_rfl)) (some 36) rfl ?_
      refine hl_skip M 32 rfl (by decide) (by kernel_rfl) (by kernel_rfl) (want_und 21 false rfl 26 rfl (by kernel_rfl)) (some 37) rfl ?_
      refine hl_skip M 33 rfl (by decide) (by kernel_rfl) (by kernel_rfl) (want_und 21 false rfl 26 rfl (by kernel_rfl)) (some 38) rfl ?_
      refine hl_skip M 34 rfl (by decide) (by kernel_rfl) (by kernel_rfl) (want_off 10 true rfl 15 rfl (by kernel_rfl)) (some 39) rfl ?_
      refine hl_val M 35 rfl (by decide) (by kernel_rfl) (by kernel_rfl) (want_no rfl) (some 40) rfl (.bool false) (fun _ _ => by kernel_rfl) ?_
      refine hl_end (by kernel_rfl) (by kernel_rfl) rfl ?_
      refine pl_val (want_no rfl) (some 4) rfl (.bool false) (fun _ => by kernel_rfl) ?_
      refine pl_nil ?_
      refine au_then ?_
      refine au_then ?_
      refine wp_ret ?_
      have e0 : wnB sd fi rc rk lf nx mt n = false := by unfold wnB; simp only [c0, c1, Bool.false_and, Bool.true_and, Bool.not_true, Bool.not_false]
      exact bodyPost_ret (v := .bool false) (results_tmp1 Tryd.results34 _ _ _ (by kernel_rfl)) (by kernel_rfl) ⟨by rw [e0], ro_T hT M⟩
    · skip
      refine pl_call M (want_on 4 true rfl 9 rfl (by kernel_rfl)) (some 12) rfl 33 #[.pointer (some ⟨e, 0, none⟩), .int .u64 (n : Int)] (.bool false) (fun _ => by kernel_rfl) (fun w M => call_val (c_over hn w M.laid (M.there (.cons_cons _ (.cons_cons _ (List.nil_sublist _))))) (congrArg Value.bool c1)) ?_
      intro u2 M
      refine pl_nil ?_
      refine au_then ?_
      refine ⟨M, ?_⟩
      refine hl_val M 8 rfl (by decide) (by kernel_rfl) (by kernel_rfl) (want_on 4 true rfl 9 rfl (by kernel_rfl)) (some 13) rfl (.bool true) (fun _ _ => by kernel_rfl) ?_
      refine hl_val M 9 rfl (by decide) (by kernel_rfl) (by kernel_rfl) (want_no rfl) (some 14) rfl (.bool true) (fun _ _ => by kernel_rfl) ?_
      refine hl_val M 10 rfl (by decide) (by kernel_rfl) (by kernel_rfl) (want_no rfl) (some 15) rfl (.bool true) (fun _ _ => by kernel_rfl) ?_
      refine hl_val M 11 rfl (by decide) (by kernel_rfl) (by kernel_rfl) (want_on 10 true rfl 15 rfl (by kernel_rfl)) (some 16) rfl (.pointer (some ⟨e, 0, none⟩)) (fun _ _ => by kernel_rfl) ?_
      refine hl_val M 12 rfl (by decide) (by kernel_rfl) (by kernel_rfl) (want_on 10 true rfl 15 rfl (by kernel_rfl)) (some 17) rfl (.pointer (some ⟨e, 0, none⟩)) (fun _ _ => by kernel_rfl) ?_
      refine hl_val M 13 rfl (by decide) (by kernel_rfl) (by kernel_rfl) (want_on 10 true rfl 15 rfl (by kernel_rfl)) (some 18) rfl (.pointer (some ⟨e, 11, none⟩)) (fun _ _ => by kernel_rfl) ?_
      refine hl_cell M 14 rfl (by decide) (by kernel_rfl) (by kernel_rfl) (want_on 10 true rfl 15 rfl (by kernel_rfl)) (some 19) rfl 22 _ rfl e 11 (by kernel_rfl) (.int .u64 (nx : Int)) (fun _ => by kernel_rfl) (fun w M => M.cell 0 rfl (by decide) rfl) ?_
      refine hl_val M 15 rfl (by decide) (by kernel_rfl) (by kernel_rfl) (want_on 10 true rfl 15 rfl (by kernel_rfl)) (some 20) rfl (.pointer (some ⟨e, 0, none⟩)) (fun _ _ => by kernel_rfl) ?_
      refine hl_val M 16 rfl (by decide) (by kernel_rfl) (by kernel_rfl) (want_on 10 true rfl 15 rfl (by kernel_rfl)) (some 21) rfl (.pointer (some ⟨e, 0, none⟩)) (fun _ _ => by kernel_rfl) ?_
      refine hl_val M 17 rfl (by decide) (by kernel_rfl) (by kernel_rfl) (want_on 10 true rfl 15 rfl (by kernel_rfl)) (some 22) rfl (.pointer (some ⟨e, 2, none⟩)) (fun _ _ => by kernel_rfl) ?_
      refine hl_val M 18 rfl (by decide) (by kernel_rfl) (by kernel_rfl) (want_on 10 true rfl 15 rfl (by kernel_rfl)) (some 23) rfl (.pointer (some ⟨e, 2, none⟩)) (fun _ _ => by kernel_rfl) ?_
      refine hl_cell M 19 rfl (by decide) (by kernel_rfl) (by kernel_rfl) (want_on 10 true rfl 15 rfl (by kernel_rfl)) (some 24) rfl 22 _ rfl e 2 (by kernel_rfl) (.int .u64 (rc : Int)) (fun _ => by kernel_rfl) (fun w M => M.cell 0 rfl (by decide) rfl) ?_
      by_cases c2 : (nx : Int) < (rc : Int)
      · skip
        refine hl_val M 20 rfl (by decide) (by kernel_rfl) (by kernel_rfl) (want_on 10 true rfl 15 rfl (by kernel_rfl)) (some 25) rfl (.bool false) (fun w _ => (fun w => Eq.trans (b := .ok (.value (.bool (decide ((rc : Int) ≤ (nx : Int))))) w) (by kernel_rfl) (by rw [decide_eq_false (by omega)])) w) ?_
        refine hl_val M 21 rfl (by decide) (by kernel_rfl) (by kernel_rfl) (want_on 10 true rfl 15 rfl (by kernel_rfl)) (some 26) rfl (.bool false) (fun _ _ => by kernel_rfl) ?_
        refine hl_val M 22 rfl (by decide) (by kernel_rfl) (by kernel_rfl) (want_on 21 false rfl 26 rfl (by kernel_rfl)) (some 27) rfl (.pointer (some ⟨e, 0, none⟩)) (fun _ _ => by kernel_rfl) ?_
        refine hl_val M 23 rfl (by decide) (by kernel_rfl) (by kernel_rfl) (want_on 21 false rfl 26 rfl (by kernel_rfl)) (some 28) rfl (.pointer (some ⟨e, 0, none⟩)) (fun _ _ => by kernel_rfl) ?_
        refine hl_val M 24 rfl (by decide) (by kernel_rfl) (by kernel_rfl) (want_on 21 false rfl 26 rfl (by kernel_rfl)) (some 29) rfl (.pointer (some ⟨e, 1, none⟩)) (fun _ _ => by kernel_rfl) ?_
        refine hl_cell M 25 rfl (by decide) (by kernel_rfl) (by kernel_rfl) (want_on 21 false rfl 26 rfl (by kernel_rfl)) (some 30) rfl 61 _ rfl e 1 (by kernel_rfl) (.func (.func 39) #[] #[.pointer (some ⟨md, 0, none⟩)]) (fun _ => by kernel_rfl) (fun w M => M.cell 0 rfl (by decide) rfl) ?_
        refine hl_val M 26 rfl (by decide) (by kernel_rfl) (by kernel_rfl) (want_on 21 false rfl 26 rfl (by kernel_rfl)) (some 31) rfl (.int .u64 (n : Int)) (fun _ _ => by kernel_rfl) ?_
        refine hl_val M 28 rfl (by decide) (by kernel_rfl) (by kernel_rfl) (want_on 21 false rfl 26 rfl (by kernel_rfl)) (some 33) rfl (.pointer (some ⟨e, 0, none⟩)) (fun _ _ => by kernel_rfl) ?_
        refine hl_val M 29 rfl (by decide) (by kernel_rfl) (by kernel_rfl) (want_on 21 false rfl 26 rfl (by kernel_rfl)) (some 34) rfl (.pointer (some ⟨e, 0, none⟩)) (fun _ _ => by kernel_rfl) ?_
        refine hl_val M 30 rfl (by decide) (by kernel_rfl) (by kernel_rfl) (want_on 21 false rfl 26 rfl (by kernel_rfl)) (some 35) rfl (.pointer (some ⟨e, 2, none⟩)) (fun _ _ => by kernel_rfl) ?_
        refine hl_val M 31 rfl (by decide) (by kernel_rfl) (by kernel_rfl) (want_on 21 false rfl 26 rfl (by kernel_rfl)) (some 36) rfl (.pointer (some ⟨e, 4, none⟩)) (fun _ _ => by kernel_rfl) ?_
        refine hl_cell M 32 rfl (by decide) (by kernel_rfl) (by kernel_rfl) (want_on 21 false rfl 26 rfl (by kernel_rfl)) (some 37) rfl 22 _ rfl e 4 (by kernel_rfl) (.int .u64 (rk : Int)) (fun _ => by kernel_rfl) (fun w M => M.cell 0 rfl (by decide) rfl) ?_
        refine hl_one 27 (by decide) (by kernel_rfl) rfl ?_
        refine pl_call M (want_on 21 false rfl 26 rfl (by kernel_rfl)) (some 32) rfl 39 #[.int .u64 (n : Int), .pointer (some ⟨md, 0, none⟩)] (.int .u64 ((n - mt : Nat) : Int)) (fun _ => by kernel_rfl) (fun w M => c_age hn w M.laid (M.there (.cons _ (.cons_cons _ (List.nil_sublist _))))) ?_
        intro u3 M
        refine pl_nil ?_
        refine au_then ?_
        refine ⟨M, ?_⟩
        by_cases c3 : ((n - mt : Nat) : Int) < (rk : Int)
        · skip
          refine hl_val M 33 rfl (by decide) (by kernel_rfl) (by kernel_rfl) (want_on 21 false rfl 26 rfl (by kernel_rfl)) (some 38) rfl (.bool false) (fun w _ => (fun w => Eq.trans (b := .ok (.value (.bool (decide ((rk : Int) ≤ ((n - mt : Nat) : Int))))) w) (by kernel_rfl) (by rw [decide_eq_false (by omega)])) w) ?_
          refine hl_val M 34 rfl (by decide) (by kernel_rfl) (by kernel_rfl) (want_on 10 true rfl 15 rfl (by kernel_rfl)) (some 39) rfl (.bool false) (fun _ _ => by kernel_rfl) ?_
          refine hl_val M 35 rfl (by decide) (by kernel_rfl) (by kernel_rfl) (want_no rfl) (some 40) rfl (.bool false) (fun _ _ => by kernel_rfl) ?_
          refine hl_end (by kernel_rfl) (by kernel_rfl) rfl ?_
          refine pl_val (want_no rfl) (some 4) rfl (.bool false) (fun _ => by kernel_rfl) ?_
          refine pl_nil ?_
          refine au_then ?_
          refine au_then ?_
          refine wp_ret ?_
          have e0 : wnB sd fi rc rk lf nx mt n = false := by unfold wnB; simp only [c0, c1, Bool.false_and, Bool.true_and, Bool.not_true, Bool.not_false]; exact decide_eq_false (by omega)
          exact bodyPost_ret (v := .bool false) (results_tmp1 Tryd.results34 _ _ _ (by kernel_rfl)) (by kernel_rfl) ⟨by rw [e0], ro_T hT M⟩
        · skip
          refine hl_val M 33 rfl (by decide) (by kernel_rfl) (by kernel_rfl) (want_on 21 false rfl 26 rfl (by kernel_rfl)) (some 38) rfl (.bool true) (fun w _ => (fun w => Eq.trans (b := .ok (.value (.bool (decide ((rk : Int) ≤ ((n - mt : Nat) : Int))))) w) (by kernel_rfl) (by rw [decide_eq_true (by omega)])) w) ?_
          refine hl_val M 34 rfl (by decide) (by kernel_rfl) (by kernel_rfl) (want_on 10 true rfl 15 rfl (by kernel_rfl)) (some 39) rfl (.bool true) (fun _ _ => by kernel_rfl) ?_
          refine hl_val M 35 rfl (by decide) (by kernel_rfl) (by kernel_rfl) (want_no rfl) (some 40) rfl (.bool true) (fun _ _ => by kernel_rfl) ?_
          refine hl_end (by kernel_rfl) (by kernel_rfl) rfl ?_
          refine pl_val (want_no rfl) (some 4) rfl (.bool true) (fun _ => by kernel_rfl) ?_
          refine pl_nil ?_
          refine au_then ?_
          refine au_then ?_
          refine wp_ret ?_
          have e0 : wnB sd fi rc rk lf nx mt n = true := by unfold wnB; simp only [c0, c1, Bool.false_and, Bool.true_and, Bool.not_true, Bool.not_false]; exact decide_eq_true (by omega)
          exact bodyPost_ret (v := .bool true) (results_tmp1 Tryd.results34 _ _ _ (by kernel_rfl)) (by kernel_rfl) ⟨by rw [e0], ro_T hT M⟩
      · skip
        refine hl_val M 20 rfl (by decide) (by kernel_rfl) (by kernel_rfl) (want_on 10 true rfl 15 rfl (by kernel_rfl)) (some 25) rfl (.bool true) (fun w _ => (fun w => Eq.trans (b := .ok (.value (.bool (decide ((rc : Int) ≤ (nx : Int))))) w) (by kernel_rfl) (by rw [decide_eq_true (by omega)])) w) ?_
        refine hl_val M 21 rfl (by decide) (by kernel_rfl) (by kernel_rfl) (want_on 10 true rfl 15 rfl (by kernel_rfl)) (some 26) rfl (.bool true) (fun _ _ => by kernel_rfl) ?_
        refine hl_skip M 22 rfl (by decide) (by kernel_rfl) (by kernel_rfl) (want_off 21 false rfl 26 rfl (by kernel_rfl)) (some 27) rfl ?_
        refine hl_skip M 23 rfl (by decide) (by kernel_rfl) (by kernel_rfl) (want_off 21 false rfl 26 rfl (by kernel_rfl)) (some 28) rfl ?_
        refine hl_skip M 24 rfl (by decide) (by kernel_rfl) (by kernel_rfl) (want_off 21 false rfl 26 rfl (by kernel_rfl)) (some 29) rfl ?_
        refine hl_skip M 25 rfl (by decide) (by kernel_rfl) (by kernel_rfl) (want_off 21 false rfl 26 rfl (by kernel_rfl)) (some 30) rfl ?_
        refine hl_skip M 26 rfl (by decide) (by kernel_rfl) (by kernel_rfl) (want_off 21 false rfl 26 rfl (by kernel_rfl)) (some 31) rfl ?_
        refine hl_skip M 27 rfl (by decide) (by kernel_rfl) (by kernel_rfl) (want_off 21 false rfl 26 rfl (by kernel_rfl)) (some 32) rfl ?_
        refine hl_skip M 28 rfl (by decide) (by kernel_rfl) (by kernel_rfl) (want_off 21 false rfl 26 rfl (by kernel_rfl)) (some 33) rfl ?_
        refine hl_skip M 29 rfl (by decide) (by kernel_rfl) (by kernel_rfl) (want_off 21 false rfl 26 rfl (by kernel_rfl)) (some 34) rfl ?_
        refine hl_skip M 30 rfl (by decide) (by kernel_rfl) (by kernel_rfl) (want_off 21 false rfl 26 rfl (by kernel_rfl)) (some 35) rfl ?_
        refine hl_skip M 31 rfl (by decide) (by kernel_rfl) (by kernel_rfl) (want_off 21 false rfl 26 rfl (by kernel_rfl)) (some 36) rfl ?_
        refine hl_skip M 32 rfl (by decide) (by kernel_rfl) (by kernel_rfl) (want_off 21 false rfl 26 rfl (by kernel_rfl)) (some 37) rfl ?_
        refine hl_skip M 33 rfl (by decide) (by kernel_rfl) (by kernel_rfl) (want_off 21 false rfl 26 rfl (by kernel_rfl)) (some 38) rfl ?_
        refine hl_val M 34 rfl (by decide) (by kernel_rfl) (by kernel_rfl) (want_on 10 true rfl 15 rfl (by kernel_rfl)) (some 39) rfl (.bool true) (fun _ _ => by kernel_rfl) ?_
        refine hl_val M 35 rfl (by decide) (by kernel_rfl) (by kernel_rfl) (want_no rfl) (some 40) rfl (.bool true) (fun _ _ => by kernel_rfl) ?_
        refine hl_end (by kernel_rfl) (by kernel_rfl) rfl ?_
        refine pl_val (want_no rfl) (some 4) rfl (.bool true) (fun _ => by kernel_rfl) ?_
        refine pl_nil ?_
        refine au_then ?_
        refine au_then ?_
        refine wp_ret ?_
        have e0 : wnB sd fi rc rk lf nx mt n = true := by unfold wnB; simp only [c0, c1, Bool.false_and, Bool.true_and, Bool.not_true, Bool.not_false]; exact decide_eq_true (by omega)
        exact bodyPost_ret (v := .bool true) (results_tmp1 Tryd.results34 _ _ _ (by kernel_rfl)) (by kernel_rfl) ⟨by rw [e0], ro_T hT M⟩
  · skip
    refine hl_cell M 3 rfl (by decide) (by kernel_rfl) (by kernel_rfl) (want_no rfl) (some 8) rfl 4 _ rfl e 9 (by kernel_rfl) (.bool false) (fun _ => by kernel_rfl) (fun w M => M.cell 0 rfl (by decide) (congrArg Value.bool c0)) ?_
    refine hl_val M 4 rfl (by decide) (by kernel_rfl) (by kernel_rfl) (want_no rfl) (some 9) rfl (.bool false) (fun _ _ => by kernel_rfl) ?_
    refine hl_skip M 5 rfl (by decide) (by kernel_rfl) (by kernel_rfl) (want_off 4 true rfl 9 rfl (by kernel_rfl)) (some 10) rfl ?_
    refine hl_skip M 6 rfl (by decide) (by kernel_rfl) (by kernel_rfl) (want_off 4 true rfl 9 rfl (by kernel_rfl)) (some 11) rfl ?_
    refine hl_skip M 7 rfl (by decide) (by kernel_rfl) (by kernel_rfl) (want_off 4 true rfl 9 rfl (by kernel_rfl)) (some 12) rfl ?_
    refine hl_skip M 8 rfl (by decide) (by kernel_rfl) (by kernel_rfl) (want_off 4 true rfl 9 rfl (by kernel_rfl)) (some 13) rfl ?_
    refine hl_val M 9 rfl (by decide) (by kernel_rfl) (by kernel_rfl) (want_no rfl) (some 14) rfl (.bool false) (fun _ _ => by kernel_rfl) ?_
    refine hl_val M 10 rfl (by decide) (by kernel_rfl) (by kernel_rfl) (want_no rfl) (some 15) rfl (.bool false) (fun _ _ => by kernel_rfl) ?_
    refine hl_skip M 11 rfl (by decide) (by kernel_rfl) (by kernel_rfl) (want_off 10 true rfl 15 rfl (by kernel_rfl)) (some 16) rfl ?_
    refine hl_skip M 12 rfl (by decide) (by kernel_rfl) (by kernel_rfl) (want_off 10 true rfl 15 rfl (by kernel_rfl)) (some 17) rfl ?_
    refine hl_skip M 13 rfl (by decide) (by kernel_rfl) (by kernel_rfl) (want_off 10 true rfl 15 rfl (by kernel_rfl)) (some 18) rfl ?_
    refine hl_skip M 14 rfl (by decide) (by kernel_rfl) (by kernel_rfl) (want_off 10 true rfl 15 rfl (by kernel_rfl)) (some 19) rfl ?_
    refine hl_skip M 15 rfl (by decide) (by kernel_rfl) (by kernel_rfl) (want_off 10 true rfl 15 rfl (by kernel_rfl)) (some 20) rfl ?_
    refine hl_skip M 16 rfl (by decide) (by kernel_rfl) (by kernel_rfl) (want_off 10 true rfl 15 rfl (by kernel_rfl)) (some 21) rfl ?_
    refine hl_skip M 17 rfl (by decide) (by kernel_rfl) (by kernel_rfl) (want_off 10 true rfl 15 rfl (by kernel_rfl)) (some 22) rfl ?_
    refine hl_skip M 18 rfl (by decide) (by kernel_rfl) (by kernel_rfl) (want_off 10 true rfl 15 rfl (by kernel_rfl)) (some 23) rfl ?_
    refine hl_skip M 19 rfl (by decide) (by kernel_rfl) (by kernel_rfl) (want_off 10 true rfl 15 rfl (by kernel_rfl)) (some 24) rfl ?_
    refine hl_skip M 20 rfl (by decide) (by kernel_rfl) (by kernel_rfl) (want_off 10 true rfl 15 rfl (by kernel_rfl)) (some 25) rfl ?_
    refine hl_skip M 21 rfl (by decide) (by kernel_rfl) (by kernel_rfl) (want_off 10 true rfl 15 rfl (by kernel_rfl)) (some 26) rfl ?_
    refine hl_skip M 22 rfl (by decide) (by kernel_rfl) (by kernel_rfl) (want_und 21 false rfl 26 rfl (by kernel_rfl)) (some 27) rfl ?_
    refine hl_skip M 23 rfl (by decide) (by kernel_rfl) (by kernel_rfl) (want_und 21 false rfl 26 rfl (by kernel_rfl)) (some 28) rfl ?_
    refine hl_skip M 24 rfl (by decide) (by kernel_rfl) (by kernel_rfl) (want_und 21 false rfl 26 rfl (by kernel_rfl)) (some 29) rfl ?_
    refine hl_skip M 25 rfl (by decide) (by kernel_rfl) (by kernel_rfl) (want_und 21 false rfl 26 rfl (by kernel_rfl)) (some 30) rfl ?_
    refine hl_skip M 26 rfl (by decide) (by kernel_rfl) (by kernel_rfl) (want_und 21 false rfl 26 rfl (by kernel_rfl)) (some 31) rfl ?_
    refine hl_skip M 27 rfl (by decide) (by kernel_rfl) (by kernel_rfl) (want_und 21 false rfl 26 rfl (by kernel_rfl)) (some 32) rfl ?_
    refine hl_skip M 28 rfl (by decide) (by kernel_rfl) (by kernel_rfl) (want_und 21 false rfl 26 rfl (by kernel_rfl)) (some 33) rfl ?_
    refine hl_skip M 29 rfl (by decide) (by kernel_rfl) (by kernel_rfl) (want_und 21 false rfl 26 rfl (by kernel_rfl)) (some 34) rfl ?_
    refine hl_skip M 30 rfl (by decide) (by kernel_rfl) (by kernel_rfl) (want_und 21 false rfl 26 rfl (by kernel_rfl)) (some 35) rfl ?_
    refine hl_skip M 31 rfl (by decide) (by kernel_rfl) (by kernel_rfl) (want_und 21 false rfl 26 rfl (by kernel_rfl)) (some 36) rfl ?_
    refine hl_skip M 32 rfl (by decide) (by kernel_rfl) (by kernel_rfl) (want_und 21 false rfl 26 rfl (by kernel_rfl)) (some 37) rfl ?_
    refine hl_skip M 33 rfl (by decide) (by kernel_rfl) (by kernel_rfl) (want_und 21 false rfl 26 rfl (by kernel_rfl)) (some 38) rfl ?_
    refine hl_skip M 34 rfl (by decide) (by kernel_rfl) (by kernel_rfl) (want_off 10 true rfl 15 rfl (by kernel_rfl)) (some 39) rfl ?_
    refine hl_val M 35 rfl (by decide) (by kernel_rfl) (by kernel_rfl) (want_no rfl) (some 40) rfl (.bool false) (fun _ _ => by kernel_rfl) ?_
    refine hl_end (by kernel_rfl) (by kernel_rfl) rfl ?_
    refine pl_val (want_no rfl) (some 4) rfl (.bool false) (fun _ => by kernel_rfl) ?_
    refine pl_nil ?_
    refine au_then ?_
    refine au_then ?_
    refine wp_ret ?_
    have e0 : wnB sd fi rc rk lf nx mt n = false := by unfold wnB; simp only [c0, Bool.false_and, Bool.true_and, Bool.not_true, Bool.not_false]
    exact bodyPost_ret (v := .bool false) (results_tmp1 Tryd.results34 _ _ _ (by kernel_rfl)) (by kernel_rfl) ⟨by rw [e0], ro_T hT M⟩


end Go.Proofs.YtenafinbaanicaaDoor
