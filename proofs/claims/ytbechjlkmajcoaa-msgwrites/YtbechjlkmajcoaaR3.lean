/- The asker: which messages may be. -/
import Derived.Test.YtbechjlkmajcoaaR2
namespace Go.Proofs.Ytbechjlkmajcoaa
open Go.RowKit

/-- What an asker keeps when something is wrong; what it makes of a field. -/
def rfE (e x : Int) : Int := if e = 151 then e else x
def askF (h e o : Int) (v : Vl) : Int := if yn h o = 0 then (if v.n = (0 : Int) ∧ v.t = (⟨#[]⟩ : ByteArray) ∧ v.v = false ∧ v.h = (0 : Int) ∧ v.l = (0 : Int) ∧ v.p = (0 : Int) then e else rfE e 151) else if yn o 4227 = 0 then (if o = 256 then (if mA v.v v.h v.l = true then e else rfE e 151) else if yn o 3072 = 0 then e else if moO o < (v.t.size : Int) then rfE e 4 else e) else if (v.t.size : Int) = szO o then e else rfE e 151
def askS (m : Mg) (h : Int) : Nat → Int
  | 0 => 0
  | k + 1 => askF h (askS m h k) (bitV k) (inV m k)
/-- Why a message may not be, or 0. -/
def mE (m : Mg) : Int := if shP m.ty = 0 then 150 else askS m (shP m.ty) 13
set_option maxRecDepth 100000 in
set_option maxHeartbeats 4000000 in
set_option linter.unusedSimpArgs false in
theorem c_refT (g : Nat) (h e x : Int) (w : World) (hL : Laid w)  (hg : w.heap[g]? = some (.cells (av 2 (ls [.int .u16 h, .int .i64 e])) 65)) :
    Calls Try.prog 45 #[.pointer (some ⟨g, 0, none⟩), .bool true, .int .i64 x] w fun r w' => r = .returned (.tuple #[]) ∧ Grw w w' [g] ∧ w'.heap[g]? = some (.cells (av 2 (ls [.int .u16 h, .int .i64 (rfE e x)])) 65) := by
  go_enter Try.func45, Try.ntmps45
  have M := Mem.startp hL hg
  refine wp_seq ?_
  refine rg_lit ?_
  refine pl_val (want_no rfl) (some 6) rfl (.bool true) (fun _ => by kernel_rfl) ?_
  refine pl_val (want_no rfl) (some 7) rfl (.bool true) (fun _ => by kernel_rfl) ?_
  refine pl_val (want_on 1 true rfl 7 rfl (by kernel_rfl)) (some 8) rfl (.pointer (some ⟨g, 0, none⟩)) (fun _ => by kernel_rfl) ?_
  refine pl_val (want_on 1 true rfl 7 rfl (by kernel_rfl)) (some 9) rfl (.pointer (some ⟨g, 0, none⟩)) (fun _ => by kernel_rfl) ?_
  refine pl_val (want_on 1 true rfl 7 rfl (by kernel_rfl)) (some 10) rfl (.pointer (some ⟨g, 1, none⟩)) (fun _ => by kernel_rfl) ?_
  refine pl_cell M (want_on 1 true rfl 7 rfl (by kernel_rfl)) (some 11) rfl 33 _ rfl g 1 (by kernel_rfl) (.int .i64 e) (fun _ => by kernel_rfl) (fun w M => M.cell 0 rfl (by decide) rfl) ?_
  by_cases c0 : e = 151
  · skip
    refine pl_val (want_on 1 true rfl 7 rfl (by kernel_rfl)) (some 12) rfl (.bool false) (fun w => Eq.trans (b := .ok (.value (.bool (!(decide (e = 151))))) w) (by kernel_rfl) (by rw [decide_eq_true (c0)]; rfl)) ?_
    refine pl_val (want_no rfl) (some 13) rfl (.bool false) (fun _ => by kernel_rfl) ?_
    refine pl_nil ?_
    refine au_then ?_
    refine wp_cond_false (by kernel_rfl) ?_
    refine wp_skip ?_
    have e0 : (rfE e x) = e := by simp only [rfE, if_pos c0]
    exact bodyPost_end (v := .tuple #[]) (results_none Try.results45 _ _) (by kernel_rfl) ⟨rfl, M.old, by simpa only [e0] using M.get 0 rfl⟩
  · skip
    refine pl_val (want_on 1 true rfl 7 rfl (by kernel_rfl)) (some 12) rfl (.bool true) (fun w => Eq.trans (b := .ok (.value (.bool (!(decide (e = 151))))) w) (by kernel_rfl) (by rw [decide_eq_false (c0)]; rfl)) ?_
    refine pl_val (want_no rfl) (some 13) rfl (.bool true) (fun _ => by kernel_rfl) ?_
    refine pl_nil ?_
    refine au_then ?_
    refine wp_cond_true (by kernel_rfl) ?_
    refine rg_lit ?_
    refine pl_val (want_no rfl) (some 14) rfl (.pointer (some ⟨g, 0, none⟩)) (fun _ => by kernel_rfl) ?_
    refine pl_val (want_no rfl) (some 15) rfl (.int .i64 x) (fun _ => by kernel_rfl) ?_
    refine pl_val (want_no rfl) (some 16) rfl (.pointer (some ⟨g, 0, none⟩)) (fun _ => by kernel_rfl) ?_
    refine pl_val (want_no rfl) (some 17) rfl (.pointer (some ⟨g, 1, none⟩)) (fun _ => by kernel_rfl) ?_
    refine pl_put1 M (want_no rfl) rfl 33 _ _ rfl 0 g 1 (by kernel_rfl) 2 65 (ls [.int .u16 h, .int .i64 e]) rfl (.int .i64 x) (ls [.int .u16 h, .int .i64 x]) (by kernel_rfl) inz33 (by decide) rfl rfl (put_ls _ 1 _ _ rfl) ?_
    intro u1 M
    replace M : Mem ⟨w, [g]⟩ [⟨g, .cells (av 2 (ls [.int .u16 h, .int .i64 x])) 65⟩] u1 := M
    refine pl_nil ?_
    have e0 : (rfE e x) = x := by simp only [rfE, if_neg c0]
    exact bodyPost_end (v := .tuple #[]) (results_none Try.results45 _ _) (by kernel_rfl) ⟨rfl, M.old, by simpa only [e0] using M.get 0 rfl⟩

set_option maxRecDepth 100000 in
set_option maxHeartbeats 4000000 in
set_option linter.unusedSimpArgs false in
theorem c_refF (g : Nat) (h e x : Int) (w : World) (hL : Laid w)  (hg : w.heap[g]? = some (.cells (av 2 (ls [.int .u16 h, .int .i64 e])) 65)) :
    Calls Try.prog 45 #[.pointer (some ⟨g, 0, none⟩), .bool false, .int .i64 x] w fun r w' => r = .returned (.tuple #[]) ∧ Below w.heap.size w w' := by
  go_enter Try.func45, Try.ntmps45
  have M := Mem.startp hL hg
  refine wp_seq ?_
  refine rg_lit ?_
  refine pl_val (want_no rfl) (some 6) rfl (.bool false) (fun _ => by kernel_rfl) ?_
  refine pl_val (want_no rfl) (some 7) rfl (.bool false) (fun _ => by kernel_rfl) ?_
  refine pl_skip (want_off 1 true rfl 7 rfl (by kernel_rfl)) (some 8) rfl ?_
  refine pl_skip (want_off 1 true rfl 7 rfl (by kernel_rfl)) (some 9) rfl ?_
  refine pl_skip (want_off 1 true rfl 7 rfl (by kernel_rfl)) (some 10) rfl ?_
  refine pl_skip (want_off 1 true rfl 7 rfl (by kernel_rfl)) (some 11) rfl ?_
  refine pl_skip (want_off 1 true rfl 7 rfl (by kernel_rfl)) (some 12) rfl ?_
  refine pl_val (want_no rfl) (some 13) rfl (.bool false) (fun _ => by kernel_rfl) ?_
  refine pl_nil ?_
  refine au_then ?_
  refine wp_cond_false (by kernel_rfl) ?_
  refine wp_skip ?_
  exact bodyPost_end (v := .tuple #[]) (results_none Try.results45 _ _) (by kernel_rfl) ⟨rfl, ro_below1 M.old hg (M.get 0 rfl)⟩

set_option maxRecDepth 100000 in
set_option maxHeartbeats 4000000 in
set_option linter.unusedSimpArgs false in
theorem c_ask (g : Nat) (h e o : Int) (v : Vl) (w : World) (hL : Laid w)  (hg : w.heap[g]? = some (.cells (av 2 (ls [.int .u16 h, .int .i64 e])) 65)) :
    Calls Try.prog 27 #[.pointer (some ⟨g, 0, none⟩), .int .u16 o, .agg (av 6 (ls [.int .u64 v.n, .string v.t, .bool (v.v), .int .u64 v.h, .int .u64 v.l, .int .u16 v.p]))] w fun r w' => r = .returned (.agg (av 6 (ls [.int .u64 v.n, .string v.t, .bool (v.v), .int .u64 v.h, .int .u64 v.l, .int .u16 v.p]))) ∧ Grw w w' [g] ∧ w'.heap[g]? = some (.cells (av 2 (ls [.int .u16 h, .int .i64 (askF h e o v)])) 65) := by
  go_enter Try.func27, Try.ntmps27
  have M := Mem.startp hL hg
  refine wp_seq ?_
  refine rg_lit ?_
  refine pl_new M (want_no rfl) (some 5) rfl (.cells (av 6 (ls [.int .u64 v.n, .string v.t, .bool (v.v), .int .u64 v.h, .int .u64 v.l, .int .u16 v.p])) 86) (fun _ => by kernel_rfl) ?_
  intro g1 u1 M
  replace M : Mem ⟨w, [g]⟩ [⟨g, .cells (av 2 (ls [.int .u16 h, .int .i64 e])) 65⟩, ⟨g1, .cells (av 6 (ls [.int .u64 v.n, .string v.t, .bool (v.v), .int .u64 v.h, .int .u64 v.l, .int .u16 v.p])) 86⟩] u1 := M
  refine pl_new M (want_no rfl) (some 6) rfl (.cells (av 6 (ls [.int .u64 0, .string ⟨#[]⟩, .bool false, .int .u64 0, .int .u64 0, .int .u16 0])) 86) (fun _ => by kernel_rfl) ?_
  intro g2 u2 M
  replace M : Mem ⟨w, [g]⟩ [⟨g, .cells (av 2 (ls [.int .u16 h, .int .i64 e])) 65⟩, ⟨g1, .cells (av 6 (ls [.int .u64 v.n, .string v.t, .bool (v.v), .int .u64 v.h, .int .u64 v.l, .int .u16 v.p])) 86⟩, ⟨g2, .cells (av 6 (ls [.int .u64 0, .string ⟨#[]⟩, .bool false, .int .u64 0, .int .u64 0, .int .u16 0])) 86⟩] u2 := M
  refine pl_nil ?_
  refine au_then ?_
  refine wp_seq ?_
  refine wp_block ?_
  refine wp_seq ?_
  refine rg_lit ?_
  refine pl_val (want_no rfl) (some 8) rfl (.pointer (some ⟨g, 0, none⟩)) (fun _ => by kernel_rfl) ?_
  refine pl_val (want_no rfl) (some 9) rfl (.pointer (some ⟨g, 0, none⟩)) (fun _ => by kernel_rfl) ?_
  refine pl_val (want_no rfl) (some 10) rfl (.pointer (some ⟨g, 0, none⟩)) (fun _ => by kernel_rfl) ?_
  refine pl_cell M (want_no rfl) (some 11) rfl 54 _ rfl g 0 (by kernel_rfl) (.int .u16 h) (fun _ => by kernel_rfl) (fun w M => M.cell 0 rfl (by decide) rfl) ?_
  refine pl_val (want_no rfl) (some 12) rfl (.int .u16 o) (fun _ => by kernel_rfl) ?_
  refine pl_val (want_no rfl) (some 13) rfl (.int .u16 (yn h o)) (fun _ => by kernel_rfl) ?_
  by_cases c0 : (yn h o) = 0
  · skip
    refine pl_val (want_no rfl) (some 14) rfl (.bool true) (fun w => Eq.trans (b := .ok (.value (.bool (decide ((yn h o) = 0)))) w) (by kernel_rfl) (by rw [decide_eq_true (c0)])) ?_
    refine pl_val (want_no rfl) (some 7) rfl (.bool true) (fun _ => by kernel_rfl) ?_
    refine pl_nil ?_
    refine au_then ?_
    refine wp_cond_true (by kernel_rfl) ?_
    refine rg_lit ?_
    refine pl_val (want_no rfl) (some 15) rfl (.pointer (some ⟨g, 0, none⟩)) (fun _ => by kernel_rfl) ?_
    refine pl_load M (want_no rfl) (some 16) rfl 86 _ rfl 1 g1 0 (by kernel_rfl) 6 86 (ls [.int .u64 v.n, .string v.t, .bool (v.v), .int .u64 v.h, .int .u64 v.l, .int .u16 v.p]) rfl 6 (ls [.int .u64 v.n, .string v.t, .bool (v.v), .int .u64 v.h, .int .u64 v.l, .int .u16 v.p]) (fun j _ => by rw [Nat.zero_add]) (by decide) _ Try.underlying86 rfl inz86 ?_
    refine pl_val (want_no rfl) (some 17) rfl (.agg (av 6 (ls [.int .u64 0, .string ⟨#[]⟩, .bool false, .int .u64 0, .int .u64 0, .int .u16 0]))) (fun _ => by kernel_rfl) ?_
    by_cases c1 : v.n = (0 : Int) ∧ v.t = (⟨#[]⟩ : ByteArray) ∧ v.v = false ∧ v.h = (0 : Int) ∧ v.l = (0 : Int) ∧ v.p = (0 : Int)
    · skip
      refine pl_val (want_no rfl) (some 18) rfl (.bool false) (fun w => (neq86 v.n (0 : Int) v.t (⟨#[]⟩ : ByteArray) v.v false v.h (0 : Int) v.l (0 : Int) v.p (0 : Int) _ _ rfl (by kernel_rfl) (by kernel_rfl) w).trans (by rw [decide_eq_true c1]; rfl)) ?_
      refine pl_call M (want_no rfl) (some 19) rfl 45 #[.pointer (some ⟨g, 0, none⟩), .bool false, .int .i64 151] (.tuple #[]) (fun _ => by kernel_rfl) (fun w M => c_refF g h e 151 w M.laid (M.get 0 rfl)) ?_
      intro u3 M
      refine pl_nil ?_
      refine au_block ?_
      refine au_then ?_
      refine wp_seq ?_
      refine rg_lit ?_
      refine pl_load M (want_no rfl) (some 54) rfl 86 _ rfl 1 g1 0 (by kernel_rfl) 6 86 (ls [.int .u64 v.n, .string v.t, .bool (v.v), .int .u64 v.h, .int .u64 v.l, .int .u16 v.p]) rfl 6 (ls [.int .u64 v.n, .string v.t, .bool (v.v), .int .u64 v.h, .int .u64 v.l, .int .u16 v.p]) (fun j _ => by rw [Nat.zero_add]) (by decide) _ Try.underlying86 rfl inz86 ?_
      refine pl_put M (want_no rfl) rfl 86 _ _ rfl 2 g2 0 (by kernel_rfl) 6 86 (ls [.int .u64 0, .string ⟨#[]⟩, .bool false, .int .u64 0, .int .u64 0, .int .u16 0]) rfl 6 (ls [.int .u64 v.n, .string v.t, .bool (v.v), .int .u64 v.h, .int .u64 v.l, .int .u16 v.p]) (ls [.int .u64 v.n, .string v.t, .bool (v.v), .int .u64 v.h, .int .u64 v.l, .int .u16 v.p]) (by kernel_rfl) inz86 (by decide) (one_ls _ rfl) (fun j hj => by rw [if_pos (by omega), Nat.sub_zero]) ?_
      intro u4 M
      replace M : Mem ⟨w, [g]⟩ [⟨g, .cells (av 2 (ls [.int .u16 h, .int .i64 e])) 65⟩, ⟨g1, .cells (av 6 (ls [.int .u64 v.n, .string v.t, .bool (v.v), .int .u64 v.h, .int .u64 v.l, .int .u16 v.p])) 86⟩, ⟨g2, .cells (av 6 (ls [.int .u64 v.n, .string v.t, .bool (v.v), .int .u64 v.h, .int .u64 v.l, .int .u16 v.p])) 86⟩] u4 := M
      refine pl_nil ?_
      refine au_then ?_
      refine wp_ret ?_
      have e0 : (askF h e o v) = e := by simp only [askF, if_pos c0, if_pos c1]
      exact bodyPost_ret (v := .agg (av 6 (ls [.int .u64 v.n, .string v.t, .bool (v.v), .int .u64 v.h, .int .u64 v.l, .int .u16 v.p]))) (results_cell_row Try.results27 _ _ g2 86 (av 6 (ls [.int .u64 v.n, .string v.t, .bool (v.v), .int .u64 v.h, .int .u64 v.l, .int .u16 v.p])) (0, 0) _ (by kernel_rfl) (M.get 2 rfl) Try.underlying86 rfl (by rw [av_size]; exact inz86)) (by kernel_rfl) ⟨rfl, M.old, by simpa only [e0] using M.get 0 rfl⟩
    · skip
      refine pl_val (want_no rfl) (some 18) rfl (.bool true) (fun w => (neq86 v.n (0 : Int) v.t (⟨#[]⟩ : ByteArray) v.v false v.h (0 : Int) v.l (0 : Int) v.p (0 : Int) _ _ rfl (by kernel_rfl) (by kernel_rfl) w).trans (by rw [decide_eq_false c1]; rfl)) ?_
      refine pl_callp M (want_no rfl) (some 19) rfl 45 #[.pointer (some ⟨g, 0, none⟩), .bool true, .int .i64 151] (.tuple #[]) 0 g (.cells (av 2 (ls [.int .u16 h, .int .i64 e])) 65) (.cells (av 2 (ls [.int .u16 h, .int .i64 (rfE e 151)])) 65) rfl (fun _ => by kernel_rfl) (fun w M => c_refT g h e 151 w M.laid (M.get 0 rfl)) ?_
      intro u3 M
      replace M : Mem ⟨w, [g]⟩ [⟨g, .cells (av 2 (ls [.int .u16 h, .int .i64 (rfE e 151)])) 65⟩, ⟨g1, .cells (av 6 (ls [.int .u64 v.n, .string v.t, .bool (v.v), .int .u64 v.h, .int .u64 v.l, .int .u16 v.p])) 86⟩, ⟨g2, .cells (av 6 (ls [.int .u64 0, .string ⟨#[]⟩, .bool false, .int .u64 0, .int .u64 0, .int .u16 0])) 86⟩] u3 := M
      refine pl_nil ?_
      refine au_block ?_
      refine au_then ?_
      refine wp_seq ?_
      refine rg_lit ?_
      refine pl_load M (want_no rfl) (some 54) rfl 86 _ rfl 1 g1 0 (by kernel_rfl) 6 86 (ls [.int .u64 v.n, .string v.t, .bool (v.v), .int .u64 v.h, .int .u64 v.l, .int .u16 v.p]) rfl 6 (ls [.int .u64 v.n, .string v.t, .bool (v.v), .int .u64 v.h, .int .u64 v.l, .int .u16 v.p]) (fun j _ => by rw [Nat.zero_add]) (by decide) _ Try.underlying86 rfl inz86 ?_
      refine pl_put M (want_no rfl) rfl 86 _ _ rfl 2 g2 0 (by kernel_rfl) 6 86 (ls [.int .u64 0, .string ⟨#[]⟩, .bool false, .int .u64 0, .int .u64 0, .int .u16 0]) rfl 6 (ls [.int .u64 v.n, .string v.t, .bool (v.v), .int .u64 v.h, .int .u64 v.l, .int .u16 v.p]) (ls [.int .u64 v.n, .string v.t, .bool (v.v), .int .u64 v.h, .int .u64 v.l, .int .u16 v.p]) (by kernel_rfl) inz86 (by decide) (one_ls _ rfl) (fun j hj => by rw [if_pos (by omega), Nat.sub_zero]) ?_
      intro u4 M
      replace M : Mem ⟨w, [g]⟩ [⟨g, .cells (av 2 (ls [.int .u16 h, .int .i64 (rfE e 151)])) 65⟩, ⟨g1, .cells (av 6 (ls [.int .u64 v.n, .string v.t, .bool (v.v), .int .u64 v.h, .int .u64 v.l, .int .u16 v.p])) 86⟩, ⟨g2, .cells (av 6 (ls [.int .u64 v.n, .string v.t, .bool (v.v), .int .u64 v.h, .int .u64 v.l, .int .u16 v.p])) 86⟩] u4 := M
      refine pl_nil ?_
      refine au_then ?_
      refine wp_ret ?_
      have e0 : (askF h e o v) = (rfE e 151) := by simp only [askF, if_pos c0, if_neg c1]
      exact bodyPost_ret (v := .agg (av 6 (ls [.int .u64 v.n, .string v.t, .bool (v.v), .int .u64 v.h, .int .u64 v.l, .int .u16 v.p]))) (results_cell_row Try.results27 _ _ g2 86 (av 6 (ls [.int .u64 v.n, .string v.t, .bool (v.v), .int .u64 v.h, .int .u64 v.l, .int .u16 v.p])) (0, 0) _ (by kernel_rfl) (M.get 2 rfl) Try.underlying86 rfl (by rw [av_size]; exact inz86)) (by kernel_rfl) ⟨rfl, M.old, by simpa only [e0] using M.get 0 rfl⟩
  · skip
    refine pl_val (want_no rfl) (some 14) rfl (.bool false) (fun w => Eq.trans (b := .ok (.value (.bool (decide ((yn h o) = 0)))) w) (by kernel_rfl) (by rw [decide_eq_false (c0)])) ?_
    refine pl_val (want_no rfl) (some 7) rfl (.bool false) (fun _ => by kernel_rfl) ?_
    refine pl_nil ?_
    refine au_then ?_
    refine wp_cond_false (by kernel_rfl) ?_
    refine wp_seq ?_
    refine rg_lit ?_
    refine pl_val (want_no rfl) (some 21) rfl (.int .u16 o) (fun _ => by kernel_rfl) ?_
    refine pl_val (want_no rfl) (some 22) rfl (.int .u16 (yn o 4227)) (fun _ => by kernel_rfl) ?_
    by_cases c1 : (yn o 4227) = 0
    · skip
      refine pl_val (want_no rfl) (some 23) rfl (.bool false) (fun w => Eq.trans (b := .ok (.value (.bool (!(decide ((yn o 4227) = 0))))) w) (by kernel_rfl) (by rw [decide_eq_true (c1)]; rfl)) ?_
      refine pl_val (want_no rfl) (some 20) rfl (.bool false) (fun _ => by kernel_rfl) ?_
      refine pl_nil ?_
      refine au_then ?_
      refine wp_cond_false (by kernel_rfl) ?_
      refine wp_seq ?_
      refine rg_lit ?_
      refine pl_val (want_no rfl) (some 33) rfl (.int .u16 o) (fun _ => by kernel_rfl) ?_
      by_cases c2 : o = 256
      · skip
        refine pl_val (want_no rfl) (some 34) rfl (.bool true) (fun w => Eq.trans (b := .ok (.value (.bool (decide (o = 256)))) w) (by kernel_rfl) (by rw [decide_eq_true (c2)])) ?_
        refine pl_val (want_no rfl) (some 32) rfl (.bool true) (fun _ => by kernel_rfl) ?_
        refine pl_nil ?_
        refine au_then ?_
        refine wp_cond_true (by kernel_rfl) ?_
        refine rg_lit ?_
        refine pl_val (want_no rfl) (some 35) rfl (.pointer (some ⟨g, 0, none⟩)) (fun _ => by kernel_rfl) ?_
        refine pl_val (want_no rfl) (some 36) rfl (.pointer (some ⟨g1, 2, none⟩)) (fun _ => by kernel_rfl) ?_
        refine pl_val (want_no rfl) (some 37) rfl (.pointer (some ⟨g1, 2, none⟩)) (fun _ => by kernel_rfl) ?_
        refine pl_load M (want_no rfl) (some 38) rfl 25 _ rfl 1 g1 2 (by kernel_rfl) 6 86 (ls [.int .u64 v.n, .string v.t, .bool (v.v), .int .u64 v.h, .int .u64 v.l, .int .u16 v.p]) rfl 3 (ls [.bool (v.v), .int .u64 v.h, .int .u64 v.l]) (part_ls _ 2 3 _ rfl) (by decide) _ Try.underlying25 rfl inz25 ?_
        rcases Bool.eq_false_or_eq_true (mA v.v v.h v.l) with c3 | c3
        · skip
          refine pl_call M (want_no rfl) (some 39) rfl 47 #[.agg (av 3 (ls [.bool (v.v), .int .u64 v.h, .int .u64 v.l]))] (.bool true) (fun _ => by kernel_rfl) (fun w M => call_val (m_mayAddr v.v v.h v.l w M.laid) (congrArg Value.bool c3)) ?_
          intro u3 M
          refine pl_val (want_no rfl) (some 40) rfl (.bool false) (fun _ => by kernel_rfl) ?_
          refine pl_call M (want_no rfl) (some 41) rfl 45 #[.pointer (some ⟨g, 0, none⟩), .bool false, .int .i64 151] (.tuple #[]) (fun _ => by kernel_rfl) (fun w M => c_refF g h e 151 w M.laid (M.get 0 rfl)) ?_
          intro u4 M
          refine pl_nil ?_
          refine au_block ?_
          refine au_then ?_
          refine wp_seq ?_
          refine rg_lit ?_
          refine pl_load M (want_no rfl) (some 54) rfl 86 _ rfl 1 g1 0 (by kernel_rfl) 6 86 (ls [.int .u64 v.n, .string v.t, .bool (v.v), .int .u64 v.h, .int .u64 v.l, .int .u16 v.p]) rfl 6 (ls [.int .u64 v.n, .string v.t, .bool (v.v), .int .u64 v.h, .int .u64 v.l, .int .u16 v.p]) (fun j _ => by rw [Nat.zero_add]) (by decide) _ Try.underlying86 rfl inz86 ?_
          refine pl_put M (want_no rfl) rfl 86 _ _ rfl 2 g2 0 (by kernel_rfl) 6 86 (ls [.int .u64 0, .string ⟨#[]⟩, .bool false, .int .u64 0, .int .u64 0, .int .u16 0]) rfl 6 (ls [.int .u64 v.n, .string v.t, .bool (v.v), .int .u64 v.h, .int .u64 v.l, .int .u16 v.p]) (ls [.int .u64 v.n, .string v.t, .bool (v.v), .int .u64 v.h, .int .u64 v.l, .int .u16 v.p]) (by kernel_rfl) inz86 (by decide) (one_ls _ rfl) (fun j hj => by rw [if_pos (by omega), Nat.sub_zero]) ?_
          intro u5 M
          replace M : Mem ⟨w, [g]⟩ [⟨g, .cells (av 2 (ls [.int .u16 h, .int .i64 e])) 65⟩, ⟨g1, .cells (av 6 (ls [.int .u64 v.n, .string v.t, .bool (v.v), .int .u64 v.h, .int .u64 v.l, .int .u16 v.p])) 86⟩, ⟨g2, .cells (av 6 (ls [.int .u64 v.n, .string v.t, .bool (v.v), .int .u64 v.h, .int .u64 v.l, .int .u16 v.p])) 86⟩] u5 := M
          refine pl_nil ?_
          refine au_then ?_
          refine wp_ret ?_
          have e0 : (askF h e o v) = e := by simp only [askF, if_neg c0, if_pos c1, if_pos c2, if_pos c3]
          exact bodyPost_ret (v := .agg (av 6 (ls [.int .u64 v.n, .string v.t, .bool (v.v), .int .u64 v.h, .int .u64 v.l, .int .u16 v.p]))) (results_cell_row Try.results27 _ _ g2 86 (av 6 (ls [.int .u64 v.n, .string v.t, .bool (v.v), .int .u64 v.h, .int .u64 v.l, .int .u16 v.p])) (0, 0) _ (by kernel_rfl) (M.get 2 rfl) Try.underlying86 rfl (by rw [av_size]; exact inz86)) (by kernel_rfl) ⟨rfl, M.old, by simpa only [e0] using M.get 0 rfl⟩
        · skip
          refine pl_call M (want_no rfl) (some 39) rfl 47 #[.agg (av 3 (ls [.bool (v.v), .int .u64 v.h, .int .u64 v.l]))] (.bool false) (fun _ => by kernel_rfl) (fun w M => call_val (m_mayAddr v.v v.h v.l w M.laid) (congrArg Value.bool c3)) ?_
          intro u3 M
          refine pl_val (want_no rfl) (some 40) rfl (.bool true) (fun _ => by kernel_rfl) ?_
          refine pl_callp M (want_no rfl) (some 41) rfl 45 #[.pointer (some ⟨g, 0, none⟩), .bool true, .int .i64 151] (.tuple #[]) 0 g (.cells (av 2 (ls [.int .u16 h, .int .i64 e])) 65) (.cells (av 2 (ls [.int .u16 h, .int .i64 (rfE e 151)])) 65) rfl (fun _ => by kernel_rfl) (fun w M => c_refT g h e 151 w M.laid (M.get 0 rfl)) ?_
          intro u4 M
          replace M : Mem ⟨w, [g]⟩ [⟨g, .cells (av 2 (ls [.int .u16 h, .int .i64 (rfE e 151)])) 65⟩, ⟨g1, .cells (av 6 (ls [.int .u64 v.n, .string v.t, .bool (v.v), .int .u64 v.h, .int .u64 v.l, .int .u16 v.p])) 86⟩, ⟨g2, .cells (av 6 (ls [.int .u64 0, .string ⟨#[]⟩, .bool false, .int .u64 0, .int .u64 0, .int .u16 0])) 86⟩] u4 := M
          refine pl_nil ?_
          refine au_block ?_
          refine au_then ?_
          refine wp_seq ?_
          refine rg_lit ?_
          refine pl_load M (want_no rfl) (some 54) rfl 86 _ rfl 1 g1 0 (by kernel_rfl) 6 86 (ls [.int .u64 v.n, .string v.t, .bool (v.v), .int .u64 v.h, .int .u64 v.l, .int .u16 v.p]) rfl 6 (ls [.int .u64 v.n, .string v.t, .bool (v.v), .int .u64 v.h, .int .u64 v.l, .int .u16 v.p]) (fun j _ => by rw [Nat.zero_add]) (by decide) _ Try.underlying86 rfl inz86 ?_
          refine pl_put M (want_no rfl) rfl 86 _ _ rfl 2 g2 0 (by kernel_rfl) 6 86 (ls [.int .u64 0, .string ⟨#[]⟩, .bool false, .int .u64 0, .int .u64 0, .int .u16 0]) rfl 6 (ls [.int .u64 v.n, .string v.t, .bool (v.v), .int .u64 v.h, .int .u64 v.l, .int .u16 v.p]) (ls [.int .u64 v.n, .string v.t, .bool (v.v), .int .u64 v.h, .int .u64 v.l, .int .u16 v.p]) (by kernel_rfl) inz86 (by decide) (one_ls _ rfl) (fun j hj => by rw [if_pos (by omega), Nat.sub_zero]) ?_
          intro u5 M
          replace M : Mem ⟨w, [g]⟩ [⟨g, .cells (av 2 (ls [.int .u16 h, .int .i64 (rfE e 151)])) 65⟩, ⟨g1, .cells (av 6 (ls [.int .u64 v.n, .string v.t, .bool (v.v), .int .u64 v.h, .int .u64 v.l, .int .u16 v.p])) 86⟩, ⟨g2, .cells (av 6 (ls [.int .u64 v.n, .string v.t, .bool (v.v), .int .u64 v.h, .int .u64 v.l, .int .u16 v.p])) 86⟩] u5 := M
          refine pl_nil ?_
          refine au_then ?_
          refine wp_ret ?_
          have e0 : (askF h e o v) = (rfE e 151) := by simp only [askF, if_neg c0, if_pos c1, if_pos c2, if_neg (Bool.eq_false_iff.1 c3)]
          exact bodyPost_ret (v := .agg (av 6 (ls [.int .u64 v.n, .string v.t, .bool (v.v), .int .u64 v.h, .int .u64 v.l, .int .u16 v.p]))) (results_cell_row Try.results27 _ _ g2 86 (av 6 (ls [.int .u64 v.n, .string v.t, .bool (v.v), .int .u64 v.h, .int .u64 v.l, .int .u16 v.p])) (0, 0) _ (by kernel_rfl) (M.get 2 rfl) Try.underlying86 rfl (by rw [av_size]; exact inz86)) (by kernel_rfl) ⟨rfl, M.old, by simpa only [e0] using M.get 0 rfl⟩
      · skip
        refine pl_val (want_no rfl) (some 34) rfl (.bool false) (fun w => Eq.trans (b := .ok (.value (.bool (decide (o = 256)))) w) (by kernel_rfl) (by rw [decide_eq_false (c2)])) ?_
        refine pl_val (want_no rfl) (some 32) rfl (.bool false) (fun _ => by kernel_rfl) ?_
        refine pl_nil ?_
        refine au_then ?_
        refine wp_cond_false (by kernel_rfl) ?_
        refine wp_seq ?_
        refine rg_lit ?_
        refine pl_val (want_no rfl) (some 43) rfl (.int .u16 o) (fun _ => by kernel_rfl) ?_
        refine pl_val (want_no rfl) (some 44) rfl (.int .u16 (yn o 3072)) (fun _ => by kernel_rfl) ?_
        by_cases c3 : (yn o 3072) = 0
        · skip
          refine pl_val (want_no rfl) (some 45) rfl (.bool false) (fun w => Eq.trans (b := .ok (.value (.bool (!(decide ((yn o 3072) = 0))))) w) (by kernel_rfl) (by rw [decide_eq_true (c3)]; rfl)) ?_
          refine pl_val (want_no rfl) (some 42) rfl (.bool false) (fun _ => by kernel_rfl) ?_
          refine pl_nil ?_
          refine au_then ?_
          refine wp_cond_false (by kernel_rfl) ?_
          refine wp_skip ?_
          refine au_block ?_
          refine au_then ?_
          refine wp_seq ?_
          refine rg_lit ?_
          refine pl_load M (want_no rfl) (some 54) rfl 86 _ rfl 1 g1 0 (by kernel_rfl) 6 86 (ls [.int .u64 v.n, .string v.t, .bool (v.v), .int .u64 v.h, .int .u64 v.l, .int .u16 v.p]) rfl 6 (ls [.int .u64 v.n, .string v.t, .bool (v.v), .int .u64 v.h, .int .u64 v.l, .int .u16 v.p]) (fun j _ => by rw [Nat.zero_add]) (by decide) _ Try.underlying86 rfl inz86 ?_
          refine pl_put M (want_no rfl) rfl 86 _ _ rfl 2 g2 0 (by kernel_rfl) 6 86 (ls [.int .u64 0, .string ⟨#[]⟩, .bool false, .int .u64 0, .int .u64 0, .int .u16 0]) rfl 6 (ls [.int .u64 v.n, .string v.t, .bool (v.v), .int .u64 v.h, .int .u64 v.l, .int .u16 v.p]) (ls [.int .u64 v.n, .string v.t, .bool (v.v), .int .u64 v.h, .int .u64 v.l, .int .u16 v.p]) (by kernel_rfl) inz86 (by decide) (one_ls _ rfl) (fun j hj => by rw [if_pos (by omega), Nat.sub_zero]) ?_
          intro u3 M
          replace M : Mem ⟨w, [g]⟩ [⟨g, .cells (av 2 (ls [.int .u16 h, .int .i64 e])) 65⟩, ⟨g1, .cells (av 6 (ls [.int .u64 v.n, .string v.t, .bool (v.v), .int .u64 v.h, .int .u64 v.l, .int .u16 v.p])) 86⟩, ⟨g2, .cells (av 6 (ls [.int .u64 v.n, .string v.t, .bool (v.v), .int .u64 v.h, .int .u64 v.l, .int .u16 v.p])) 86⟩] u3 := M
          refine pl_nil ?_
          refine au_then ?_
          refine wp_ret ?_
          have e0 : (askF h e o v) = e := by simp only [askF, if_neg c0, if_pos c1, if_neg c2, if_pos c3]
          exact bodyPost_ret (v := .agg (av 6 (ls [.int .u64 v.n, .string v.t, .bool (v.v), .int .u64 v.h, .int .u64 v.l, .int .u16 v.p]))) (results_cell_row Try.results27 _ _ g2 86 (av 6 (ls [.int .u64 v.n, .string v.t, .bool (v.v), .int .u64 v.h, .int .u64 v.l, .int .u16 v.p])) (0, 0) _ (by kernel_rfl) (M.get 2 rfl) Try.underlying86 rfl (by rw [av_size]; exact inz86)) (by kernel_rfl) ⟨rfl, M.old, by simpa only [e0] using M.get 0 rfl⟩
        · skip
          refine pl_val (want_no rfl) (some 45) rfl (.bool true) (fun w => Eq.trans (b := .ok (.value (.bool (!(decide ((yn o 3072) = 0))))) w) (by kernel_rfl) (by rw [decide_eq_false (c3)]; rfl)) ?_
          refine pl_val (want_no rfl) (some 42) rfl (.bool true) (fun _ => by kernel_rfl) ?_
          refine pl_nil ?_
          refine au_then ?_
          refine wp_cond_true (by kernel_rfl) ?_
          refine rg_tail M 7 (by kernel_rfl) (by kernel_rfl) ?_
          simp only [List.take_succ_cons, List.take_zero]
          refine k_val (want_no rfl) (some 46) rfl (.pointer (some ⟨g, 0, none⟩)) (fun _ => by kernel_rfl) ?_
          refine k_val (want_no rfl) (some 47) rfl (.pointer (some ⟨g1, 1, none⟩)) (fun _ => by kernel_rfl) ?_
          refine k_cell M (want_no rfl) (some 48) rfl 9 _ rfl g1 1 (by kernel_rfl) (.string v.t) (fun _ => by kernel_rfl) (fun w M => M.cell 1 rfl (by decide) rfl) ?_
          refine k_val (want_no rfl) (some 49) rfl (.int .i64 (v.t.size : Int)) (fun _ => by kernel_rfl) ?_
          refine k_val (want_no rfl) (some 50) rfl (.int .u16 o) (fun _ => by kernel_rfl) ?_
          refine k_call M (want_no rfl) (some 51) rfl 48 #[.int .u16 o] (.int .i64 (moO o)) (fun _ => by kernel_rfl) (fun w M => c_mostOf o w M.laid) ?_
          by_cases c4 : (moO o) < (v.t.size : Int)
          · skip
            refine k_val (want_no rfl) (some 52) rfl (.bool true) (fun w => Eq.trans (b := .ok (.value (.bool (decide ((moO o) < (v.t.size : Int))))) w) (by kernel_rfl) (by rw [decide_eq_true (c4)])) ?_
            refine kl_nil ?_
            intro u3 M
            replace M : Mem ⟨w, [g]⟩ [⟨g, .cells (av 2 (ls [.int .u16 h, .int .i64 e])) 65⟩, ⟨g1, .cells (av 6 (ls [.int .u64 v.n, .string v.t, .bool (v.v), .int .u64 v.h, .int .u64 v.l, .int .u16 v.p])) 86⟩, ⟨g2, .cells (av 6 (ls [.int .u64 0, .string ⟨#[]⟩, .bool false, .int .u64 0, .int .u64 0, .int .u16 0])) 86⟩] u3 := M
            refine pl_callp M (want_no rfl) (some 53) rfl 45 #[.pointer (some ⟨g, 0, none⟩), .bool true, .int .i64 4] (.tuple #[]) 0 g (.cells (av 2 (ls [.int .u16 h, .int .i64 e])) 65) (.cells (av 2 (ls [.int .u16 h, .int .i64 (rfE e 4)])) 65) rfl (fun _ => by kernel_rfl) (fun w M => c_refT g h e 4 w M.laid (M.get 0 rfl)) ?_
            intro u4 M
            replace M : Mem ⟨w, [g]⟩ [⟨g, .cells (av 2 (ls [.int .u16 h, .int .i64 (rfE e 4)])) 65⟩, ⟨g1, .cells (av 6 (ls [.int .u64 v.n, .string v.t, .bool (v.v), .int .u64 v.h, .int .u64 v.l, .int .u16 v.p])) 86⟩, ⟨g2, .cells (av 6 (ls [.int .u64 0, .string ⟨#[]⟩, .bool false, .int .u64 0, .int .u64 0, .int .u16 0])) 86⟩] u4 := M
            refine pl_nil ?_
            refine au_block ?_
            refine au_then ?_
            refine wp_seq ?_
            refine rg_lit ?_
            refine pl_load M (want_no rfl) (some 54) rfl 86 _ rfl 1 g1 0 (by kernel_rfl) 6 86 (ls [.int .u64 v.n, .string v.t, .bool (v.v), .int .u64 v.h, .int .u64 v.l, .int .u16 v.p]) rfl 6 (ls [.int .u64 v.n, .string v.t, .bool (v.v), .int .u64 v.h, .int .u64 v.l, .int .u16 v.p]) (fun j _ => by rw [Nat.zero_add]) (by decide) _ Try.underlying86 rfl inz86 ?_
            refine pl_put M (want_no rfl) rfl 86 _ _ rfl 2 g2 0 (by kernel_rfl) 6 86 (ls [.int .u64 0, .string ⟨#[]⟩, .bool false, .int .u64 0, .int .u64 0, .int .u16 0]) rfl 6 (ls [.int .u64 v.n, .string v.t, .bool (v.v), .int .u64 v.h, .int .u64 v.l, .int .u16 v.p]) (ls [.int .u64 v.n, .string v.t, .bool (v.v), .int .u64 v.h, .int .u64 v.l, .int .u16 v.p]) (by kernel_rfl) inz86 (by decide) (one_ls _ rfl) (fun j hj => by rw [if_pos (by omega), Nat.sub_zero]) ?_
            intro u5 M
            replace M : Mem ⟨w, [g]⟩ [⟨g, .cells (av 2 (ls [.int .u16 h, .int .i64 (rfE e 4)])) 65⟩, ⟨g1, .cells (av 6 (ls [.int .u64 v.n, .string v.t, .bool (v.v), .int .u64 v.h, .int .u64 v.l, .int .u16 v.p])) 86⟩, ⟨g2, .cells (av 6 (ls [.int .u64 v.n, .string v.t, .bool (v.v), .int .u64 v.h, .int .u64 v.l, .int .u16 v.p])) 86⟩] u5 := M
            refine pl_nil ?_
            refine au_then ?_
            refine wp_ret ?_
            have e0 : (askF h e o v) = (rfE e 4) := by simp only [askF, if_neg c0, if_pos c1, if_neg c2, if_neg c3, if_pos c4]
            exact bodyPost_ret (v := .agg (av 6 (ls [.int .u64 v.n, .string v.t, .bool (v.v), .int .u64 v.h, .int .u64 v.l, .int .u16 v.p]))) (results_cell_row Try.results27 _ _ g2 86 (av 6 (ls [.int .u64 v.n, .string v.t, .bool (v.v), .int .u64 v.h, .int .u64 v.l, .int .u16 v.p])) (0, 0) _ (by kernel_rfl) (M.get 2 rfl) Try.underlying86 rfl (by rw [av_size]; exact inz86)) (by kernel_rfl) ⟨rfl, M.old, by simpa only [e0] using M.get 0 rfl⟩
          · skip
            refine k_val (want_no rfl) (some 52) rfl (.bool false) (fun w => Eq.trans (b := .ok (.value (.bool (decide ((moO o) < (v.t.size : Int))))) w) (by kernel_rfl) (by rw [decide_eq_false (c4)])) ?_
            refine kl_nil ?_
            intro u3 M
            replace M : Mem ⟨w, [g]⟩ [⟨g, .cells (av 2 (ls [.int .u16 h, .int .i64 e])) 65⟩, ⟨g1, .cells (av 6 (ls [.int .u64 v.n, .string v.t, .bool (v.v), .int .u64 v.h, .int .u64 v.l, .int .u16 v.p])) 86⟩, ⟨g2, .cells (av 6 (ls [.int .u64 0, .string ⟨#[]⟩, .bool false, .int .u64 0, .int .u64 0, .int .u16 0])) 86⟩] u3 := M
            refine pl_call M (want_no rfl) (some 53) rfl 45 #[.pointer (some ⟨g, 0, none⟩), .bool false, .int .i64 4] (.tuple #[]) (fun _ => by kernel_rfl) (fun w M => c_refF g h e 4 w M.laid (M.get 0 rfl)) ?_
            intro u4 M
            refine pl_nil ?_
            refine au_block ?_
            refine au_then ?_
            refine wp_seq ?_
            refine rg_lit ?_
            refine pl_load M (want_no rfl) (some 54) rfl 86 _ rfl 1 g1 0 (by kernel_rfl) 6 86 (ls [.int .u64 v.n, .string v.t, .bool (v.v), .int .u64 v.h, .int .u64 v.l, .int .u16 v.p]) rfl 6 (ls [.int .u64 v.n, .string v.t, .bool (v.v), .int .u64 v.h, .int .u64 v.l, .int .u16 v.p]) (fun j _ => by rw [Nat.zero_add]) (by decide) _ Try.underlying86 rfl inz86 ?_
            refine pl_put M (want_no rfl) rfl 86 _ _ rfl 2 g2 0 (by kernel_rfl) 6 86 (ls [.int .u64 0, .string ⟨#[]⟩, .bool false, .int .u64 0, .int .u64 0, .int .u16 0]) rfl 6 (ls [.int .u64 v.n, .string v.t, .bool (v.v), .int .u64 v.h, .int .u64 v.l, .int .u16 v.p]) (ls [.int .u64 v.n, .string v.t, .bool (v.v), .int .u64 v.h, .int .u64 v.l, .int .u16 v.p]) (by kernel_rfl) inz86 (by decide) (one_ls _ rfl) (fun j hj => by rw [if_pos (by omega), Nat.sub_zero]) ?_
            intro u5 M
            replace M : Mem ⟨w, [g]⟩ [⟨g, .cells (av 2 (ls [.int .u16 h, .int .i64 e])) 65⟩, ⟨g1, .cells (av 6 (ls [.int .u64 v.n, .string v.t, .bool (v.v), .int .u64 v.h, .int .u64 v.l, .int .u16 v.p])) 86⟩, ⟨g2, .cells (av 6 (ls [.int .u64 v.n, .string v.t, .bool (v.v), .int .u64 v.h, .int .u64 v.l, .int .u16 v.p])) 86⟩] u5 := M
            refine pl_nil ?_
            refine au_then ?_
            refine wp_ret ?_
            have e0 : (askF h e o v) = e := by simp only [askF, if_neg c0, if_pos c1, if_neg c2, if_neg c3, if_neg c4]
            exact bodyPost_ret (v := .agg (av 6 (ls [.int .u64 v.n, .string v.t, .bool (v.v), .int .u64 v.h, .int .u64 v.l, .int .u16 v.p]))) (results_cell_row Try.results27 _ _ g2 86 (av 6 (ls [.int .u64 v.n, .string v.t, .bool (v.v), .int .u64 v.h, .int .u64 v.l, .int .u16 v.p])) (0, 0) _ (by kernel_rfl) (M.get 2 rfl) Try.underlying86 rfl (by rw [av_size]; exact inz86)) (by kernel_rfl) ⟨rfl, M.old, by simpa only [e0] using M.get 0 rfl⟩
    · skip
      refine pl_val (want_no rfl) (some 23) rfl (.bool true) (fun w => Eq.trans (b := .ok (.value (.bool (!(decide ((yn o 4227) = 0))))) w) (by kernel_rfl) (by rw [decide_eq_false (c1)]; rfl)) ?_
      refine pl_val (want_no rfl) (some 20) rfl (.bool true) (fun _ => by kernel_rfl) ?_
      refine pl_nil ?_
      refine au_then ?_
      refine wp_cond_true (by kernel_rfl) ?_
      refine rg_tail M 7 (by kernel_rfl) (by kernel_rfl) ?_
      simp only [List.take_succ_cons, List.take_zero]
      refine k_val (want_no rfl) (some 24) rfl (.pointer (some ⟨g, 0, none⟩)) (fun _ => by kernel_rfl) ?_
      refine k_val (want_no rfl) (some 25) rfl (.pointer (some ⟨g1, 1, none⟩)) (fun _ => by kernel_rfl) ?_
      refine k_cell M (want_no rfl) (some 26) rfl 9 _ rfl g1 1 (by kernel_rfl) (.string v.t) (fun _ => by kernel_rfl) (fun w M => M.cell 1 rfl (by decide) rfl) ?_
      refine k_val (want_no rfl) (some 27) rfl (.int .i64 (v.t.size : Int)) (fun _ => by kernel_rfl) ?_
      refine k_val (want_no rfl) (some 28) rfl (.int .u16 o) (fun _ => by kernel_rfl) ?_
      refine k_call M (want_no rfl) (some 29) rfl 46 #[.int .u16 o] (.int .i64 (szO o)) (fun _ => by kernel_rfl) (fun w M => c_sizeOf o w M.laid) ?_
      by_cases c2 : (v.t.size : Int) = (szO o)
      · skip
        refine k_val (want_no rfl) (some 30) rfl (.bool false) (fun w => Eq.trans (b := .ok (.value (.bool (!(decide ((v.t.size : Int) = (szO o)))))) w) (by kernel_rfl) (by rw [decide_eq_true (c2)]; rfl)) ?_
        refine kl_nil ?_
        intro u3 M
        replace M : Mem ⟨w, [g]⟩ [⟨g, .cells (av 2 (ls [.int .u16 h, .int .i64 e])) 65⟩, ⟨g1, .cells (av 6 (ls [.int .u64 v.n, .string v.t, .bool (v.v), .int .u64 v.h, .int .u64 v.l, .int .u16 v.p])) 86⟩, ⟨g2, .cells (av 6 (ls [.int .u64 0, .string ⟨#[]⟩, .bool false, .int .u64 0, .int .u64 0, .int .u16 0])) 86⟩] u3 := M
        refine pl_call M (want_no rfl) (some 31) rfl 45 #[.pointer (some ⟨g, 0, none⟩), .bool false, .int .i64 151] (.tuple #[]) (fun _ => by kernel_rfl) (fun w M => c_refF g h e 151 w M.laid (M.get 0 rfl)) ?_
        intro u4 M
        refine pl_nil ?_
        refine au_block ?_
        refine au_then ?_
        refine wp_seq ?_
        refine rg_lit ?_
        refine pl_load M (want_no rfl) (some 54) rfl 86 _ rfl 1 g1 0 (by kernel_rfl) 6 86 (ls [.int .u64 v.n, .string v.t, .bool (v.v), .int .u64 v.h, .int .u64 v.l, .int .u16 v.p]) rfl 6 (ls [.int .u64 v.n, .string v.t, .bool (v.v), .int .u64 v.h, .int .u64 v.l, .int .u16 v.p]) (fun j _ => by rw [Nat.zero_add]) (by decide) _ Try.underlying86 rfl inz86 ?_
        refine pl_put M (want_no rfl) rfl 86 _ _ rfl 2 g2 0 (by kernel_rfl) 6 86 (ls [.int .u64 0, .string ⟨#[]⟩, .bool false, .int .u64 0, .int .u64 0, .int .u16 0]) rfl 6 (ls [.int .u64 v.n, .string v.t, .bool (v.v), .int .u64 v.h, .int .u64 v.l, .int .u16 v.p]) (ls [.int .u64 v.n, .string v.t, .bool (v.v), .int .u64 v.h, .int .u64 v.l, .int .u16 v.p]) (by kernel_rfl) inz86 (by decide) (one_ls _ rfl) (fun j hj => by rw [if_pos (by omega), Nat.sub_zero]) ?_
        intro u5 M
        replace M : Mem ⟨w, [g]⟩ [⟨g, .cells (av 2 (ls [.int .u16 h, .int .i64 e])) 65⟩, ⟨g1, .cells (av 6 (ls [.int .u64 v.n, .string v.t, .bool (v.v), .int .u64 v.h, .int .u64 v.l, .int .u16 v.p])) 86⟩, ⟨g2, .cells (av 6 (ls [.int .u64 v.n, .string v.t, .bool (v.v), .int .u64 v.h, .int .u64 v.l, .int .u16 v.p])) 86⟩] u5 := M
        refine pl_nil ?_
        refine au_then ?_
        refine wp_ret ?_
        have e0 : (askF h e o v) = e := by simp only [askF, if_neg c0, if_neg c1, if_pos c2]
        exact bodyPost_ret (v := .agg (av 6 (ls [.int .u64 v.n, .string v.t, .bool (v.v), .int .u64 v.h, .int .u64 v.l, .int .u16 v.p]))) (results_cell_row Try.results27 _ _ g2 86 (av 6 (ls [.int .u64 v.n, .string v.t, .bool (v.v), .int .u64 v.h, .int .u64 v.l, .int .u16 v.p])) (0, 0) _ (by kernel_rfl) (M.get 2 rfl) Try.underlying86 rfl (by rw [av_size]; exact inz86)) (by kernel_rfl) ⟨rfl, M.old, by simpa only [e0] using M.get 0 rfl⟩
      · skip
        refine k_val (want_no rfl) (some 30) rfl (.bool true) (fun w => Eq.trans (b := .ok (.value (.bool (!(decide ((v.t.size : Int) = (szO o)))))) w) (by kernel_rfl) (by rw [decide_eq_false (c2)]; rfl)) ?_
        refine kl_nil ?_
        intro u3 M
        replace M : Mem ⟨w, [g]⟩ [⟨g, .cells (av 2 (ls [.int .u16 h, .int .i64 e])) 65⟩, ⟨g1, .cells (av 6 (ls [.int .u64 v.n, .string v.t, .bool (v.v), .int .u64 v.h, .int .u64 v.l, .int .u16 v.p])) 86⟩, ⟨g2, .cells (av 6 (ls [.int .u64 0, .string ⟨#[]⟩, .bool false, .int .u64 0, .int .u64 0, .int .u16 0])) 86⟩] u3 := M
        refine pl_callp M (want_no rfl) (some 31) rfl 45 #[.pointer (some ⟨g, 0, none⟩), .bool true, .int .i64 151] (.tuple #[]) 0 g (.cells (av 2 (ls [.int .u16 h, .int .i64 e])) 65) (.cells (av 2 (ls [.int .u16 h, .int .i64 (rfE e 151)])) 65) rfl (fun _ => by kernel_rfl) (fun w M => c_refT g h e 151 w M.laid (M.get 0 rfl)) ?_
        intro u4 M
        replace M : Mem ⟨w, [g]⟩ [⟨g, .cells (av 2 (ls [.int .u16 h, .int .i64 (rfE e 151)])) 65⟩, ⟨g1, .cells (av 6 (ls [.int .u64 v.n, .string v.t, .bool (v.v), .int .u64 v.h, .int .u64 v.l, .int .u16 v.p])) 86⟩, ⟨g2, .cells (av 6 (ls [.int .u64 0, .string ⟨#[]⟩, .bool false, .int .u64 0, .int .u64 0, .int .u16 0])) 86⟩] u4 := M
        refine pl_nil ?_
        refine au_block ?_
        refine au_then ?_
        refine wp_seq ?_
        refine rg_lit ?_
        refine pl_load M (want_no rfl) (some 54) rfl 86 _ rfl 1 g1 0 (by kernel_rfl) 6 86 (ls [.int .u64 v.n, .string v.t, .bool (v.v), .int .u64 v.h, .int .u64 v.l, .int .u16 v.p]) rfl 6 (ls [.int .u64 v.n, .string v.t, .bool (v.v), .int .u64 v.h, .int .u64 v.l, .int .u16 v.p]) (fun j _ => by rw [Nat.zero_add]) (by decide) _ Try.underlying86 rfl inz86 ?_
        refine pl_put M (want_no rfl) rfl 86 _ _ rfl 2 g2 0 (by kernel_rfl) 6 86 (ls [.int .u64 0, .string ⟨#[]⟩, .bool false, .int .u64 0, .int .u64 0, .int .u16 0]) rfl 6 (ls [.int .u64 v.n, .string v.t, .bool (v.v), .int .u64 v.h, .int .u64 v.l, .int .u16 v.p]) (ls [.int .u64 v.n, .string v.t, .bool (v.v), .int .u64 v.h, .int .u64 v.l, .int .u16 v.p]) (by kernel_rfl) inz86 (by decide) (one_ls _ rfl) (fun j hj => by rw [if_pos (by omega), Nat.sub_zero]) ?_
        intro u5 M
        replace M : Mem ⟨w, [g]⟩ [⟨g, .cells (av 2 (ls [.int .u16 h, .int .i64 (rfE e 151)])) 65⟩, ⟨g1, .cells (av 6 (ls [.int .u64 v.n, .string v.t, .bool (v.v), .int .u64 v.h, .int .u64 v.l, .int .u16 v.p])) 86⟩, ⟨g2, .cells (av 6 (ls [.int .u64 v.n, .string v.t, .bool (v.v), .int .u64 v.h, .int .u64 v.l, .int .u16 v.p])) 86⟩] u5 := M
        refine pl_nil ?_
        refine au_then ?_
        refine wp_ret ?_
        have e0 : (askF h e o v) = (rfE e 151) := by simp only [askF, if_neg c0, if_neg c1, if_neg c2]
        exact bodyPost_ret (v := .agg (av 6 (ls [.int .u64 v.n, .string v.t, .bool (v.v), .int .u64 v.h, .int .u64 v.l, .int .u16 v.p]))) (results_cell_row Try.results27 _ _ g2 86 (av 6 (ls [.int .u64 v.n, .string v.t, .bool (v.v), .int .u64 v.h, .int .u64 v.l, .int .u16 v.p])) (0, 0) _ (by kernel_rfl) (M.get 2 rfl) Try.underlying86 rfl (by rw [av_size]; exact inz86)) (by kernel_rfl) ⟨rfl, M.old, by simpa only [e0] using M.get 0 rfl⟩

theorem st_ask (g : Nat) (h : Int) (m : Mg) : ∀ k, k < 13 → ∀ T w, T = [⟨g, .cells (av 2 (ls [.int .u16 h, .int .i64 (askS m h k)])) 65⟩] → (∀ b ∈ T, w.heap[b.g]? = some b.Z) → (T.map Blk.g).Nodup → Calls Try.prog 27 #[.pointer (some ⟨g, 0, none⟩), .int .u16 (bitV k), .agg (av 6 (vlL (inV m k)))] w fun e w' => e = .returned (.agg (av 6 (vlL (inV m k)))) ∧ ∃ T', T' = [⟨g, .cells (av 2 (ls [.int .u16 h, .int .i64 (askS m h (k + 1))])) 65⟩] ∧ OkT w w' T T' := by
  intro k _ T w hT hat _
  subst hT
  exact (c_ask g h (askS m h k) (bitV k) (inV m k) w trivial (hat _ (List.mem_singleton.2 rfl))).mono fun e w' ⟨he, hg, hz⟩ => ⟨he, _, rfl, okT_one hg hz⟩
theorem fn27 (args : Array Value) (w : World) : (callFunc 27 args).run Try.prog w = .ok (.enter 27 args) w := by kernel_rfl
theorem fn22 (args : Array Value) (w : World) : (callFunc 22 args).run Try.prog w = .ok (.enter 22 args) w := by kernel_rfl
theorem fn32 (args : Array Value) (w : World) : (callFunc 32 args).run Try.prog w = .ok (.enter 32 args) w := by kernel_rfl
set_option maxRecDepth 100000 in
set_option maxHeartbeats 4000000 in
set_option linter.unusedSimpArgs false in
theorem c_MMay (m : Mg) (w : World) (hL : Laid w)  :
    Calls Try.prog 14 #[.agg (av 17 (ls [.int .u8 m.ty, .string m.fr, .string m.tq, .int .u32 m.ix, .int .u32 m.pe, .int .u64 m.ct, .int .u64 m.ba, .int .u64 m.ve, .string m.tx, .bool (m.ev), .int .u64 m.eh, .int .u64 m.el, .int .u16 m.ep, .int .u16 m.co, .string m.tt, .string m.da, .string m.sg]))] w fun r w' => r = .returned (.int .i64 (mE m)) ∧ Below w.heap.size w w' := by
  go_enter Try.func14, Try.ntmps14
  have M := Mem.start hL
  refine wp_seq ?_
  refine rg_lit ?_
  refine pl_new M (want_no rfl) (some 1) rfl (.cells (av 17 (ls [.int .u8 m.ty, .string m.fr, .string m.tq, .int .u32 m.ix, .int .u32 m.pe, .int .u64 m.ct, .int .u64 m.ba, .int .u64 m.ve, .string m.tx, .bool (m.ev), .int .u64 m.eh, .int .u64 m.el, .int .u16 m.ep, .int .u16 m.co, .string m.tt, .string m.da, .string m.sg])) 30) (fun _ => by kernel_rfl) ?_
  intro g1 u1 M
  replace M : Mem ⟨w, []⟩ [⟨g1, .cells (av 17 (ls [.int .u8 m.ty, .string m.fr, .string m.tq, .int .u32 m.ix, .int .u32 m.pe, .int .u64 m.ct, .int .u64 m.ba, .int .u64 m.ve, .string m.tx, .bool (m.ev), .int .u64 m.eh, .int .u64 m.el, .int .u16 m.ep, .int .u16 m.co, .string m.tt, .string m.da, .string m.sg])) 30⟩] u1 := M
  refine pl_val (want_no rfl) (some 2) rfl (.int .i64 0) (fun _ => by kernel_rfl) ?_
  refine pl_nil ?_
  refine au_then ?_
  refine wp_seq ?_
  refine rg_lit ?_
  refine pl_val (want_no rfl) (some 7) rfl (.pointer (some ⟨g1, 0, none⟩)) (fun _ => by kernel_rfl) ?_
  refine pl_cell M (want_no rfl) (some 8) rfl 5 _ rfl g1 0 (by kernel_rfl) (.int .u8 m.ty) (fun _ => by kernel_rfl) (fun w M => M.cell 0 rfl (by decide) rfl) ?_
  refine pl_call M (want_no rfl) (some 9) rfl 26 #[.int .u8 m.ty] (.tuple #[.string (nmP m.ty), .int .u16 (shP m.ty)]) (fun _ => by kernel_rfl) (fun w M => c_shapeOf m.ty w M.laid) ?_
  intro u2 M
  refine pl_val (want_no rfl) (some 6) rfl (.tuple #[.string (nmP m.ty), .int .u16 (shP m.ty)]) (fun _ => by kernel_rfl) ?_
  refine pl_val (want_no rfl) (some 10) rfl (.string (nmP m.ty)) (fun _ => by kernel_rfl) ?_
  refine pl_val (want_no rfl) (some 11) rfl (.int .u16 (shP m.ty)) (fun _ => by kernel_rfl) ?_
  refine pl_val (want_no rfl) (some 3) rfl (.string (nmP m.ty)) (fun _ => by kernel_rfl) ?_
  refine pl_val (want_no rfl) (some 4) rfl (.int .u16 (shP m.ty)) (fun _ => by kernel_rfl) ?_
  refine pl_nil ?_
  refine au_then ?_
  refine wp_seq ?_
  refine wp_seq ?_
  refine rg_lit ?_
  refine pl_val (want_no rfl) (some 12) rfl (.int .u16 (shP m.ty)) (fun _ => by kernel_rfl) ?_
  by_cases c0 : (shP m.ty) = 0
  · skip
    refine pl_val (want_no rfl) (some 13) rfl (.bool true) (fun w => Eq.trans (b := .ok (.value (.bool (decide ((shP m.ty) = 0)))) w) (by kernel_rfl) (by rw [decide_eq_true (c0)])) ?_
    refine pl_nil ?_
    refine au_then ?_
    refine wp_cond_true (by kernel_rfl) ?_
    refine wp_seq ?_
    refine rg_lit ?_
    refine pl_val (want_no rfl) (some 2) rfl (.int .i64 150) (fun _ => by kernel_rfl) ?_
    refine pl_nil ?_
    refine au_then ?_
    refine wp_ret ?_
    refine au_then_ret ?_
    have e0 : (mE m) = 150 := by simp only [mE, if_pos c0]
    exact bodyPost_ret (v := .int .i64 150) (results_tmp1 Try.results14 _ _ _ (by kernel_rfl)) (by kernel_rfl) ⟨by rw [e0], below_grown M.old⟩
  · skip
    refine pl_val (want_no rfl) (some 13) rfl (.bool false) (fun w => Eq.trans (b := .ok (.value (.bool (decide ((shP m.ty) = 0)))) w) (by kernel_rfl) (by rw [decide_eq_false (c0)])) ?_
    refine pl_nil ?_
    refine au_then ?_
    refine wp_cond_false (by kernel_rfl) ?_
    refine wp_skip ?_
    refine au_then ?_
    refine wp_seq ?_
    refine rg_lit ?_
    refine pl_val (want_no rfl) (some 14) rfl (.int .u16 (shP m.ty)) (fun _ => by kernel_rfl) ?_
    refine pl_val (want_no rfl) (some 15) rfl (.agg (av 2 (ls [.int .u16 (shP m.ty), .int .i64 0]))) (fun _ => by kernel_rfl) ?_
    refine pl_new M (want_no rfl) (some 5) rfl (.cells (av 2 (ls [.int .u16 0, .int .i64 0])) 65) (fun _ => by kernel_rfl) ?_
    intro g2 u3 M
    replace M : Mem ⟨w, []⟩ [⟨g1, .cells (av 17 (ls [.int .u8 m.ty, .string m.fr, .string m.tq, .int .u32 m.ix, .int .u32 m.pe, .int .u64 m.ct, .int .u64 m.ba, .int .u64 m.ve, .string m.tx, .bool (m.ev), .int .u64 m.eh, .int .u64 m.el, .int .u16 m.ep, .int .u16 m.co, .string m.tt, .string m.da, .string m.sg])) 30⟩, ⟨g2, .cells (av 2 (ls [.int .u16 0, .int .i64 0])) 65⟩] u3 := M
    refine pl_put M (want_no rfl) rfl 65 _ _ rfl 1 g2 0 (by kernel_rfl) 2 65 (ls [.int .u16 0, .int .i64 0]) rfl 2 (ls [.int .u16 (shP m.ty), .int .i64 0]) (ls [.int .u16 (shP m.ty), .int .i64 0]) (by kernel_rfl) inz65 (by decide) (one_ls _ rfl) (fun j hj => by rw [if_pos (by omega), Nat.sub_zero]) ?_
    intro u4 M
    replace M : Mem ⟨w, []⟩ [⟨g1, .cells (av 17 (ls [.int .u8 m.ty, .string m.fr, .string m.tq, .int .u32 m.ix, .int .u32 m.pe, .int .u64 m.ct, .int .u64 m.ba, .int .u64 m.ve, .string m.tx, .bool (m.ev), .int .u64 m.eh, .int .u64 m.el, .int .u16 m.ep, .int .u16 m.co, .string m.tt, .string m.da, .string m.sg])) 30⟩, ⟨g2, .cells (av 2 (ls [.int .u16 (shP m.ty), .int .i64 0])) 65⟩] u4 := M
    refine pl_nil ?_
    refine au_then ?_
    refine wp_seq ?_
    refine rg_lit ?_
    refine pl_load M (want_no rfl) (some 16) rfl 30 _ rfl 0 g1 0 (by kernel_rfl) 17 30 (ls [.int .u8 m.ty, .string m.fr, .string m.tq, .int .u32 m.ix, .int .u32 m.pe, .int .u64 m.ct, .int .u64 m.ba, .int .u64 m.ve, .string m.tx, .bool (m.ev), .int .u64 m.eh, .int .u64 m.el, .int .u16 m.ep, .int .u16 m.co, .string m.tt, .string m.da, .string m.sg]) rfl 17 (ls [.int .u8 m.ty, .string m.fr, .string m.tq, .int .u32 m.ix, .int .u32 m.pe, .int .u64 m.ct, .int .u64 m.ba, .int .u64 m.ve, .string m.tx, .bool (m.ev), .int .u64 m.eh, .int .u64 m.el, .int .u16 m.ep, .int .u16 m.co, .string m.tt, .string m.da, .string m.sg]) (fun j _ => by rw [Nat.zero_add]) (by decide) _ Try.underlying30 rfl inz30 ?_
    refine pl_val (want_no rfl) (some 17) rfl (.func (.func 27) #[.pointer (some ⟨g2, 0, none⟩)] #[]) (fun _ => by kernel_rfl) ?_
    refine pl_callT (L := [⟨g1, .cells (av 17 (ls [.int .u8 m.ty, .string m.fr, .string m.tq, .int .u32 m.ix, .int .u32 m.pe, .int .u64 m.ct, .int .u64 m.ba, .int .u64 m.ve, .string m.tx, .bool (m.ev), .int .u64 m.eh, .int .u64 m.el, .int .u16 m.ep, .int .u16 m.co, .string m.tt, .string m.da, .string m.sg])) 30⟩]) (T := [⟨g2, .cells (av 2 (ls [.int .u16 (shP m.ty), .int .i64 0])) 65⟩]) M (want_no rfl) (some 18) rfl 21 #[.agg (av 17 (ls [.int .u8 m.ty, .string m.fr, .string m.tq, .int .u32 m.ix, .int .u32 m.pe, .int .u64 m.ct, .int .u64 m.ba, .int .u64 m.ve, .string m.tx, .bool (m.ev), .int .u64 m.eh, .int .u64 m.el, .int .u16 m.ep, .int .u16 m.co, .string m.tt, .string m.da, .string m.sg])), .func (.func 27) #[.pointer (some ⟨g2, 0, none⟩)] #[]] (.agg (av 17 (mgL (outM m (inV m))))) (fun T' => T' = [⟨g2, .cells (av 2 (ls [.int .u16 (shP m.ty), .int .i64 (askS m (shP m.ty) 13)])) 65⟩]) (fun _ => by kernel_rfl) (fun w h1 h2 => c_through 27 _ m (inV m) _ (fun k T' => T' = [⟨g2, .cells (av 2 (ls [.int .u16 (shP m.ty), .int .i64 (askS m (shP m.ty) k)])) 65⟩]) fn27 rfl (st_ask g2 (shP m.ty) m) w trivial h1 h2) ?_
    intro T1 u5 hT1 M
    subst hT1
    replace M : Mem ⟨w, []⟩ [⟨g1, .cells (av 17 (ls [.int .u8 m.ty, .string m.fr, .string m.tq, .int .u32 m.ix, .int .u32 m.pe, .int .u64 m.ct, .int .u64 m.ba, .int .u64 m.ve, .string m.tx, .bool (m.ev), .int .u64 m.eh, .int .u64 m.el, .int .u16 m.ep, .int .u16 m.co, .string m.tt, .string m.da, .string m.sg])) 30⟩, ⟨g2, .cells (av 2 (ls [.int .u16 (shP m.ty), .int .i64 (askS m (shP m.ty) 13)])) 65⟩] u5 := M
    refine pl_nil ?_
    refine au_then ?_
    refine wp_seq ?_
    refine rg_lit ?_
    refine pl_val (want_no rfl) (some 19) rfl (.pointer (some ⟨g2, 1, none⟩)) (fun _ => by kernel_rfl) ?_
    refine pl_cell M (want_no rfl) (some 20) rfl 33 _ rfl g2 1 (by kernel_rfl) (.int .i64 (askS m (shP m.ty) 13)) (fun _ => by kernel_rfl) (fun w M => M.cell 1 rfl (by decide) rfl) ?_
    refine pl_val (want_no rfl) (some 2) rfl (.int .i64 (askS m (shP m.ty) 13)) (fun _ => by kernel_rfl) ?_
    refine pl_nil ?_
    refine au_then ?_
    refine wp_ret ?_
    have e0 : (mE m) = (askS m (shP m.ty) 13) := by simp only [mE, if_neg c0]
    exact bodyPost_ret (v := .int .i64 (askS m (shP m.ty) 13)) (results_tmp1 Try.results14 _ _ _ (by kernel_rfl)) (by kernel_rfl) ⟨by rw [e0], below_grown M.old⟩


end Go.Proofs.Ytbechjlkmajcoaa
