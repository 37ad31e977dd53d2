/- Numbers in parts: the walks of settled, carried, plus, least, numberOf, plain, factor, marked and text. -/
import Derived.Test.YtenafinbaanicaaDoorP0
namespace Go.Proofs.YtenafinbaanicaaDoor.Pol
open Go.RowKit

/-- What goes to the next part, and the parts that are settled. -/
def cy (sh : Nat) (a : Nat → Int) : Nat → Int
  | 0 => 0
  | j + 1 => sr (ua (a j) (cy sh a j)) sh
def st (m : Int) (sh : Nat) (a : Nat → Int) : Nat → (Nat → Int)
  | 0 => a
  | j + 1 => upd (st m sh a j) j (un (ua (a j) (cy sh a j)) m)
def s5 (a : Nat → Int) : Nat → Int := st 67108863 26 a 5
def c5 (a : Nat → Int) : Int := cy 26 a 5

set_option maxRecDepth 100000 in
set_option maxHeartbeats 4000000 in
theorem c_settled (x : Nat → Int) (w : World) (hL : Laid w)  :
    Calls Tryd.prog 92 #[.agg (av 5 (w64 x))] w fun r w' => r = .returned (.tuple #[.agg (av 5 (w64 (s5 x))), .int .u64 (c5 x)]) ∧ Below w.heap.size w w' := by
  go_enter Tryd.func92, Tryd.ntmps92
  have M := Mem.start hL
  refine sR ?_
  refine pN M 1 (.cells (av 5 (w64 x)) 122) fun g1 u1 M => ?_
  refine pN M 2 (.cells (av 5 (w64 (fun _ => 0))) 122) fun g2 u2 M => ?_
  refine rV 1 ?_
  refine nT ?_
  refine sq ?_
  refine wp_seq ?_
  refine sR ?_
  refine pA M 7 0 5 (w64 x) ?_
  refine rV 1 ?_
  refine nT ?_
  refine wp_block ?_
  refine au_loop (fun j a w' => ∃ v1 : Nat → Value, a = (fm ([.agg (av 5 (w64 x)), .pointer (some ⟨g1, 0, none⟩), .pointer (some ⟨g2, 0, none⟩), .int .u64 0, .int .u64 (cy 26 x j)] ++ vr v1 5 2 ++ [.agg (av 5 (w64 x)), .int .i64 (j : Int)] ++ vr v1 9 15)) ∧ Mem ⟨w, []⟩ [⟨g1, .cells (av 5 (w64 (st 67108863 26 x j))) 122⟩, ⟨g2, .cells (av 5 (w64 (fun _ => 0))) 122⟩] w') 5 (exS M) ?_ ?_
  · intro j a u0 hj hI
    obtain ⟨v1, rfl, M⟩ := hI
    refine sR ?_
    refine ZT 9 ((j : Int) < 5) ?_
    refine nT ?_
    refine wp_seq ?_
    refine wp_cond_true (by kernel_rfl) ?_
    refine wp_skip ?_
    refine au_then ?_
    refine wp_seq ?_
    refine wp_block ?_
    refine sR ?_
    refine rV 1 ?_
    refine pH 11 (.int .u64 (x (j))) (run_ixA 122 5 22 Tryd.underlying122 inz22 (fun _ => by kernel_rfl) _ _ rfl (w64 x) (by kernel_rfl) .i64 (j) (by kernel_rfl) (by omega) rfl) ?_
    refine rV 2 ?_
    refine nT ?_
    refine sq ?_
    refine rg_lit ?_
    refine rV 5 ?_
    refine ZX 20 .i64 g1 (j) 5 ?_
    refine ZP64 M 0 j (un (ua (x (j)) (cy 26 x j)) 67108863) fun u3 M => ?_
    refine rV 1 ?_
    refine pl_nil ?_
    refine au_block ?_
    refine au_then ?_
    refine rg_lit ?_
    refine ZI 21 ((j : Int) + 1) ((j + 1 : Nat) : Int) ?_
    refine rV 1 ?_
    refine nT ?_
    exact exS M
  · intro a u0 hI
    obtain ⟨v1, rfl, M⟩ := hI
    refine sR ?_
    refine ZF 9 (5 < 5) ?_
    refine nT ?_
    refine wp_seq ?_
    refine wp_cond_false (by kernel_rfl) ?_
    refine wp_exit ?_
    refine au_then_exit ?_
    refine au_then_exit ?_
    refine au_block_exit ?_
    refine au_then ?_
    refine sR ?_
    refine pA M 22 0 5 (w64 (st 67108863 26 x 5)) ?_
    refine rV 1 ?_
    refine ZG M 1 5 (w64 (st 67108863 26 x 5)) fun u4 M => ?_
    refine rV 1 ?_
    refine nT ?_
    refine wp_ret ?_
    exact bct Tryd.results92 M 1 5 (w64 (st 67108863 26 x 5)) (.int .u64 (cy 26 x 5)) ⟨rfl, below_grown M.old⟩

def cr1 (a : Nat → Int) : Nat → Int := upd (s5 a) 0 (ua (s5 a 0) (um (c5 a) 5))
def crr (a : Nat → Int) : Nat → (Nat → Int)
  | 0 => a
  | j + 1 => cr1 (crr a j)
def crF (a : Nat → Int) : Nat → Int := cr1 (cr1 a)

set_option maxRecDepth 100000 in
set_option maxHeartbeats 4000000 in
theorem c_carried (x : Nat → Int) (w : World) (hL : Laid w)  :
    Calls Tryd.prog 91 #[.agg (av 5 (w64 x))] w fun r w' => r = .returned (.agg (av 5 (w64 (crF x)))) ∧ Below w.heap.size w w' := by
  go_enter Tryd.func91, Tryd.ntmps91
  have M := Mem.start hL
  refine sR ?_
  refine pN M 1 (.cells (av 5 (w64 x)) 122) fun g1 u1 M => ?_
  refine pN M 2 (.cells (av 5 (w64 (fun _ => 0))) 122) fun g2 u2 M => ?_
  refine nT ?_
  refine wp_seq ?_
  refine sq ?_
  refine wp_block ?_
  refine au_loop (fun j a w' => ∃ v1 : Nat → Value, a = (fm ([.agg (av 5 (w64 x)), .pointer (some ⟨g1, 0, none⟩), .pointer (some ⟨g2, 0, none⟩)] ++ vr v1 3 2 ++ [.int .i64 (j : Int)] ++ vr v1 6 15)) ∧ Mem ⟨w, []⟩ [⟨g1, .cells (av 5 (w64 (crr x j))) 122⟩, ⟨g2, .cells (av 5 (w64 (fun _ => 0))) 122⟩] w') 2 (exS M) ?_ ?_
  · intro j a u0 hj hI
    obtain ⟨v1, rfl, M⟩ := hI
    refine sR ?_
    refine ZT 6 ((j : Int) < 2) ?_
    refine nT ?_
    refine wp_seq ?_
    refine wp_cond_true (by kernel_rfl) ?_
    refine wp_skip ?_
    refine au_then ?_
    refine wp_seq ?_
    refine wp_block ?_
    refine sR ?_
    refine pA M 8 0 5 (w64 (crr x j)) ?_
    refine ZC M 9 (fun w M => c_settled (crr x j) w M.laid) fun u3 M => ?_
    refine rV 3 ?_
    refine pN M 3 (.cells (av 5 (w64 (fun _ => 0))) 122) fun g3 u4 M => ?_
    refine ZG M 2 5 (w64 (s5 (crr x j))) fun u5 M => ?_
    refine rV 1 ?_
    refine nT ?_
    refine sR ?_
    refine rV 1 ?_
    refine ZE M 13 2 0 ?_
    refine rV 4 ?_
    refine ZP64 M 2 0 (ua ((s5 (crr x j)) 0) (um (c5 (crr x j)) 5)) fun u6 M => ?_
    refine nT ?_
    refine rg_lit ?_
    refine pA M 18 2 5 (w64 (upd (s5 (crr x j)) 0 (ua ((s5 (crr x j)) 0) (um (c5 (crr x j)) 5)))) ?_
    refine ZG M 0 5 (w64 (upd (s5 (crr x j)) 0 (ua ((s5 (crr x j)) 0) (um (c5 (crr x j)) 5)))) fun u7 M => ?_
    refine pl_nil ?_
    refine au_block ?_
    refine au_then ?_
    refine rg_lit ?_
    refine ZI 19 ((j : Int) + 1) ((j + 1 : Nat) : Int) ?_
    refine rV 1 ?_
    refine nT ?_
    exact exS (M.drop (.cons_cons _ (.cons_cons _ (.cons _ (.slnil)))))
  · intro a u0 hI
    obtain ⟨v1, rfl, M⟩ := hI
    refine sR ?_
    refine ZF 6 (2 < 2) ?_
    refine nT ?_
    refine wp_seq ?_
    refine wp_cond_false (by kernel_rfl) ?_
    refine wp_exit ?_
    refine au_then_exit ?_
    refine au_then_exit ?_
    refine au_block_exit ?_
    refine au_then ?_
    refine sR ?_
    refine pA M 20 0 5 (w64 (crr x 2)) ?_
    refine ZG M 1 5 (w64 (crr x 2)) fun u8 M => ?_
    refine nT ?_
    refine wp_ret ?_
    exact bc Tryd.results91 M 1 5 (w64 (crr x 2)) ⟨rfl, below_grown M.old⟩

def pls (a b : Nat → Int) : Nat → (Nat → Int)
  | 0 => a
  | j + 1 => upd (pls a b j) j (ua (pls a b j j) (b j))
def plF (a b : Nat → Int) : Nat → Int := pls a b 5

set_option maxRecDepth 100000 in
set_option maxHeartbeats 4000000 in
theorem c_plus (x y : Nat → Int) (w : World) (hL : Laid w)  :
    Calls Tryd.prog 78 #[.agg (av 5 (w64 x)), .agg (av 5 (w64 y))] w fun r w' => r = .returned (.agg (av 5 (w64 (plF x y)))) ∧ Below w.heap.size w w' := by
  go_enter Tryd.func78, Tryd.ntmps78
  have M := Mem.start hL
  refine sR ?_
  refine pN M 2 (.cells (av 5 (w64 x)) 122) fun g1 u1 M => ?_
  refine pN M 3 (.cells (av 5 (w64 y)) 122) fun g2 u2 M => ?_
  refine pN M 4 (.cells (av 5 (w64 (fun _ => 0))) 122) fun g3 u3 M => ?_
  refine nT ?_
  refine wp_seq ?_
  refine sq ?_
  refine wp_block ?_
  refine au_loop (fun j a w' => ∃ v1 : Nat → Value, a = (fm ([.agg (av 5 (w64 x)), .agg (av 5 (w64 y)), .pointer (some ⟨g1, 0, none⟩), .pointer (some ⟨g2, 0, none⟩), .pointer (some ⟨g3, 0, none⟩), v1 5, .int .i64 (j : Int)] ++ vr v1 7 12)) ∧ Mem ⟨w, []⟩ [⟨g1, .cells (av 5 (w64 (pls x y j))) 122⟩, ⟨g2, .cells (av 5 (w64 y)) 122⟩, ⟨g3, .cells (av 5 (w64 (fun _ => 0))) 122⟩] w') 5 (exS M) ?_ ?_
  · intro j a u0 hj hI
    obtain ⟨v1, rfl, M⟩ := hI
    refine sR ?_
    refine ZT 7 ((j : Int) < 5) ?_
    refine nT ?_
    refine wp_seq ?_
    refine wp_cond_true (by kernel_rfl) ?_
    refine wp_skip ?_
    refine au_then ?_
    refine wp_seq ?_
    refine wp_block ?_
    refine sq ?_
    refine rg_tail M 8 (by kernel_rfl) (by kernel_rfl) ?_
    simp only [List.take_succ_cons, List.take_zero]
    refine kR 1 ?_
    refine eX 10 .i64 g1 (j) 5 ?_
    refine eE M 11 0 j ?_
    refine kR 1 ?_
    refine eX 13 .i64 g2 (j) 5 ?_
    refine eE M 14 1 j ?_
    refine kR 1 ?_
    refine eX 16 .i64 g1 (j) 5 ?_
    refine kl_nil fun u4 M => ?_
    refine ZP64 M 0 j (ua ((pls x y j) j) (y j)) fun u5 M => ?_
    refine pl_nil ?_
    refine au_block ?_
    refine au_then ?_
    refine rg_lit ?_
    refine ZI 17 ((j : Int) + 1) ((j + 1 : Nat) : Int) ?_
    refine rV 1 ?_
    refine nT ?_
    exact exS M
  · intro a u0 hI
    obtain ⟨v1, rfl, M⟩ := hI
    refine sR ?_
    refine ZF 7 (5 < 5) ?_
    refine nT ?_
    refine wp_seq ?_
    refine wp_cond_false (by kernel_rfl) ?_
    refine wp_exit ?_
    refine au_then_exit ?_
    refine au_then_exit ?_
    refine au_block_exit ?_
    refine au_then ?_
    refine sR ?_
    refine pA M 18 0 5 (w64 (pls x y 5)) ?_
    refine ZG M 2 5 (w64 (pls x y 5)) fun u6 M => ?_
    refine nT ?_
    refine wp_ret ?_
    exact bc Tryd.results78 M 2 5 (w64 (pls x y 5)) ⟨rfl, below_grown M.old⟩

def mo5 (a : Nat → Int) : Nat → Int := upd a 0 (ua (a 0) 5)
def lsF (a : Nat → Int) : Nat → Int := s5 (upd a 0 (ua (a 0) (um (c5 (mo5 a)) 5)))

set_option maxRecDepth 100000 in
set_option maxHeartbeats 4000000 in
theorem c_least (x : Nat → Int) (w : World) (hL : Laid w)  :
    Calls Tryd.prog 81 #[.agg (av 5 (w64 x))] w fun r w' => r = .returned (.agg (av 5 (w64 (lsF x)))) ∧ Below w.heap.size w w' := by
  go_enter Tryd.func81, Tryd.ntmps81
  have M := Mem.start hL
  refine sR ?_
  refine pN M 1 (.cells (av 5 (w64 x)) 122) fun g1 u1 M => ?_
  refine pN M 2 (.cells (av 5 (w64 (fun _ => 0))) 122) fun g2 u2 M => ?_
  refine nT ?_
  refine sR ?_
  refine pA M 6 0 5 (w64 x) ?_
  refine pN M 3 (.cells (av 5 (w64 (fun _ => 0))) 122) fun g3 u3 M => ?_
  refine ZG M 2 5 (w64 x) fun u4 M => ?_
  refine nT ?_
  refine sR ?_
  refine rV 1 ?_
  refine ZE M 8 2 0 ?_
  refine rV 2 ?_
  refine ZP64 M 2 0 (ua (x 0) 5) fun u5 M => ?_
  refine nT ?_
  refine sR ?_
  refine pA M 12 2 5 (w64 (mo5 x)) ?_
  refine ZC M 13 (fun w M => c_settled (mo5 x) w M.laid) fun u6 M => ?_
  refine rV 3 ?_
  refine pN M 4 (.cells (av 5 (w64 (fun _ => 0))) 122) fun g4 u7 M => ?_
  refine ZG M 3 5 (w64 (s5 (mo5 x))) fun u8 M => ?_
  refine rV 1 ?_
  refine nT ?_
  refine sR ?_
  refine rV 1 ?_
  refine ZE M 17 0 0 ?_
  refine rV 4 ?_
  refine ZP64 M 0 0 (ua (x 0) (um (c5 (mo5 x)) 5)) fun u9 M => ?_
  refine nT ?_
  refine sR ?_
  refine pA M 23 0 5 (w64 (upd x 0 (ua (x 0) (um (c5 (mo5 x)) 5)))) ?_
  refine ZC M 24 (fun w M => c_settled (upd x 0 (ua (x 0) (um (c5 (mo5 x)) 5))) w M.laid) fun u10 M => ?_
  refine rV 3 ?_
  refine ZG M 0 5 (w64 (s5 (upd x 0 (ua (x 0) (um (c5 (mo5 x)) 5))))) fun u11 M => ?_
  refine nT ?_
  refine sR ?_
  refine pA M 27 0 5 (w64 (s5 (upd x 0 (ua (x 0) (um (c5 (mo5 x)) 5))))) ?_
  refine ZG M 1 5 (w64 (s5 (upd x 0 (ua (x 0) (um (c5 (mo5 x)) 5))))) fun u12 M => ?_
  refine nT ?_
  refine wp_ret ?_
  exact bc Tryd.results81 M 1 5 (w64 (s5 (upd x 0 (ua (x 0) (um (c5 (mo5 x)) 5))))) ⟨rfl, below_grown M.old⟩

def nof (p : Nat → Int) : Nat → (Nat → Int)
  | 0 => fun _ => 0
  | j + 1 => upd (nof p j) (8 * j / 26) (uo (nof p j (8 * j / 26)) (sl (cv .u64 (p j)) (8 * j % 26)))
def noF (p : Nat → Int) : Nat → Int := s5 (nof p 17)

set_option maxRecDepth 100000 in
set_option maxHeartbeats 4000000 in
theorem c_number (p : Nat → Int) (w : World) (hL : Laid w)  :
    Calls Tryd.prog 89 #[.agg (av 17 (w8 p))] w fun r w' => r = .returned (.agg (av 5 (w64 (noF p)))) ∧ Below w.heap.size w w' := by
  go_enter Tryd.func89, Tryd.ntmps89
  have M := Mem.start hL
  refine sR ?_
  refine pN M 1 (.cells (av 17 (w8 p)) 137) fun g1 u1 M => ?_
  refine pN M 2 (.cells (av 5 (w64 (fun _ => 0))) 122) fun g2 u2 M => ?_
  refine nT ?_
  refine sR ?_
  refine pN M 3 (.cells (av 5 (w64 (fun _ => 0))) 122) fun g3 u3 M => ?_
  refine nT ?_
  refine wp_seq ?_
  refine sR ?_
  refine pA M 6 0 17 (w8 p) ?_
  refine rV 1 ?_
  refine nT ?_
  refine wp_block ?_
  refine au_loop (fun j a w' => ∃ v1 : Nat → Value, a = (fm ([.agg (av 17 (w8 p)), .pointer (some ⟨g1, 0, none⟩), .pointer (some ⟨g2, 0, none⟩), .pointer (some ⟨g3, 0, none⟩)] ++ vr v1 4 2 ++ [.agg (av 17 (w8 p)), .int .i64 (j : Int)] ++ vr v1 8 23)) ∧ Mem ⟨w, []⟩ [⟨g1, .cells (av 17 (w8 p)) 137⟩, ⟨g2, .cells (av 5 (w64 (fun _ => 0))) 122⟩, ⟨g3, .cells (av 5 (w64 (nof p j))) 122⟩] w') 17 (exS M) ?_ ?_
  · intro j a u0 hj hI
    obtain ⟨v1, rfl, M⟩ := hI
    refine sR ?_
    refine ZT 8 ((j : Int) < 17) ?_
    refine nT ?_
    refine wp_seq ?_
    refine wp_cond_true (by kernel_rfl) ?_
    refine wp_skip ?_
    refine au_then ?_
    refine wp_seq ?_
    refine wp_block ?_
    refine sR ?_
    refine rV 1 ?_
    refine pH 10 (.int .u8 (p (j))) (run_ixA 137 17 5 Tryd.underlying137 inz5 (fun _ => by kernel_rfl) _ _ rfl (w8 p) (by kernel_rfl) .i64 (j) (by kernel_rfl) (by omega) rfl) ?_
    refine rV 2 ?_
    refine nT ?_
    refine rg_tail M 13 (by kernel_rfl) (by kernel_rfl) ?_
    simp only [List.take_succ_cons, List.take_zero]
    refine kR 1 ?_
    refine eI 12 (8 * (j : Int)) ((8 * j : Nat) : Int) ?_
    refine eQ 13 .i64 (IntKind.wrap .i64 (((8 * j : Nat) : Int).tdiv 26)) (quo26 (8 * j) (by omega)) ?_
    refine eX 14 .i64 g3 ((8 * j / 26 : Nat)) 5 ?_
    refine eE M 15 2 ((8 * j / 26 : Nat)) ?_
    refine kR 3 ?_
    refine eI 19 (8 * (j : Int)) ((8 * j : Nat) : Int) ?_
    refine eQ 20 .i64 (Int.tmod ((8 * j : Nat) : Int) 26) (rem26 (8 * j)) ?_
    refine kH 21 (.int .u64 (sl (cv .u64 (p j)) (8 * j % 26))) (run_shlU 22 3 _ _ rfl _ .i64 (8 * j % 26) (by kernel_rfl) (by kernel_rfl) (by omega)) ?_
    refine kR 1 ?_
    refine eX 23 .i64 g3 ((8 * j / 26 : Nat)) 5 ?_
    refine kl_nil fun u4 M => ?_
    refine ZP64 M 2 ((8 * j / 26 : Nat)) (uo ((nof p j) ((8 * j / 26 : Nat))) (sl (cv .u64 (p j)) (8 * j % 26))) fun u5 M => ?_
    refine pl_nil ?_
    refine au_block ?_
    refine au_then ?_
    refine rg_lit ?_
    refine ZI 24 ((j : Int) + 1) ((j + 1 : Nat) : Int) ?_
    refine rV 1 ?_
    refine nT ?_
    exact exS M
  · intro a u0 hI
    obtain ⟨v1, rfl, M⟩ := hI
    refine sR ?_
    refine ZF 8 (17 < 17) ?_
    refine nT ?_
    refine wp_seq ?_
    refine wp_cond_false (by kernel_rfl) ?_
    refine wp_exit ?_
    refine au_then_exit ?_
    refine au_then_exit ?_
    refine au_block_exit ?_
    refine au_then ?_
    refine sR ?_
    refine pA M 26 2 5 (w64 (nof p 17)) ?_
    refine ZC M 27 (fun w M => c_settled (nof p 17) w M.laid) fun u6 M => ?_
    refine rV 3 ?_
    refine ZG M 2 5 (w64 (s5 (nof p 17))) fun u7 M => ?_
    refine nT ?_
    refine sR ?_
    refine pA M 30 2 5 (w64 (s5 (nof p 17))) ?_
    refine ZG M 1 5 (w64 (s5 (nof p 17))) fun u8 M => ?_
    refine nT ?_
    refine wp_ret ?_
    exact bc Tryd.results89 M 1 5 (w64 (s5 (nof p 17))) ⟨rfl, below_grown M.old⟩

/-- Some bytes, and 0 behind them. -/
def pd (b : Nat → Int) (n : Nat) : Nat → Int := fun i => if i < n then b i else 0
theorem pd_fn (b : Nat → Int) (n : Nat) (j : Nat) : (if 0 ≤ j ∧ j < 0 + n then w8 b (j - 0) else w8 (fun _ => 0) j) = w8 (pd b n) j := by
  unfold w8 pd
  by_cases h : j < n
  · rw [if_pos (by omega), if_pos h, Nat.sub_zero]
  · rw [if_neg (by omega), if_neg h]
def fc1 (p : Nat → Int) : Nat → Int := upd (upd (upd (upd p 3 (nb8 (p 3) 15)) 7 (nb8 (p 7) 15)) 11 (nb8 (p 11) 15)) 15 (nb8 (p 15) 15)
def fc2 (p : Nat → Int) : Nat → Int := upd (upd (upd p 4 (db8 (p 4) 3)) 8 (db8 (p 8) 3)) 12 (db8 (p 12) 3)
def mk (b : Nat → Int) (n : Nat) : Nat → Int := upd (pd b n) n 1

set_option maxRecDepth 100000 in
set_option maxHeartbeats 4000000 in
theorem c_plain (s : ByteArray) (hs : s.size = 16) (w : World) (hL : Laid w)  :
    Calls Tryd.prog 76 #[.string s] w fun r w' => r = .returned (.agg (av 5 (w64 (noF (pd (bt s) 16))))) ∧ Below w.heap.size w w' := by
  go_enter Tryd.func76, Tryd.ntmps76
  have M := Mem.start hL
  refine sR ?_
  refine pN M 2 (.cells (av 5 (w64 (fun _ => 0))) 122) fun g1 u1 M => ?_
  refine nT ?_
  refine sR ?_
  refine pN M 3 (.cells (av 17 (w8 (fun _ => 0))) 137) fun g2 u2 M => ?_
  refine nT ?_
  refine sR ?_
  refine rV 2 ?_
  refine pl_copyS M (want_no rfl) (some 6) rfl 26 9 3 5 Tryd.underlying26 inz5 1 g2 17 137 (w8 (fun _ => 0)) rfl 0 17 17 s 16 (by rw [hs]; decide) (by decide) (w8 (pd (bt s) 16)) (fun j _ => pd_fn (bt s) 16 j) (fun _ => by kernel_rfl) fun u3 M => ?_
  refine nT ?_
  refine sR ?_
  refine pA M 7 1 17 (w8 (pd (bt s) 16)) ?_
  refine ZC M 8 (fun w M => c_number (pd (bt s) 16) w M.laid) fun u4 M => ?_
  refine ZG M 0 5 (w64 (noF (pd (bt s) 16))) fun u5 M => ?_
  refine nT ?_
  refine wp_ret ?_
  exact bc Tryd.results76 M 0 5 (w64 (noF (pd (bt s) 16))) ⟨rfl, below_grown M.old⟩

set_option maxRecDepth 100000 in
set_option maxHeartbeats 4000000 in
theorem c_factor (s : ByteArray) (hs : s.size = 16) (w : World) (hL : Laid w)  :
    Calls Tryd.prog 75 #[.string s] w fun r w' => r = .returned (.agg (av 5 (w64 (noF (fc2 (fc1 (pd (bt s) 16))))))) ∧ Below w.heap.size w w' := by
  go_enter Tryd.func75, Tryd.ntmps75
  have M := Mem.start hL
  refine sR ?_
  refine pN M 2 (.cells (av 5 (w64 (fun _ => 0))) 122) fun g1 u1 M => ?_
  refine nT ?_
  refine sR ?_
  refine pN M 3 (.cells (av 17 (w8 (fun _ => 0))) 137) fun g2 u2 M => ?_
  refine nT ?_
  refine sR ?_
  refine rV 2 ?_
  refine pl_copyS M (want_no rfl) (some 8) rfl 26 9 3 5 Tryd.underlying26 inz5 1 g2 17 137 (w8 (fun _ => 0)) rfl 0 17 17 s 16 (by rw [hs]; decide) (by decide) (w8 (pd (bt s) 16)) (fun j _ => pd_fn (bt s) 16 j) (fun _ => by kernel_rfl) fun u3 M => ?_
  refine nT ?_
  refine wp_seq ?_
  refine sq ?_
  refine wp_block ?_
  refine wp_loop_rounds 5 ?_
  refine rounds_go ?_
  refine wp_seq ?_
  refine sq ?_
  refine wp_cond_true (by kernel_rfl) ?_
  refine wp_skip ?_
  refine au_then ?_
  refine wp_seq ?_
  refine wp_block ?_
  refine rg_lit ?_
  refine rV 2 ?_
  refine ZE M 15 1 3 ?_
  refine rV 2 ?_
  refine ZP8 M 1 3 (nb8 ((pd (bt s) 16) 3) 15) fun u4 M => ?_
  refine pl_nil ?_
  refine au_block ?_
  refine au_then ?_
  refine rg_lit ?_
  refine rV 3 ?_
  refine nT ?_
  refine rounds_go ?_
  refine wp_seq ?_
  refine sq ?_
  refine wp_cond_true (by kernel_rfl) ?_
  refine wp_skip ?_
  refine au_then ?_
  refine wp_seq ?_
  refine wp_block ?_
  refine rg_lit ?_
  refine rV 2 ?_
  refine ZE M 15 1 7 ?_
  refine rV 2 ?_
  refine ZP8 M 1 7 (nb8 ((pd (bt s) 16) 7) 15) fun u5 M => ?_
  refine pl_nil ?_
  refine au_block ?_
  refine au_then ?_
  refine rg_lit ?_
  refine rV 3 ?_
  refine nT ?_
  refine rounds_go ?_
  refine wp_seq ?_
  refine sq ?_
  refine wp_cond_true (by kernel_rfl) ?_
  refine wp_skip ?_
  refine au_then ?_
  refine wp_seq ?_
  refine wp_block ?_
  refine rg_lit ?_
  refine rV 2 ?_
  refine ZE M 15 1 11 ?_
  refine rV 2 ?_
  refine ZP8 M 1 11 (nb8 ((pd (bt s) 16) 11) 15) fun u6 M => ?_
  refine pl_nil ?_
  refine au_block ?_
  refine au_then ?_
  refine rg_lit ?_
  refine rV 3 ?_
  refine nT ?_
  refine rounds_go ?_
  refine wp_seq ?_
  refine sq ?_
  refine wp_cond_true (by kernel_rfl) ?_
  refine wp_skip ?_
  refine au_then ?_
  refine wp_seq ?_
  refine wp_block ?_
  refine rg_lit ?_
  refine rV 2 ?_
  refine ZE M 15 1 15 ?_
  refine rV 2 ?_
  refine ZP8 M 1 15 (nb8 ((pd (bt s) 16) 15) 15) fun u7 M => ?_
  refine pl_nil ?_
  refine au_block ?_
  refine au_then ?_
  refine rg_lit ?_
  refine rV 3 ?_
  refine nT ?_
  refine rounds_go ?_
  refine wp_seq ?_
  refine sq ?_
  refine wp_cond_false (by kernel_rfl) ?_
  refine wp_exit ?_
  refine au_then_exit ?_
  refine au_then_exit ?_
  refine au_block_exit ?_
  refine au_then ?_
  refine wp_seq ?_
  refine sR ?_
  refine rV 1 ?_
  refine nT ?_
  refine wp_block ?_
  refine wp_loop_rounds 4 ?_
  refine rounds_go ?_
  refine wp_seq ?_
  refine sq ?_
  refine wp_cond_true (by kernel_rfl) ?_
  refine wp_skip ?_
  refine au_then ?_
  refine wp_seq ?_
  refine wp_block ?_
  refine rg_lit ?_
  refine rV 2 ?_
  refine ZE M 24 1 4 ?_
  refine rV 2 ?_
  refine ZP8 M 1 4 (db8 ((fc1 (pd (bt s) 16)) 4) 3) fun u8 M => ?_
  refine pl_nil ?_
  refine au_block ?_
  refine au_then ?_
  refine rg_lit ?_
  refine rV 3 ?_
  refine nT ?_
  refine rounds_go ?_
  refine wp_seq ?_
  refine sq ?_
  refine wp_cond_true (by kernel_rfl) ?_
  refine wp_skip ?_
  refine au_then ?_
  refine wp_seq ?_
  refine wp_block ?_
  refine rg_lit ?_
  refine rV 2 ?_
  refine ZE M 24 1 8 ?_
  refine rV 2 ?_
  refine ZP8 M 1 8 (db8 ((fc1 (pd (bt s) 16)) 8) 3) fun u9 M => ?_
  refine pl_nil ?_
  refine au_block ?_
  refine au_then ?_
  refine rg_lit ?_
  refine rV 3 ?_
  refine nT ?_
  refine rounds_go ?_
  refine wp_seq ?_
  refine sq ?_
  refine wp_cond_true (by kernel_rfl) ?_
  refine wp_skip ?_
  refine au_then ?_
  refine wp_seq ?_
  refine wp_block ?_
  refine rg_lit ?_
  refine rV 2 ?_
  refine ZE M 24 1 12 ?_
  refine rV 2 ?_
  refine ZP8 M 1 12 (db8 ((fc1 (pd (bt s) 16)) 12) 3) fun u10 M => ?_
  refine pl_nil ?_
  refine au_block ?_
  refine au_then ?_
  refine rg_lit ?_
  refine rV 3 ?_
  refine nT ?_
  refine rounds_go ?_
  refine wp_seq ?_
  refine sq ?_
  refine wp_cond_false (by kernel_rfl) ?_
  refine wp_exit ?_
  refine au_then_exit ?_
  refine au_then_exit ?_
  refine au_block_exit ?_
  refine au_then ?_
  refine sR ?_
  refine pA M 27 1 17 (w8 (fc2 (fc1 (pd (bt s) 16)))) ?_
  refine ZC M 28 (fun w M => c_number (fc2 (fc1 (pd (bt s) 16))) w M.laid) fun u11 M => ?_
  refine ZG M 0 5 (w64 (noF (fc2 (fc1 (pd (bt s) 16))))) fun u12 M => ?_
  refine nT ?_
  refine wp_ret ?_
  exact bc Tryd.results75 M 0 5 (w64 (noF (fc2 (fc1 (pd (bt s) 16))))) ⟨rfl, below_grown M.old⟩

set_option maxRecDepth 100000 in
set_option maxHeartbeats 4000000 in
theorem c_marked (b : Nat → Int) (n : Nat) (hn : n ≤ 16) (gq off cap : Nat) (w : World) (hL : Laid w) (hsrc : ∀ j, j < n → w.cell? ⟨gq, off + j, none⟩ = some (w8 b j)) :
    Calls Tryd.prog 79 #[.slice (some ⟨gq, off, none⟩) n cap] w fun r w' => r = .returned (.agg (av 5 (w64 (noF (mk b n))))) ∧ Below w.heap.size w w' := by
  go_enter Tryd.func79, Tryd.ntmps79
  have M := Mem.start hL
  refine sR ?_
  refine pN M 2 (.cells (av 5 (w64 (fun _ => 0))) 122) fun g1 u1 M => ?_
  refine nT ?_
  refine sR ?_
  refine pN M 3 (.cells (av 17 (w8 (fun _ => 0))) 137) fun g2 u2 M => ?_
  refine nT ?_
  refine sR ?_
  refine rV 2 ?_
  refine pl_copyC M (want_no rfl) (some 6) rfl 26 26 3 5 Tryd.underlying26 inz5 1 g2 17 137 (w8 (fun _ => 0)) rfl gq (w8 b) 0 17 17 off n cap n (Nat.min_eq_left (by omega)).symm (by omega) (fun w M j hj => M.oldc (hsrc j hj) (by simp)) (fun _ => rfl) (w8 (pd b n)) (fun j _ => pd_fn b n j) (fun _ => by kernel_rfl) fun u3 M => ?_
  refine ZX 7 .i64 g2 (n) 17 ?_
  refine ZP8 M 1 n 1 fun u4 M => ?_
  refine nT ?_
  refine sR ?_
  refine pA M 8 1 17 (w8 (mk b n)) ?_
  refine ZC M 9 (fun w M => c_number (mk b n) w M.laid) fun u5 M => ?_
  refine ZG M 0 5 (w64 (noF (mk b n))) fun u6 M => ?_
  refine nT ?_
  refine wp_ret ?_
  exact bc Tryd.results79 M 0 5 (w64 (noF (mk b n))) ⟨rfl, below_grown M.old⟩

/-- The parts, and 0 behind them. -/
def p6 (a : Nat → Int) : Nat → Int := fun i => if i < 5 then a i else 0
theorem p6_fn (a : Nat → Int) (j : Nat) : (if 0 ≤ j ∧ j < 0 + 5 then w64 a (0 + (j - 0)) else w64 (fun _ => 0) j) = w64 (p6 a) j := by
  unfold w64 p6
  by_cases h : j < 5
  · rw [if_pos (by omega), if_pos h, Nat.sub_zero, Nat.zero_add]
  · rw [if_neg (by omega), if_neg h]
def tb (a : Nat → Int) (i : Nat) : Int := cv .u8 (sr (uo (p6 a (8 * i / 26)) (sl (p6 a (8 * i / 26 + 1)) 26)) (8 * i % 26))
def tbs (a : Nat → Int) : Nat → (Nat → Int)
  | 0 => fun _ => 0
  | j + 1 => upd (tbs a j) j (tb a j)
theorem cv8_nn (x : Int) : 0 ≤ cv .u8 x ∧ cv .u8 x < 256 := by
  unfold cv
  simp [IntKind.wrap, IntKind.signed, IntKind.bits]
  omega
theorem tbs_at (a : Nat → Int) : ∀ n, ∀ i, i < n → tbs a n i = tb a i
  | 0, i, h => absurd h (by omega)
  | n + 1, i, h => by
    unfold tbs upd
    by_cases e : i = n
    · rw [if_pos e, e]
    · rw [if_neg e, tbs_at a n i (by omega)]
theorem tbs_map (a : Nat → Int) : (List.range 16).map (tbs a 16) = (List.range 16).map (tb a) := List.map_congr_left fun i hi => tbs_at a 16 i (List.mem_range.1 hi)
theorem tb_nn (a : Nat → Int) : ∀ y ∈ (List.range 16).map (tb a), 0 ≤ y ∧ y < 256 := fun y hy => by
  obtain ⟨i, _, rfl⟩ := List.mem_map.1 hy
  exact cv8_nn _
/-- The lowest sixteen bytes. -/
def txS (a : Nat → Int) : ByteArray := bs ((List.range 16).map (tb (s5 a)))

set_option maxRecDepth 100000 in
set_option maxHeartbeats 4000000 in
theorem c_text (x : Nat → Int) (w : World) (hL : Laid w)  :
    Calls Tryd.prog 82 #[.agg (av 5 (w64 x))] w fun r w' => r = .returned (.string (txS x)) ∧ Below w.heap.size w w' := by
  go_enter Tryd.func82, Tryd.ntmps82
  have M := Mem.start hL
  refine sR ?_
  refine pN M 1 (.cells (av 5 (w64 x)) 122) fun g1 u1 M => ?_
  refine rV 1 ?_
  refine nT ?_
  refine sR ?_
  refine pA M 8 0 5 (w64 x) ?_
  refine ZC M 9 (fun w M => c_settled x w M.laid) fun u2 M => ?_
  refine rV 3 ?_
  refine ZG M 0 5 (w64 (s5 x)) fun u3 M => ?_
  refine nT ?_
  refine sR ?_
  refine pN M 3 (.cells (av 6 (w64 (fun _ => 0))) 143) fun g2 u4 M => ?_
  refine nT ?_
  refine wp_seq ?_
  refine rg_tail M 2 (by kernel_rfl) (by kernel_rfl) ?_
  simp only [List.take_succ_cons, List.take_zero]
  refine kR 2 ?_
  refine kl_nil fun u5 M => ?_
  refine pl_copyB M (want_no rfl) (some 14) rfl 84 84 3 22 Tryd.underlying84 inz22 1 g2 6 143 (w64 (fun _ => 0)) rfl 0 g1 5 122 (w64 (s5 x)) rfl 0 6 6 0 5 5 5 rfl (by decide) (by decide) (fun _ _ => rfl) (w64 (p6 (s5 x))) (fun j _ => p6_fn (s5 x) j) (fun _ => by kernel_rfl) fun u6 M => ?_
  refine nT ?_
  refine sR ?_
  refine pN M 4 (.cells (av 16 (w8 (fun _ => 0))) 144) fun g3 u7 M => ?_
  refine nT ?_
  refine wp_seq ?_
  refine sq ?_
  refine wp_block ?_
  refine au_loop (fun j a w' => ∃ v1 : Nat → Value, a = (fm ([.agg (av 5 (w64 x)), .pointer (some ⟨g1, 0, none⟩), .string ⟨#[]⟩, .pointer (some ⟨g2, 0, none⟩), .pointer (some ⟨g3, 0, none⟩)] ++ vr v1 5 10 ++ [.int .i64 (j : Int)] ++ vr v1 16 24)) ∧ Mem ⟨w, []⟩ [⟨g1, .cells (av 5 (w64 (s5 x))) 122⟩, ⟨g2, .cells (av 6 (w64 (p6 (s5 x)))) 143⟩, ⟨g3, .cells (av 16 (w8 (tbs (s5 x) j))) 144⟩] w') 16 (exS M) ?_ ?_
  · intro j a u0 hj hI
    obtain ⟨v1, rfl, M⟩ := hI
    refine sR ?_
    refine ZT 16 ((j : Int) < 16) ?_
    refine nT ?_
    refine wp_seq ?_
    refine wp_cond_true (by kernel_rfl) ?_
    refine wp_skip ?_
    refine au_then ?_
    refine wp_seq ?_
    refine wp_block ?_
    refine sq ?_
    refine sR ?_
    refine rV 1 ?_
    refine ZI 19 (8 * (j : Int)) ((8 * j : Nat) : Int) ?_
    refine ZQ 20 .i64 (IntKind.wrap .i64 (((8 * j : Nat) : Int).tdiv 26)) (quo26 (8 * j) (by omega)) ?_
    refine rV 1 ?_
    refine nT ?_
    refine rg_tail M 16 (by kernel_rfl) (by kernel_rfl) ?_
    simp only [List.take_succ_cons, List.take_zero]
    refine kR 2 ?_
    refine eX 23 .i64 g2 ((8 * j / 26 : Nat)) 6 ?_
    refine eE M 24 1 ((8 * j / 26 : Nat)) ?_
    refine kR 1 ?_
    refine eI 26 (((8 * j / 26 : Nat) : Int) + 1) ((8 * j / 26 + 1 : Nat) : Int) ?_
    refine eX 27 .i64 g2 ((8 * j / 26 + 1 : Nat)) 6 ?_
    refine eE M 28 1 ((8 * j / 26 + 1 : Nat)) ?_
    refine kR 3 ?_
    refine eI 32 (8 * (j : Int)) ((8 * j : Nat) : Int) ?_
    refine eQ 33 .i64 (Int.tmod ((8 * j : Nat) : Int) 26) (rem26 (8 * j)) ?_
    refine kH 34 (.int .u64 (sr (uo (p6 (s5 x) (8 * j / 26)) (sl (p6 (s5 x) (8 * j / 26 + 1)) 26)) (8 * j % 26))) (run_shrU 22 3 _ _ rfl _ .i64 (8 * j % 26) (by kernel_rfl) (by kernel_rfl) (by omega)) ?_
    refine kR 1 ?_
    refine eX 36 .i64 g3 (j) 16 ?_
    refine kl_nil fun u8 M => ?_
    refine ZP8 M 2 j (cv .u8 (sr (uo (p6 (s5 x) (8 * j / 26)) (sl (p6 (s5 x) (8 * j / 26 + 1)) 26)) (8 * j % 26))) fun u9 M => ?_
    refine pl_nil ?_
    refine au_block ?_
    refine au_then ?_
    refine rg_lit ?_
    refine ZI 37 ((j : Int) + 1) ((j + 1 : Nat) : Int) ?_
    refine rV 1 ?_
    refine nT ?_
    exact exS M
  · intro a u0 hI
    obtain ⟨v1, rfl, M⟩ := hI
    refine sR ?_
    refine ZF 16 (16 < 16) ?_
    refine nT ?_
    refine wp_seq ?_
    refine wp_cond_false (by kernel_rfl) ?_
    refine wp_exit ?_
    refine au_then_exit ?_
    refine au_then_exit ?_
    refine au_block_exit ?_
    refine au_then ?_
    refine sR ?_
    refine rV 1 ?_
    refine pl_back M (want_no rfl) (some 39) rfl _ rfl 2 g3 16 16 (by kernel_rfl) _ rfl ((List.range 16).map (tbs (s5 x) 16)) 16 (sb_av 16 _ _) (by simp) (by rw [tbs_map]; exact tb_nn _) ?_
    rw [tbs_map]
    refine rV 1 ?_
    refine nT ?_
    refine wp_ret ?_
    exact b1 M


end Go.Proofs.YtenafinbaanicaaDoor.Pol
