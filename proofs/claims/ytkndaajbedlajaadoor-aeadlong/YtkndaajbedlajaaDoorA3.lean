/- Eight bytes of a number; bytes 0; sizes: the walks of word, Nonce, sizeFault, and of the document's eight, pad, Nonce. -/
import Derived.Test.YtkndaajbedlajaaDoorA2
import Derived.Test.YtkndaajbedlajaaDoorP11
namespace Go.Proofs.YtkndaajbedlajaaDoor
open Go.RowKit

/-- A byte of a number. -/
def wb (n : Int) (i : Nat) : Int := cv .u8 (sr n (8 * i))
def wbs (n : Int) : Nat → (Nat → Int)
  | 0 => fun _ => 0
  | j + 1 => upd (wbs n j) j (wb n j)
theorem wbs_at (n : Int) : ∀ m, ∀ i, i < m → wbs n m i = wb n i
  | 0, i, h => absurd h (by omega)
  | m + 1, i, h => by
    unfold wbs upd
    by_cases e : i = m
    · rw [if_pos e, e]
    · rw [if_neg e, wbs_at n m i (by omega)]
theorem wbs_map (n : Int) : (List.range 8).map (wbs n 8) = (List.range 8).map (wb n) := List.map_congr_left fun i hi => wbs_at n 8 i (List.mem_range.1 hi)
theorem wb_nn (n : Int) : ∀ y ∈ (List.range 8).map (wb n), 0 ≤ y ∧ y < 256 := fun y hy => by
  obtain ⟨i, _, rfl⟩ := List.mem_map.1 hy
  exact cv8_nn _
/-- A number as eight bytes. -/
def wS (n : Int) : ByteArray := bs ((List.range 8).map (wb n))
theorem wS_size (n : Int) : (wS n).size = 8 := by
  unfold wS
  rw [bs_size]
  simp
/-- Bytes 0. -/
def zB (n : Nat) : ByteArray := bs ((List.range n).map fun _ => 0)
theorem zB_size (n : Nat) : (zB n).size = n := by
  unfold zB
  rw [bs_size]
  simp
theorem z_nn (n : Nat) : ∀ x ∈ (List.range n).map fun _ => (0 : Int), 0 ≤ x ∧ x < 256 := fun x hx => by
  obtain ⟨i, _, rfl⟩ := List.mem_map.1 hx
  decide
theorem z_rep (n : Nat) : List.replicate n (0 : Int) = (List.range n).map fun _ => 0 := by
  apply List.ext_getElem?
  intro i
  by_cases h : i < n
  · simp [h]
  · rw [List.getElem?_eq_none (by simp; omega), List.getElem?_eq_none (by simp; omega)]
theorem rem16 (n : Nat) : Int.tmod (n : Int) 16 = ((n % 16 : Nat) : Int) := by
  rw [Int.tmod_eq_emod_of_nonneg (by omega)]
  omega
/-- The nonce of a number. -/
def nS (n : Int) : ByteArray := zB 4 ++ wS n
theorem nS_size (n : Int) : (nS n).size = 12 := by
  unfold nS
  rw [ByteArray.size_append, zB_size, wS_size]
theorem inz52 : (Tryd.prog.info? 52).map (·.size) = some 8 := by kernel_rfl

set_option maxRecDepth 100000 in
set_option maxHeartbeats 4000000 in
theorem c_word (n : Int) (w : World) (hL : Laid w)  :
    Calls Tryd.prog 20 #[.int .u64 n] w fun r w' => r = .returned (.string (wS n)) ∧ Below w.heap.size w w' := by
  go_enter Tryd.func20, Tryd.ntmps20
  have M := Mem.start hL
  refine wp_seq ?_
  refine rg_lit ?_
  refine pl_val (want_no rfl) (some 2) rfl (.string ⟨#[]⟩) (fun _ => by kernel_rfl) ?_
  refine pl_nil ?_
  refine au_then ?_
  refine wp_seq ?_
  refine rg_lit ?_
  refine pl_new M (want_no rfl) (some 3) rfl (.cells (av 8 (w8 (fun _ => 0))) 52) (fun _ => by kernel_rfl) ?_
  intro g1 u1 M
  replace M : Mem ⟨w, []⟩ [⟨g1, .cells (av 8 (w8 (fun _ => 0))) 52⟩] u1 := M
  refine pl_nil ?_
  refine au_then ?_
  refine wp_seq ?_
  refine wp_seq ?_
  refine rg_lit ?_
  refine pl_val (want_no rfl) (some 5) rfl (.int .i64 0) (fun _ => by kernel_rfl) ?_
  refine pl_nil ?_
  refine au_then ?_
  refine wp_block ?_
  refine au_loop (fun j a w' => ∃ v1 : Nat → Value, a = ⟨#[.int .u64 n, undef, .string ⟨#[]⟩, .pointer (some ⟨g1, 0, none⟩), v1 4, .int .i64 (j : Int), v1 6, v1 7, v1 8, v1 9, v1 10, v1 11, v1 12, v1 13, v1 14, v1 15, undef, undef], []⟩ ∧ Mem ⟨w, []⟩ [⟨g1, .cells (av 8 (w8 (wbs n j))) 52⟩] w') 8 ⟨fun k_ => ([undef, undef, undef, undef, undef, undef, undef, undef, undef, undef, undef, undef] : List Value).getD (k_ - 4) undef, by kernel_rfl, M⟩ ?_ ?_
  · intro j a u0 hj hI
    obtain ⟨v1, rfl, M⟩ := hI
    refine wp_seq ?_
    refine rg_lit ?_
    refine pl_val (want_no rfl) (some 6) rfl (.bool true) (fun w => Eq.trans (b := .ok (.value (.bool (decide ((j : Int) < 8)))) w) (by kernel_rfl) (by rw [decide_eq_true (by omega)])) ?_
    refine pl_nil ?_
    refine au_then ?_
    refine wp_seq ?_
    refine wp_cond_true (by kernel_rfl) ?_
    refine wp_skip ?_
    refine au_then ?_
    refine wp_seq ?_
    refine wp_block ?_
    refine wp_seq ?_
    refine rg_lit ?_
    refine pl_val (want_no rfl) (some 7) rfl (.int .i64 (j : Int)) (fun _ => by kernel_rfl) ?_
    refine pl_val (want_no rfl) (some 4) rfl (.int .i64 (j : Int)) (fun _ => by kernel_rfl) ?_
    refine pl_nil ?_
    refine au_then ?_
    refine rg_lit ?_
    refine pl_val (want_no rfl) (some 8) rfl (.int .i64 (j : Int)) (fun _ => by kernel_rfl) ?_
    refine pl_val (want_no rfl) (some 9) rfl (.int .u64 n) (fun _ => by kernel_rfl) ?_
    refine pl_val (want_no rfl) (some 10) rfl (.int .i64 (j : Int)) (fun _ => by kernel_rfl) ?_
    refine pl_val (want_no rfl) (some 11) rfl (.int .i64 ((8 * j : Nat) : Int)) (fun w => Eq.trans (b := .ok (.value (.int .i64 (IntKind.wrap .i64 (8 * (j : Int))))) w) (by kernel_rfl) (by rw [wrap64 (by omega) (by omega)]; congr 3 <;> omega)) ?_
    refine pl_val (want_no rfl) (some 12) rfl (.int .u64 (sr n (8 * j))) (Pol.run_shrU 22 3 _ _ rfl _ .i64 (8 * j) (by kernel_rfl) (by kernel_rfl) (by omega)) ?_
    refine pl_val (want_no rfl) (some 13) rfl (.int .u8 (cv .u8 (sr n (8 * j)))) (fun _ => by kernel_rfl) ?_
    refine pl_val (want_no rfl) (some 14) rfl (.pointer (some ⟨g1, j, none⟩)) (run_ix1 52 8 5 Tryd.underlying52 inz5 _ _ rfl g1 (by kernel_rfl) .i64 (j) (by kernel_rfl) (by omega)) ?_
    refine pl_put1 M (want_no rfl) rfl 5 _ _ rfl 0 g1 j (by kernel_rfl) 8 52 (w8 (wbs n j)) rfl (.int .u8 (cv .u8 (sr n (8 * j)))) (w8 (upd (wbs n j) j (cv .u8 (sr n (8 * j))))) (by kernel_rfl) inz5 (by omega) rfl rfl (fun j _ => put_w8 _ _ _ j) ?_
    intro u2 M
    replace M : Mem ⟨w, []⟩ [⟨g1, .cells (av 8 (w8 (upd (wbs n j) j (cv .u8 (sr n (8 * j)))))) 52⟩] u2 := M
    refine pl_nil ?_
    refine au_block ?_
    refine au_then ?_
    refine rg_lit ?_
    refine pl_val (want_no rfl) (some 15) rfl (.int .i64 ((j + 1 : Nat) : Int)) (fun w => Eq.trans (b := .ok (.value (.int .i64 (IntKind.wrap .i64 ((j : Int) + 1)))) w) (by kernel_rfl) (by rw [wrap64 (by omega) (by omega)]; congr 3)) ?_
    refine pl_val (want_no rfl) (some 5) rfl (.int .i64 ((j + 1 : Nat) : Int)) (fun _ => by kernel_rfl) ?_
    refine pl_nil ?_
    refine au_then ?_
    exact ⟨fun k_ => ([.int .i64 (j : Int), undef, .bool true, .int .i64 (j : Int), .int .i64 (j : Int), .int .u64 n, .int .i64 (j : Int), .int .i64 ((8 * j : Nat) : Int), .int .u64 (sr n (8 * j)), .int .u8 (cv .u8 (sr n (8 * j))), .pointer (some ⟨g1, j, none⟩), .int .i64 ((j + 1 : Nat) : Int)] : List Value).getD (k_ - 4) undef, by kernel_rfl, M⟩
  · intro a u0 hI
    obtain ⟨v1, rfl, M⟩ := hI
    refine wp_seq ?_
    refine rg_lit ?_
    refine pl_val (want_no rfl) (some 6) rfl (.bool false) (fun w => Eq.trans (b := .ok (.value (.bool (decide (8 < 8)))) w) (by kernel_rfl) (by rw [decide_eq_false (by omega)])) ?_
    refine pl_nil ?_
    refine au_then ?_
    refine wp_seq ?_
    refine wp_cond_false (by kernel_rfl) ?_
    refine wp_exit ?_
    refine au_then_exit ?_
    refine au_then_exit ?_
    refine au_block_exit ?_
    refine au_then ?_
    refine wp_seq ?_
    refine rg_lit ?_
    refine pl_val (want_no rfl) (some 16) rfl (.slice (some ⟨g1, 0, none⟩) 8 8) (fun _ => by kernel_rfl) ?_
    refine pl_back M (want_no rfl) (some 17) rfl _ rfl 0 g1 8 8 (by kernel_rfl) _ rfl ((List.range 8).map (wbs n 8)) 8 (sb_av 8 _ _) (by simp) (by rw [wbs_map]; exact wb_nn _) ?_
    rw [wbs_map]
    refine pl_val (want_no rfl) (some 2) rfl (.string (wS n)) (fun _ => by kernel_rfl) ?_
    refine pl_nil ?_
    refine au_then ?_
    refine wp_ret ?_
    exact bodyPost_ret (v := .string (wS n)) (results_tmp1 Tryd.results20 _ _ _ (by kernel_rfl)) (by kernel_rfl) ⟨rfl, below_grown M.old⟩

set_option maxRecDepth 100000 in
set_option maxHeartbeats 4000000 in
theorem d_eight (n : Int) (w : World) (hL : Laid w)  :
    Calls Tryd.prog 21 #[.int .u64 n] w fun r w' => r = .returned (.string (wS n)) ∧ Below w.heap.size w w' := by
  go_enter Tryd.func21, Tryd.ntmps21
  have M := Mem.start hL
  refine wp_seq ?_
  refine rg_lit ?_
  refine pl_val (want_no rfl) (some 2) rfl (.string ⟨#[]⟩) (fun _ => by kernel_rfl) ?_
  refine pl_nil ?_
  refine au_then ?_
  refine wp_seq ?_
  refine rg_lit ?_
  refine pl_mk M (want_no rfl) (some 5) rfl (fun g1 => .slice (some ⟨g1, 0, none⟩) 8 8) (.cells (av 8 (w8 (fun _ => 0))) 5) (fun _ => by kernel_rfl) ?_
  intro g1 u1 M
  replace M : Mem ⟨w, []⟩ [⟨g1, .cells (av 8 (w8 (fun _ => 0))) 5⟩] u1 := M
  refine pl_val (want_no rfl) (some 3) rfl (.slice (some ⟨g1, 0, none⟩) 8 8) (fun _ => by kernel_rfl) ?_
  refine pl_nil ?_
  refine au_then ?_
  refine wp_seq ?_
  refine wp_seq ?_
  refine rg_lit ?_
  refine pl_val (want_no rfl) (some 4) rfl (.int .i64 0) (fun _ => by kernel_rfl) ?_
  refine pl_nil ?_
  refine au_then ?_
  refine wp_block ?_
  refine au_loop (fun j a w' => ∃ v1 : Nat → Value, a = ⟨#[.int .u64 n, undef, .string ⟨#[]⟩, .slice (some ⟨g1, 0, none⟩) 8 8, .int .i64 (j : Int), .slice (some ⟨g1, 0, none⟩) 8 8, v1 6, v1 7, v1 8, v1 9, v1 10, v1 11, v1 12, v1 13, v1 14, v1 15, v1 16, v1 17, v1 18, undef, undef], []⟩ ∧ Mem ⟨w, []⟩ [⟨g1, .cells (av 8 (w8 (wbs n j))) 5⟩] w') 8 ⟨fun k_ => ([undef, undef, undef, undef, undef, undef, undef, undef, undef, undef, undef, undef, undef] : List Value).getD (k_ - 6) undef, by kernel_rfl, M⟩ ?_ ?_
  · intro j a u0 hj hI
    obtain ⟨v1, rfl, M⟩ := hI
    refine wp_seq ?_
    refine wp_seq ?_
    refine rg_lit ?_
    refine pl_val (want_no rfl) (some 6) rfl (.int .i64 (j : Int)) (fun _ => by kernel_rfl) ?_
    refine pl_val (want_no rfl) (some 7) rfl (.bool true) (fun w => Eq.trans (b := .ok (.value (.bool (decide ((j : Int) < 8)))) w) (by kernel_rfl) (by rw [decide_eq_true (by omega)])) ?_
    refine pl_nil ?_
    refine au_then ?_
    refine wp_cond_true (by kernel_rfl) ?_
    refine wp_skip ?_
    refine au_then ?_
    refine wp_seq ?_
    refine wp_block ?_
    refine rg_lit ?_
    refine pl_val (want_no rfl) (some 10) rfl (.slice (some ⟨g1, 0, none⟩) 8 8) (fun _ => by kernel_rfl) ?_
    refine pl_val (want_no rfl) (some 11) rfl (.int .i64 (j : Int)) (fun _ => by kernel_rfl) ?_
    refine pl_val (want_no rfl) (some 12) rfl (.int .u64 n) (fun _ => by kernel_rfl) ?_
    refine pl_val (want_no rfl) (some 13) rfl (.int .i64 (j : Int)) (fun _ => by kernel_rfl) ?_
    refine pl_val (want_no rfl) (some 14) rfl (.int .i64 ((8 * j : Nat) : Int)) (fun w => Eq.trans (b := .ok (.value (.int .i64 (IntKind.wrap .i64 (8 * (j : Int))))) w) (by kernel_rfl) (by rw [wrap64 (by omega) (by omega)]; congr 3 <;> omega)) ?_
    refine pl_val (want_no rfl) (some 15) rfl (.int .u64 ((8 * j : Nat) : Int)) (fun w => Eq.trans (b := .ok (.value (.int .u64 (cv .u64 ((8 * j : Nat) : Int)))) w) (by kernel_rfl) (by rw [cvu64 _ (by omega)])) ?_
    refine pl_val (want_no rfl) (some 16) rfl (.int .u64 (sr n (8 * j))) (Pol.run_shrU 22 53 _ _ rfl _ .u64 (8 * j) (by kernel_rfl) (by kernel_rfl) (by omega)) ?_
    refine pl_val (want_no rfl) (some 17) rfl (.int .u8 (cv .u8 (sr n (8 * j)))) (fun _ => by kernel_rfl) ?_
    refine pl_val (want_no rfl) (some 18) rfl (.pointer (some ⟨g1, j, none⟩)) (run_ix0 32 5 Tryd.underlying32 inz5 _ _ rfl g1 8 8 (by kernel_rfl) .i64 j (by kernel_rfl) (by omega)) ?_
    refine pl_put1 M (want_no rfl) rfl 5 _ _ rfl 0 g1 j (by kernel_rfl) 8 5 (w8 (wbs n j)) rfl (.int .u8 (cv .u8 (sr n (8 * j)))) (w8 (upd (wbs n j) j (cv .u8 (sr n (8 * j))))) (by kernel_rfl) inz5 (by omega) rfl rfl (fun j _ => put_w8 _ _ _ j) ?_
    intro u2 M
    replace M : Mem ⟨w, []⟩ [⟨g1, .cells (av 8 (w8 (upd (wbs n j) j (cv .u8 (sr n (8 * j)))))) 5⟩] u2 := M
    refine pl_nil ?_
    refine au_block ?_
    refine au_then ?_
    refine rg_lit ?_
    refine pl_val (want_no rfl) (some 8) rfl (.int .i64 (j : Int)) (fun _ => by kernel_rfl) ?_
    refine pl_val (want_no rfl) (some 9) rfl (.int .i64 ((j + 1 : Nat) : Int)) (fun w => Eq.trans (b := .ok (.value (.int .i64 (IntKind.wrap .i64 ((j : Int) + 1)))) w) (by kernel_rfl) (by rw [wrap64 (by omega) (by omega)]; congr 3)) ?_
    refine pl_val (want_no rfl) (some 4) rfl (.int .i64 ((j + 1 : Nat) : Int)) (fun _ => by kernel_rfl) ?_
    refine pl_nil ?_
    refine au_then ?_
    exact ⟨fun k_ => ([.int .i64 (j : Int), .bool true, .int .i64 (j : Int), .int .i64 ((j + 1 : Nat) : Int), .slice (some ⟨g1, 0, none⟩) 8 8, .int .i64 (j : Int), .int .u64 n, .int .i64 (j : Int), .int .i64 ((8 * j : Nat) : Int), .int .u64 ((8 * j : Nat) : Int), .int .u64 (sr n (8 * j)), .int .u8 (cv .u8 (sr n (8 * j))), .pointer (some ⟨g1, j, none⟩)] : List Value).getD (k_ - 6) undef, by kernel_rfl, M⟩
  · intro a u0 hI
    obtain ⟨v1, rfl, M⟩ := hI
    refine wp_seq ?_
    refine wp_seq ?_
    refine rg_lit ?_
    refine pl_val (want_no rfl) (some 6) rfl (.int .i64 (8 : Int)) (fun _ => by kernel_rfl) ?_
    refine pl_val (want_no rfl) (some 7) rfl (.bool false) (fun w => Eq.trans (b := .ok (.value (.bool (decide (8 < 8)))) w) (by kernel_rfl) (by rw [decide_eq_false (by omega)])) ?_
    refine pl_nil ?_
    refine au_then ?_
    refine wp_cond_false (by kernel_rfl) ?_
    refine wp_exit ?_
    refine au_then_exit ?_
    refine au_then_exit ?_
    refine au_block_exit ?_
    refine au_then ?_
    refine wp_seq ?_
    refine rg_lit ?_
    refine pl_val (want_no rfl) (some 19) rfl (.slice (some ⟨g1, 0, none⟩) 8 8) (fun _ => by kernel_rfl) ?_
    refine pl_back M (want_no rfl) (some 20) rfl _ rfl 0 g1 8 8 (by kernel_rfl) _ rfl ((List.range 8).map (wbs n 8)) 8 (sb_av 8 _ _) (by simp) (by rw [wbs_map]; exact wb_nn _) ?_
    rw [wbs_map]
    refine pl_val (want_no rfl) (some 2) rfl (.string (wS n)) (fun _ => by kernel_rfl) ?_
    refine pl_nil ?_
    refine au_then ?_
    refine wp_ret ?_
    exact bodyPost_ret (v := .string (wS n)) (results_tmp1 Tryd.results21 _ _ _ (by kernel_rfl)) (by kernel_rfl) ⟨rfl, below_grown M.old⟩

/-- So many bytes 0 that a text has a multiple of 16. -/
def pn (m : Nat) : Nat := (16 - m % 16) % 16
theorem pn_lt (m : Nat) : pn m < 16 := Nat.mod_lt _ (by decide)
theorem pn_sum (m : Nat) : (m + pn m) % 16 = 0 := by
  unfold pn
  omega
set_option maxRecDepth 100000 in
set_option maxHeartbeats 4000000 in
theorem d_pad (s : ByteArray) (w : World) (hL : Laid w)  :
    Calls Tryd.prog 31 #[.string s] w fun r w' => r = .returned (.string (zB (pn s.size))) ∧ Below w.heap.size w w' := by
  go_enter Tryd.func31, Tryd.ntmps31
  have M := Mem.start hL
  refine wp_seq ?_
  refine rg_lit ?_
  refine pl_val (want_no rfl) (some 2) rfl (.string ⟨#[]⟩) (fun _ => by kernel_rfl) ?_
  refine pl_nil ?_
  refine au_then ?_
  refine wp_seq ?_
  refine rg_lit ?_
  refine pl_val (want_no rfl) (some 3) rfl (.string s) (fun _ => by kernel_rfl) ?_
  refine pl_val (want_no rfl) (some 4) rfl (.int .i64 (s.size : Int)) (fun _ => by kernel_rfl) ?_
  refine pl_val (want_no rfl) (some 5) rfl (.int .i64 ((s.size % 16 : Nat) : Int)) (fun w => Eq.trans (b := .ok (.value (.int .i64 (Int.tmod ((s.size : Nat) : Int) 16))) w) (by kernel_rfl) (by rw [rem16 (s.size)])) ?_
  refine pl_val (want_no rfl) (some 6) rfl (.int .i64 ((16 - s.size % 16 : Nat) : Int)) (fun w => Eq.trans (b := .ok (.value (.int .i64 (IntKind.wrap .i64 (16 - ((s.size % 16 : Nat) : Int))))) w) (by kernel_rfl) (by rw [wrap64 (by omega) (by omega)]; congr 3 <;> omega)) ?_
  refine pl_val (want_no rfl) (some 7) rfl (.int .i64 ((pn s.size : Nat) : Int)) (fun w => Eq.trans (b := .ok (.value (.int .i64 (Int.tmod ((16 - s.size % 16 : Nat) : Int) 16))) w) (by kernel_rfl) (by rw [rem16]; rfl)) ?_
  obtain ⟨i0, hi0, hz0, hz1, hz2⟩ := info_parts repExtra.infoByte
  have hpn := pn_lt s.size
  refine pl_makeZ M (want_no rfl) (some 8) rfl 32 5 i0 Tryd.underlying32 hi0 hz0 hz1 (by omega) _ _ rfl .i64 .i64 (pn s.size) (by kernel_rfl) (by kernel_rfl) (by omega) ?_
  intro g1 Z9 u1 hZ9 M
  replace M : Mem ⟨w, []⟩ [⟨g1, Z9⟩] u1 := M
  rw [z_rep] at hZ9
  refine pl_back M (want_no rfl) (some 9) rfl _ rfl 0 g1 (pn s.size) (pn s.size) (by kernel_rfl) _ rfl ((List.range (pn s.size)).map fun _ => 0) _ hZ9 (by simp) (z_nn _) ?_
  refine pl_val (want_no rfl) (some 2) rfl (.string (zB (pn s.size))) (fun _ => by kernel_rfl) ?_
  refine pl_nil ?_
  refine au_then ?_
  refine wp_ret ?_
  exact bodyPost_ret (v := .string (zB (pn s.size))) (results_tmp1 Tryd.results31 _ _ _ (by kernel_rfl)) (by kernel_rfl) ⟨rfl, below_grown M.old⟩

section
variable {P : Program} {ops : Array Oper} {o o2 : Oper} {a : Act} {w : World} {Q : Exit → Act → World → Prop} {S : World → Prop} {n fuel : Nat} {listed : Array Bool}
/-- Number i or number j may come up. -/
theorem hl_two (i j : Nat) (hin : i < n) (hjn : j < n) (hr : Region.ready .any ops listed = [i, j]) (hi : ops.toList[i]? = some o) (hj : ops.toList[j]? = some o2)
    (h : PL P ops (Exit.then (fun a' w' => S w' ∧ HL P ops Q S n fuel (listed.setIfInBounds i true) a' w') Q) [o] a w)
    (h2 : PL P ops (Exit.then (fun a' w' => S w' ∧ HL P ops Q S n fuel (listed.setIfInBounds j true) a' w') Q) [o2] a w) : HL P ops Q S n (fuel + 1) listed a w := by
  refine ⟨fun hQ hB inv => ⟨fun h0 => (by rw [hr] at h0; cases h0), fun m hm => ?_⟩⟩
  have hm' := hm
  rw [hr] at hm
  rcases List.mem_cons.1 hm with rfl | hm
  · exact wpOp_mono (fun a' w' h3 => ⟨fun _ => h3.1, h3.2.out hQ hB (inv.set hm' hin)⟩) (wpOp_one (by rw [← Array.getElem?_toList]; exact hi) h.out)
  · obtain rfl := List.mem_singleton.1 hm
    exact wpOp_mono (fun a' w' h3 => ⟨fun _ => h3.1, h3.2.out hQ hB (inv.set hm' hjn)⟩) (wpOp_one (by rw [← Array.getElem?_toList]; exact hj) h2.out)
end

set_option maxRecDepth 100000 in
set_option maxHeartbeats 4000000 in
theorem c_Nonce (n : Int) (w : World) (hL : Laid w)  :
    Calls Tryd.prog 11 #[.int .u64 n] w fun r w' => r = .returned (.string (nS n)) ∧ Below w.heap.size w w' := by
  go_enter Tryd.func11, Tryd.ntmps11
  have M := Mem.start hL
  refine wp_seq ?_
  refine rg_lit ?_
  refine pl_val (want_no rfl) (some 2) rfl (.string ⟨#[]⟩) (fun _ => by kernel_rfl) ?_
  refine pl_nil ?_
  refine au_then ?_
  refine wp_seq ?_
  refine rg_held M [] 5 rfl (by kernel_rfl) (by kernel_rfl) (fun _ _ d _ _ h => by cases d <;> exact h) ?_
  intro u1 M
  replace M : Mem ⟨w, []⟩ [] u1 := M
  refine hl_val M 2 rfl (by decide) (by kernel_rfl) (by kernel_rfl) (want_no rfl) (some 5) rfl (.int .u64 n) (fun _ _ => by kernel_rfl) ?_
  refine hl_two 0 3 (by decide) (by decide) (by kernel_rfl) rfl rfl ?_ ?_
  · skip
    refine pl_mk M (want_no rfl) (some 3) rfl (fun g1 => .slice (some ⟨g1, 0, none⟩) 4 4) (.cells (av 4 (w8 (fun _ => 0))) 5) (fun _ => by kernel_rfl) ?_
    intro g1 u2 M
    replace M : Mem ⟨w, []⟩ [⟨g1, .cells (av 4 (w8 (fun _ => 0))) 5⟩] u2 := M
    refine pl_nil ?_
    refine au_then ?_
    refine ⟨(M.drop (.cons _ (.slnil))), ?_⟩
    refine hl_two 1 3 (by decide) (by decide) (by kernel_rfl) rfl rfl ?_ ?_
    · skip
      refine pl_back M (want_no rfl) (some 4) rfl _ rfl 0 g1 4 4 (by kernel_rfl) _ rfl ((List.range 4).map fun _ => 0) 4 (sb_av 4 _ _) (by simp) (z_nn _) ?_
      refine pl_nil ?_
      refine au_then ?_
      refine ⟨(M.drop (.cons _ (.slnil))), ?_⟩
      refine hl_one 3 (by decide) (by kernel_rfl) rfl ?_
      refine pl_call M (want_no rfl) (some 6) rfl 20 #[.int .u64 n] (.string (wS n)) (fun _ => by kernel_rfl) (fun w M => c_word n w M.laid) ?_
      intro u3 M
      refine pl_nil ?_
      refine au_then ?_
      refine ⟨(M.drop (.cons _ (.slnil))), ?_⟩
      refine hl_val (M.drop (.cons _ (.slnil))) 4 rfl (by decide) (by kernel_rfl) (by kernel_rfl) (want_no rfl) (some 7) rfl (.string (nS n)) (fun w _ => (run_cat 9 9 _ _ rfl (zB 4) (wS n) (by kernel_rfl) (by kernel_rfl) (by rw [zB_size, wS_size]; decide)) w) ?_
      refine hl_end (by kernel_rfl) (by kernel_rfl) rfl ?_
      refine pl_val (want_no rfl) (some 2) rfl (.string (nS n)) (fun _ => by kernel_rfl) ?_
      refine pl_nil ?_
      refine au_then ?_
      refine au_then ?_
      refine wp_ret ?_
      exact bodyPost_ret (v := .string (nS n)) (results_tmp1 Tryd.results11 _ _ _ (by kernel_rfl)) (by kernel_rfl) ⟨rfl, below_grown M.old⟩
    · skip
      refine pl_call M (want_no rfl) (some 6) rfl 20 #[.int .u64 n] (.string (wS n)) (fun _ => by kernel_rfl) (fun w M => c_word n w M.laid) ?_
      intro u4 M
      refine pl_nil ?_
      refine au_then ?_
      refine ⟨(M.drop (.cons _ (.slnil))), ?_⟩
      refine hl_one 1 (by decide) (by kernel_rfl) rfl ?_
      refine pl_back M (want_no rfl) (some 4) rfl _ rfl 0 g1 4 4 (by kernel_rfl) _ rfl ((List.range 4).map fun _ => 0) 4 (sb_av 4 _ _) (by simp) (z_nn _) ?_
      refine pl_nil ?_
      refine au_then ?_
      refine ⟨(M.drop (.cons _ (.slnil))), ?_⟩
      refine hl_val (M.drop (.cons _ (.slnil))) 4 rfl (by decide) (by kernel_rfl) (by kernel_rfl) (want_no rfl) (some 7) rfl (.string (nS n)) (fun w _ => (run_cat 9 9 _ _ rfl (zB 4) (wS n) (by kernel_rfl) (by kernel_rfl) (by rw [zB_size, wS_size]; decide)) w) ?_
      refine hl_end (by kernel_rfl) (by kernel_rfl) rfl ?_
      refine pl_val (want_no rfl) (some 2) rfl (.string (nS n)) (fun _ => by kernel_rfl) ?_
      refine pl_nil ?_
      refine au_then ?_
      refine au_then ?_
      refine wp_ret ?_
      exact bodyPost_ret (v := .string (nS n)) (results_tmp1 Tryd.results11 _ _ _ (by kernel_rfl)) (by kernel_rfl) ⟨rfl, below_grown M.old⟩
  · skip
    refine pl_call M (want_no rfl) (some 6) rfl 20 #[.int .u64 n] (.string (wS n)) (fun _ => by kernel_rfl) (fun w M => c_word n w M.laid) ?_
    intro u5 M
    refine pl_nil ?_
    refine au_then ?_
    refine ⟨M, ?_⟩
    refine hl_one 0 (by decide) (by kernel_rfl) rfl ?_
    refine pl_mk M (want_no rfl) (some 3) rfl (fun g2 => .slice (some ⟨g2, 0, none⟩) 4 4) (.cells (av 4 (w8 (fun _ => 0))) 5) (fun _ => by kernel_rfl) ?_
    intro g2 u6 M
    replace M : Mem ⟨w, []⟩ [⟨g2, .cells (av 4 (w8 (fun _ => 0))) 5⟩] u6 := M
    refine pl_nil ?_
    refine au_then ?_
    refine ⟨(M.drop (.cons _ (.slnil))), ?_⟩
    refine hl_one 1 (by decide) (by kernel_rfl) rfl ?_
    refine pl_back M (want_no rfl) (some 4) rfl _ rfl 0 g2 4 4 (by kernel_rfl) _ rfl ((List.range 4).map fun _ => 0) 4 (sb_av 4 _ _) (by simp) (z_nn _) ?_
    refine pl_nil ?_
    refine au_then ?_
    refine ⟨(M.drop (.cons _ (.slnil))), ?_⟩
    refine hl_val (M.drop (.cons _ (.slnil))) 4 rfl (by decide) (by kernel_rfl) (by kernel_rfl) (want_no rfl) (some 7) rfl (.string (nS n)) (fun w _ => (run_cat 9 9 _ _ rfl (zB 4) (wS n) (by kernel_rfl) (by kernel_rfl) (by rw [zB_size, wS_size]; decide)) w) ?_
    refine hl_end (by kernel_rfl) (by kernel_rfl) rfl ?_
    refine pl_val (want_no rfl) (some 2) rfl (.string (nS n)) (fun _ => by kernel_rfl) ?_
    refine pl_nil ?_
    refine au_then ?_
    refine au_then ?_
    refine wp_ret ?_
    exact bodyPost_ret (v := .string (nS n)) (results_tmp1 Tryd.results11 _ _ _ (by kernel_rfl)) (by kernel_rfl) ⟨rfl, below_grown M.old⟩

set_option maxRecDepth 100000 in
set_option maxHeartbeats 4000000 in
theorem d_Nonce (n : Int) (w : World) (hL : Laid w)  :
    Calls Tryd.prog 12 #[.int .u64 n] w fun r w' => r = .returned (.string (nS n)) ∧ Below w.heap.size w w' := by
  go_enter Tryd.func12, Tryd.ntmps12
  have M := Mem.start hL
  refine wp_seq ?_
  refine rg_lit ?_
  refine pl_val (want_no rfl) (some 2) rfl (.string ⟨#[]⟩) (fun _ => by kernel_rfl) ?_
  refine pl_nil ?_
  refine au_then ?_
  refine wp_seq ?_
  refine rg_held M [] 5 rfl (by kernel_rfl) (by kernel_rfl) (fun _ _ d _ _ h => by cases d <;> exact h) ?_
  intro u1 M
  replace M : Mem ⟨w, []⟩ [] u1 := M
  refine hl_val M 2 rfl (by decide) (by kernel_rfl) (by kernel_rfl) (want_no rfl) (some 5) rfl (.int .u64 n) (fun _ _ => by kernel_rfl) ?_
  refine hl_two 0 3 (by decide) (by decide) (by kernel_rfl) rfl rfl ?_ ?_
  · skip
    refine pl_mk M (want_no rfl) (some 3) rfl (fun g1 => .slice (some ⟨g1, 0, none⟩) 4 4) (.cells (av 4 (w8 (fun _ => 0))) 5) (fun _ => by kernel_rfl) ?_
    intro g1 u2 M
    replace M : Mem ⟨w, []⟩ [⟨g1, .cells (av 4 (w8 (fun _ => 0))) 5⟩] u2 := M
    refine pl_nil ?_
    refine au_then ?_
    refine ⟨(M.drop (.cons _ (.slnil))), ?_⟩
    refine hl_two 1 3 (by decide) (by decide) (by kernel_rfl) rfl rfl ?_ ?_
    · skip
      refine pl_back M (want_no rfl) (some 4) rfl _ rfl 0 g1 4 4 (by kernel_rfl) _ rfl ((List.range 4).map fun _ => 0) 4 (sb_av 4 _ _) (by simp) (z_nn _) ?_
      refine pl_nil ?_
      refine au_then ?_
      refine ⟨(M.drop (.cons _ (.slnil))), ?_⟩
      refine hl_one 3 (by decide) (by kernel_rfl) rfl ?_
      refine pl_call M (want_no rfl) (some 6) rfl 21 #[.int .u64 n] (.string (wS n)) (fun _ => by kernel_rfl) (fun w M => d_eight n w M.laid) ?_
      intro u3 M
      refine pl_nil ?_
      refine au_then ?_
      refine ⟨(M.drop (.cons _ (.slnil))), ?_⟩
      refine hl_val (M.drop (.cons _ (.slnil))) 4 rfl (by decide) (by kernel_rfl) (by kernel_rfl) (want_no rfl) (some 7) rfl (.string (nS n)) (fun w _ => (run_cat 9 9 _ _ rfl (zB 4) (wS n) (by kernel_rfl) (by kernel_rfl) (by rw [zB_size, wS_size]; decide)) w) ?_
      refine hl_end (by kernel_rfl) (by kernel_rfl) rfl ?_
      refine pl_val (want_no rfl) (some 2) rfl (.string (nS n)) (fun _ => by kernel_rfl) ?_
      refine pl_nil ?_
      refine au_then ?_
      refine au_then ?_
      refine wp_ret ?_
      exact bodyPost_ret (v := .string (nS n)) (results_tmp1 Tryd.results12 _ _ _ (by kernel_rfl)) (by kernel_rfl) ⟨rfl, below_grown M.old⟩
    · skip
      refine pl_call M (want_no rfl) (some 6) rfl 21 #[.int .u64 n] (.string (wS n)) (fun _ => by kernel_rfl) (fun w M => d_eight n w M.laid) ?_
      intro u4 M
      refine pl_nil ?_
      refine au_then ?_
      refine ⟨(M.drop (.cons _ (.slnil))), ?_⟩
      refine hl_one 1 (by decide) (by kernel_rfl) rfl ?_
      refine pl_back M (want_no rfl) (some 4) rfl _ rfl 0 g1 4 4 (by kernel_rfl) _ rfl ((List.range 4).map fun _ => 0) 4 (sb_av 4 _ _) (by simp) (z_nn _) ?_
      refine pl_nil ?_
      refine au_then ?_
      refine ⟨(M.drop (.cons _ (.slnil))), ?_⟩
      refine hl_val (M.drop (.cons _ (.slnil))) 4 rfl (by decide) (by kernel_rfl) (by kernel_rfl) (want_no rfl) (some 7) rfl (.string (nS n)) (fun w _ => (run_cat 9 9 _ _ rfl (zB 4) (wS n) (by kernel_rfl) (by kernel_rfl) (by rw [zB_size, wS_size]; decide)) w) ?_
      refine hl_end (by kernel_rfl) (by kernel_rfl) rfl ?_
      refine pl_val (want_no rfl) (some 2) rfl (.string (nS n)) (fun _ => by kernel_rfl) ?_
      refine pl_nil ?_
      refine au_then ?_
      refine au_then ?_
      refine wp_ret ?_
      exact bodyPost_ret (v := .string (nS n)) (results_tmp1 Tryd.results12 _ _ _ (by kernel_rfl)) (by kernel_rfl) ⟨rfl, below_grown M.old⟩
  · skip
    refine pl_call M (want_no rfl) (some 6) rfl 21 #[.int .u64 n] (.string (wS n)) (fun _ => by kernel_rfl) (fun w M => d_eight n w M.laid) ?_
    intro u5 M
    refine pl_nil ?_
    refine au_then ?_
    refine ⟨M, ?_⟩
    refine hl_one 0 (by decide) (by kernel_rfl) rfl ?_
    refine pl_mk M (want_no rfl) (some 3) rfl (fun g2 => .slice (some ⟨g2, 0, none⟩) 4 4) (.cells (av 4 (w8 (fun _ => 0))) 5) (fun _ => by kernel_rfl) ?_
    intro g2 u6 M
    replace M : Mem ⟨w, []⟩ [⟨g2, .cells (av 4 (w8 (fun _ => 0))) 5⟩] u6 := M
    refine pl_nil ?_
    refine au_then ?_
    refine ⟨(M.drop (.cons _ (.slnil))), ?_⟩
    refine hl_one 1 (by decide) (by kernel_rfl) rfl ?_
    refine pl_back M (want_no rfl) (some 4) rfl _ rfl 0 g2 4 4 (by kernel_rfl) _ rfl ((List.range 4).map fun _ => 0) 4 (sb_av 4 _ _) (by simp) (z_nn _) ?_
    refine pl_nil ?_
    refine au_then ?_
    refine ⟨(M.drop (.cons _ (.slnil))), ?_⟩
    refine hl_val (M.drop (.cons _ (.slnil))) 4 rfl (by decide) (by kernel_rfl) (by kernel_rfl) (want_no rfl) (some 7) rfl (.string (nS n)) (fun w _ => (run_cat 9 9 _ _ rfl (zB 4) (wS n) (by kernel_rfl) (by kernel_rfl) (by rw [zB_size, wS_size]; decide)) w) ?_
    refine hl_end (by kernel_rfl) (by kernel_rfl) rfl ?_
    refine pl_val (want_no rfl) (some 2) rfl (.string (nS n)) (fun _ => by kernel_rfl) ?_
    refine pl_nil ?_
    refine au_then ?_
    refine au_then ?_
    refine wp_ret ?_
    exact bodyPost_ret (v := .string (nS n)) (results_tmp1 Tryd.results12 _ _ _ (by kernel_rfl)) (by kernel_rfl) ⟨rfl, below_grown M.old⟩

set_option maxRecDepth 100000 in
set_option maxHeartbeats 4000000 in
theorem sfA (key nonce ad s : ByteArray) (m : Nat) (_hm : m ≤ 16) (h : key.size ≠ 32) (w : World) (hL : Laid w)  :
    Calls Tryd.prog 13 #[.string key, .string nonce, .string ad, .string s, .int .i64 (m : Int)] w fun r w' => r = .returned (.int .i64 2) ∧ Below w.heap.size w w' := by
  go_enter Tryd.func13, Tryd.ntmps13
  have M := Mem.start hL
  refine wp_seq ?_
  refine rg_lit ?_
  refine pl_val (want_no rfl) (some 10) rfl (.int .i64 0) (fun _ => by kernel_rfl) ?_
  refine pl_nil ?_
  refine au_then ?_
  refine wp_seq ?_
  refine wp_block ?_
  refine wp_seq ?_
  refine wp_seq ?_
  refine rg_lit ?_
  refine pl_val (want_no rfl) (some 12) rfl (.string key) (fun _ => by kernel_rfl) ?_
  refine pl_val (want_no rfl) (some 13) rfl (.int .i64 (key.size : Int)) (fun _ => by kernel_rfl) ?_
  refine pl_val (want_no rfl) (some 14) rfl (.bool true) (fun w => Eq.trans (b := .ok (.value (.bool (!(decide ((key.size : Int) = 32))))) w) (by kernel_rfl) (by rw [decide_eq_false (by omega)]; rfl)) ?_
  refine pl_val (want_no rfl) (some 11) rfl (.bool true) (fun _ => by kernel_rfl) ?_
  refine pl_nil ?_
  refine au_then ?_
  refine wp_cond_true (by kernel_rfl) ?_
  refine wp_skip ?_
  refine au_then ?_
  refine wp_cond_true (by kernel_rfl) ?_
  refine wp_seq ?_
  refine rg_lit ?_
  refine pl_val (want_no rfl) (some 10) rfl (.int .i64 2) (fun _ => by kernel_rfl) ?_
  refine pl_nil ?_
  refine au_then ?_
  refine wp_ret ?_
  refine au_block_ret ?_
  refine au_then_ret ?_
  exact bodyPost_ret (v := .int .i64 2) (results_tmp1 Tryd.results13 _ _ _ (by kernel_rfl)) (by kernel_rfl) ⟨rfl, below_grown M.old⟩

set_option maxRecDepth 100000 in
set_option maxHeartbeats 4000000 in
theorem sfB (key nonce ad s : ByteArray) (m : Nat) (_hm : m ≤ 16) (h : key.size = 32) (h2 : nonce.size ≠ 12) (w : World) (hL : Laid w)  :
    Calls Tryd.prog 13 #[.string key, .string nonce, .string ad, .string s, .int .i64 (m : Int)] w fun r w' => r = .returned (.int .i64 2) ∧ Below w.heap.size w w' := by
  go_enter Tryd.func13, Tryd.ntmps13
  have M := Mem.start hL
  refine wp_seq ?_
  refine rg_lit ?_
  refine pl_val (want_no rfl) (some 10) rfl (.int .i64 0) (fun _ => by kernel_rfl) ?_
  refine pl_nil ?_
  refine au_then ?_
  refine wp_seq ?_
  refine wp_block ?_
  refine wp_seq ?_
  refine wp_seq ?_
  refine rg_lit ?_
  refine pl_val (want_no rfl) (some 12) rfl (.string key) (fun _ => by kernel_rfl) ?_
  refine pl_val (want_no rfl) (some 13) rfl (.int .i64 (key.size : Int)) (fun _ => by kernel_rfl) ?_
  refine pl_val (want_no rfl) (some 14) rfl (.bool false) (fun w => Eq.trans (b := .ok (.value (.bool (!(decide ((key.size : Int) = 32))))) w) (by kernel_rfl) (by rw [decide_eq_true (by omega)]; rfl)) ?_
  refine pl_val (want_no rfl) (some 11) rfl (.bool false) (fun _ => by kernel_rfl) ?_
  refine pl_nil ?_
  refine au_then ?_
  refine wp_cond_false (by kernel_rfl) ?_
  refine rg_lit ?_
  refine pl_val (want_no rfl) (some 15) rfl (.string nonce) (fun _ => by kernel_rfl) ?_
  refine pl_val (want_no rfl) (some 16) rfl (.int .i64 (nonce.size : Int)) (fun _ => by kernel_rfl) ?_
  refine pl_val (want_no rfl) (some 17) rfl (.bool true) (fun w => Eq.trans (b := .ok (.value (.bool (!(decide ((nonce.size : Int) = 12))))) w) (by kernel_rfl) (by rw [decide_eq_false (by omega)]; rfl)) ?_
  refine pl_val (want_no rfl) (some 11) rfl (.bool true) (fun _ => by kernel_rfl) ?_
  refine pl_nil ?_
  refine au_then ?_
  refine wp_cond_true (by kernel_rfl) ?_
  refine wp_seq ?_
  refine rg_lit ?_
  refine pl_val (want_no rfl) (some 10) rfl (.int .i64 2) (fun _ => by kernel_rfl) ?_
  refine pl_nil ?_
  refine au_then ?_
  refine wp_ret ?_
  refine au_block_ret ?_
  refine au_then_ret ?_
  exact bodyPost_ret (v := .int .i64 2) (results_tmp1 Tryd.results13 _ _ _ (by kernel_rfl)) (by kernel_rfl) ⟨rfl, below_grown M.old⟩

set_option maxRecDepth 100000 in
set_option maxHeartbeats 4000000 in
theorem sfC (key nonce ad s : ByteArray) (m : Nat) (_hm : m ≤ 16) (hk : key.size = 32 ∧ nonce.size = 12) (h : 65536 < ad.size) (w : World) (hL : Laid w)  :
    Calls Tryd.prog 13 #[.string key, .string nonce, .string ad, .string s, .int .i64 (m : Int)] w fun r w' => r = .returned (.int .i64 4) ∧ Below w.heap.size w w' := by
  go_enter Tryd.func13, Tryd.ntmps13
  have M := Mem.start hL
  refine wp_seq ?_
  refine rg_lit ?_
  refine pl_val (want_no rfl) (some 10) rfl (.int .i64 0) (fun _ => by kernel_rfl) ?_
  refine pl_nil ?_
  refine au_then ?_
  refine wp_seq ?_
  refine wp_block ?_
  refine wp_seq ?_
  refine wp_seq ?_
  refine rg_lit ?_
  refine pl_val (want_no rfl) (some 12) rfl (.string key) (fun _ => by kernel_rfl) ?_
  refine pl_val (want_no rfl) (some 13) rfl (.int .i64 (key.size : Int)) (fun _ => by kernel_rfl) ?_
  refine pl_val (want_no rfl) (some 14) rfl (.bool false) (fun w => Eq.trans (b := .ok (.value (.bool (!(decide ((key.size : Int) = 32))))) w) (by kernel_rfl) (by rw [decide_eq_true (by omega)]; rfl)) ?_
  refine pl_val (want_no rfl) (some 11) rfl (.bool false) (fun _ => by kernel_rfl) ?_
  refine pl_nil ?_
  refine au_then ?_
  refine wp_cond_false (by kernel_rfl) ?_
  refine rg_lit ?_
  refine pl_val (want_no rfl) (some 15) rfl (.string nonce) (fun _ => by kernel_rfl) ?_
  refine pl_val (want_no rfl) (some 16) rfl (.int .i64 (nonce.size : Int)) (fun _ => by kernel_rfl) ?_
  refine pl_val (want_no rfl) (some 17) rfl (.bool false) (fun w => Eq.trans (b := .ok (.value (.bool (!(decide ((nonce.size : Int) = 12))))) w) (by kernel_rfl) (by rw [decide_eq_true (by omega)]; rfl)) ?_
  refine pl_val (want_no rfl) (some 11) rfl (.bool false) (fun _ => by kernel_rfl) ?_
  refine pl_nil ?_
  refine au_then ?_
  refine wp_cond_false (by kernel_rfl) ?_
  refine wp_seq ?_
  refine wp_seq ?_
  refine rg_lit ?_
  refine pl_val (want_no rfl) (some 19) rfl (.string ad) (fun _ => by kernel_rfl) ?_
  refine pl_val (want_no rfl) (some 20) rfl (.int .i64 (ad.size : Int)) (fun _ => by kernel_rfl) ?_
  refine pl_val (want_no rfl) (some 21) rfl (.bool true) (fun w => Eq.trans (b := .ok (.value (.bool (decide ((65536 : Int) < (ad.size : Int))))) w) (by kernel_rfl) (by rw [decide_eq_true (by omega)])) ?_
  refine pl_val (want_no rfl) (some 18) rfl (.bool true) (fun _ => by kernel_rfl) ?_
  refine pl_nil ?_
  refine au_then ?_
  refine wp_cond_true (by kernel_rfl) ?_
  refine wp_skip ?_
  refine au_then ?_
  refine wp_cond_true (by kernel_rfl) ?_
  refine wp_seq ?_
  refine rg_lit ?_
  refine pl_val (want_no rfl) (some 10) rfl (.int .i64 4) (fun _ => by kernel_rfl) ?_
  refine pl_nil ?_
  refine au_then ?_
  refine wp_ret ?_
  refine au_block_ret ?_
  refine au_then_ret ?_
  exact bodyPost_ret (v := .int .i64 4) (results_tmp1 Tryd.results13 _ _ _ (by kernel_rfl)) (by kernel_rfl) ⟨rfl, below_grown M.old⟩

set_option maxRecDepth 100000 in
set_option maxHeartbeats 4000000 in
theorem sfD (key nonce ad s : ByteArray) (m : Nat) (_hm : m ≤ 16) (hk : key.size = 32 ∧ nonce.size = 12) (h : ¬ 65536 < ad.size) (h2 : 65536 + m < s.size) (w : World) (hL : Laid w)  :
    Calls Tryd.prog 13 #[.string key, .string nonce, .string ad, .string s, .int .i64 (m : Int)] w fun r w' => r = .returned (.int .i64 4) ∧ Below w.heap.size w w' := by
  go_enter Tryd.func13, Tryd.ntmps13
  have M := Mem.start hL
  refine wp_seq ?_
  refine rg_lit ?_
  refine pl_val (want_no rfl) (some 10) rfl (.int .i64 0) (fun _ => by kernel_rfl) ?_
  refine pl_nil ?_
  refine au_then ?_
  refine wp_seq ?_
  refine wp_block ?_
  refine wp_seq ?_
  refine wp_seq ?_
  refine rg_lit ?_
  refine pl_val (want_no rfl) (some 12) rfl (.string key) (fun _ => by kernel_rfl) ?_
  refine pl_val (want_no rfl) (some 13) rfl (.int .i64 (key.size : Int)) (fun _ => by kernel_rfl) ?_
  refine pl_val (want_no rfl) (some 14) rfl (.bool false) (fun w => Eq.trans (b := .ok (.value (.bool (!(decide ((key.size : Int) = 32))))) w) (by kernel_rfl) (by rw [decide_eq_true (by omega)]; rfl)) ?_
  refine pl_val (want_no rfl) (some 11) rfl (.bool false) (fun _ => by kernel_rfl) ?_
  refine pl_nil ?_
  refine au_then ?_
  refine wp_cond_false (by kernel_rfl) ?_
  refine rg_lit ?_
  refine pl_val (want_no rfl) (some 15) rfl (.string nonce) (fun _ => by kernel_rfl) ?_
  refine pl_val (want_no rfl) (some 16) rfl (.int .i64 (nonce.size : Int)) (fun _ => by kernel_rfl) ?_
  refine pl_val (want_no rfl) (some 17) rfl (.bool false) (fun w => Eq.trans (b := .ok (.value (.bool (!(decide ((nonce.size : Int) = 12))))) w) (by kernel_rfl) (by rw [decide_eq_true (by omega)]; rfl)) ?_
  refine pl_val (want_no rfl) (some 11) rfl (.bool false) (fun _ => by kernel_rfl) ?_
  refine pl_nil ?_
  refine au_then ?_
  refine wp_cond_false (by kernel_rfl) ?_
  refine wp_seq ?_
  refine wp_seq ?_
  refine rg_lit ?_
  refine pl_val (want_no rfl) (some 19) rfl (.string ad) (fun _ => by kernel_rfl) ?_
  refine pl_val (want_no rfl) (some 20) rfl (.int .i64 (ad.size : Int)) (fun _ => by kernel_rfl) ?_
  refine pl_val (want_no rfl) (some 21) rfl (.bool false) (fun w => Eq.trans (b := .ok (.value (.bool (decide ((65536 : Int) < (ad.size : Int))))) w) (by kernel_rfl) (by rw [decide_eq_false (by omega)])) ?_
  refine pl_val (want_no rfl) (some 18) rfl (.bool false) (fun _ => by kernel_rfl) ?_
  refine pl_nil ?_
  refine au_then ?_
  refine wp_cond_false (by kernel_rfl) ?_
  refine rg_lit ?_
  refine pl_val (want_no rfl) (some 22) rfl (.string s) (fun _ => by kernel_rfl) ?_
  refine pl_val (want_no rfl) (some 23) rfl (.int .i64 (s.size : Int)) (fun _ => by kernel_rfl) ?_
  refine pl_val (want_no rfl) (some 24) rfl (.int .i64 (m : Int)) (fun _ => by kernel_rfl) ?_
  refine pl_val (want_no rfl) (some 25) rfl (.int .i64 ((65536 + m : Nat) : Int)) (fun w => Eq.trans (b := .ok (.value (.int .i64 (IntKind.wrap .i64 (65536 + (m : Int))))) w) (by kernel_rfl) (by rw [wrap64 (by omega) (by omega)]; congr 3)) ?_
  refine pl_val (want_no rfl) (some 26) rfl (.bool true) (fun w => Eq.trans (b := .ok (.value (.bool (decide (((65536 + m : Nat) : Int) < (s.size : Int))))) w) (by kernel_rfl) (by rw [decide_eq_true (by omega)])) ?_
  refine pl_val (want_no rfl) (some 18) rfl (.bool true) (fun _ => by kernel_rfl) ?_
  refine pl_nil ?_
  refine au_then ?_
  refine wp_cond_true (by kernel_rfl) ?_
  refine wp_seq ?_
  refine rg_lit ?_
  refine pl_val (want_no rfl) (some 10) rfl (.int .i64 4) (fun _ => by kernel_rfl) ?_
  refine pl_nil ?_
  refine au_then ?_
  refine wp_ret ?_
  refine au_block_ret ?_
  refine au_then_ret ?_
  exact bodyPost_ret (v := .int .i64 4) (results_tmp1 Tryd.results13 _ _ _ (by kernel_rfl)) (by kernel_rfl) ⟨rfl, below_grown M.old⟩

set_option maxRecDepth 100000 in
set_option maxHeartbeats 4000000 in
theorem sfE (key nonce ad s : ByteArray) (m : Nat) (_hm : m ≤ 16) (hk : key.size = 32 ∧ nonce.size = 12) (h : ¬ 65536 < ad.size) (h2 : s.size < m) (w : World) (hL : Laid w)  :
    Calls Tryd.prog 13 #[.string key, .string nonce, .string ad, .string s, .int .i64 (m : Int)] w fun r w' => r = .returned (.int .i64 100) ∧ Below w.heap.size w w' := by
  go_enter Tryd.func13, Tryd.ntmps13
  have M := Mem.start hL
  refine wp_seq ?_
  refine rg_lit ?_
  refine pl_val (want_no rfl) (some 10) rfl (.int .i64 0) (fun _ => by kernel_rfl) ?_
  refine pl_nil ?_
  refine au_then ?_
  refine wp_seq ?_
  refine wp_block ?_
  refine wp_seq ?_
  refine wp_seq ?_
  refine rg_lit ?_
  refine pl_val (want_no rfl) (some 12) rfl (.string key) (fun _ => by kernel_rfl) ?_
  refine pl_val (want_no rfl) (some 13) rfl (.int .i64 (key.size : Int)) (fun _ => by kernel_rfl) ?_
  refine pl_val (want_no rfl) (some 14) rfl (.bool false) (fun w => Eq.trans (b := .ok (.value (.bool (!(decide ((key.size : Int) = 32))))) w) (by kernel_rfl) (by rw [decide_eq_true (by omega)]; rfl)) ?_
  refine pl_val (want_no rfl) (some 11) rfl (.bool false) (fun _ => by kernel_rfl) ?_
  refine pl_nil ?_
  refine au_then ?_
  refine wp_cond_false (by kernel_rfl) ?_
  refine rg_lit ?_
  refine pl_val (want_no rfl) (some 15) rfl (.string nonce) (fun _ => by kernel_rfl) ?_
  refine pl_val (want_no rfl) (some 16) rfl (.int .i64 (nonce.size : Int)) (fun _ => by kernel_rfl) ?_
  refine pl_val (want_no rfl) (some 17) rfl (.bool false) (fun w => Eq.trans (b := .ok (.value (.bool (!(decide ((nonce.size : Int) = 12))))) w) (by kernel_rfl) (by rw [decide_eq_true (by omega)]; rfl)) ?_
  refine pl_val (want_no rfl) (some 11) rfl (.bool false) (fun _ => by kernel_rfl) ?_
  refine pl_nil ?_
  refine au_then ?_
  refine wp_cond_false (by kernel_rfl) ?_
  refine wp_seq ?_
  refine wp_seq ?_
  refine rg_lit ?_
  refine pl_val (want_no rfl) (some 19) rfl (.string ad) (fun _ => by kernel_rfl) ?_
  refine pl_val (want_no rfl) (some 20) rfl (.int .i64 (ad.size : Int)) (fun _ => by kernel_rfl) ?_
  refine pl_val (want_no rfl) (some 21) rfl (.bool false) (fun w => Eq.trans (b := .ok (.value (.bool (decide ((65536 : Int) < (ad.size : Int))))) w) (by kernel_rfl) (by rw [decide_eq_false (by omega)])) ?_
  refine pl_val (want_no rfl) (some 18) rfl (.bool false) (fun _ => by kernel_rfl) ?_
  refine pl_nil ?_
  refine au_then ?_
  refine wp_cond_false (by kernel_rfl) ?_
  refine rg_lit ?_
  refine pl_val (want_no rfl) (some 22) rfl (.string s) (fun _ => by kernel_rfl) ?_
  refine pl_val (want_no rfl) (some 23) rfl (.int .i64 (s.size : Int)) (fun _ => by kernel_rfl) ?_
  refine pl_val (want_no rfl) (some 24) rfl (.int .i64 (m : Int)) (fun _ => by kernel_rfl) ?_
  refine pl_val (want_no rfl) (some 25) rfl (.int .i64 ((65536 + m : Nat) : Int)) (fun w => Eq.trans (b := .ok (.value (.int .i64 (IntKind.wrap .i64 (65536 + (m : Int))))) w) (by kernel_rfl) (by rw [wrap64 (by omega) (by omega)]; congr 3)) ?_
  refine pl_val (want_no rfl) (some 26) rfl (.bool false) (fun w => Eq.trans (b := .ok (.value (.bool (decide (((65536 + m : Nat) : Int) < (s.size : Int))))) w) (by kernel_rfl) (by rw [decide_eq_false (by omega)])) ?_
  refine pl_val (want_no rfl) (some 18) rfl (.bool false) (fun _ => by kernel_rfl) ?_
  refine pl_nil ?_
  refine au_then ?_
  refine wp_cond_false (by kernel_rfl) ?_
  refine wp_seq ?_
  refine rg_lit ?_
  refine pl_val (want_no rfl) (some 28) rfl (.string s) (fun _ => by kernel_rfl) ?_
  refine pl_val (want_no rfl) (some 29) rfl (.int .i64 (s.size : Int)) (fun _ => by kernel_rfl) ?_
  refine pl_val (want_no rfl) (some 30) rfl (.int .i64 (m : Int)) (fun _ => by kernel_rfl) ?_
  refine pl_val (want_no rfl) (some 31) rfl (.bool true) (fun w => Eq.trans (b := .ok (.value (.bool (decide ((s.size : Int) < (m : Int))))) w) (by kernel_rfl) (by rw [decide_eq_true (by omega)])) ?_
  refine pl_val (want_no rfl) (some 27) rfl (.bool true) (fun _ => by kernel_rfl) ?_
  refine pl_nil ?_
  refine au_then ?_
  refine wp_cond_true (by kernel_rfl) ?_
  refine wp_seq ?_
  refine rg_lit ?_
  refine pl_val (want_no rfl) (some 10) rfl (.int .i64 100) (fun _ => by kernel_rfl) ?_
  refine pl_nil ?_
  refine au_then ?_
  refine wp_ret ?_
  refine au_block_ret ?_
  refine au_then_ret ?_
  exact bodyPost_ret (v := .int .i64 100) (results_tmp1 Tryd.results13 _ _ _ (by kernel_rfl)) (by kernel_rfl) ⟨rfl, below_grown M.old⟩

set_option maxRecDepth 100000 in
set_option maxHeartbeats 4000000 in
theorem sfF (key nonce ad s : ByteArray) (m : Nat) (_hm : m ≤ 16) (hk : key.size = 32 ∧ nonce.size = 12) (h : ¬ 65536 < ad.size) (h2 : ¬ 65536 + m < s.size) (h3 : ¬ s.size < m) (w : World) (hL : Laid w)  :
    Calls Tryd.prog 13 #[.string key, .string nonce, .string ad, .string s, .int .i64 (m : Int)] w fun r w' => r = .returned (.int .i64 0) ∧ Below w.heap.size w w' := by
  go_enter Tryd.func13, Tryd.ntmps13
  have M := Mem.start hL
  refine wp_seq ?_
  refine rg_lit ?_
  refine pl_val (want_no rfl) (some 10) rfl (.int .i64 0) (fun _ => by kernel_rfl) ?_
  refine pl_nil ?_
  refine au_then ?_
  refine wp_seq ?_
  refine wp_block ?_
  refine wp_seq ?_
  refine wp_seq ?_
  refine rg_lit ?_
  refine pl_val (want_no rfl) (some 12) rfl (.string key) (fun _ => by kernel_rfl) ?_
  refine pl_val (want_no rfl) (some 13) rfl (.int .i64 (key.size : Int)) (fun _ => by kernel_rfl) ?_
  refine pl_val (want_no rfl) (some 14) rfl (.bool false) (fun w => Eq.trans (b := .ok (.value (.bool (!(decide ((key.size : Int) = 32))))) w) (by kernel_rfl) (by rw [decide_eq_true (by omega)]; rfl)) ?_
  refine pl_val (want_no rfl) (some 11) rfl (.bool false) (fun _ => by kernel_rfl) ?_
  refine pl_nil ?_
  refine au_then ?_
  refine wp_cond_false (by kernel_rfl) ?_
  refine rg_lit ?_
  refine pl_val (want_no rfl) (some 15) rfl (.string nonce) (fun _ => by kernel_rfl) ?_
  refine pl_val (want_no rfl) (some 16) rfl (.int .i64 (nonce.size : Int)) (fun _ => by kernel_rfl) ?_
  refine pl_val (want_no rfl) (some 17) rfl (.bool false) (fun w => Eq.trans (b := .ok (.value (.bool (!(decide ((nonce.size : Int) = 12))))) w) (by kernel_rfl) (by rw [decide_eq_true (by omega)]; rfl)) ?_
  refine pl_val (want_no rfl) (some 11) rfl (.bool false) (fun _ => by kernel_rfl) ?_
  refine pl_nil ?_
  refine au_then ?_
  refine wp_cond_false (by kernel_rfl) ?_
  refine wp_seq ?_
  refine wp_seq ?_
  refine rg_lit ?_
  refine pl_val (want_no rfl) (some 19) rfl (.string ad) (fun _ => by kernel_rfl) ?_
  refine pl_val (want_no rfl) (some 20) rfl (.int .i64 (ad.size : Int)) (fun _ => by kernel_rfl) ?_
  refine pl_val (want_no rfl) (some 21) rfl (.bool false) (fun w => Eq.trans (b := .ok (.value (.bool (decide ((65536 : Int) < (ad.size : Int))))) w) (by kernel_rfl) (by rw [decide_eq_false (by omega)])) ?_
  refine pl_val (want_no rfl) (some 18) rfl (.bool false) (fun _ => by kernel_rfl) ?_
  refine pl_nil ?_
  refine au_then ?_
  refine wp_cond_false (by kernel_rfl) ?_
  refine rg_lit ?_
  refine pl_val (want_no rfl) (some 22) rfl (.string s) (fun _ => by kernel_rfl) ?_
  refine pl_val (want_no rfl) (some 23) rfl (.int .i64 (s.size : Int)) (fun _ => by kernel_rfl) ?_
  refine pl_val (want_no rfl) (some 24) rfl (.int .i64 (m : Int)) (fun _ => by kernel_rfl) ?_
  refine pl_val (want_no rfl) (some 25) rfl (.int .i64 ((65536 + m : Nat) : Int)) (fun w => Eq.trans (b := .ok (.value (.int .i64 (IntKind.wrap .i64 (65536 + (m : Int))))) w) (by kernel_rfl) (by rw [wrap64 (by omega) (by omega)]; congr 3)) ?_
  refine pl_val (want_no rfl) (some 26) rfl (.bool false) (fun w => Eq.trans (b := .ok (.value (.bool (decide (((65536 + m : Nat) : Int) < (s.size : Int))))) w) (by kernel_rfl) (by rw [decide_eq_false (by omega)])) ?_
  refine pl_val (want_no rfl) (some 18) rfl (.bool false) (fun _ => by kernel_rfl) ?_
  refine pl_nil ?_
  refine au_then ?_
  refine wp_cond_false (by kernel_rfl) ?_
  refine wp_seq ?_
  refine rg_lit ?_
  refine pl_val (want_no rfl) (some 28) rfl (.string s) (fun _ => by kernel_rfl) ?_
  refine pl_val (want_no rfl) (some 29) rfl (.int .i64 (s.size : Int)) (fun _ => by kernel_rfl) ?_
  refine pl_val (want_no rfl) (some 30) rfl (.int .i64 (m : Int)) (fun _ => by kernel_rfl) ?_
  refine pl_val (want_no rfl) (some 31) rfl (.bool false) (fun w => Eq.trans (b := .ok (.value (.bool (decide ((s.size : Int) < (m : Int))))) w) (by kernel_rfl) (by rw [decide_eq_false (by omega)])) ?_
  refine pl_val (want_no rfl) (some 27) rfl (.bool false) (fun _ => by kernel_rfl) ?_
  refine pl_nil ?_
  refine au_then ?_
  refine wp_cond_false (by kernel_rfl) ?_
  refine wp_skip ?_
  refine au_block ?_
  refine au_then ?_
  refine wp_seq ?_
  refine rg_lit ?_
  refine pl_val (want_no rfl) (some 10) rfl (.int .i64 0) (fun _ => by kernel_rfl) ?_
  refine pl_nil ?_
  refine au_then ?_
  refine wp_ret ?_
  exact bodyPost_ret (v := .int .i64 0) (results_tmp1 Tryd.results13 _ _ _ (by kernel_rfl)) (by kernel_rfl) ⟨rfl, below_grown M.old⟩

/-- What is wrong with sizes. -/
def sf (key nonce ad s : ByteArray) (m : Nat) : Int := if key.size ≠ 32 ∨ nonce.size ≠ 12 then 2 else if 65536 < ad.size ∨ 65536 + m < s.size then 4 else if s.size < m then 100 else 0
theorem c_fault (key nonce ad s : ByteArray) (m : Nat) (hm : m ≤ 16) (w : World) (hL : Laid w) : Calls Tryd.prog 13 #[.string key, .string nonce, .string ad, .string s, .int .i64 (m : Int)] w fun r w' => r = .returned (.int .i64 (sf key nonce ad s m)) ∧ Below w.heap.size w w' := by
  unfold sf
  by_cases h : key.size = 32
  · by_cases h2 : nonce.size = 12
    · rw [if_neg (by omega)]
      by_cases h3 : 65536 < ad.size
      · rw [if_pos (.inl h3)]
        exact sfC key nonce ad s m hm ⟨h, h2⟩ h3 w hL
      · by_cases h4 : 65536 + m < s.size
        · rw [if_pos (.inr h4)]
          exact sfD key nonce ad s m hm ⟨h, h2⟩ h3 h4 w hL
        · rw [if_neg (by omega)]
          by_cases h5 : s.size < m
          · rw [if_pos h5]
            exact sfE key nonce ad s m hm ⟨h, h2⟩ h3 h5 w hL
          · rw [if_neg h5]
            exact sfF key nonce ad s m hm ⟨h, h2⟩ h3 h4 h5 w hL
    · rw [if_pos (.inr h2)]
      exact sfB key nonce ad s m hm h h2 w hL
  · rw [if_pos (.inl h)]
    exact sfA key nonce ad s m hm h w hL


end Go.Proofs.YtkndaajbedlajaaDoor
