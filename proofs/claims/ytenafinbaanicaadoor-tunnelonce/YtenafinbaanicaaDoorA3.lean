/- Eight bytes of a number; bytes 0; sizes: the walks of word, Nonce, sizeFault, and of the document's eight, pad, Nonce. -/
import Derived.Test.YtenafinbaanicaaDoorA2
import Derived.Test.YtenafinbaanicaaDoorP11
namespace Go.Proofs.YtenafinbaanicaaDoor
open Go.RowKit
set_option maxRecDepth 100000

/-- A byte of a number. -/
def wb (n : Int) (i : Nat) : Int := cv .u8 (sr n (8 * i))
def wbs (n : Int) : Nat → (Nat → Int)
  | 0 => fun _ => 0
  | j + 1 => upd (wbs n j) j (wb n j)
theorem wbs_at (n : Int) : ∀ m, ∀ i, i < m → wbs n m i = wb n i
  | 0, i, h => absurd h (by omega)
  | m + 1, i, h => by
    unfold wbs upd
    by_cases e : i = m
    · rw [if_pos e, e]
    · rw [if_neg e, wbs_at n m i (by omega)]
theorem wbs_map (n : Int) : (List.range 8).map (wbs n 8) = (List.range 8).map (wb n) := List.map_congr_left fun i hi => wbs_at n 8 i (List.mem_range.1 hi)
theorem wb_nn (n : Int) : ∀ y ∈ (List.range 8).map (wb n), 0 ≤ y ∧ y < 256 := fun y hy => by
  obtain ⟨i, _, rfl⟩ := List.mem_map.1 hy
  exact cv8_nn _
/-- A number as eight bytes. -/
def wS (n : Int) : ByteArray := bs ((List.range 8).map (wb n))
theorem wS_size (n : Int) : (wS n).size = 8 := by
  unfold wS
  rw [bs_size]
  simp
/-- Bytes 0. -/
def zB (n : Nat) : ByteArray := bs ((List.range n).map fun _ => 0)
theorem zB_size (n : Nat) : (zB n).size = n := by
  unfold zB
  rw [bs_size]
  simp
theorem z_nn (n : Nat) : ∀ x ∈ (List.range n).map fun _ => (0 : Int), 0 ≤ x ∧ x < 256 := fun x hx => by
  obtain ⟨i, _, rfl⟩ := List.mem_map.1 hx
  decide
theorem z_rep (n : Nat) : List.replicate n (0 : Int) = (List.range n).map fun _ => 0 := by
  apply List.ext_getElem?
  intro i
  by_cases h : i < n
  · simp [h]
  · rw [List.getElem?_eq_none (by simp; omega), List.getElem?_eq_none (by simp; omega)]
theorem rem16 (n : Nat) : Int.tmod (n : Int) 16 = ((n % 16 : Nat) : Int) := by
  rw [Int.tmod_eq_emod_of_nonneg (by omega)]
  omega
/-- The nonce of a number. -/
def nS (n : Int) : ByteArray := zB 4 ++ wS n
theorem nS_size (n : Int) : (nS n).size = 12 := by
  unfold nS
  rw [ByteArray.size_append, zB_size, wS_size]
theorem inz106 : (Tryd.prog.info? 106).map (·.size) = some 8 := by kernel_rfl

set_option maxRecDepth 100000 in
set_option maxHeartbeats 4000000 in
theorem c_word (n : Int) (w : World) (hL : Laid w)  :
    Calls Tryd.prog 53 #[.int .u64 n] w fun r w' => r = .returned (.string (wS n)) ∧ Below w.heap.size w w' := by
  go_enter Tryd.func53, Tryd.ntmps53
  have M := Mem.start hL
  refine sq ?_
  refine sR ?_
  refine pN M 3 (.cells (av 8 (w8 (fun _ => 0))) 106) fun g1 u1 M => ?_
  refine nT ?_
  refine wp_seq ?_
  refine sq ?_
  refine wp_block ?_
  refine au_loop (fun j a w' => ∃ v1 : Nat → Value, a = (fm ([.int .u64 n, v1 1, .string ⟨#[]⟩, .pointer (some ⟨g1, 0, none⟩), v1 4, .int .i64 (j : Int)] ++ vr v1 6 12)) ∧ Mem ⟨w, []⟩ [⟨g1, .cells (av 8 (w8 (wbs n j))) 106⟩] w') 8 (exS M) ?_ ?_
  · intro j a u0 hj hI
    obtain ⟨v1, rfl, M⟩ := hI
    refine sR ?_
    refine ZT 6 ((j : Int) < 8) ?_
    refine nT ?_
    refine wp_seq ?_
    refine wp_cond_true (by kernel_rfl) ?_
    refine wp_skip ?_
    refine au_then ?_
    refine wp_seq ?_
    refine wp_block ?_
    refine sq ?_
    refine rg_lit ?_
    refine rV 3 ?_
    refine ZI 11 (8 * (j : Int)) ((8 * j : Nat) : Int) ?_
    refine pH 12 (.int .u64 (sr n (8 * j))) (Pol.run_shrU 22 3 _ _ rfl _ .i64 (8 * j) (by kernel_rfl) (by kernel_rfl) (by omega)) ?_
    refine rV 1 ?_
    refine ZX 14 .i64 g1 (j) 8 ?_
    refine ZP8 M 0 j (cv .u8 (sr n (8 * j))) fun u2 M => ?_
    refine pl_nil ?_
    refine au_block ?_
    refine au_then ?_
    refine rg_lit ?_
    refine ZI 15 ((j : Int) + 1) ((j + 1 : Nat) : Int) ?_
    refine rV 1 ?_
    refine nT ?_
    exact exS M
  · intro a u0 hI
    obtain ⟨v1, rfl, M⟩ := hI
    refine sR ?_
    refine ZF 6 (8 < 8) ?_
    refine nT ?_
    refine wp_seq ?_
    refine wp_cond_false (by kernel_rfl) ?_
    refine wp_exit ?_
    refine au_then_exit ?_
    refine au_then_exit ?_
    refine au_block_exit ?_
    refine au_then ?_
    refine sR ?_
    refine rV 1 ?_
    refine pl_back M (want_no rfl) (some 17) rfl _ rfl 0 g1 8 8 (by kernel_rfl) _ rfl ((List.range 8).map (wbs n 8)) 8 (sb_av 8 _ _) (by simp) (by rw [wbs_map]; exact wb_nn _) ?_
    rw [wbs_map]
    refine rV 1 ?_
    refine nT ?_
    refine wp_ret ?_
    exact b1 M

/-- So many bytes 0 that a text has a multiple of 16. -/
def pn (m : Nat) : Nat := (16 - m % 16) % 16
theorem pn_lt (m : Nat) : pn m < 16 := Nat.mod_lt _ (by decide)
theorem pn_sum (m : Nat) : (m + pn m) % 16 = 0 := by
  unfold pn
  omega
section
variable {P : Program} {ops : Array Oper} {o o2 : Oper} {a : Act} {w : World} {Q : Exit → Act → World → Prop} {S : World → Prop} {n fuel : Nat} {listed : Array Bool}
/-- Number i or number j may come up. -/
theorem hl_two (i j : Nat) (hin : i < n) (hjn : j < n) (hr : Region.ready .any ops listed = [i, j]) (hi : ops.toList[i]? = some o) (hj : ops.toList[j]? = some o2)
    (h : PL P ops (Exit.then (fun a' w' => S w' ∧ HL P ops Q S n fuel (listed.setIfInBounds i true) a' w') Q) [o] a w)
    (h2 : PL P ops (Exit.then (fun a' w' => S w' ∧ HL P ops Q S n fuel (listed.setIfInBounds j true) a' w') Q) [o2] a w) : HL P ops Q S n (fuel + 1) listed a w := by
  refine ⟨fun hQ hB inv => ⟨fun h0 => (by rw [hr] at h0; cases h0), fun m hm => ?_⟩⟩
  have hm' := hm
  rw [hr] at hm
  rcases List.mem_cons.1 hm with rfl | hm
  · exact wpOp_mono (fun a' w' h3 => ⟨fun _ => h3.1, h3.2.out hQ hB (inv.set hm' hin)⟩) (wpOp_one (by rw [← Array.getElem?_toList]; exact hi) h.out)
  · obtain rfl := List.mem_singleton.1 hm
    exact wpOp_mono (fun a' w' h3 => ⟨fun _ => h3.1, h3.2.out hQ hB (inv.set hm' hjn)⟩) (wpOp_one (by rw [← Array.getElem?_toList]; exact hj) h2.out)
end

set_option maxRecDepth 100000 in
set_option maxHeartbeats 4000000 in
theorem c_Nonce (n : Int) (w : World) (hL : Laid w)  :
    Calls Tryd.prog 42 #[.int .u64 n] w fun r w' => r = .returned (.string (nS n)) ∧ Below w.heap.size w w' := by
  go_enter Tryd.func42, Tryd.ntmps42
  have M := Mem.start hL
  refine sq ?_
  refine wp_seq ?_
  refine rgh M [] 5 fun u1 M => ?_
  refine qV M 2 5 (.int .u64 n) ?_
  refine hl_two 0 3 (by decide) (by decide) (by kernel_rfl) rfl rfl ?_ ?_
  · skip
    refine ZM M 3 (fun g1 => .slice (some ⟨g1, 0, none⟩) 4 4) (.cells (av 4 (w8 (fun _ => 0))) 5) fun g1 u2 M => ?_
    refine nT ?_
    refine ⟨(M.drop (.cons _ (.slnil))), ?_⟩
    refine hl_two 1 3 (by decide) (by decide) (by kernel_rfl) rfl rfl ?_ ?_
    · skip
      refine pl_back M (want_no rfl) (some 4) rfl _ rfl 0 g1 4 4 (by kernel_rfl) _ rfl ((List.range 4).map fun _ => 0) 4 (sb_av 4 _ _) (by simp) (z_nn _) ?_
      refine nT ?_
      refine ⟨(M.drop (.cons _ (.slnil))), ?_⟩
      refine qO 3 ?_
      refine ZC M 6 (fun w M => c_word n w M.laid) fun u3 M => ?_
      refine nT ?_
      refine ⟨(M.drop (.cons _ (.slnil))), ?_⟩
      refine qH (M.drop (.cons _ (.slnil))) 4 7 (.string (nS n)) (fun w _ => (run_cat 9 9 _ _ rfl (zB 4) (wS n) (by kernel_rfl) (by kernel_rfl) (by rw [zB_size, wS_size]; decide)) w) ?_
      refine qZ ?_
      refine rV 1 ?_
      refine nT ?_
      refine au_then ?_
      refine wp_ret ?_
      exact b1 M
    · skip
      refine ZC M 6 (fun w M => c_word n w M.laid) fun u4 M => ?_
      refine nT ?_
      refine ⟨(M.drop (.cons _ (.slnil))), ?_⟩
      refine qO 1 ?_
      refine pl_back M (want_no rfl) (some 4) rfl _ rfl 0 g1 4 4 (by kernel_rfl) _ rfl ((List.range 4).map fun _ => 0) 4 (sb_av 4 _ _) (by simp) (z_nn _) ?_
      refine nT ?_
      refine ⟨(M.drop (.cons _ (.slnil))), ?_⟩
      refine qH (M.drop (.cons _ (.slnil))) 4 7 (.string (nS n)) (fun w _ => (run_cat 9 9 _ _ rfl (zB 4) (wS n) (by kernel_rfl) (by kernel_rfl) (by rw [zB_size, wS_size]; decide)) w) ?_
      refine qZ ?_
      refine rV 1 ?_
      refine nT ?_
      refine au_then ?_
      refine wp_ret ?_
      exact b1 M
  · skip
    refine ZC M 6 (fun w M => c_word n w M.laid) fun u5 M => ?_
    refine nT ?_
    refine ⟨M, ?_⟩
    refine qO 0 ?_
    refine ZM M 3 (fun g2 => .slice (some ⟨g2, 0, none⟩) 4 4) (.cells (av 4 (w8 (fun _ => 0))) 5) fun g2 u6 M => ?_
    refine nT ?_
    refine ⟨(M.drop (.cons _ (.slnil))), ?_⟩
    refine qO 1 ?_
    refine pl_back M (want_no rfl) (some 4) rfl _ rfl 0 g2 4 4 (by kernel_rfl) _ rfl ((List.range 4).map fun _ => 0) 4 (sb_av 4 _ _) (by simp) (z_nn _) ?_
    refine nT ?_
    refine ⟨(M.drop (.cons _ (.slnil))), ?_⟩
    refine qH (M.drop (.cons _ (.slnil))) 4 7 (.string (nS n)) (fun w _ => (run_cat 9 9 _ _ rfl (zB 4) (wS n) (by kernel_rfl) (by kernel_rfl) (by rw [zB_size, wS_size]; decide)) w) ?_
    refine qZ ?_
    refine rV 1 ?_
    refine nT ?_
    refine au_then ?_
    refine wp_ret ?_
    exact b1 M

set_option maxRecDepth 100000 in
set_option maxHeartbeats 4000000 in
theorem sfA (key nonce ad s : ByteArray) (m : Nat) (_hm : m ≤ 16) (h : key.size ≠ 32) (w : World) (hL : Laid w)  :
    Calls Tryd.prog 50 #[.string key, .string nonce, .string ad, .string s, .int .i64 (m : Int)] w fun r w' => r = .returned (.int .i64 2) ∧ Below w.heap.size w w' := by
  go_enter Tryd.func50, Tryd.ntmps50
  have M := Mem.start hL
  refine sq ?_
  refine wp_seq ?_
  refine wp_block ?_
  refine wp_seq ?_
  refine sR ?_
  refine rV 2 ?_
  refine ZS 14 ((key.size : Int) = 32) ?_
  refine rV 1 ?_
  refine nT ?_
  refine wp_cond_true (by kernel_rfl) ?_
  refine wp_skip ?_
  refine au_then ?_
  refine wp_cond_true (by kernel_rfl) ?_
  refine sq ?_
  refine wp_ret ?_
  refine au_block_ret ?_
  refine au_then_ret ?_
  exact b1 M

set_option maxRecDepth 100000 in
set_option maxHeartbeats 4000000 in
theorem sfB (key nonce ad s : ByteArray) (m : Nat) (_hm : m ≤ 16) (h : key.size = 32) (h2 : nonce.size ≠ 12) (w : World) (hL : Laid w)  :
    Calls Tryd.prog 50 #[.string key, .string nonce, .string ad, .string s, .int .i64 (m : Int)] w fun r w' => r = .returned (.int .i64 2) ∧ Below w.heap.size w w' := by
  go_enter Tryd.func50, Tryd.ntmps50
  have M := Mem.start hL
  refine sq ?_
  refine wp_seq ?_
  refine wp_block ?_
  refine wp_seq ?_
  refine sR ?_
  refine rV 2 ?_
  refine ZD 14 ((key.size : Int) = 32) ?_
  refine rV 1 ?_
  refine nT ?_
  refine wp_cond_false (by kernel_rfl) ?_
  refine rg_lit ?_
  refine rV 2 ?_
  refine ZS 17 ((nonce.size : Int) = 12) ?_
  refine rV 1 ?_
  refine nT ?_
  refine wp_cond_true (by kernel_rfl) ?_
  refine sq ?_
  refine wp_ret ?_
  refine au_block_ret ?_
  refine au_then_ret ?_
  exact b1 M

set_option maxRecDepth 100000 in
set_option maxHeartbeats 4000000 in
theorem sfC (key nonce ad s : ByteArray) (m : Nat) (_hm : m ≤ 16) (hk : key.size = 32 ∧ nonce.size = 12) (h : 65536 < ad.size) (w : World) (hL : Laid w)  :
    Calls Tryd.prog 50 #[.string key, .string nonce, .string ad, .string s, .int .i64 (m : Int)] w fun r w' => r = .returned (.int .i64 4) ∧ Below w.heap.size w w' := by
  go_enter Tryd.func50, Tryd.ntmps50
  have M := Mem.start hL
  refine sq ?_
  refine wp_seq ?_
  refine wp_block ?_
  refine wp_seq ?_
  refine sR ?_
  refine rV 2 ?_
  refine ZD 14 ((key.size : Int) = 32) ?_
  refine rV 1 ?_
  refine nT ?_
  refine wp_cond_false (by kernel_rfl) ?_
  refine rg_lit ?_
  refine rV 2 ?_
  refine ZD 17 ((nonce.size : Int) = 12) ?_
  refine rV 1 ?_
  refine nT ?_
  refine wp_cond_false (by kernel_rfl) ?_
  refine wp_seq ?_
  refine sR ?_
  refine rV 2 ?_
  refine ZT 21 ((65536 : Int) < (ad.size : Int)) ?_
  refine rV 1 ?_
  refine nT ?_
  refine wp_cond_true (by kernel_rfl) ?_
  refine wp_skip ?_
  refine au_then ?_
  refine wp_cond_true (by kernel_rfl) ?_
  refine sq ?_
  refine wp_ret ?_
  refine au_block_ret ?_
  refine au_then_ret ?_
  exact b1 M

set_option maxRecDepth 100000 in
set_option maxHeartbeats 4000000 in
theorem sfD (key nonce ad s : ByteArray) (m : Nat) (_hm : m ≤ 16) (hk : key.size = 32 ∧ nonce.size = 12) (h : ¬ 65536 < ad.size) (h2 : 65536 + m < s.size) (w : World) (hL : Laid w)  :
    Calls Tryd.prog 50 #[.string key, .string nonce, .string ad, .string s, .int .i64 (m : Int)] w fun r w' => r = .returned (.int .i64 4) ∧ Below w.heap.size w w' := by
  go_enter Tryd.func50, Tryd.ntmps50
  have M := Mem.start hL
  refine sq ?_
  refine wp_seq ?_
  refine wp_block ?_
  refine wp_seq ?_
  refine sR ?_
  refine rV 2 ?_
  refine ZD 14 ((key.size : Int) = 32) ?_
  refine rV 1 ?_
  refine nT ?_
  refine wp_cond_false (by kernel_rfl) ?_
  refine rg_lit ?_
  refine rV 2 ?_
  refine ZD 17 ((nonce.size : Int) = 12) ?_
  refine rV 1 ?_
  refine nT ?_
  refine wp_cond_false (by kernel_rfl) ?_
  refine wp_seq ?_
  refine sR ?_
  refine rV 2 ?_
  refine ZF 21 ((65536 : Int) < (ad.size : Int)) ?_
  refine rV 1 ?_
  refine nT ?_
  refine wp_cond_false (by kernel_rfl) ?_
  refine rg_lit ?_
  refine rV 3 ?_
  refine ZI 25 (65536 + (m : Int)) ((65536 + m : Nat) : Int) ?_
  refine ZT 26 (((65536 + m : Nat) : Int) < (s.size : Int)) ?_
  refine rV 1 ?_
  refine nT ?_
  refine wp_cond_true (by kernel_rfl) ?_
  refine sq ?_
  refine wp_ret ?_
  refine au_block_ret ?_
  refine au_then_ret ?_
  exact b1 M

set_option maxRecDepth 100000 in
set_option maxHeartbeats 4000000 in
theorem sfE (key nonce ad s : ByteArray) (m : Nat) (_hm : m ≤ 16) (hk : key.size = 32 ∧ nonce.size = 12) (h : ¬ 65536 < ad.size) (h2 : s.size < m) (w : World) (hL : Laid w)  :
    Calls Tryd.prog 50 #[.string key, .string nonce, .string ad, .string s, .int .i64 (m : Int)] w fun r w' => r = .returned (.int .i64 100) ∧ Below w.heap.size w w' := by
  go_enter Tryd.func50, Tryd.ntmps50
  have M := Mem.start hL
  refine sq ?_
  refine wp_seq ?_
  refine wp_block ?_
  refine wp_seq ?_
  refine sR ?_
  refine rV 2 ?_
  refine ZD 14 ((key.size : Int) = 32) ?_
  refine rV 1 ?_
  refine nT ?_
  refine wp_cond_false (by kernel_rfl) ?_
  refine rg_lit ?_
  refine rV 2 ?_
  refine ZD 17 ((nonce.size : Int) = 12) ?_
  refine rV 1 ?_
  refine nT ?_
  refine wp_cond_false (by kernel_rfl) ?_
  refine wp_seq ?_
  refine sR ?_
  refine rV 2 ?_
  refine ZF 21 ((65536 : Int) < (ad.size : Int)) ?_
  refine rV 1 ?_
  refine nT ?_
  refine wp_cond_false (by kernel_rfl) ?_
  refine rg_lit ?_
  refine rV 3 ?_
  refine ZI 25 (65536 + (m : Int)) ((65536 + m : Nat) : Int) ?_
  refine ZF 26 (((65536 + m : Nat) : Int) < (s.size : Int)) ?_
  refine rV 1 ?_
  refine nT ?_
  refine wp_cond_false (by kernel_rfl) ?_
  refine sR ?_
  refine rV 3 ?_
  refine ZT 31 ((s.size : Int) < (m : Int)) ?_
  refine rV 1 ?_
  refine nT ?_
  refine wp_cond_true (by kernel_rfl) ?_
  refine sq ?_
  refine wp_ret ?_
  refine au_block_ret ?_
  refine au_then_ret ?_
  exact b1 M

set_option maxRecDepth 100000 in
set_option maxHeartbeats 4000000 in
theorem sfF (key nonce ad s : ByteArray) (m : Nat) (_hm : m ≤ 16) (hk : key.size = 32 ∧ nonce.size = 12) (h : ¬ 65536 < ad.size) (h2 : ¬ 65536 + m < s.size) (h3 : ¬ s.size < m) (w : World) (hL : Laid w)  :
    Calls Tryd.prog 50 #[.string key, .string nonce, .string ad, .string s, .int .i64 (m : Int)] w fun r w' => r = .returned (.int .i64 0) ∧ Below w.heap.size w w' := by
  go_enter Tryd.func50, Tryd.ntmps50
  have M := Mem.start hL
  refine sq ?_
  refine wp_seq ?_
  refine wp_block ?_
  refine wp_seq ?_
  refine sR ?_
  refine rV 2 ?_
  refine ZD 14 ((key.size : Int) = 32) ?_
  refine rV 1 ?_
  refine nT ?_
  refine wp_cond_false (by kernel_rfl) ?_
  refine rg_lit ?_
  refine rV 2 ?_
  refine ZD 17 ((nonce.size : Int) = 12) ?_
  refine rV 1 ?_
  refine nT ?_
  refine wp_cond_false (by kernel_rfl) ?_
  refine wp_seq ?_
  refine sR ?_
  refine rV 2 ?_
  refine ZF 21 ((65536 : Int) < (ad.size : Int)) ?_
  refine rV 1 ?_
  refine nT ?_
  refine wp_cond_false (by kernel_rfl) ?_
  refine rg_lit ?_
  refine rV 3 ?_
  refine ZI 25 (65536 + (m : Int)) ((65536 + m : Nat) : Int) ?_
  refine ZF 26 (((65536 + m : Nat) : Int) < (s.size : Int)) ?_
  refine rV 1 ?_
  refine nT ?_
  refine wp_cond_false (by kernel_rfl) ?_
  refine sR ?_
  refine rV 3 ?_
  refine ZF 31 ((s.size : Int) < (m : Int)) ?_
  refine rV 1 ?_
  refine nT ?_
  refine wp_cond_false (by kernel_rfl) ?_
  refine wp_skip ?_
  refine au_block ?_
  refine au_then ?_
  refine sq ?_
  refine wp_ret ?_
  exact b1 M

/-- What is wrong with sizes. -/
def sf (key nonce ad s : ByteArray) (m : Nat) : Int := if key.size ≠ 32 ∨ nonce.size ≠ 12 then 2 else if 65536 < ad.size ∨ 65536 + m < s.size then 4 else if s.size < m then 100 else 0
theorem c_fault (key nonce ad s : ByteArray) (m : Nat) (hm : m ≤ 16) (w : World) (hL : Laid w) : Calls Tryd.prog 50 #[.string key, .string nonce, .string ad, .string s, .int .i64 (m : Int)] w fun r w' => r = .returned (.int .i64 (sf key nonce ad s m)) ∧ Below w.heap.size w w' := by
  unfold sf
  by_cases h : key.size = 32
  · by_cases h2 : nonce.size = 12
    · rw [if_neg (by omega)]
      by_cases h3 : 65536 < ad.size
      · rw [if_pos (.inl h3)]
        exact sfC key nonce ad s m hm ⟨h, h2⟩ h3 w hL
      · by_cases h4 : 65536 + m < s.size
        · rw [if_pos (.inr h4)]
          exact sfD key nonce ad s m hm ⟨h, h2⟩ h3 h4 w hL
        · rw [if_neg (by omega)]
          by_cases h5 : s.size < m
          · rw [if_pos h5]
            exact sfE key nonce ad s m hm ⟨h, h2⟩ h3 h5 w hL
          · rw [if_neg h5]
            exact sfF key nonce ad s m hm ⟨h, h2⟩ h3 h4 h5 w hL
    · rw [if_pos (.inr h2)]
      exact sfB key nonce ad s m hm h h2 w hL
  · rw [if_pos (.inl h)]
    exact sfA key nonce ad s m hm h w hL


end Go.Proofs.YtenafinbaanicaaDoor
