/- The document: Roots. -/
import Derived.Test.YtnglfpekdedgfaaDoorR3
namespace Go.Proofs.YtnglfpekdedgfaaDoor
open Go.RowKit

def pr (p : Nat) : Nat → Bool
  | 0 => true
  | k + 1 => pr p k && !(decide (((p % (2 + k) : Nat) : Int) = 0))
def rr (p : Nat) : Nat := (List.range 25).countP fun k => decide ((2 + k) * (2 + k) ≤ p)
def isp (p : Nat) : Bool := pr p (rr p)
theorem rr_ok : ∀ p, p < 450 → (∀ k, k < rr p → (2 + k) * (2 + k) ≤ p) ∧ p < (2 + rr p) * (2 + rr p) := by decide +kernel
def rc (cube : Bool) (p : Nat) : Int := if cube then rootW (rt3 (p * 65536 ^ 12) 71 0) else rootW (rt2 (p * 65536 ^ 8) 71 0)
def lst (cube : Bool) : Nat → List Int
  | 0 => []
  | j + 1 => if isp (2 + j) then lst cube j ++ [rc cube (2 + j)] else lst cube j
def pc : Nat → Nat
  | 0 => 0
  | j + 1 => if isp (2 + j) then pc j + 1 else pc j
theorem lst_length (cube : Bool) : ∀ j, (lst cube j).length = pc j
  | 0 => rfl
  | j + 1 => by
    unfold lst pc
    split
    · rw [List.length_append, lst_length cube j]
      rfl
    · exact lst_length cube j
theorem pc_mono : ∀ j k, pc j ≤ pc (j + k)
  | _, 0 => Nat.le_refl _
  | j, k + 1 => by
    refine Nat.le_trans (pc_mono j k) ?_
    show _ ≤ (if isp (2 + (j + k)) then pc (j + k) + 1 else pc (j + k))
    split <;> omega
def PRL : List Nat := [2, 3, 5, 7, 11, 13, 17, 19, 23, 29, 31, 37, 41, 43, 47, 53, 59, 61, 67, 71, 73, 79, 83, 89, 97, 101, 103, 107, 109, 113, 127, 131, 137, 139, 149, 151, 157, 163, 167, 173, 179, 181, 191, 193, 197, 199, 211, 223, 227, 229, 233, 239, 241, 251, 257, 263, 269, 271, 277, 281, 283, 293, 307, 311, 313, 317, 331, 337, 347, 349, 353, 359, 367, 373, 379, 383, 389, 397, 401, 409]
def NR (n : Nat) : Nat := PRL.getD (n - 1) 0 - 1
theorem NR_ok0 : ((List.range 80).all fun m => decide (pc (NR (m + 1)) = m + 1) && decide (pc (NR (m + 1) - 1) = m) && decide (0 < NR (m + 1)) && decide (NR (m + 1) < 440)) = true := by decide +kernel
theorem NR_ok (n : Nat) (h1 : 1 ≤ n) (h2 : n ≤ 80) : pc (NR n) = n ∧ NR n < 440 ∧ ∀ j, j < NR n → pc j < n := by
  have h := List.all_eq_true.1 NR_ok0 (n - 1) (List.mem_range.2 (by omega))
  simp only [Bool.and_eq_true, decide_eq_true_eq, show n - 1 + 1 = n by omega] at h
  obtain ⟨⟨⟨a, b⟩, c⟩, d⟩ := h
  refine ⟨a, d, fun j hj => ?_⟩
  have := pc_mono j (NR n - 1 - j)
  rw [show j + (NR n - 1 - j) = NR n - 1 by omega, b] at this
  omega
def vs64 (l : List Int) : List Value := l.map fun x => .int .u64 x
theorem vs64_length (l : List Int) : (vs64 l).length = l.length := by simp [vs64]
theorem vs64_app (l : List Int) (x : Int) : vs64 l ++ [.int .u64 x] = vs64 (l ++ [x]) := by simp [vs64]
theorem c_root (cube : Bool) (p : Nat) (hp : p < 65536) (w : World) (hL : Laid w) : Calls Tryd.prog 24 #[.int .u64 (p : Int), .bool cube] w fun r w' => r = .returned (.int .u64 (rc cube p)) ∧ Below w.heap.size w w' := by
  cases cube
  · have e : rc false p = rootW (rt2 (p * 65536 ^ 8) 71 0) := by
      unfold rc
      rw [if_neg (by decide)]
    rw [e]
    exact c_root2 p hp w hL
  · have e : rc true p = rootW (rt3 (p * 65536 ^ 12) 71 0) := by
      unfold rc
      rw [if_pos rfl]
    rw [e]
    exact c_root3 p hp w hL
theorem tmod_nat (a b : Nat) : Int.tmod (a : Int) (b : Int) = ((a % b : Nat) : Int) := by
  rw [Int.tmod_eq_emod_of_nonneg (by omega)]
  rfl
theorem run_remV {P : Program} {a : Act} {o : Oper} (t rt : TypeId) (x y : Operand) (ho : o.op = .binOp .rem t x y rt) (p d : Nat) (hx : a.eval x = .int .u64 (p : Int)) (hy : a.eval y = .int .u64 ((2 + d : Nat) : Int)) (w : World) :
    (execOp a.eval o).run P w = .ok (.value (.int .u64 ((p % (2 + d) : Nat) : Int))) w := by
  have h0 : ¬ (((2 + d : Nat) : Int) = 0) := by omega
  unfold execOp
  simp only [ho, hx, hy, eqGuard, binOp, Op.intDiv, ne_eq, not_true, if_false, h0, Sem.run_bind, Sem.run_pure, tmod_nat]
  rfl

set_option maxRecDepth 100000 in
set_option maxHeartbeats 4000000 in
theorem c_roots (n : Nat) (cube : Bool) (h1 : 1 ≤ n) (h2 : n ≤ 80) (w : World) (hL : Laid w)  :
    Calls Tryd.prog 17 #[.int .i64 (n : Int), .bool cube] w fun r w' => ∃ g cap Z, r = .returned (.slice (some ⟨g, 0, none⟩) n cap) ∧ w.heap.size ≤ g ∧ w'.heap[g]? = some Z ∧ SB Z cap (vs64 (lst cube (NR n))) ∧ Below w.heap.size w w' := by
  go_enter Tryd.func17, Tryd.ntmps17
  have M := Mem.start hL
  obtain ⟨hpn, hN, hlt⟩ := NR_ok n h1 h2
  refine wp_seq ?_
  refine rg_lit ?_
  refine pl_val (want_no rfl) (some 4) rfl (.slice none 0 0) (fun _ => by kernel_rfl) ?_
  refine pl_nil ?_
  refine au_then ?_
  refine wp_seq ?_
  refine rg_lit ?_
  refine pl_val (want_no rfl) (some 5) rfl (.slice none 0 0) (fun _ => by kernel_rfl) ?_
  refine pl_nil ?_
  refine au_then ?_
  refine wp_seq ?_
  refine wp_seq ?_
  refine rg_lit ?_
  refine pl_val (want_no rfl) (some 6) rfl (.int .u64 2) (fun _ => by kernel_rfl) ?_
  refine pl_nil ?_
  refine au_then ?_
  refine wp_block ?_
  refine au_loop (fun j a w' => ∃ (v1 : Nat → Value) (sl : Value), a = ⟨#[.int .i64 (n : Int), .bool cube, undef, undef, .slice none 0 0, sl, .int .u64 ((2 + j : Nat) : Int), v1 7, v1 8, v1 9, v1 10, v1 11, v1 12, v1 13, v1 14, v1 15, v1 16, v1 17, v1 18, v1 19, v1 20, v1 21, v1 22, v1 23, v1 24, v1 25, v1 26, v1 27, v1 28, v1 29, v1 30, v1 31, v1 32, v1 33, v1 34, v1 35, undef], []⟩ ∧ ((j = 0 ∧ sl = .slice none 0 0 ∧ Mem ⟨w, []⟩ [] w') ∨ (∃ (g cap : Nat) (Z : Obj), sl = .slice (some ⟨g, 0, none⟩) (lst cube j).length cap ∧ SB Z cap (vs64 (lst cube j)) ∧ Mem ⟨w, []⟩ [⟨g, Z⟩] w'))) (NR n) ⟨fun k_ => ([undef, undef, undef, undef, undef, undef, undef, undef, undef, undef, undef, undef, undef, undef, undef, undef, undef, undef, undef, undef, undef, undef, undef, undef, undef, undef, undef, undef, undef] : List Value).getD (k_ - 7) undef, .slice none 0 0, by kernel_rfl, .inl ⟨rfl, rfl, M⟩⟩ ?_ ?_
  · intro j a u0 hj hI
    have hpc := hlt j hj
    obtain ⟨v1, sl, rfl, hI⟩ := hI
    rcases hI with ⟨rfl, rfl, M⟩ | ⟨g, cap, Z, rfl, hZ, M⟩
    · skip
      refine wp_seq ?_
      refine wp_seq ?_
      refine rg_lit ?_
      refine pl_val (want_no rfl) (some 9) rfl (.slice none 0 0) (fun _ => by kernel_rfl) ?_
      refine pl_val (want_no rfl) (some 10) rfl (.int .i64 0) (fun _ => by kernel_rfl) ?_
      refine pl_val (want_no rfl) (some 11) rfl (.int .i64 (n : Int)) (fun _ => by kernel_rfl) ?_
      refine pl_val (want_no rfl) (some 12) rfl (.bool true) (fun w => Eq.trans (b := .ok (.value (.bool (decide ((0 : Int) < (n : Int))))) w) (by kernel_rfl) (by rw [decide_eq_true (by omega)])) ?_
      refine pl_nil ?_
      refine au_then ?_
      refine wp_cond_true (by kernel_rfl) ?_
      refine wp_skip ?_
      refine au_then ?_
      refine wp_seq ?_
      refine wp_block ?_
      refine wp_seq ?_
      refine rg_lit ?_
      refine pl_val (want_no rfl) (some 7) rfl (.bool true) (fun _ => by kernel_rfl) ?_
      refine pl_nil ?_
      refine au_then ?_
      refine wp_seq ?_
      refine wp_seq ?_
      refine rg_lit ?_
      refine pl_val (want_no rfl) (some 8) rfl (.int .u64 2) (fun _ => by kernel_rfl) ?_
      refine pl_nil ?_
      refine au_then ?_
      refine wp_block ?_
      refine au_loop (fun k a w' => ∃ (v2 : Nat → Value) (b : Bool), a = ⟨#[.int .i64 (n : Int), .bool cube, undef, undef, .slice none 0 0, .slice none 0 0, .int .u64 ((2 + 0 : Nat) : Int), .bool b, .int .u64 ((2 + k : Nat) : Int), .slice none 0 0, .int .i64 0, .int .i64 (n : Int), .bool true, v1 13, v1 14, v2 15, v2 16, v2 17, v2 18, v2 19, v2 20, v2 21, v2 22, v2 23, v2 24, v2 25, v2 26, v2 27, v2 28, v1 29, v1 30, v1 31, v1 32, v1 33, v1 34, v1 35, undef], []⟩ ∧ b = pr (2 + 0) k ∧ Mem ⟨w, []⟩ [] w') (rr (2 + 0)) ⟨fun k_ => ([v1 15, v1 16, v1 17, v1 18, v1 19, v1 20, v1 21, v1 22, v1 23, v1 24, v1 25, v1 26, v1 27, v1 28] : List Value).getD (k_ - 15) undef, true, by kernel_rfl, rfl, M⟩ ?_ ?_
      · intro k a u0 hk hI
        obtain ⟨v2, b, rfl, hb, M⟩ := hI
        have hk2 := (rr_ok (2 + 0) (by omega)).1 k hk
        have hk3 : (2 + k) * (2 + k) < 18446744073709551616 := by omega
        cases b
        · skip
          refine wp_seq ?_
          refine wp_seq ?_
          refine rg_lit ?_
          refine pl_val (want_no rfl) (some 15) rfl (.int .u64 ((2 + k : Nat) : Int)) (fun _ => by kernel_rfl) ?_
          refine pl_val (want_no rfl) (some 16) rfl (.int .u64 ((2 + k : Nat) : Int)) (fun _ => by kernel_rfl) ?_
          refine pl_val (want_no rfl) (some 17) rfl (.int .u64 (((2 + k) * (2 + k) : Nat) : Int)) (fun w => Eq.trans (b := .ok (.value (.int .u64 (um ((2 + k : Nat) : Int) ((2 + k : Nat) : Int)))) w) (by kernel_rfl) (by rw [um_nat _ _ hk3])) ?_
          refine pl_val (want_no rfl) (some 18) rfl (.int .u64 ((2 + 0 : Nat) : Int)) (fun _ => by kernel_rfl) ?_
          refine pl_val (want_no rfl) (some 19) rfl (.bool true) (fun w => Eq.trans (b := .ok (.value (.bool (decide ((((2 + k) * (2 + k) : Nat) : Int) ≤ (((2 + 0) : Nat) : Int))))) w) (by kernel_rfl) (by rw [decide_eq_true (Int.ofNat_le.2 hk2)])) ?_
          refine pl_nil ?_
          refine au_then ?_
          refine wp_cond_true (by kernel_rfl) ?_
          refine wp_skip ?_
          refine au_then ?_
          refine wp_seq ?_
          refine wp_block ?_
          refine rg_lit ?_
          refine pl_val (want_no rfl) (some 22) rfl (.bool false) (fun _ => by kernel_rfl) ?_
          refine pl_val (want_no rfl) (some 23) rfl (.bool false) (fun _ => by kernel_rfl) ?_
          refine pl_skip (want_off 1 true rfl 23 rfl (by kernel_rfl)) (some 24) rfl ?_
          refine pl_skip (want_off 1 true rfl 23 rfl (by kernel_rfl)) (some 25) rfl ?_
          refine pl_skip (want_off 1 true rfl 23 rfl (by kernel_rfl)) (some 26) rfl ?_
          refine pl_skip (want_off 1 true rfl 23 rfl (by kernel_rfl)) (some 27) rfl ?_
          refine pl_val (want_no rfl) (some 28) rfl (.bool false) (fun _ => by kernel_rfl) ?_
          refine pl_val (want_no rfl) (some 7) rfl (.bool false) (fun _ => by kernel_rfl) ?_
          refine pl_nil ?_
          refine au_block ?_
          refine au_then ?_
          refine rg_lit ?_
          refine pl_val (want_no rfl) (some 20) rfl (.int .u64 ((2 + k : Nat) : Int)) (fun _ => by kernel_rfl) ?_
          refine pl_val (want_no rfl) (some 21) rfl (.int .u64 ((2 + (k + 1) : Nat) : Int)) (fun w => Eq.trans (b := .ok (.value (.int .u64 (ua ((2 + k : Nat) : Int) ((1 : Nat) : Int)))) w) (by kernel_rfl) (by rw [ua_nat _ _ (by have := Nat.le_mul_of_pos_right (2 + k) (show 0 < 2 + k by omega); omega), Nat.add_assoc])) ?_
          refine pl_val (want_no rfl) (some 8) rfl (.int .u64 ((2 + (k + 1) : Nat) : Int)) (fun _ => by kernel_rfl) ?_
          refine pl_nil ?_
          refine au_then ?_
          exact ⟨fun k_ => ([.int .u64 ((2 + k : Nat) : Int), .int .u64 ((2 + k : Nat) : Int), .int .u64 (((2 + k) * (2 + k) : Nat) : Int), .int .u64 ((2 + 0 : Nat) : Int), .bool true, .int .u64 ((2 + k : Nat) : Int), .int .u64 ((2 + (k + 1) : Nat) : Int), .bool false, .bool false, undef, undef, undef, undef, .bool false] : List Value).getD (k_ - 15) undef, false, by kernel_rfl, by rw [pr, ← hb]; rfl, M⟩
        · skip
          refine wp_seq ?_
          refine wp_seq ?_
          refine rg_lit ?_
          refine pl_val (want_no rfl) (some 15) rfl (.int .u64 ((2 + k : Nat) : Int)) (fun _ => by kernel_rfl) ?_
          refine pl_val (want_no rfl) (some 16) rfl (.int .u64 ((2 + k : Nat) : Int)) (fun _ => by kernel_rfl) ?_
          refine pl_val (want_no rfl) (some 17) rfl (.int .u64 (((2 + k) * (2 + k) : Nat) : Int)) (fun w => Eq.trans (b := .ok (.value (.int .u64 (um ((2 + k : Nat) : Int) ((2 + k : Nat) : Int)))) w) (by kernel_rfl) (by rw [um_nat _ _ hk3])) ?_
          refine pl_val (want_no rfl) (some 18) rfl (.int .u64 ((2 + 0 : Nat) : Int)) (fun _ => by kernel_rfl) ?_
          refine pl_val (want_no rfl) (some 19) rfl (.bool true) (fun w => Eq.trans (b := .ok (.value (.bool (decide ((((2 + k) * (2 + k) : Nat) : Int) ≤ (((2 + 0) : Nat) : Int))))) w) (by kernel_rfl) (by rw [decide_eq_true (Int.ofNat_le.2 hk2)])) ?_
          refine pl_nil ?_
          refine au_then ?_
          refine wp_cond_true (by kernel_rfl) ?_
          refine wp_skip ?_
          refine au_then ?_
          refine wp_seq ?_
          refine wp_block ?_
          refine rg_lit ?_
          refine pl_val (want_no rfl) (some 22) rfl (.bool true) (fun _ => by kernel_rfl) ?_
          refine pl_val (want_no rfl) (some 23) rfl (.bool true) (fun _ => by kernel_rfl) ?_
          refine pl_val (want_on 1 true rfl 23 rfl (by kernel_rfl)) (some 24) rfl (.int .u64 ((2 + 0 : Nat) : Int)) (fun _ => by kernel_rfl) ?_
          refine pl_val (want_on 1 true rfl 23 rfl (by kernel_rfl)) (some 25) rfl (.int .u64 ((2 + k : Nat) : Int)) (fun _ => by kernel_rfl) ?_
          refine pl_val (want_on 1 true rfl 23 rfl (by kernel_rfl)) (some 26) rfl (.int .u64 (((2 + 0) % (2 + k) : Nat) : Int)) (run_remV 40 40 _ _ rfl (2 + 0) k (by kernel_rfl) (by kernel_rfl)) ?_
          refine pl_val (want_on 1 true rfl 23 rfl (by kernel_rfl)) (some 27) rfl (.bool (!(decide ((((2 + 0) % (2 + k) : Nat) : Int) = 0)))) (fun _ => by kernel_rfl) ?_
          refine pl_val (want_no rfl) (some 28) rfl (.bool (!(decide ((((2 + 0) % (2 + k) : Nat) : Int) = 0)))) (fun _ => by kernel_rfl) ?_
          refine pl_val (want_no rfl) (some 7) rfl (.bool (!(decide ((((2 + 0) % (2 + k) : Nat) : Int) = 0)))) (fun _ => by kernel_rfl) ?_
          refine pl_nil ?_
          refine au_block ?_
          refine au_then ?_
          refine rg_lit ?_
          refine pl_val (want_no rfl) (some 20) rfl (.int .u64 ((2 + k : Nat) : Int)) (fun _ => by kernel_rfl) ?_
          refine pl_val (want_no rfl) (some 21) rfl (.int .u64 ((2 + (k + 1) : Nat) : Int)) (fun w => Eq.trans (b := .ok (.value (.int .u64 (ua ((2 + k : Nat) : Int) ((1 : Nat) : Int)))) w) (by kernel_rfl) (by rw [ua_nat _ _ (by have := Nat.le_mul_of_pos_right (2 + k) (show 0 < 2 + k by omega); omega), Nat.add_assoc])) ?_
          refine pl_val (want_no rfl) (some 8) rfl (.int .u64 ((2 + (k + 1) : Nat) : Int)) (fun _ => by kernel_rfl) ?_
          refine pl_nil ?_
          refine au_then ?_
          exact ⟨fun k_ => ([.int .u64 ((2 + k : Nat) : Int), .int .u64 ((2 + k : Nat) : Int), .int .u64 (((2 + k) * (2 + k) : Nat) : Int), .int .u64 ((2 + 0 : Nat) : Int), .bool true, .int .u64 ((2 + k : Nat) : Int), .int .u64 ((2 + (k + 1) : Nat) : Int), .bool true, .bool true, .int .u64 ((2 + 0 : Nat) : Int), .int .u64 ((2 + k : Nat) : Int), .int .u64 (((2 + 0) % (2 + k) : Nat) : Int), .bool (!(decide ((((2 + 0) % (2 + k) : Nat) : Int) = 0))), .bool (!(decide ((((2 + 0) % (2 + k) : Nat) : Int) = 0)))] : List Value).getD (k_ - 15) undef, !(decide ((((2 + 0) % (2 + k) : Nat) : Int) = 0)), by kernel_rfl, by rw [pr, ← hb]; rfl, M⟩
      · intro a u0 hI
        obtain ⟨v2, b, rfl, hb, M⟩ := hI
        have hk2 := (rr_ok (2 + 0) (by omega)).2
        have hk3 : (2 + rr (2 + 0)) * (2 + rr (2 + 0)) < 18446744073709551616 := by have h : rr (2 + 0) ≤ 25 := Nat.le_trans List.countP_le_length (by simp); exact Nat.lt_of_le_of_lt (Nat.mul_le_mul (show 2 + rr (2 + 0) ≤ 27 by omega) (show 2 + rr (2 + 0) ≤ 27 by omega)) (by decide)
        replace hb : b = isp (2 + 0) := hb
        cases b
        · skip
          exact absurd hb (by decide +kernel)
        · skip
          refine wp_seq ?_
          refine wp_seq ?_
          refine rg_lit ?_
          refine pl_val (want_no rfl) (some 15) rfl (.int .u64 ((2 + (rr (2 + 0)) : Nat) : Int)) (fun _ => by kernel_rfl) ?_
          refine pl_val (want_no rfl) (some 16) rfl (.int .u64 ((2 + (rr (2 + 0)) : Nat) : Int)) (fun _ => by kernel_rfl) ?_
          refine pl_val (want_no rfl) (some 17) rfl (.int .u64 (((2 + (rr (2 + 0))) * (2 + (rr (2 + 0))) : Nat) : Int)) (fun w => Eq.trans (b := .ok (.value (.int .u64 (um ((2 + (rr (2 + 0)) : Nat) : Int) ((2 + (rr (2 + 0)) : Nat) : Int)))) w) (by kernel_rfl) (by rw [um_nat _ _ hk3])) ?_
          refine pl_val (want_no rfl) (some 18) rfl (.int .u64 ((2 + 0 : Nat) : Int)) (fun _ => by kernel_rfl) ?_
          refine pl_val (want_no rfl) (some 19) rfl (.bool false) (fun w => Eq.trans (b := .ok (.value (.bool (decide ((((2 + (rr (2 + 0))) * (2 + (rr (2 + 0))) : Nat) : Int) ≤ (((2 + 0) : Nat) : Int))))) w) (by kernel_rfl) (by rw [decide_eq_false (by omega)])) ?_
          refine pl_nil ?_
          refine au_then ?_
          refine wp_cond_false (by kernel_rfl) ?_
          refine wp_exit ?_
          refine au_then_exit ?_
          refine au_then_exit ?_
          refine au_block_exit ?_
          refine au_then ?_
          refine wp_seq ?_
          refine rg_lit ?_
          refine pl_val (want_no rfl) (some 29) rfl (.bool true) (fun _ => by kernel_rfl) ?_
          refine pl_nil ?_
          refine au_then ?_
          refine wp_cond_true (by kernel_rfl) ?_
          refine rg_lit ?_
          refine pl_val (want_no rfl) (some 30) rfl (.slice none 0 0) (fun _ => by kernel_rfl) ?_
          refine pl_val (want_no rfl) (some 31) rfl (.int .u64 ((2 + 0 : Nat) : Int)) (fun _ => by kernel_rfl) ?_
          refine pl_val (want_no rfl) (some 32) rfl (.bool cube) (fun _ => by kernel_rfl) ?_
          refine pl_call M (want_no rfl) (some 33) rfl 24 #[.int .u64 ((2 + 0 : Nat) : Int), .bool cube] (.int .u64 (rc cube (2 + 0))) (fun _ => by kernel_rfl) (fun w M => c_root cube (2 + 0) (by omega) w M.laid) ?_
          intro u1 M
          refine pl_mk M (want_no rfl) (some 34) rfl (fun g1 => .slice (some ⟨g1, 0, none⟩) 1 1) (.cells (av 1 (fun _ => .int .u64 (rc cube (2 + 0)))) 40) (fun _ => by kernel_rfl) ?_
          intro g1 u2 M
          replace M : Mem ⟨w, []⟩ [⟨g1, .cells (av 1 (fun _ => .int .u64 (rc cube (2 + 0)))) 40⟩] u2 := M
          refine pl_app0 M (want_no rfl) (some 35) rfl 41 41 40 _ (.int .u64 0) Tryd.underlying41 info40_eq info40_z (by kernel_rfl) (by decide +kernel) rfl 0 g1 40 (.int .u64 (rc cube (2 + 0))) rfl (fun _ => by kernel_rfl) ?_
          intro e1 c1 Y1 u3 hY1 M
          replace M : Mem ⟨w, []⟩ [⟨g1, .cells (av 1 (fun _ => .int .u64 (rc cube (2 + 0)))) 40⟩, ⟨e1, Y1⟩] u3 := M
          refine pl_val (want_no rfl) (some 5) rfl (.slice (some ⟨e1, 0, none⟩) 1 c1) (fun _ => by kernel_rfl) ?_
          refine pl_nil ?_
          refine au_block ?_
          refine au_then ?_
          refine rg_lit ?_
          refine pl_val (want_no rfl) (some 13) rfl (.int .u64 ((2 + 0 : Nat) : Int)) (fun _ => by kernel_rfl) ?_
          refine pl_val (want_no rfl) (some 14) rfl (.int .u64 ((2 + (0 + 1) : Nat) : Int)) (fun w => Eq.trans (b := .ok (.value (.int .u64 (ua ((2 + 0 : Nat) : Int) ((1 : Nat) : Int)))) w) (by kernel_rfl) (by rw [ua_nat _ _ (by omega), Nat.add_assoc])) ?_
          refine pl_val (want_no rfl) (some 6) rfl (.int .u64 ((2 + (0 + 1) : Nat) : Int)) (fun _ => by kernel_rfl) ?_
          refine pl_nil ?_
          refine au_then ?_
          have el : lst cube (0 + 1) = [rc cube (2 + 0)] := by show (if isp (2 + 0) then _ else _) = _; rw [← hb, if_pos rfl]; rfl
          exact ⟨fun k_ => ([.bool true, .int .u64 ((2 + (rr (2 + 0)) : Nat) : Int), .slice none 0 0, .int .i64 0, .int .i64 (n : Int), .bool true, .int .u64 ((2 + 0 : Nat) : Int), .int .u64 ((2 + (0 + 1) : Nat) : Int), .int .u64 ((2 + (rr (2 + 0)) : Nat) : Int), .int .u64 ((2 + (rr (2 + 0)) : Nat) : Int), .int .u64 (((2 + (rr (2 + 0))) * (2 + (rr (2 + 0))) : Nat) : Int), .int .u64 ((2 + 0 : Nat) : Int), .bool false, v2 20, v2 21, v2 22, v2 23, v2 24, v2 25, v2 26, v2 27, v2 28, .bool true, .slice none 0 0, .int .u64 ((2 + 0 : Nat) : Int), .bool cube, .int .u64 (rc cube (2 + 0)), .slice (some ⟨g1, 0, none⟩) 1 1, .slice (some ⟨e1, 0, none⟩) 1 c1] : List Value).getD (k_ - 7) undef, .slice (some ⟨e1, 0, none⟩) 1 c1, by kernel_rfl, .inr ⟨e1, c1, Y1, by rw [el]; rfl, by rw [el]; exact hY1, M.drop (.cons _ (.cons_cons _ .slnil))⟩⟩
    · skip
      refine wp_seq ?_
      refine wp_seq ?_
      refine rg_lit ?_
      refine pl_val (want_no rfl) (some 9) rfl (.slice (some ⟨g, 0, none⟩) (lst cube j).length cap) (fun _ => by kernel_rfl) ?_
      refine pl_val (want_no rfl) (some 10) rfl (.int .i64 (((lst cube j).length : Nat) : Int)) (fun _ => by kernel_rfl) ?_
      refine pl_val (want_no rfl) (some 11) rfl (.int .i64 (n : Int)) (fun _ => by kernel_rfl) ?_
      refine pl_val (want_no rfl) (some 12) rfl (.bool true) (fun w => Eq.trans (b := .ok (.value (.bool (decide ((((lst cube j).length : Nat) : Int) < (n : Int))))) w) (by kernel_rfl) (by rw [lst_length, decide_eq_true (by omega)])) ?_
      refine pl_nil ?_
      refine au_then ?_
      refine wp_cond_true (by kernel_rfl) ?_
      refine wp_skip ?_
      refine au_then ?_
      refine wp_seq ?_
      refine wp_block ?_
      refine wp_seq ?_
      refine rg_lit ?_
      refine pl_val (want_no rfl) (some 7) rfl (.bool true) (fun _ => by kernel_rfl) ?_
      refine pl_nil ?_
      refine au_then ?_
      refine wp_seq ?_
      refine wp_seq ?_
      refine rg_lit ?_
      refine pl_val (want_no rfl) (some 8) rfl (.int .u64 2) (fun _ => by kernel_rfl) ?_
      refine pl_nil ?_
      refine au_then ?_
      refine wp_block ?_
      refine au_loop (fun k a w' => ∃ (v2 : Nat → Value) (b : Bool), a = ⟨#[.int .i64 (n : Int), .bool cube, undef, undef, .slice none 0 0, .slice (some ⟨g, 0, none⟩) (lst cube j).length cap, .int .u64 ((2 + j : Nat) : Int), .bool b, .int .u64 ((2 + k : Nat) : Int), .slice (some ⟨g, 0, none⟩) (lst cube j).length cap, .int .i64 (((lst cube j).length : Nat) : Int), .int .i64 (n : Int), .bool true, v1 13, v1 14, v2 15, v2 16, v2 17, v2 18, v2 19, v2 20, v2 21, v2 22, v2 23, v2 24, v2 25, v2 26, v2 27, v2 28, v1 29, v1 30, v1 31, v1 32, v1 33, v1 34, v1 35, undef], []⟩ ∧ b = pr (2 + j) k ∧ Mem ⟨w, []⟩ [⟨g, Z⟩] w') (rr (2 + j)) ⟨fun k_ => ([v1 15, v1 16, v1 17, v1 18, v1 19, v1 20, v1 21, v1 22, v1 23, v1 24, v1 25, v1 26, v1 27, v1 28] : List Value).getD (k_ - 15) undef, true, by kernel_rfl, rfl, M⟩ ?_ ?_
      · intro k a u0 hk hI
        obtain ⟨v2, b, rfl, hb, M⟩ := hI
        have hk2 := (rr_ok (2 + j) (by omega)).1 k hk
        have hk3 : (2 + k) * (2 + k) < 18446744073709551616 := by omega
        cases b
        · skip
          refine wp_seq ?_
          refine wp_seq ?_
          refine rg_lit ?_
          refine pl_val (want_no rfl) (some 15) rfl (.int .u64 ((2 + k : Nat) : Int)) (fun _ => by kernel_rfl) ?_
          refine pl_val (want_no rfl) (some 16) rfl (.int .u64 ((2 + k : Nat) : Int)) (fun _ => by kernel_rfl) ?_
          refine pl_val (want_no rfl) (some 17) rfl (.int .u64 (((2 + k) * (2 + k) : Nat) : Int)) (fun w => Eq.trans (b := .ok (.value (.int .u64 (um ((2 + k : Nat) : Int) ((2 + k : Nat) : Int)))) w) (by kernel_rfl) (by rw [um_nat _ _ hk3])) ?_
          refine pl_val (want_no rfl) (some 18) rfl (.int .u64 ((2 + j : Nat) : Int)) (fun _ => by kernel_rfl) ?_
          refine pl_val (want_no rfl) (some 19) rfl (.bool true) (fun w => Eq.trans (b := .ok (.value (.bool (decide ((((2 + k) * (2 + k) : Nat) : Int) ≤ (((2 + j) : Nat) : Int))))) w) (by kernel_rfl) (by rw [decide_eq_true (Int.ofNat_le.2 hk2)])) ?_
          refine pl_nil ?_
          refine au_then ?_
          refine wp_cond_true (by kernel_rfl) ?_
          refine wp_skip ?_
          refine au_then ?_
          refine wp_seq ?_
          refine wp_block ?_
          refine rg_lit ?_
          refine pl_val (want_no rfl) (some 22) rfl (.bool false) (fun _ => by kernel_rfl) ?_
          refine pl_val (want_no rfl) (some 23) rfl (.bool false) (fun _ => by kernel_rfl) ?_
          refine pl_skip (want_off 1 true rfl 23 rfl (by kernel_rfl)) (some 24) rfl ?_
          refine pl_skip (want_off 1 true rfl 23 rfl (by kernel_rfl)) (some 25) rfl ?_
          refine pl_skip (want_off 1 true rfl 23 rfl (by kernel_rfl)) (some 26) rfl ?_
          refine pl_skip (want_off 1 true rfl 23 rfl (by kernel_rfl)) (some 27) rfl ?_
          refine pl_val (want_no rfl) (some 28) rfl (.bool false) (fun _ => by kernel_rfl) ?_
          refine pl_val (want_no rfl) (some 7) rfl (.bool false) (fun _ => by kernel_rfl) ?_
          refine pl_nil ?_
          refine au_block ?_
          refine au_then ?_
          refine rg_lit ?_
          refine pl_val (want_no rfl) (some 20) rfl (.int .u64 ((2 + k : Nat) : Int)) (fun _ => by kernel_rfl) ?_
          refine pl_val (want_no rfl) (some 21) rfl (.int .u64 ((2 + (k + 1) : Nat) : Int)) (fun w => Eq.trans (b := .ok (.value (.int .u64 (ua ((2 + k : Nat) : Int) ((1 : Nat) : Int)))) w) (by kernel_rfl) (by rw [ua_nat _ _ (by have := Nat.le_mul_of_pos_right (2 + k) (show 0 < 2 + k by omega); omega), Nat.add_assoc])) ?_
          refine pl_val (want_no rfl) (some 8) rfl (.int .u64 ((2 + (k + 1) : Nat) : Int)) (fun _ => by kernel_rfl) ?_
          refine pl_nil ?_
          refine au_then ?_
          exact ⟨fun k_ => ([.int .u64 ((2 + k : Nat) : Int), .int .u64 ((2 + k : Nat) : Int), .int .u64 (((2 + k) * (2 + k) : Nat) : Int), .int .u64 ((2 + j : Nat) : Int), .bool true, .int .u64 ((2 + k : Nat) : Int), .int .u64 ((2 + (k + 1) : Nat) : Int), .bool false, .bool false, undef, undef, undef, undef, .bool false] : List Value).getD (k_ - 15) undef, false, by kernel_rfl, by rw [pr, ← hb]; rfl, M⟩
        · skip
          refine wp_seq ?_
          refine wp_seq ?_
          refine rg_lit ?_
          refine pl_val (want_no rfl) (some 15) rfl (.int .u64 ((2 + k : Nat) : Int)) (fun _ => by kernel_rfl) ?_
          refine pl_val (want_no rfl) (some 16) rfl (.int .u64 ((2 + k : Nat) : Int)) (fun _ => by kernel_rfl) ?_
          refine pl_val (want_no rfl) (some 17) rfl (.int .u64 (((2 + k) * (2 + k) : Nat) : Int)) (fun w => Eq.trans (b := .ok (.value (.int .u64 (um ((2 + k : Nat) : Int) ((2 + k : Nat) : Int)))) w) (by kernel_rfl) (by rw [um_nat _ _ hk3])) ?_
          refine pl_val (want_no rfl) (some 18) rfl (.int .u64 ((2 + j : Nat) : Int)) (fun _ => by kernel_rfl) ?_
          refine pl_val (want_no rfl) (some 19) rfl (.bool true) (fun w => Eq.trans (b := .ok (.value (.bool (decide ((((2 + k) * (2 + k) : Nat) : Int) ≤ (((2 + j) : Nat) : Int))))) w) (by kernel_rfl) (by rw [decide_eq_true (Int.ofNat_le.2 hk2)])) ?_
          refine pl_nil ?_
          refine au_then ?_
          refine wp_cond_true (by kernel_rfl) ?_
          refine wp_skip ?_
          refine au_then ?_
          refine wp_seq ?_
          refine wp_block ?_
          refine rg_lit ?_
          refine pl_val (want_no rfl) (some 22) rfl (.bool true) (fun _ => by kernel_rfl) ?_
          refine pl_val (want_no rfl) (some 23) rfl (.bool true) (fun _ => by kernel_rfl) ?_
          refine pl_val (want_on 1 true rfl 23 rfl (by kernel_rfl)) (some 24) rfl (.int .u64 ((2 + j : Nat) : Int)) (fun _ => by kernel_rfl) ?_
          refine pl_val (want_on 1 true rfl 23 rfl (by kernel_rfl)) (some 25) rfl (.int .u64 ((2 + k : Nat) : Int)) (fun _ => by kernel_rfl) ?_
          refine pl_val (want_on 1 true rfl 23 rfl (by kernel_rfl)) (some 26) rfl (.int .u64 (((2 + j) % (2 + k) : Nat) : Int)) (run_remV 40 40 _ _ rfl (2 + j) k (by kernel_rfl) (by kernel_rfl)) ?_
          refine pl_val (want_on 1 true rfl 23 rfl (by kernel_rfl)) (some 27) rfl (.bool (!(decide ((((2 + j) % (2 + k) : Nat) : Int) = 0)))) (fun _ => by kernel_rfl) ?_
          refine pl_val (want_no rfl) (some 28) rfl (.bool (!(decide ((((2 + j) % (2 + k) : Nat) : Int) = 0)))) (fun _ => by kernel_rfl) ?_
          refine pl_val (want_no rfl) (some 7) rfl (.bool (!(decide ((((2 + j) % (2 + k) : Nat) : Int) = 0)))) (fun _ => by kernel_rfl) ?_
          refine pl_nil ?_
          refine au_block ?_
          refine au_then ?_
          refine rg_lit ?_
          refine pl_val (want_no rfl) (some 20) rfl (.int .u64 ((2 + k : Nat) : Int)) (fun _ => by kernel_rfl) ?_
          refine pl_val (want_no rfl) (some 21) rfl (.int .u64 ((2 + (k + 1) : Nat) : Int)) (fun w => Eq.trans (b := .ok (.value (.int .u64 (ua ((2 + k : Nat) : Int) ((1 : Nat) : Int)))) w) (by kernel_rfl) (by rw [ua_nat _ _ (by have := Nat.le_mul_of_pos_right (2 + k) (show 0 < 2 + k by omega); omega), Nat.add_assoc])) ?_
          refine pl_val (want_no rfl) (some 8) rfl (.int .u64 ((2 + (k + 1) : Nat) : Int)) (fun _ => by kernel_rfl) ?_
          refine pl_nil ?_
          refine au_then ?_
          exact ⟨fun k_ => ([.int .u64 ((2 + k : Nat) : Int), .int .u64 ((2 + k : Nat) : Int), .int .u64 (((2 + k) * (2 + k) : Nat) : Int), .int .u64 ((2 + j : Nat) : Int), .bool true, .int .u64 ((2 + k : Nat) : Int), .int .u64 ((2 + (k + 1) : Nat) : Int), .bool true, .bool true, .int .u64 ((2 + j : Nat) : Int), .int .u64 ((2 + k : Nat) : Int), .int .u64 (((2 + j) % (2 + k) : Nat) : Int), .bool (!(decide ((((2 + j) % (2 + k) : Nat) : Int) = 0))), .bool (!(decide ((((2 + j) % (2 + k) : Nat) : Int) = 0)))] : List Value).getD (k_ - 15) undef, !(decide ((((2 + j) % (2 + k) : Nat) : Int) = 0)), by kernel_rfl, by rw [pr, ← hb]; rfl, M⟩
      · intro a u0 hI
        obtain ⟨v2, b, rfl, hb, M⟩ := hI
        have hk2 := (rr_ok (2 + j) (by omega)).2
        have hk3 : (2 + rr (2 + j)) * (2 + rr (2 + j)) < 18446744073709551616 := by have h : rr (2 + j) ≤ 25 := Nat.le_trans List.countP_le_length (by simp); exact Nat.lt_of_le_of_lt (Nat.mul_le_mul (show 2 + rr (2 + j) ≤ 27 by omega) (show 2 + rr (2 + j) ≤ 27 by omega)) (by decide)
        replace hb : b = isp (2 + j) := hb
        cases b
        · skip
          refine wp_seq ?_
          refine wp_seq ?_
          refine rg_lit ?_
          refine pl_val (want_no rfl) (some 15) rfl (.int .u64 ((2 + (rr (2 + j)) : Nat) : Int)) (fun _ => by kernel_rfl) ?_
          refine pl_val (want_no rfl) (some 16) rfl (.int .u64 ((2 + (rr (2 + j)) : Nat) : Int)) (fun _ => by kernel_rfl) ?_
          refine pl_val (want_no rfl) (some 17) rfl (.int .u64 (((2 + (rr (2 + j))) * (2 + (rr (2 + j))) : Nat) : Int)) (fun w => Eq.trans (b := .ok (.value (.int .u64 (um ((2 + (rr (2 + j)) : Nat) : Int) ((2 + (rr (2 + j)) : Nat) : Int)))) w) (by kernel_rfl) (by rw [um_nat _ _ hk3])) ?_
          refine pl_val (want_no rfl) (some 18) rfl (.int .u64 ((2 + j : Nat) : Int)) (fun _ => by kernel_rfl) ?_
          refine pl_val (want_no rfl) (some 19) rfl (.bool false) (fun w => Eq.trans (b := .ok (.value (.bool (decide ((((2 + (rr (2 + j))) * (2 + (rr (2 + j))) : Nat) : Int) ≤ (((2 + j) : Nat) : Int))))) w) (by kernel_rfl) (by rw [decide_eq_false (by omega)])) ?_
          refine pl_nil ?_
          refine au_then ?_
          refine wp_cond_false (by kernel_rfl) ?_
          refine wp_exit ?_
          refine au_then_exit ?_
          refine au_then_exit ?_
          refine au_block_exit ?_
          refine au_then ?_
          refine wp_seq ?_
          refine rg_lit ?_
          refine pl_val (want_no rfl) (some 29) rfl (.bool false) (fun _ => by kernel_rfl) ?_
          refine pl_nil ?_
          refine au_then ?_
          refine wp_cond_false (by kernel_rfl) ?_
          refine wp_skip ?_
          refine au_block ?_
          refine au_then ?_
          refine rg_lit ?_
          refine pl_val (want_no rfl) (some 13) rfl (.int .u64 ((2 + j : Nat) : Int)) (fun _ => by kernel_rfl) ?_
          refine pl_val (want_no rfl) (some 14) rfl (.int .u64 ((2 + (j + 1) : Nat) : Int)) (fun w => Eq.trans (b := .ok (.value (.int .u64 (ua ((2 + j : Nat) : Int) ((1 : Nat) : Int)))) w) (by kernel_rfl) (by rw [ua_nat _ _ (by omega), Nat.add_assoc])) ?_
          refine pl_val (want_no rfl) (some 6) rfl (.int .u64 ((2 + (j + 1) : Nat) : Int)) (fun _ => by kernel_rfl) ?_
          refine pl_nil ?_
          refine au_then ?_
          have el : lst cube (j + 1) = lst cube j := by show (if isp (2 + j) then _ else _) = _; rw [← hb, if_neg (by simp)]
          exact ⟨fun k_ => ([.bool false, .int .u64 ((2 + (rr (2 + j)) : Nat) : Int), .slice (some ⟨g, 0, none⟩) (lst cube j).length cap, .int .i64 (((lst cube j).length : Nat) : Int), .int .i64 (n : Int), .bool true, .int .u64 ((2 + j : Nat) : Int), .int .u64 ((2 + (j + 1) : Nat) : Int), .int .u64 ((2 + (rr (2 + j)) : Nat) : Int), .int .u64 ((2 + (rr (2 + j)) : Nat) : Int), .int .u64 (((2 + (rr (2 + j))) * (2 + (rr (2 + j))) : Nat) : Int), .int .u64 ((2 + j : Nat) : Int), .bool false, v2 20, v2 21, v2 22, v2 23, v2 24, v2 25, v2 26, v2 27, v2 28, .bool false, v1 30, v1 31, v1 32, v1 33, v1 34, v1 35] : List Value).getD (k_ - 7) undef, .slice (some ⟨g, 0, none⟩) (lst cube j).length cap, by kernel_rfl, .inr ⟨g, cap, Z, by rw [el], by rw [el]; exact hZ, M⟩⟩
        · skip
          refine wp_seq ?_
          refine wp_seq ?_
          refine rg_lit ?_
          refine pl_val (want_no rfl) (some 15) rfl (.int .u64 ((2 + (rr (2 + j)) : Nat) : Int)) (fun _ => by kernel_rfl) ?_
          refine pl_val (want_no rfl) (some 16) rfl (.int .u64 ((2 + (rr (2 + j)) : Nat) : Int)) (fun _ => by kernel_rfl) ?_
          refine pl_val (want_no rfl) (some 17) rfl (.int .u64 (((2 + (rr (2 + j))) * (2 + (rr (2 + j))) : Nat) : Int)) (fun w => Eq.trans (b := .ok (.value (.int .u64 (um ((2 + (rr (2 + j)) : Nat) : Int) ((2 + (rr (2 + j)) : Nat) : Int)))) w) (by kernel_rfl) (by rw [um_nat _ _ hk3])) ?_
          refine pl_val (want_no rfl) (some 18) rfl (.int .u64 ((2 + j : Nat) : Int)) (fun _ => by kernel_rfl) ?_
          refine pl_val (want_no rfl) (some 19) rfl (.bool false) (fun w => Eq.trans (b := .ok (.value (.bool (decide ((((2 + (rr (2 + j))) * (2 + (rr (2 + j))) : Nat) : Int) ≤ (((2 + j) : Nat) : Int))))) w) (by kernel_rfl) (by rw [decide_eq_false (by omega)])) ?_
          refine pl_nil ?_
          refine au_then ?_
          refine wp_cond_false (by kernel_rfl) ?_
          refine wp_exit ?_
          refine au_then_exit ?_
          refine au_then_exit ?_
          refine au_block_exit ?_
          refine au_then ?_
          refine wp_seq ?_
          refine rg_lit ?_
          refine pl_val (want_no rfl) (some 29) rfl (.bool true) (fun _ => by kernel_rfl) ?_
          refine pl_nil ?_
          refine au_then ?_
          refine wp_cond_true (by kernel_rfl) ?_
          refine rg_lit ?_
          refine pl_val (want_no rfl) (some 30) rfl (.slice (some ⟨g, 0, none⟩) (lst cube j).length cap) (fun _ => by kernel_rfl) ?_
          refine pl_val (want_no rfl) (some 31) rfl (.int .u64 ((2 + j : Nat) : Int)) (fun _ => by kernel_rfl) ?_
          refine pl_val (want_no rfl) (some 32) rfl (.bool cube) (fun _ => by kernel_rfl) ?_
          refine pl_call M (want_no rfl) (some 33) rfl 24 #[.int .u64 ((2 + j : Nat) : Int), .bool cube] (.int .u64 (rc cube (2 + j))) (fun _ => by kernel_rfl) (fun w M => c_root cube (2 + j) (by omega) w M.laid) ?_
          intro u4 M
          refine pl_mk M (want_no rfl) (some 34) rfl (fun g2 => .slice (some ⟨g2, 0, none⟩) 1 1) (.cells (av 1 (fun _ => .int .u64 (rc cube (2 + j)))) 40) (fun _ => by kernel_rfl) ?_
          intro g2 u5 M
          replace M : Mem ⟨w, []⟩ [⟨g, Z⟩, ⟨g2, .cells (av 1 (fun _ => .int .u64 (rc cube (2 + j)))) 40⟩] u5 := M
          refine pl_app M (want_no rfl) (some 35) rfl 41 41 40 _ (.int .u64 0) Tryd.underlying41 info40_eq info40_z (by kernel_rfl) (by decide +kernel) rfl 0 g ((lst cube j).length) cap Z (vs64 (lst cube j)) rfl hZ (by rw [vs64_length]) (by rw [lst_length]; omega) 1 g2 40 (.int .u64 (rc cube (2 + j))) rfl rfl (fun _ => by kernel_rfl) ?_
          intro e1 c1 Y1 u6 hY1 M
          rw [vs64_app] at hY1
          replace M : Mem ⟨w, []⟩ [⟨g2, .cells (av 1 (fun _ => .int .u64 (rc cube (2 + j)))) 40⟩, ⟨e1, Y1⟩] u6 := M
          refine pl_val (want_no rfl) (some 5) rfl (.slice (some ⟨e1, 0, none⟩) ((lst cube j).length + 1) c1) (fun _ => by kernel_rfl) ?_
          refine pl_nil ?_
          refine au_block ?_
          refine au_then ?_
          refine rg_lit ?_
          refine pl_val (want_no rfl) (some 13) rfl (.int .u64 ((2 + j : Nat) : Int)) (fun _ => by kernel_rfl) ?_
          refine pl_val (want_no rfl) (some 14) rfl (.int .u64 ((2 + (j + 1) : Nat) : Int)) (fun w => Eq.trans (b := .ok (.value (.int .u64 (ua ((2 + j : Nat) : Int) ((1 : Nat) : Int)))) w) (by kernel_rfl) (by rw [ua_nat _ _ (by omega), Nat.add_assoc])) ?_
          refine pl_val (want_no rfl) (some 6) rfl (.int .u64 ((2 + (j + 1) : Nat) : Int)) (fun _ => by kernel_rfl) ?_
          refine pl_nil ?_
          refine au_then ?_
          have el : lst cube (j + 1) = lst cube j ++ [rc cube (2 + j)] := by show (if isp (2 + j) then _ else _) = _; rw [← hb, if_pos rfl]
          exact ⟨fun k_ => ([.bool true, .int .u64 ((2 + (rr (2 + j)) : Nat) : Int), .slice (some ⟨g, 0, none⟩) (lst cube j).length cap, .int .i64 (((lst cube j).length : Nat) : Int), .int .i64 (n : Int), .bool true, .int .u64 ((2 + j : Nat) : Int), .int .u64 ((2 + (j + 1) : Nat) : Int), .int .u64 ((2 + (rr (2 + j)) : Nat) : Int), .int .u64 ((2 + (rr (2 + j)) : Nat) : Int), .int .u64 (((2 + (rr (2 + j))) * (2 + (rr (2 + j))) : Nat) : Int), .int .u64 ((2 + j : Nat) : Int), .bool false, v2 20, v2 21, v2 22, v2 23, v2 24, v2 25, v2 26, v2 27, v2 28, .bool true, .slice (some ⟨g, 0, none⟩) (lst cube j).length cap, .int .u64 ((2 + j : Nat) : Int), .bool cube, .int .u64 (rc cube (2 + j)), .slice (some ⟨g2, 0, none⟩) 1 1, .slice (some ⟨e1, 0, none⟩) ((lst cube j).length + 1) c1] : List Value).getD (k_ - 7) undef, .slice (some ⟨e1, 0, none⟩) ((lst cube j).length + 1) c1, by kernel_rfl, .inr ⟨e1, c1, Y1, by rw [el, List.length_append]; rfl, by rw [el]; exact hY1, M.drop (.cons _ (.cons_cons _ .slnil))⟩⟩
  · intro a u0 hI
    obtain ⟨v1, sl, rfl, hI⟩ := hI
    rcases hI with ⟨h, _⟩ | ⟨g, cap, Z, rfl, hZ, M⟩
    · rw [h] at hpn; simp [pc] at hpn; omega
    · skip
      refine wp_seq ?_
      refine wp_seq ?_
      refine rg_lit ?_
      refine pl_val (want_no rfl) (some 9) rfl (.slice (some ⟨g, 0, none⟩) (lst cube (NR n)).length cap) (fun _ => by kernel_rfl) ?_
      refine pl_val (want_no rfl) (some 10) rfl (.int .i64 (((lst cube (NR n)).length : Nat) : Int)) (fun _ => by kernel_rfl) ?_
      refine pl_val (want_no rfl) (some 11) rfl (.int .i64 (n : Int)) (fun _ => by kernel_rfl) ?_
      refine pl_val (want_no rfl) (some 12) rfl (.bool false) (fun w => Eq.trans (b := .ok (.value (.bool (decide ((((lst cube (NR n)).length : Nat) : Int) < (n : Int))))) w) (by kernel_rfl) (by rw [lst_length, decide_eq_false (by omega)])) ?_
      refine pl_nil ?_
      refine au_then ?_
      refine wp_cond_false (by kernel_rfl) ?_
      refine wp_exit ?_
      refine au_then_exit ?_
      refine au_then_exit ?_
      refine au_block_exit ?_
      refine au_then ?_
      refine wp_seq ?_
      refine rg_lit ?_
      refine pl_val (want_no rfl) (some 36) rfl (.slice (some ⟨g, 0, none⟩) (lst cube (NR n)).length cap) (fun _ => by kernel_rfl) ?_
      refine pl_val (want_no rfl) (some 4) rfl (.slice (some ⟨g, 0, none⟩) (lst cube (NR n)).length cap) (fun _ => by kernel_rfl) ?_
      refine pl_nil ?_
      refine au_then ?_
      refine wp_ret ?_
      exact bodyPost_ret (v := .slice (some ⟨g, 0, none⟩) (lst cube (NR n)).length cap) (results_tmp1 Tryd.results17 _ _ _ (by kernel_rfl)) (by kernel_rfl) ⟨g, cap, Z, by rw [lst_length, hpn], (M.ge _ (List.mem_singleton.2 rfl)).elim id (fun h => by cases h), M.get 0 rfl, hZ, below_grown M.old⟩


end Go.Proofs.YtnglfpekdedgfaaDoor
